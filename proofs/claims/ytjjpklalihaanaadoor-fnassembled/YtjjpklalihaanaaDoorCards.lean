/-
  DERIVED. GIVEN WITH THE SEED: THE CARDS: each row of YtjjpklalihaanaaDoorRows.lean that lists a variable, with what it lists TIED to the program's text (the seventh form; the later family's looks); each row that meets fmt, with fmt's text TOLD by the authors' own Lean function (tested against real Go, not proved from fmt's source: count such statements apart). THE CARD IS WHAT COUNTS. Prove the row's statement (the work); the ties are given (YtjjpklalihaanaaDoorTie.lean); close each card by the builder's one call (the guide's Derived/Test/ToyasCard.lean, 'card_holds'). Laid BY PROGRAM, IN A SANDBOX (cutbox-door.mjs). By AI agents, Wed Nov 11 2026. No macro, syntax, notation, axiom, sorry.
-/
import Derived.Test.YtjjpklalihaanaaDoorRows
import GoSem.ClaimSeven
namespace Go.Proofs.YtjjpklalihaanaaDoor
namespace Rows

/-- THE TIED CARD OF 'laws.FnAssembled'. -/
def fnAssembledCard : Claim7 := { stood := { row := fnAssembledRow, standIns := [], harness := (true, "9b41b2601d25f69033ef3c51981e2d3c745cadd219c78d1fc36f4cbfeb0b3c42"), looks := false }, kinds := [], alts := [], laidByText := true, laidKinds := [.data, .data, .data], laidTests := true, laidLooks := .later }
def FnAssembledCardSaid : Prop := Claim7.holds Tryd.pinned (.plain (OpenSpec.ofChange fnAssembledSpec)) fnAssembledCard

/-- THE SECOND FORM's CARD OF 'laws.FnAssembled'. -/
def fnAssembledUptoCard : Claim7 := { stood := { row := fnAssembledUptoRow, standIns := [], harness := (true, "9b41b2601d25f69033ef3c51981e2d3c745cadd219c78d1fc36f4cbfeb0b3c42"), looks := false }, kinds := [], alts := [], laidByText := true, laidKinds := [.data, .data, .data], laidTests := true, laidLooks := .later }
def FnAssembledUptoCardSaid : Prop := Claim7.holds Tryd.pinned (.plain (OpenSpec.upto fnAssembledSpec)) fnAssembledUptoCard
end Rows
end Go.Proofs.YtjjpklalihaanaaDoor
