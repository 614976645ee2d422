/-
  DERIVED. GIVEN WITH THE SEED: THE CARDS: each row of YtjbipemgfmdlaaaGreatDoorRows.lean that lists a variable, with what it lists TIED to the program's text (the seventh form; the later family's looks); each row that meets fmt, with fmt's text TOLD by the authors' own Lean function (tested against real Go, not proved from fmt's source: count such statements apart). THE CARD IS WHAT COUNTS. Prove the row's statement (the work); the ties are given (YtjbipemgfmdlaaaGreatDoorTie.lean); close each card by the builder's one call (the guide's Derived/Test/ToyasCard.lean, 'card_holds'). Laid BY PROGRAM, IN A SANDBOX (cutbox-door.mjs). By AI agents, Wed Nov 11 2026. No macro, syntax, notation, axiom, sorry.
-/
import Derived.Test.YtjbipemgfmdlaaaGreatDoorRows
import GoSem.ClaimSeven
namespace Go.Proofs.YtjbipemgfmdlaaaGreatDoor
namespace Rows

/-- THE TIED CARD OF 'laws.FnAccessed'. -/
def fnAccessedCard : Claim7 := { stood := { row := fnAccessedRow, standIns := [], harness := (true, "6b417517c5b89187e57bafcceba9a8a275f852ce76e43b3b81b9291311015ca9"), looks := true }, kinds := [], alts := [], laidByText := true, laidKinds := [.data], laidTests := true, laidLooks := .later }
def FnAccessedCardSaid : Prop := Claim7.holds Tryz.pinned (.plain (OpenSpec.ofChange fnAccessedSpec)) fnAccessedCard

/-- THE TIED CARD OF 'laws.FnExactAccess'. -/
def fnExactAccessCard : Claim7 := { stood := { row := fnExactAccessRow, standIns := [], harness := (true, "6b417517c5b89187e57bafcceba9a8a275f852ce76e43b3b81b9291311015ca9"), looks := true }, kinds := [], alts := [], laidByText := true, laidKinds := [.data], laidTests := true, laidLooks := .later }
def FnExactAccessCardSaid : Prop := Claim7.holds Tryz.pinned (.plain (OpenSpec.ofChange fnExactAccessSpec)) fnExactAccessCard

/-- THE SECOND FORM's CARD OF 'laws.FnAccessed'. -/
def fnAccessedUptoCard : Claim7 := { stood := { row := fnAccessedUptoRow, standIns := [], harness := (true, "6b417517c5b89187e57bafcceba9a8a275f852ce76e43b3b81b9291311015ca9"), looks := true }, kinds := [], alts := [], laidByText := true, laidKinds := [.data], laidTests := true, laidLooks := .later }
def FnAccessedUptoCardSaid : Prop := Claim7.holds Tryz.pinned (.plain (OpenSpec.upto fnAccessedSpec)) fnAccessedUptoCard

/-- THE SECOND FORM's CARD OF 'laws.FnExactAccess'. -/
def fnExactAccessUptoCard : Claim7 := { stood := { row := fnExactAccessUptoRow, standIns := [], harness := (true, "6b417517c5b89187e57bafcceba9a8a275f852ce76e43b3b81b9291311015ca9"), looks := true }, kinds := [], alts := [], laidByText := true, laidKinds := [.data], laidTests := true, laidLooks := .later }
def FnExactAccessUptoCardSaid : Prop := Claim7.holds Tryz.pinned (.plain (OpenSpec.upto fnExactAccessSpec)) fnExactAccessUptoCard
end Rows
end Go.Proofs.YtjbipemgfmdlaaaGreatDoor
