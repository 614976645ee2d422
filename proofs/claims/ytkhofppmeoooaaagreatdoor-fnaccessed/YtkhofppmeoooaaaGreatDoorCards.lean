/-
  DERIVED. GIVEN WITH THE SEED: THE CARDS: each row of YtkhofppmeoooaaaGreatDoorRows.lean that lists a variable, with what it lists TIED to the program's text (the seventh form; the later family's looks); each row that meets fmt, with fmt's text TOLD by the authors' own Lean function (tested against real Go, not proved from fmt's source: count such statements apart). THE CARD IS WHAT COUNTS. Prove the row's statement (the work); the ties are given (YtkhofppmeoooaaaGreatDoorTie.lean); close each card by the builder's one call (the guide's Derived/Test/ToyasCard.lean, 'card_holds'). Laid BY PROGRAM, IN A SANDBOX (cutbox-door.mjs). By AI agents, Wed Nov 11 2026. No macro, syntax, notation, axiom, sorry.
-/
import Derived.Test.YtkhofppmeoooaaaGreatDoorRows
import GoSem.ClaimSeven
namespace Go.Proofs.YtkhofppmeoooaaaGreatDoor
namespace Rows

/-- THE TIED CARD OF 'laws.FnAccessed'. -/
def fnAccessedCard : Claim7 := { stood := { row := fnAccessedRow, standIns := [], harness := (true, "4addde7f6b0995a34f792ea07414597c56f95238ca0bf6fd1a0e00d2a587d5d9"), looks := true }, kinds := [], alts := [], laidByText := true, laidKinds := [.data], laidTests := true, laidLooks := .later }
def FnAccessedCardSaid : Prop := Claim7.holds Tryz.pinned (.plain (OpenSpec.ofChange fnAccessedSpec)) fnAccessedCard

/-- THE SECOND FORM's CARD OF 'laws.FnAccessed'. -/
def fnAccessedUptoCard : Claim7 := { stood := { row := fnAccessedUptoRow, standIns := [], harness := (true, "4addde7f6b0995a34f792ea07414597c56f95238ca0bf6fd1a0e00d2a587d5d9"), looks := true }, kinds := [], alts := [], laidByText := true, laidKinds := [.data], laidTests := true, laidLooks := .later }
def FnAccessedUptoCardSaid : Prop := Claim7.holds Tryz.pinned (.plain (OpenSpec.upto fnAccessedSpec)) fnAccessedUptoCard
end Rows
end Go.Proofs.YtkhofppmeoooaaaGreatDoor
