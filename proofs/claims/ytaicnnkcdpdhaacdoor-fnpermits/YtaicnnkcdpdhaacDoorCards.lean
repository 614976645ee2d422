/-
  DERIVED. GIVEN WITH THE SEED: THE CARDS: each row of YtaicnnkcdpdhaacDoorRows.lean that lists a variable, with what it lists TIED to the program's text (the seventh form; the later family's looks); each row that meets fmt, with fmt's text TOLD by the authors' own Lean function (tested against real Go, not proved from fmt's source: count such statements apart). THE CARD IS WHAT COUNTS. Prove the row's statement (the work); the ties are given (YtaicnnkcdpdhaacDoorTie.lean); close each card by the builder's one call (the guide's Derived/Test/ToyasCard.lean, 'card_holds'). Laid BY PROGRAM, IN A SANDBOX (cutbox-door.mjs). By AI agents, Wed Nov 11 2026. No macro, syntax, notation, axiom, sorry.
-/
import Derived.Test.YtaicnnkcdpdhaacDoorRows
import GoSem.ClaimSeven
namespace Go.Proofs.YtaicnnkcdpdhaacDoor
namespace Rows

/-- THE TIED CARD OF 'laws.FnPermits'. -/
def fnPermitsCard : Claim7 := { stood := { row := fnPermitsRow, standIns := [], harness := (true, "bbdc24317c028b1c1da95f774efcb18733690526d542207a52c022815178e73f"), looks := false }, kinds := [], alts := [], laidByText := true, laidKinds := [.data], laidTests := true, laidLooks := .later }
def FnPermitsCardSaid : Prop := Claim7.holds Tryd.pinned (.plain (OpenSpec.ofChange fnPermitsSpec)) fnPermitsCard

/-- THE SECOND FORM's CARD OF 'laws.FnPermits'. -/
def fnPermitsUptoCard : Claim7 := { stood := { row := fnPermitsUptoRow, standIns := [], harness := (true, "bbdc24317c028b1c1da95f774efcb18733690526d542207a52c022815178e73f"), looks := false }, kinds := [], alts := [], laidByText := true, laidKinds := [.data], laidTests := true, laidLooks := .later }
def FnPermitsUptoCardSaid : Prop := Claim7.holds Tryd.pinned (.plain (OpenSpec.upto fnPermitsSpec)) fnPermitsUptoCard
end Rows
end Go.Proofs.YtaicnnkcdpdhaacDoor
