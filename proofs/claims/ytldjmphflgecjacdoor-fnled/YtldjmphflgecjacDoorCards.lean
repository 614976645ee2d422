/-
  DERIVED. GIVEN WITH THE SEED: THE CARDS: each row of YtldjmphflgecjacDoorRows.lean that lists a variable, with what it lists TIED to the program's text (the seventh form; the later family's looks); each row that meets fmt, with fmt's text TOLD by the authors' own Lean function (tested against real Go, not proved from fmt's source: count such statements apart). THE CARD IS WHAT COUNTS. Prove the row's statement (the work); the ties are given (YtldjmphflgecjacDoorTie.lean); close each card by the builder's one call (the guide's Derived/Test/ToyasCard.lean, 'card_holds'). Laid BY PROGRAM, IN A SANDBOX (cutbox-door.mjs). By AI agents, Wed Nov 11 2026. No macro, syntax, notation, axiom, sorry.
-/
import Derived.Test.YtldjmphflgecjacDoorRows
import GoSem.ClaimSeven
namespace Go.Proofs.YtldjmphflgecjacDoor
namespace Rows

/-- THE TIED CARD OF 'laws.FnPermits'. -/
def fnPermitsCard : Claim7 := { stood := { row := fnPermitsRow, standIns := [], harness := (true, "0b4de09a3b1d698c3473014cdd5c673e8ce71c95f7008599f1a2abf5e9728605"), looks := true }, kinds := [], alts := [], laidByText := true, laidKinds := [.data], laidTests := true, laidLooks := .later }
def FnPermitsCardSaid : Prop := Claim7.holds Tryd.pinned (.plain (OpenSpec.ofChange fnPermitsSpec)) fnPermitsCard

/-- THE TIED CARD OF 'laws.FnWalked'. -/
def fnWalkedCard : Claim7 := { stood := { row := fnWalkedRow, standIns := [], harness := (true, "0b4de09a3b1d698c3473014cdd5c673e8ce71c95f7008599f1a2abf5e9728605"), looks := true }, kinds := [], alts := [], laidByText := true, laidKinds := [.data], laidTests := true, laidLooks := .later }
def FnWalkedCardSaid : Prop := Claim7.holds Tryd.pinned (.plain (OpenSpec.ofChange fnWalkedSpec)) fnWalkedCard

/-- THE TIED CARD OF 'laws.FnLed'. -/
def fnLedCard : Claim7 := { stood := { row := fnLedRow, standIns := [], harness := (true, "0b4de09a3b1d698c3473014cdd5c673e8ce71c95f7008599f1a2abf5e9728605"), looks := true }, kinds := [], alts := [], laidByText := true, laidKinds := [.data], laidTests := true, laidLooks := .later }
def FnLedCardSaid : Prop := Claim7.holds Tryd.pinned (.plain (OpenSpec.ofChange fnLedSpec)) fnLedCard

/-- THE SECOND FORM's CARD OF 'laws.FnPermits'. -/
def fnPermitsUptoCard : Claim7 := { stood := { row := fnPermitsUptoRow, standIns := [], harness := (true, "0b4de09a3b1d698c3473014cdd5c673e8ce71c95f7008599f1a2abf5e9728605"), looks := true }, kinds := [], alts := [], laidByText := true, laidKinds := [.data], laidTests := true, laidLooks := .later }
def FnPermitsUptoCardSaid : Prop := Claim7.holds Tryd.pinned (.plain (OpenSpec.upto fnPermitsSpec)) fnPermitsUptoCard

/-- THE SECOND FORM's CARD OF 'laws.FnWalked'. -/
def fnWalkedUptoCard : Claim7 := { stood := { row := fnWalkedUptoRow, standIns := [], harness := (true, "0b4de09a3b1d698c3473014cdd5c673e8ce71c95f7008599f1a2abf5e9728605"), looks := true }, kinds := [], alts := [], laidByText := true, laidKinds := [.data], laidTests := true, laidLooks := .later }
def FnWalkedUptoCardSaid : Prop := Claim7.holds Tryd.pinned (.plain (OpenSpec.upto fnWalkedSpec)) fnWalkedUptoCard

/-- THE SECOND FORM's CARD OF 'laws.FnLed'. -/
def fnLedUptoCard : Claim7 := { stood := { row := fnLedUptoRow, standIns := [], harness := (true, "0b4de09a3b1d698c3473014cdd5c673e8ce71c95f7008599f1a2abf5e9728605"), looks := true }, kinds := [], alts := [], laidByText := true, laidKinds := [.data], laidTests := true, laidLooks := .later }
def FnLedUptoCardSaid : Prop := Claim7.holds Tryd.pinned (.plain (OpenSpec.upto fnLedSpec)) fnLedUptoCard
end Rows
end Go.Proofs.YtldjmphflgecjacDoor
