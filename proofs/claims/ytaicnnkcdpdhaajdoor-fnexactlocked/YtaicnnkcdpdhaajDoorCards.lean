/-
  DERIVED. GIVEN WITH THE SEED: THE CARDS: each row of YtaicnnkcdpdhaajDoorRows.lean that lists a variable, with what it lists TIED to the program's text (the seventh form; the later family's looks); each row that meets fmt, with fmt's text TOLD by the authors' own Lean function (tested against real Go, not proved from fmt's source: count such statements apart). THE CARD IS WHAT COUNTS. Prove the row's statement (the work); the ties are given (YtaicnnkcdpdhaajDoorTie.lean); close each card by the builder's one call (the guide's Derived/Test/ToyasCard.lean, 'card_holds'). Laid BY PROGRAM, IN A SANDBOX (cutbox-door.mjs). By AI agents, Wed Nov 11 2026. No macro, syntax, notation, axiom, sorry.
-/
import Derived.Test.YtaicnnkcdpdhaajDoorRows
import GoSem.ClaimSeven
namespace Go.Proofs.YtaicnnkcdpdhaajDoor
namespace Rows

/-- THE TIED CARD OF 'laws.FnExactRegion'. -/
def fnExactRegionCard : Claim7 := { stood := { row := fnExactRegionRow, standIns := [], harness := (true, "3ace6594bda3e787b39be3e7cb454b584605e545fbb9ff671bf7aba887dd4e57"), looks := false }, kinds := [], alts := [], laidByText := true, laidKinds := [.data], laidTests := true, laidLooks := .later }
def FnExactRegionCardSaid : Prop := Claim7.holds Tryd.pinned (.plain (OpenSpec.ofChange fnExactRegionSpec)) fnExactRegionCard

/-- THE TIED CARD OF 'laws.FnExactPermits'. -/
def fnExactPermitsCard : Claim7 := { stood := { row := fnExactPermitsRow, standIns := [], harness := (true, "3ace6594bda3e787b39be3e7cb454b584605e545fbb9ff671bf7aba887dd4e57"), looks := false }, kinds := [], alts := [], laidByText := true, laidKinds := [.data], laidTests := true, laidLooks := .later }
def FnExactPermitsCardSaid : Prop := Claim7.holds Tryd.pinned (.plain (OpenSpec.ofChange fnExactPermitsSpec)) fnExactPermitsCard

/-- THE TIED CARD OF 'laws.FnExactLocked'. -/
def fnExactLockedCard : Claim7 := { stood := { row := fnExactLockedRow, standIns := [], harness := (true, "3ace6594bda3e787b39be3e7cb454b584605e545fbb9ff671bf7aba887dd4e57"), looks := false }, kinds := [], alts := [], laidByText := true, laidKinds := [.data], laidTests := true, laidLooks := .later }
def FnExactLockedCardSaid : Prop := Claim7.holds Tryd.pinned (.plain (OpenSpec.ofChange fnExactLockedSpec)) fnExactLockedCard

/-- THE SECOND FORM's CARD OF 'laws.FnExactRegion'. -/
def fnExactRegionUptoCard : Claim7 := { stood := { row := fnExactRegionUptoRow, standIns := [], harness := (true, "3ace6594bda3e787b39be3e7cb454b584605e545fbb9ff671bf7aba887dd4e57"), looks := false }, kinds := [], alts := [], laidByText := true, laidKinds := [.data], laidTests := true, laidLooks := .later }
def FnExactRegionUptoCardSaid : Prop := Claim7.holds Tryd.pinned (.plain (OpenSpec.upto fnExactRegionSpec)) fnExactRegionUptoCard

/-- THE SECOND FORM's CARD OF 'laws.FnExactPermits'. -/
def fnExactPermitsUptoCard : Claim7 := { stood := { row := fnExactPermitsUptoRow, standIns := [], harness := (true, "3ace6594bda3e787b39be3e7cb454b584605e545fbb9ff671bf7aba887dd4e57"), looks := false }, kinds := [], alts := [], laidByText := true, laidKinds := [.data], laidTests := true, laidLooks := .later }
def FnExactPermitsUptoCardSaid : Prop := Claim7.holds Tryd.pinned (.plain (OpenSpec.upto fnExactPermitsSpec)) fnExactPermitsUptoCard

/-- THE SECOND FORM's CARD OF 'laws.FnExactLocked'. -/
def fnExactLockedUptoCard : Claim7 := { stood := { row := fnExactLockedUptoRow, standIns := [], harness := (true, "3ace6594bda3e787b39be3e7cb454b584605e545fbb9ff671bf7aba887dd4e57"), looks := false }, kinds := [], alts := [], laidByText := true, laidKinds := [.data], laidTests := true, laidLooks := .later }
def FnExactLockedUptoCardSaid : Prop := Claim7.holds Tryd.pinned (.plain (OpenSpec.upto fnExactLockedSpec)) fnExactLockedUptoCard
end Rows
end Go.Proofs.YtaicnnkcdpdhaajDoor
