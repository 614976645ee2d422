/-
  DERIVED. GIVEN WITH THE SEED: THE CARDS: each row of YtldjmphflgecjajDoorRows.lean that lists a variable, with what it lists TIED to the program's text (the seventh form; the later family's looks); each row that meets fmt, with fmt's text TOLD by the authors' own Lean function (tested against real Go, not proved from fmt's source: count such statements apart). THE CARD IS WHAT COUNTS. Prove the row's statement (the work); the ties are given (YtldjmphflgecjajDoorTie.lean); close each card by the builder's one call (the guide's Derived/Test/ToyasCard.lean, 'card_holds'). Laid BY PROGRAM, IN A SANDBOX (cutbox-door.mjs). By AI agents, Wed Nov 11 2026. No macro, syntax, notation, axiom, sorry.
-/
import Derived.Test.YtldjmphflgecjajDoorRows
import GoSem.ClaimSeven
namespace Go.Proofs.YtldjmphflgecjajDoor
namespace Rows

/-- THE TIED CARD OF 'laws.FnExactRegion'. -/
def fnExactRegionCard : Claim7 := { stood := { row := fnExactRegionRow, standIns := [], harness := (true, "feee0d71e10a88a93e1730e4c3bff15991b571ad7be37829aae5d0082e92509a"), looks := true }, kinds := [], alts := [], laidByText := true, laidKinds := [.data], laidTests := true, laidLooks := .later }
def FnExactRegionCardSaid : Prop := Claim7.holds Tryd.pinned (.plain (OpenSpec.ofChange fnExactRegionSpec)) fnExactRegionCard

/-- THE TIED CARD OF 'laws.FnExactPermits'. -/
def fnExactPermitsCard : Claim7 := { stood := { row := fnExactPermitsRow, standIns := [], harness := (true, "feee0d71e10a88a93e1730e4c3bff15991b571ad7be37829aae5d0082e92509a"), looks := true }, kinds := [], alts := [], laidByText := true, laidKinds := [.data], laidTests := true, laidLooks := .later }
def FnExactPermitsCardSaid : Prop := Claim7.holds Tryd.pinned (.plain (OpenSpec.ofChange fnExactPermitsSpec)) fnExactPermitsCard

/-- THE TIED CARD OF 'laws.FnExactLocked'. -/
def fnExactLockedCard : Claim7 := { stood := { row := fnExactLockedRow, standIns := [], harness := (true, "feee0d71e10a88a93e1730e4c3bff15991b571ad7be37829aae5d0082e92509a"), looks := true }, kinds := [], alts := [], laidByText := true, laidKinds := [.data], laidTests := true, laidLooks := .later }
def FnExactLockedCardSaid : Prop := Claim7.holds Tryd.pinned (.plain (OpenSpec.ofChange fnExactLockedSpec)) fnExactLockedCard

/-- THE TIED CARD OF 'laws.FnExactWalk'. -/
def fnExactWalkCard : Claim7 := { stood := { row := fnExactWalkRow, standIns := [], harness := (true, "feee0d71e10a88a93e1730e4c3bff15991b571ad7be37829aae5d0082e92509a"), looks := true }, kinds := [], alts := [], laidByText := true, laidKinds := [.data], laidTests := true, laidLooks := .later }
def FnExactWalkCardSaid : Prop := Claim7.holds Tryd.pinned (.plain (OpenSpec.ofChange fnExactWalkSpec)) fnExactWalkCard

/-- THE SECOND FORM's CARD OF 'laws.FnExactRegion'. -/
def fnExactRegionUptoCard : Claim7 := { stood := { row := fnExactRegionUptoRow, standIns := [], harness := (true, "feee0d71e10a88a93e1730e4c3bff15991b571ad7be37829aae5d0082e92509a"), looks := true }, kinds := [], alts := [], laidByText := true, laidKinds := [.data], laidTests := true, laidLooks := .later }
def FnExactRegionUptoCardSaid : Prop := Claim7.holds Tryd.pinned (.plain (OpenSpec.upto fnExactRegionSpec)) fnExactRegionUptoCard

/-- THE SECOND FORM's CARD OF 'laws.FnExactPermits'. -/
def fnExactPermitsUptoCard : Claim7 := { stood := { row := fnExactPermitsUptoRow, standIns := [], harness := (true, "feee0d71e10a88a93e1730e4c3bff15991b571ad7be37829aae5d0082e92509a"), looks := true }, kinds := [], alts := [], laidByText := true, laidKinds := [.data], laidTests := true, laidLooks := .later }
def FnExactPermitsUptoCardSaid : Prop := Claim7.holds Tryd.pinned (.plain (OpenSpec.upto fnExactPermitsSpec)) fnExactPermitsUptoCard

/-- THE SECOND FORM's CARD OF 'laws.FnExactLocked'. -/
def fnExactLockedUptoCard : Claim7 := { stood := { row := fnExactLockedUptoRow, standIns := [], harness := (true, "feee0d71e10a88a93e1730e4c3bff15991b571ad7be37829aae5d0082e92509a"), looks := true }, kinds := [], alts := [], laidByText := true, laidKinds := [.data], laidTests := true, laidLooks := .later }
def FnExactLockedUptoCardSaid : Prop := Claim7.holds Tryd.pinned (.plain (OpenSpec.upto fnExactLockedSpec)) fnExactLockedUptoCard

/-- THE SECOND FORM's CARD OF 'laws.FnExactWalk'. -/
def fnExactWalkUptoCard : Claim7 := { stood := { row := fnExactWalkUptoRow, standIns := [], harness := (true, "feee0d71e10a88a93e1730e4c3bff15991b571ad7be37829aae5d0082e92509a"), looks := true }, kinds := [], alts := [], laidByText := true, laidKinds := [.data], laidTests := true, laidLooks := .later }
def FnExactWalkUptoCardSaid : Prop := Claim7.holds Tryd.pinned (.plain (OpenSpec.upto fnExactWalkSpec)) fnExactWalkUptoCard
end Rows
end Go.Proofs.YtldjmphflgecjajDoor
