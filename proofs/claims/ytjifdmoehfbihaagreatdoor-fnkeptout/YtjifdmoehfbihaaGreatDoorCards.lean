/-
  DERIVED. GIVEN WITH THE SEED: THE CARDS: each row of YtjifdmoehfbihaaGreatDoorRows.lean that lists a variable, with what it lists TIED to the program's text (the seventh form; the later family's looks); each row that meets fmt, with fmt's text TOLD by the authors' own Lean function (tested against real Go, not proved from fmt's source: count such statements apart). THE CARD IS WHAT COUNTS. Prove the row's statement (the work); the ties are given (YtjifdmoehfbihaaGreatDoorTie.lean); close each card by the builder's one call (the guide's Derived/Test/ToyasCard.lean, 'card_holds'). Laid BY PROGRAM, IN A SANDBOX (cutbox-door.mjs). By AI agents, Wed Nov 11 2026. No macro, syntax, notation, axiom, sorry.
-/
import Derived.Test.YtjifdmoehfbihaaGreatDoorRows
import GoSem.ClaimSeven
namespace Go.Proofs.YtjifdmoehfbihaaGreatDoor
namespace Rows

/-- THE TIED CARD OF 'laws.FnExactStep'. -/
def fnExactStepCard : Claim7 := { stood := { row := fnExactStepRow, standIns := [], harness := (true, "3be7a8b664b3cbd6bf3e28fa1ad8475991f24ca9fb6bee9e12ceef92bfdfdc9c"), looks := true }, kinds := [], alts := [], laidByText := true, laidKinds := [.data], laidTests := true, laidLooks := .later }
def FnExactStepCardSaid : Prop := Claim7.holds Tryz.pinned (.plain (OpenSpec.ofChange fnExactStepSpec)) fnExactStepCard

/-- THE TIED CARD OF 'laws.FnExactSteps'. -/
def fnExactStepsCard : Claim7 := { stood := { row := fnExactStepsRow, standIns := [], harness := (true, "3be7a8b664b3cbd6bf3e28fa1ad8475991f24ca9fb6bee9e12ceef92bfdfdc9c"), looks := true }, kinds := [], alts := [], laidByText := true, laidKinds := [.data], laidTests := true, laidLooks := .later }
def FnExactStepsCardSaid : Prop := Claim7.holds Tryz.pinned (.plain (OpenSpec.ofChange fnExactStepsSpec)) fnExactStepsCard

/-- THE TIED CARD OF 'laws.FnKeptOut'. -/
def fnKeptOutCard : Claim7 := { stood := { row := fnKeptOutRow, standIns := [], harness := (true, "3be7a8b664b3cbd6bf3e28fa1ad8475991f24ca9fb6bee9e12ceef92bfdfdc9c"), looks := true }, kinds := [], alts := [], laidByText := true, laidKinds := [.data], laidTests := true, laidLooks := .later }
def FnKeptOutCardSaid : Prop := Claim7.holds Tryz.pinned (.plain (OpenSpec.ofChange fnKeptOutSpec)) fnKeptOutCard

/-- THE TIED CARD OF 'laws.FnStepped'. -/
def fnSteppedCard : Claim7 := { stood := { row := fnSteppedRow, standIns := [], harness := (true, "3be7a8b664b3cbd6bf3e28fa1ad8475991f24ca9fb6bee9e12ceef92bfdfdc9c"), looks := true }, kinds := [], alts := [], laidByText := true, laidKinds := [.data], laidTests := true, laidLooks := .later }
def FnSteppedCardSaid : Prop := Claim7.holds Tryz.pinned (.plain (OpenSpec.ofChange fnSteppedSpec)) fnSteppedCard

/-- THE TIED CARD OF 'laws.FnSteps'. -/
def fnStepsCard : Claim7 := { stood := { row := fnStepsRow, standIns := [], harness := (true, "3be7a8b664b3cbd6bf3e28fa1ad8475991f24ca9fb6bee9e12ceef92bfdfdc9c"), looks := true }, kinds := [], alts := [], laidByText := true, laidKinds := [.data], laidTests := true, laidLooks := .later }
def FnStepsCardSaid : Prop := Claim7.holds Tryz.pinned (.plain (OpenSpec.ofChange fnStepsSpec)) fnStepsCard

/-- THE SECOND FORM's CARD OF 'laws.FnExactStep'. -/
def fnExactStepUptoCard : Claim7 := { stood := { row := fnExactStepUptoRow, standIns := [], harness := (true, "3be7a8b664b3cbd6bf3e28fa1ad8475991f24ca9fb6bee9e12ceef92bfdfdc9c"), looks := true }, kinds := [], alts := [], laidByText := true, laidKinds := [.data], laidTests := true, laidLooks := .later }
def FnExactStepUptoCardSaid : Prop := Claim7.holds Tryz.pinned (.plain (OpenSpec.upto fnExactStepSpec)) fnExactStepUptoCard

/-- THE SECOND FORM's CARD OF 'laws.FnExactSteps'. -/
def fnExactStepsUptoCard : Claim7 := { stood := { row := fnExactStepsUptoRow, standIns := [], harness := (true, "3be7a8b664b3cbd6bf3e28fa1ad8475991f24ca9fb6bee9e12ceef92bfdfdc9c"), looks := true }, kinds := [], alts := [], laidByText := true, laidKinds := [.data], laidTests := true, laidLooks := .later }
def FnExactStepsUptoCardSaid : Prop := Claim7.holds Tryz.pinned (.plain (OpenSpec.upto fnExactStepsSpec)) fnExactStepsUptoCard

/-- THE SECOND FORM's CARD OF 'laws.FnKeptOut'. -/
def fnKeptOutUptoCard : Claim7 := { stood := { row := fnKeptOutUptoRow, standIns := [], harness := (true, "3be7a8b664b3cbd6bf3e28fa1ad8475991f24ca9fb6bee9e12ceef92bfdfdc9c"), looks := true }, kinds := [], alts := [], laidByText := true, laidKinds := [.data], laidTests := true, laidLooks := .later }
def FnKeptOutUptoCardSaid : Prop := Claim7.holds Tryz.pinned (.plain (OpenSpec.upto fnKeptOutSpec)) fnKeptOutUptoCard

/-- THE SECOND FORM's CARD OF 'laws.FnStepped'. -/
def fnSteppedUptoCard : Claim7 := { stood := { row := fnSteppedUptoRow, standIns := [], harness := (true, "3be7a8b664b3cbd6bf3e28fa1ad8475991f24ca9fb6bee9e12ceef92bfdfdc9c"), looks := true }, kinds := [], alts := [], laidByText := true, laidKinds := [.data], laidTests := true, laidLooks := .later }
def FnSteppedUptoCardSaid : Prop := Claim7.holds Tryz.pinned (.plain (OpenSpec.upto fnSteppedSpec)) fnSteppedUptoCard

/-- THE SECOND FORM's CARD OF 'laws.FnSteps'. -/
def fnStepsUptoCard : Claim7 := { stood := { row := fnStepsUptoRow, standIns := [], harness := (true, "3be7a8b664b3cbd6bf3e28fa1ad8475991f24ca9fb6bee9e12ceef92bfdfdc9c"), looks := true }, kinds := [], alts := [], laidByText := true, laidKinds := [.data], laidTests := true, laidLooks := .later }
def FnStepsUptoCardSaid : Prop := Claim7.holds Tryz.pinned (.plain (OpenSpec.upto fnStepsSpec)) fnStepsUptoCard
end Rows
end Go.Proofs.YtjifdmoehfbihaaGreatDoor
