/-
  DERIVED. GIVEN WITH THE SEED: THE CARDS: each row of YtilhcfhcdplicaaGreatDoorRows.lean that lists a variable, with what it lists TIED to the program's text (the seventh form; the later family's looks); each row that meets fmt, with fmt's text TOLD by the authors' own Lean function (tested against real Go, not proved from fmt's source: count such statements apart). THE CARD IS WHAT COUNTS. Prove the row's statement (the work); the ties are given (YtilhcfhcdplicaaGreatDoorTie.lean); close each card by the builder's one call (the guide's Derived/Test/ToyasCard.lean, 'card_holds'). Laid BY PROGRAM, IN A SANDBOX (cutbox-door.mjs). By AI agents, Wed Nov 11 2026. No macro, syntax, notation, axiom, sorry.
-/
import Derived.Test.YtilhcfhcdplicaaGreatDoorRows
import GoSem.ClaimSeven
namespace Go.Proofs.YtilhcfhcdplicaaGreatDoor
namespace Rows

/-- THE TIED CARD OF 'laws.FnAccessed'. -/
def fnAccessedCard : Claim7 := { stood := { row := fnAccessedRow, standIns := [], harness := (true, "95a13afc0834276659032258b0559fadf36ff09d5b0e9920703616f2aaf1ae10"), looks := true }, kinds := [], alts := [], laidByText := true, laidKinds := [.data], laidTests := true, laidLooks := .later }
def FnAccessedCardSaid : Prop := Claim7.holds Tryz.pinned (.plain (OpenSpec.ofChange fnAccessedSpec)) fnAccessedCard

/-- THE TIED CARD OF 'laws.FnKeptOut'. -/
def fnKeptOutCard : Claim7 := { stood := { row := fnKeptOutRow, standIns := [], harness := (true, "95a13afc0834276659032258b0559fadf36ff09d5b0e9920703616f2aaf1ae10"), looks := true }, kinds := [], alts := [], laidByText := true, laidKinds := [.data], laidTests := true, laidLooks := .later }
def FnKeptOutCardSaid : Prop := Claim7.holds Tryz.pinned (.plain (OpenSpec.ofChange fnKeptOutSpec)) fnKeptOutCard

/-- THE TIED CARD OF 'laws.FnStepped'. -/
def fnSteppedCard : Claim7 := { stood := { row := fnSteppedRow, standIns := [], harness := (true, "95a13afc0834276659032258b0559fadf36ff09d5b0e9920703616f2aaf1ae10"), looks := true }, kinds := [], alts := [], laidByText := true, laidKinds := [.data], laidTests := true, laidLooks := .later }
def FnSteppedCardSaid : Prop := Claim7.holds Tryz.pinned (.plain (OpenSpec.ofChange fnSteppedSpec)) fnSteppedCard

/-- THE TIED CARD OF 'laws.FnSteps'. -/
def fnStepsCard : Claim7 := { stood := { row := fnStepsRow, standIns := [], harness := (true, "95a13afc0834276659032258b0559fadf36ff09d5b0e9920703616f2aaf1ae10"), looks := true }, kinds := [], alts := [], laidByText := true, laidKinds := [.data], laidTests := true, laidLooks := .later }
def FnStepsCardSaid : Prop := Claim7.holds Tryz.pinned (.plain (OpenSpec.ofChange fnStepsSpec)) fnStepsCard

/-- THE TIED CARD OF 'laws.FnExactAccess'. -/
def fnExactAccessCard : Claim7 := { stood := { row := fnExactAccessRow, standIns := [], harness := (true, "95a13afc0834276659032258b0559fadf36ff09d5b0e9920703616f2aaf1ae10"), looks := true }, kinds := [], alts := [], laidByText := true, laidKinds := [.data], laidTests := true, laidLooks := .later }
def FnExactAccessCardSaid : Prop := Claim7.holds Tryz.pinned (.plain (OpenSpec.ofChange fnExactAccessSpec)) fnExactAccessCard

/-- THE TIED CARD OF 'laws.FnExactStep'. -/
def fnExactStepCard : Claim7 := { stood := { row := fnExactStepRow, standIns := [], harness := (true, "95a13afc0834276659032258b0559fadf36ff09d5b0e9920703616f2aaf1ae10"), looks := true }, kinds := [], alts := [], laidByText := true, laidKinds := [.data], laidTests := true, laidLooks := .later }
def FnExactStepCardSaid : Prop := Claim7.holds Tryz.pinned (.plain (OpenSpec.ofChange fnExactStepSpec)) fnExactStepCard

/-- THE SECOND FORM's CARD OF 'laws.FnAccessed'. -/
def fnAccessedUptoCard : Claim7 := { stood := { row := fnAccessedUptoRow, standIns := [], harness := (true, "95a13afc0834276659032258b0559fadf36ff09d5b0e9920703616f2aaf1ae10"), looks := true }, kinds := [], alts := [], laidByText := true, laidKinds := [.data], laidTests := true, laidLooks := .later }
def FnAccessedUptoCardSaid : Prop := Claim7.holds Tryz.pinned (.plain (OpenSpec.upto fnAccessedSpec)) fnAccessedUptoCard

/-- THE SECOND FORM's CARD OF 'laws.FnKeptOut'. -/
def fnKeptOutUptoCard : Claim7 := { stood := { row := fnKeptOutUptoRow, standIns := [], harness := (true, "95a13afc0834276659032258b0559fadf36ff09d5b0e9920703616f2aaf1ae10"), looks := true }, kinds := [], alts := [], laidByText := true, laidKinds := [.data], laidTests := true, laidLooks := .later }
def FnKeptOutUptoCardSaid : Prop := Claim7.holds Tryz.pinned (.plain (OpenSpec.upto fnKeptOutSpec)) fnKeptOutUptoCard

/-- THE SECOND FORM's CARD OF 'laws.FnStepped'. -/
def fnSteppedUptoCard : Claim7 := { stood := { row := fnSteppedUptoRow, standIns := [], harness := (true, "95a13afc0834276659032258b0559fadf36ff09d5b0e9920703616f2aaf1ae10"), looks := true }, kinds := [], alts := [], laidByText := true, laidKinds := [.data], laidTests := true, laidLooks := .later }
def FnSteppedUptoCardSaid : Prop := Claim7.holds Tryz.pinned (.plain (OpenSpec.upto fnSteppedSpec)) fnSteppedUptoCard

/-- THE SECOND FORM's CARD OF 'laws.FnSteps'. -/
def fnStepsUptoCard : Claim7 := { stood := { row := fnStepsUptoRow, standIns := [], harness := (true, "95a13afc0834276659032258b0559fadf36ff09d5b0e9920703616f2aaf1ae10"), looks := true }, kinds := [], alts := [], laidByText := true, laidKinds := [.data], laidTests := true, laidLooks := .later }
def FnStepsUptoCardSaid : Prop := Claim7.holds Tryz.pinned (.plain (OpenSpec.upto fnStepsSpec)) fnStepsUptoCard

/-- THE SECOND FORM's CARD OF 'laws.FnExactAccess'. -/
def fnExactAccessUptoCard : Claim7 := { stood := { row := fnExactAccessUptoRow, standIns := [], harness := (true, "95a13afc0834276659032258b0559fadf36ff09d5b0e9920703616f2aaf1ae10"), looks := true }, kinds := [], alts := [], laidByText := true, laidKinds := [.data], laidTests := true, laidLooks := .later }
def FnExactAccessUptoCardSaid : Prop := Claim7.holds Tryz.pinned (.plain (OpenSpec.upto fnExactAccessSpec)) fnExactAccessUptoCard

/-- THE SECOND FORM's CARD OF 'laws.FnExactStep'. -/
def fnExactStepUptoCard : Claim7 := { stood := { row := fnExactStepUptoRow, standIns := [], harness := (true, "95a13afc0834276659032258b0559fadf36ff09d5b0e9920703616f2aaf1ae10"), looks := true }, kinds := [], alts := [], laidByText := true, laidKinds := [.data], laidTests := true, laidLooks := .later }
def FnExactStepUptoCardSaid : Prop := Claim7.holds Tryz.pinned (.plain (OpenSpec.upto fnExactStepSpec)) fnExactStepUptoCard
end Rows
end Go.Proofs.YtilhcfhcdplicaaGreatDoor
