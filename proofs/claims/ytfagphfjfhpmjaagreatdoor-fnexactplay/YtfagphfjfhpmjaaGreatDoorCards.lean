/-
  DERIVED. GIVEN WITH THE SEED: THE CARDS: each row of YtfagphfjfhpmjaaGreatDoorRows.lean that lists a variable, with what it lists TIED to the program's text (the seventh form; the later family's looks); each row that meets fmt, with fmt's text TOLD by the authors' own Lean function (tested against real Go, not proved from fmt's source: count such statements apart). THE CARD IS WHAT COUNTS. Prove the row's statement (the work); the ties are given (YtfagphfjfhpmjaaGreatDoorTie.lean); close each card by the builder's one call (the guide's Derived/Test/ToyasCard.lean, 'card_holds'). Laid BY PROGRAM, IN A SANDBOX (cutbox-door.mjs). By AI agents, Wed Nov 11 2026. No macro, syntax, notation, axiom, sorry.
-/
import Derived.Test.YtfagphfjfhpmjaaGreatDoorRows
import GoSem.ClaimSeven
namespace Go.Proofs.YtfagphfjfhpmjaaGreatDoor
namespace Rows

/-- THE TIED CARD OF 'laws.FnExactStep'. -/
def fnExactStepCard : Claim7 := { stood := { row := fnExactStepRow, standIns := [], harness := (true, "b8c9986fb0e68d18e35fd428b1edecb9f49dc6332caaf4866d466032d2327a28"), looks := true }, kinds := [], alts := [], laidByText := true, laidKinds := [.data], laidTests := true, laidLooks := .later }
def FnExactStepCardSaid : Prop := Claim7.holds Tryz.pinned (.plain (OpenSpec.ofChange fnExactStepSpec)) fnExactStepCard

/-- THE TIED CARD OF 'laws.FnExactSteps'. -/
def fnExactStepsCard : Claim7 := { stood := { row := fnExactStepsRow, standIns := [], harness := (true, "b8c9986fb0e68d18e35fd428b1edecb9f49dc6332caaf4866d466032d2327a28"), looks := true }, kinds := [], alts := [], laidByText := true, laidKinds := [.data], laidTests := true, laidLooks := .later }
def FnExactStepsCardSaid : Prop := Claim7.holds Tryz.pinned (.plain (OpenSpec.ofChange fnExactStepsSpec)) fnExactStepsCard

/-- THE TIED CARD OF 'laws.FnKeptOut'. -/
def fnKeptOutCard : Claim7 := { stood := { row := fnKeptOutRow, standIns := [], harness := (true, "b8c9986fb0e68d18e35fd428b1edecb9f49dc6332caaf4866d466032d2327a28"), looks := true }, kinds := [], alts := [], laidByText := true, laidKinds := [.data], laidTests := true, laidLooks := .later }
def FnKeptOutCardSaid : Prop := Claim7.holds Tryz.pinned (.plain (OpenSpec.ofChange fnKeptOutSpec)) fnKeptOutCard

/-- THE TIED CARD OF 'laws.FnStepped'. -/
def fnSteppedCard : Claim7 := { stood := { row := fnSteppedRow, standIns := [], harness := (true, "b8c9986fb0e68d18e35fd428b1edecb9f49dc6332caaf4866d466032d2327a28"), looks := true }, kinds := [], alts := [], laidByText := true, laidKinds := [.data], laidTests := true, laidLooks := .later }
def FnSteppedCardSaid : Prop := Claim7.holds Tryz.pinned (.plain (OpenSpec.ofChange fnSteppedSpec)) fnSteppedCard

/-- THE TIED CARD OF 'laws.FnSteps'. -/
def fnStepsCard : Claim7 := { stood := { row := fnStepsRow, standIns := [], harness := (true, "b8c9986fb0e68d18e35fd428b1edecb9f49dc6332caaf4866d466032d2327a28"), looks := true }, kinds := [], alts := [], laidByText := true, laidKinds := [.data], laidTests := true, laidLooks := .later }
def FnStepsCardSaid : Prop := Claim7.holds Tryz.pinned (.plain (OpenSpec.ofChange fnStepsSpec)) fnStepsCard

/-- THE TIED CARD OF 'laws.FnPlayed'. -/
def fnPlayedCard : Claim7 := { stood := { row := fnPlayedRow, standIns := [], harness := (true, "b8c9986fb0e68d18e35fd428b1edecb9f49dc6332caaf4866d466032d2327a28"), looks := true }, kinds := [], alts := [], laidByText := true, laidKinds := [.data], laidTests := true, laidLooks := .later }
def FnPlayedCardSaid : Prop := Claim7.holds Tryz.pinned (.plain (OpenSpec.ofChange fnPlayedSpec)) fnPlayedCard

/-- THE TIED CARD OF 'laws.FnExactPlay'. -/
def fnExactPlayCard : Claim7 := { stood := { row := fnExactPlayRow, standIns := [], harness := (true, "b8c9986fb0e68d18e35fd428b1edecb9f49dc6332caaf4866d466032d2327a28"), looks := true }, kinds := [], alts := [], laidByText := true, laidKinds := [.data], laidTests := true, laidLooks := .later }
def FnExactPlayCardSaid : Prop := Claim7.holds Tryz.pinned (.plain (OpenSpec.ofChange fnExactPlaySpec)) fnExactPlayCard

/-- THE SECOND FORM's CARD OF 'laws.FnExactStep'. -/
def fnExactStepUptoCard : Claim7 := { stood := { row := fnExactStepUptoRow, standIns := [], harness := (true, "b8c9986fb0e68d18e35fd428b1edecb9f49dc6332caaf4866d466032d2327a28"), looks := true }, kinds := [], alts := [], laidByText := true, laidKinds := [.data], laidTests := true, laidLooks := .later }
def FnExactStepUptoCardSaid : Prop := Claim7.holds Tryz.pinned (.plain (OpenSpec.upto fnExactStepSpec)) fnExactStepUptoCard

/-- THE SECOND FORM's CARD OF 'laws.FnExactSteps'. -/
def fnExactStepsUptoCard : Claim7 := { stood := { row := fnExactStepsUptoRow, standIns := [], harness := (true, "b8c9986fb0e68d18e35fd428b1edecb9f49dc6332caaf4866d466032d2327a28"), looks := true }, kinds := [], alts := [], laidByText := true, laidKinds := [.data], laidTests := true, laidLooks := .later }
def FnExactStepsUptoCardSaid : Prop := Claim7.holds Tryz.pinned (.plain (OpenSpec.upto fnExactStepsSpec)) fnExactStepsUptoCard

/-- THE SECOND FORM's CARD OF 'laws.FnKeptOut'. -/
def fnKeptOutUptoCard : Claim7 := { stood := { row := fnKeptOutUptoRow, standIns := [], harness := (true, "b8c9986fb0e68d18e35fd428b1edecb9f49dc6332caaf4866d466032d2327a28"), looks := true }, kinds := [], alts := [], laidByText := true, laidKinds := [.data], laidTests := true, laidLooks := .later }
def FnKeptOutUptoCardSaid : Prop := Claim7.holds Tryz.pinned (.plain (OpenSpec.upto fnKeptOutSpec)) fnKeptOutUptoCard

/-- THE SECOND FORM's CARD OF 'laws.FnStepped'. -/
def fnSteppedUptoCard : Claim7 := { stood := { row := fnSteppedUptoRow, standIns := [], harness := (true, "b8c9986fb0e68d18e35fd428b1edecb9f49dc6332caaf4866d466032d2327a28"), looks := true }, kinds := [], alts := [], laidByText := true, laidKinds := [.data], laidTests := true, laidLooks := .later }
def FnSteppedUptoCardSaid : Prop := Claim7.holds Tryz.pinned (.plain (OpenSpec.upto fnSteppedSpec)) fnSteppedUptoCard

/-- THE SECOND FORM's CARD OF 'laws.FnSteps'. -/
def fnStepsUptoCard : Claim7 := { stood := { row := fnStepsUptoRow, standIns := [], harness := (true, "b8c9986fb0e68d18e35fd428b1edecb9f49dc6332caaf4866d466032d2327a28"), looks := true }, kinds := [], alts := [], laidByText := true, laidKinds := [.data], laidTests := true, laidLooks := .later }
def FnStepsUptoCardSaid : Prop := Claim7.holds Tryz.pinned (.plain (OpenSpec.upto fnStepsSpec)) fnStepsUptoCard

/-- THE SECOND FORM's CARD OF 'laws.FnPlayed'. -/
def fnPlayedUptoCard : Claim7 := { stood := { row := fnPlayedUptoRow, standIns := [], harness := (true, "b8c9986fb0e68d18e35fd428b1edecb9f49dc6332caaf4866d466032d2327a28"), looks := true }, kinds := [], alts := [], laidByText := true, laidKinds := [.data], laidTests := true, laidLooks := .later }
def FnPlayedUptoCardSaid : Prop := Claim7.holds Tryz.pinned (.plain (OpenSpec.upto fnPlayedSpec)) fnPlayedUptoCard

/-- THE SECOND FORM's CARD OF 'laws.FnExactPlay'. -/
def fnExactPlayUptoCard : Claim7 := { stood := { row := fnExactPlayUptoRow, standIns := [], harness := (true, "b8c9986fb0e68d18e35fd428b1edecb9f49dc6332caaf4866d466032d2327a28"), looks := true }, kinds := [], alts := [], laidByText := true, laidKinds := [.data], laidTests := true, laidLooks := .later }
def FnExactPlayUptoCardSaid : Prop := Claim7.holds Tryz.pinned (.plain (OpenSpec.upto fnExactPlaySpec)) fnExactPlayUptoCard
end Rows
end Go.Proofs.YtfagphfjfhpmjaaGreatDoor
