/- The walk of laws.FnExactName: at every number both answer by the table, so the law returns true. -/
import Derived.Test.YtniimnejooeofagNameC
namespace Go.Proofs.Ytniimnejooeofag.fnExactName
open Go.RowKit
set_option linter.unusedVariables false

set_option maxHeartbeats 400000 in
theorem walk (a0 : Int) (w0 : (Lit.int .i64 a0).wf = true) (w : World) :
    Calls Try.prog 5 #[.int .i64 a0] w fun e w' => e = .returned (.bool true) ∧ Below w.heap.size w w' := by
  have hd : ((nameOf a0).toList != (nameOf a0).toList) = false := by simp
  go_enter Try.func5, Try.ntmps5
  go_wp2_with fail
  refine (specName_any a0 w0 w).mono ?_
  rintro e w1 ⟨rfl, hb1⟩
  go_wp2_with fail
  refine (implName_any a0 w0 w1).mono ?_
  rintro e w2 ⟨rfl, hb2⟩
  go_wp2_with fail
  go_ret
  exact ⟨rfl, below_trans hb1 hb2⟩

end Go.Proofs.Ytniimnejooeofag.fnExactName
