/- The walk of laws.FnExactOpOf: at every text both answer by the table, so the law returns true. -/
import Derived.Test.YtniimnejooeofagNameC
namespace Go.Proofs.Ytniimnejooeofag.fnExactOpOf
open Go.RowKit
set_option linter.unusedVariables false

set_option maxHeartbeats 400000 in
theorem walk (a0 : ByteArray) (w0 : a0.size ≤ maxLen) (w : World) :
    Calls Try.prog 6 #[.string a0] w fun e w' => e = .returned (.bool true) ∧ Below w.heap.size w w' := by
  have hd : (findName a0 98 0 != findName a0 98 0) = false := by simp
  by_cases hbig : 1048576 < a0.size
  · have hb : decide ((1048576 : Int) < (a0.size : Int)) = true := by simp; omega
    go_enter Try.func6, Try.ntmps6
    go_wp2_with fail
    go_ret
    exact ⟨rfl, Below.refl _ _⟩
  · have hb : decide ((1048576 : Int) < (a0.size : Int)) = false := by simp; omega
    go_enter Try.func6, Try.ntmps6
    go_wp2_with fail
    refine (specOpOf_any a0 w).mono ?_
    rintro e w1 ⟨rfl, hb1⟩
    go_wp2_with fail
    refine (implOpOf_any a0 w1).mono ?_
    rintro e w2 ⟨rfl, hb2⟩
    go_wp2_with fail
    go_ret
    exact ⟨rfl, below_trans hb1 hb2⟩

end Go.Proofs.Ytniimnejooeofag.fnExactOpOf
