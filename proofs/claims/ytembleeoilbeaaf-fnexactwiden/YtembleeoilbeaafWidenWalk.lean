/- The walk of laws.FnExactWiden: at every word and every count impl.Widen answers what spec.Widen answers, so the law returns true. -/
import Derived.Test.YtembleeoilbeaafProg
import Derived.WalkKit
namespace Go.Proofs.Ytembleeoilbeaaf.fnExactWiden
open Go.RowKit
set_option linter.unusedVariables false

theorem walk (a0 : Int) (a1 : Int) (w0 : (Lit.int .u64 a0).wf = true) (w1 : (Lit.int .i64 a1).wf = true) (w : World) :
    Calls Try.prog 6 #[.int .u64 a0, .int .i64 a1] w fun e w' => e = .returned (.bool true) ∧ Grown w w' := by
  by_cases h1 : a1 < 1
  · go_enter Try.func6, Try.ntmps6
    go_wp2
    go_ret
    exact ⟨rfl, Grown.refl _⟩
  · by_cases h2 : 64 < a1
    · have h3 : decide (a1 ≤ 64) = false := by simpa using h2
      have h4 : decide (64 < a1) = true := by simpa using h2
      go_enter Try.func6, Try.ntmps6
      go_wp2
      go_ret
      exact ⟨rfl, Grown.refl _⟩
    · have h3 : decide (a1 ≤ 64) = true := by simpa using h2
      have h4 : decide (64 < a1) = false := by simpa using h2
      go_enter Try.func6, Try.ntmps6
      go_wp2
      go_ret
      exact ⟨rfl, Grown.refl _⟩
end Go.Proofs.Ytembleeoilbeaaf.fnExactWiden
