/- The walk of laws.FnExactBranch: at every Op and every two words both answer alike. -/
import Derived.Test.YtjkeiedjnefeaahBrC
namespace Go.Proofs.Ytjkeiedjnefeaah.fnExactBranch
open Go.RowKit
set_option linter.unusedVariables false

set_option maxHeartbeats 400000 in
theorem walk (a0 a1 a2 : Int) (w0 : (Lit.int .i64 a0).wf = true) (w1 : (Lit.int .u64 a1).wf = true) (w2 : (Lit.int .u64 a2).wf = true) (w : World) :
    Calls Try.prog 3 #[.int .i64 a0, .int .u64 a1, .int .u64 a2] w fun e w' => e = .returned (.bool true) ∧ Below w.heap.size w w' := by
  have HS : Hid (∀ w, Calls Try.prog 8 #[.int .i64 a0, .int .u64 a1, .int .u64 a2] w fun e w' => e = .returned (.tuple #[.bool (brV a0 a1 a2), .bool (brB a0)]) ∧ w' = w) := specBranch_any a0 a1 a2
  have HI : Hid (∀ w, Calls Try.prog 9 #[.int .i64 a0, .int .u64 a1, .int .u64 a2] w fun e w' => e = .returned (.tuple #[.bool (brV a0 a1 a2), .bool (brB a0)]) ∧ Below w.heap.size w w') := implBranch_any a0 a1 a2 w0
  obtain ⟨x, hx⟩ : ∃ x, x = brV a0 a1 a2 := ⟨_, rfl⟩
  obtain ⟨c, hc⟩ : ∃ c, c = brB a0 := ⟨_, rfl⟩
  rw [← hx, ← hc] at HS HI
  have hd : (x != x) = false := by simp
  have hd2 : (c != c) = false := by simp
  clear hx hc
  go_enter Try.func3, Try.ntmps3
  go_wp2_with fail
  refine (HS.out _).mono ?_
  rintro e w1 ⟨rfl, hw1⟩
  subst hw1
  go_wp2_with fail
  refine (HI.out _).mono ?_
  rintro e w2 ⟨rfl, hb2⟩
  go_wp2_with fail
  go_ret
  exact ⟨rfl, hb2⟩

end Go.Proofs.Ytjkeiedjnefeaah.fnExactBranch
