/- The walk of laws.FnExactAlu: at every Op and every two words both answer alike. -/
import Derived.Test.YtjkeiedjnefeaagAluJ
import Derived.Test.YtjkeiedjnefeaagAluS
namespace Go.Proofs.Ytjkeiedjnefeaag.fnExactAlu
open Go.RowKit
set_option linter.unusedVariables false

set_option maxHeartbeats 400000 in
theorem walk (a0 a1 a2 : Int) (w0 : (Lit.int .i64 a0).wf = true) (w1 : (Lit.int .u64 a1).wf = true) (w2 : (Lit.int .u64 a2).wf = true) (w : World) :
    Calls Try.prog 8 #[.int .i64 a0, .int .u64 a1, .int .u64 a2] w fun e w' => e = .returned (.bool true) ∧ Below w.heap.size w w' := by
  have b1 := u64_bd w1
  have b2 := u64_bd w2
  obtain ⟨b1l, b1u⟩ : 0 ≤ a1 ∧ a1 < 18446744073709551616 := by omega
  obtain ⟨b2l, b2u⟩ : 0 ≤ a2 ∧ a2 < 18446744073709551616 := by omega
  have HS : Hid (∀ w, Calls Try.prog 21 #[.int .i64 a0, .int .u64 a1, .int .u64 a2] w fun e w' => e = .returned (.tuple #[.int .u64 (aluV a0 a1 a2), .bool (aluB a0)]) ∧ Below w.heap.size w w') := specAlu_any a0 a1 a2 w0 b1l b1u b2l b2u
  have HI : Hid (∀ w, Calls Try.prog 22 #[.int .i64 a0, .int .u64 a1, .int .u64 a2] w fun e w' => e = .returned (.tuple #[.int .u64 (aluV a0 a1 a2), .bool (aluB a0)]) ∧ Below w.heap.size w w') := implAlu_any a0 a1 a2 w0 b1l b1u b2l b2u
  obtain ⟨x, hx⟩ : ∃ x, x = aluV a0 a1 a2 := ⟨_, rfl⟩
  obtain ⟨c, hc⟩ : ∃ c, c = aluB a0 := ⟨_, rfl⟩
  rw [← hx, ← hc] at HS HI
  have hd : (x != x) = false := by simp
  have hd2 : (c != c) = false := by simp
  clear hx hc b1 b2
  go_enter Try.func8, Try.ntmps8
  go_wp2_with fail
  refine (HS.out _).mono ?_
  rintro e w1 ⟨rfl, hb1⟩
  go_wp2_with fail
  refine (HI.out _).mono ?_
  rintro e w2 ⟨rfl, hb2⟩
  go_wp2_with fail
  go_ret
  exact ⟨rfl, below_trans hb1 hb2⟩

end Go.Proofs.Ytjkeiedjnefeaag.fnExactAlu
