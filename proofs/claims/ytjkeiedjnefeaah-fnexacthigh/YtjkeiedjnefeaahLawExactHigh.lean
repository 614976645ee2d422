/- The walk of laws.FnExactHigh: at every two words both answer alike. -/
import Derived.Test.YtjkeiedjnefeaahAluC
namespace Go.Proofs.Ytjkeiedjnefeaah.fnExactHigh
open Go.RowKit
set_option linter.unusedVariables false

set_option maxHeartbeats 400000 in
theorem walk (a0 a1 : Int) (w0 : (Lit.int .u64 a0).wf = true) (w1 : (Lit.int .u64 a1).wf = true) (w : World) :
    Calls Try.prog 5 #[.int .u64 a0, .int .u64 a1] w fun e w' => e = .returned (.bool true) ∧ Below w.heap.size w w' := by
  have b1 := u64_bd w0
  have b2 := u64_bd w1
  obtain ⟨b1l, b1u⟩ : 0 ≤ a0 ∧ a0 < 18446744073709551616 := by omega
  obtain ⟨b2l, b2u⟩ : 0 ≤ a1 ∧ a1 < 18446744073709551616 := by omega
  have HS : Hid (∀ w, Calls Try.prog 12 #[.int .u64 a0, .int .u64 a1] w fun e w' => e = .returned (.int .u64 (highV a0 a1)) ∧ w' = w) := specHigh_any a0 a1 b1l b1u b2l b2u
  have HI : Hid (∀ w, Calls Try.prog 13 #[.int .u64 a0, .int .u64 a1] w fun e w' => e = .returned (.int .u64 (highV a0 a1)) ∧ w' = w) := implHigh_any a0 a1 b1l b1u b2l b2u
  obtain ⟨x, hx⟩ : ∃ x, x = highV a0 a1 := ⟨_, rfl⟩
  rw [← hx] at HS HI
  have hd : (x != x) = false := by simp
  clear hx b1 b2
  go_enter Try.func5, Try.ntmps5
  go_wp2_with fail
  refine (HS.out _).mono ?_
  rintro e w1 ⟨rfl, hw1⟩
  subst hw1
  go_wp2_with fail
  refine (HI.out _).mono ?_
  rintro e w2 ⟨rfl, hw2⟩
  subst hw2
  go_wp2_with fail
  go_ret
  exact ⟨rfl, Below.refl _ _⟩

end Go.Proofs.Ytjkeiedjnefeaah.fnExactHigh
