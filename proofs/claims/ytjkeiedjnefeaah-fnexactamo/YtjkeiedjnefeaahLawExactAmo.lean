/- The walk of laws.FnExactAmo: at every Op and every two words both answer alike. -/
import Derived.Test.YtjkeiedjnefeaahAmoC
namespace Go.Proofs.Ytjkeiedjnefeaah.fnExactAmo
open Go.RowKit
set_option linter.unusedVariables false

set_option maxHeartbeats 400000 in
theorem walk (a0 a1 a2 : Int) (w0 : (Lit.int .i64 a0).wf = true) (w1 : (Lit.int .u64 a1).wf = true) (w2 : (Lit.int .u64 a2).wf = true) (w : World) :
    Calls Try.prog 4 #[.int .i64 a0, .int .u64 a1, .int .u64 a2] w fun e w' => e = .returned (.bool true) ∧ Below w.heap.size w w' := by
  have b1 := u64_bd w1
  have b2 := u64_bd w2
  obtain ⟨b1l, b1u⟩ : 0 ≤ a1 ∧ a1 < 18446744073709551616 := by omega
  obtain ⟨b2l, b2u⟩ : 0 ≤ a2 ∧ a2 < 18446744073709551616 := by omega
  have HS : Hid (∀ w, Calls Try.prog 10 #[.int .i64 a0, .int .u64 a1, .int .u64 a2] w fun e w' => e = .returned (.tuple #[.int .u64 (amoV a0 a1 a2), .bool (amoB a0)]) ∧ w' = w) := specAmo_any a0 a1 a2 b1l b1u b2l b2u
  have HI : Hid (∀ w, Calls Try.prog 11 #[.int .i64 a0, .int .u64 a1, .int .u64 a2] w fun e w' => e = .returned (.tuple #[.int .u64 (amoV a0 a1 a2), .bool (amoB a0)]) ∧ Below w.heap.size w w') := implAmo_any a0 a1 a2 w0 b1l b1u b2l b2u
  obtain ⟨x, hx⟩ : ∃ x, x = amoV a0 a1 a2 := ⟨_, rfl⟩
  obtain ⟨c, hc⟩ : ∃ c, c = amoB a0 := ⟨_, rfl⟩
  rw [← hx, ← hc] at HS HI
  have hd : (x != x) = false := by simp
  have hd2 : (c != c) = false := by simp
  clear hx hc b1 b2
  go_enter Try.func4, Try.ntmps4
  go_wp2_with fail
  refine (HS.out _).mono ?_
  rintro e w1 ⟨rfl, hw1⟩
  subst hw1
  go_wp2_with fail
  refine (HI.out _).mono ?_
  rintro e w2 ⟨rfl, hb2⟩
  go_wp2_with fail
  go_ret
  exact ⟨rfl, hb2⟩

end Go.Proofs.Ytjkeiedjnefeaah.fnExactAmo
