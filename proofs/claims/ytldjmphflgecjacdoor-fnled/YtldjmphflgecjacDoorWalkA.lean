/- What the model's walk wants. By tools/genWalkT.py. -/
import Derived.Test.YtldjmphflgecjacDoorWalkS
import Derived.Test.YtldjmphflgecjacDoorDecC
import Derived.Test.YtldjmphflgecjacDoorBitP
namespace Go.Proofs.YtldjmphflgecjacDoor
open Go.RowKit
set_option linter.unusedVariables false

def zeroF : Array Value := #[.int .u64 0, .int .i64 0, .bool false, .int .u64 0, .int .u64 0]

theorem hid_mk {p : Prop} (h : p) : Hid p := h

theorem wrapU (x : Int) : 0 ≤ IntKind.u64.wrap x ∧ IntKind.u64.wrap x < 18446744073709551616 := by
  rw [IntKind.wrap_u64]; exact ⟨Int.emod_nonneg _ (by omega), Int.emod_lt_of_pos _ (by omega)⟩

theorem bit_two (x : Int) (i : Nat) : bitAt x i = 0 ∨ bitAt x i = 1 := by
  have h : ∀ y : Int, bits .and .u64 y 1 = 0 ∨ bits .and .u64 y 1 = 1 := by
    intro y
    have e1 : ∀ i, i < 64 → ∀ (p o : Bool), ((if i = 0 then p else o) && bt 1 i) = bt (if p = true then 1 else 0) i := by decide +kernel
    have e : bits .and .u64 y 1 = if bt y 0 = true then 1 else 0 := by
      refine bt_ext _ _ (U_bits _ _ _) (by split <;> (constructor <;> decide)) fun i hi => ?_
      rw [bt_and, ← e1 i hi (bt y 0) (bt y i)]
      by_cases h0 : i = 0
      · subst h0; rfl
      · rw [if_neg h0]
    rw [e]; cases bt y 0
    · exact .inl rfl
    · exact .inr rfl
  exact h _

theorem w_zero {x : Int} (h : x = 0 ∨ x = 1) (e : (x == 1) = false) : (x == 0) = true := by
  rcases h with rfl | rfl
  · rfl
  · cases e

theorem okB_at {n : Nat} {x s : Int} (h : okB n x s = true) : 2147483648 ≤ x ∧ x - 2147483648 + s ≤ n := by
  unfold okB at h
  simp only [Bool.and_eq_true, decide_eq_true_eq] at h
  exact h.2

theorem fd_one (f : Fd) : f.cells.all (·.oneCell') = true := by simp [Fd.cells, Value.oneCell']

end Go.Proofs.YtldjmphflgecjacDoor
