/- The model's reading of a word against a row: l2Match, l2Imm. -/
import Derived.Test.YtjjpklalihaanaaDoorDecC
namespace Go.Proofs.YtjjpklalihaanaaDoor
open Go.RowKit
set_option linter.unusedVariables false

set_option maxHeartbeats 1600000 in
theorem l2Match_any (i : Nat) (hi : i < 98) (nm : ByteArray) (f : Fm) (o z m x : Int) (h0 : 0 ≤ x) (h1 : x < 4294967296) (hx : Hid (f = .x → 0 ≤ o ∧ o < 128 ∧ 0 ≤ m ∧ m < 4096)) (w : World) :
    Calls Tryd.prog 64 #[.int .i64 i, .agg #[.string nm, .string f.str, .int .u64 o, .int .i64 z, .int .u64 m], .int .u64 x] w fun e w' => e = .returned (.bool (decide (matchP i f o z m x))) ∧ Below w.heap.size w w' := by
  have A1 : bits .and .u64 x 127 = x % 128 := and_low x 7 h0 (by omega) (by decide)
  have A2 : bits .and .u64 (x / 4096) 7 = x / 4096 % 8 := and_low (x / 4096) 3 (by omega) (by omega) (by decide)
  have A3 : bits .and .u64 (x / 128) 31 = x / 128 % 32 := and_low (x / 128) 5 (by omega) (by omega) (by decide)
  have A4 : bits .and .u64 (x / 1048576) 31 = x / 1048576 % 32 := and_low (x / 1048576) 5 (by omega) (by omega) (by decide)
  cases f
  case x =>
    have H := hx.out rfl
    have A5 : IntKind.u64.wrap (m * 1048576) = m * 1048576 := by rw [IntKind.wrap_u64]; omega
    have A6 : bits .or .u64 (m * 1048576) o = m * 1048576 + o := by
      rw [u64_or _ _ (by omega) (by omega) (by omega) (by omega)]
      rw [nat_join 20 _ _ (by omega) (by omega)]; omega
    clear H
    simp only [Fm.str]
    go_enter Tryd.func64, Tryd.ntmps64
    go_wp2_with fail
    all_goals go_ret
    all_goals refine ⟨?_, (Below.refl _ _).alloc (Nat.le_refl _) _⟩
    all_goals (clear hx; go_tidy; show Ending.returned (Value.bool _) = Ending.returned (Value.bool _); congr 2; rw [Bool.eq_iff_iff, decide_eq_true_iff]; simp only [matchP, bne_iff_ne, beq_iff_eq, bne_eq_false_iff_eq, Bool.false_eq_true, ne_eq, false_iff] at *)
    all_goals omega
  all_goals (
    simp only [Fm.str]
    go_enter Tryd.func64, Tryd.ntmps64
    go_wp2_with fail
    all_goals go_ret
    all_goals refine ⟨?_, (Below.refl _ _).alloc (Nat.le_refl _) _⟩
    all_goals (clear hx; go_tidy; show Ending.returned (Value.bool _) = Ending.returned (Value.bool _); congr 2; rw [Bool.eq_iff_iff, decide_eq_true_iff]; simp only [matchP, bne_iff_ne, beq_iff_eq, bne_eq_false_iff_eq, Bool.false_eq_true, ne_eq, true_iff, false_iff, and_true] at *)
    all_goals omega)

end Go.Proofs.YtjjpklalihaanaaDoor
