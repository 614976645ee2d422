/- A quotient times the divisor, and what is left, are the number: in plain numbers. -/
import Derived.Test.YtjkeiedjnefeaaaRAluP
namespace Go.Proofs.YtjkeiedjnefeaaaR
open Go.RowKit
set_option linter.unusedVariables false

theorem modM (x y z : Int) : ((x % 18446744073709551616 * (y % 18446744073709551616)) % 18446744073709551616 + z % 18446744073709551616) % 18446744073709551616 = (x * y + z) % 18446744073709551616 := by
  rw [← Int.mul_emod, ← Int.add_emod]

theorem wrap64_mod (x : Int) : wrap64 x % 18446744073709551616 = x % 18446744073709551616 := by unfold wrap64; omega

theorem self_mod {a : Int} (a0 : 0 ≤ a) (a1 : a < 18446744073709551616) : wrap64 a % 18446744073709551616 = a := by unfold wrap64; omega

theorem div_back {a b : Int} (a0 : 0 ≤ a) (a1 : a < 18446744073709551616) (b0 : 0 ≤ b) (b1 : b < 18446744073709551616) : IntKind.u64.wrap (IntKind.u64.wrap (AF.div.v a b * b) + AF.rem.v a b) = a := by
  by_cases h : b = 0
  · simp only [AF.v, h, if_true, Int.mul_zero]
    rw [IntKind.wrap_u64, IntKind.wrap_u64]; omega
  · simp only [AF.v, if_neg h]
    have eb : b = wrap64 b % 18446744073709551616 := (self_mod b0 b1).symm
    have h1 : IntKind.u64.wrap (wrap64 ((wrap64 a).tdiv (wrap64 b))) = (wrap64 a).tdiv (wrap64 b) % 18446744073709551616 := by rw [IntKind.wrap_u64, wrap64_mod]
    have h2 : IntKind.u64.wrap ((wrap64 a).tmod (wrap64 b)) = (wrap64 a).tmod (wrap64 b) % 18446744073709551616 := IntKind.wrap_u64 _
    rw [h1, h2, IntKind.wrap_u64, IntKind.wrap_u64]
    have h3 := modM ((wrap64 a).tdiv (wrap64 b)) (wrap64 b) ((wrap64 a).tmod (wrap64 b))
    rw [← eb] at h3
    rw [h3, Int.mul_comm, Int.mul_tdiv_add_tmod]
    exact self_mod a0 a1

theorem divu_back {a b : Int} (a0 : 0 ≤ a) (a1 : a < 18446744073709551616) (b0 : 0 ≤ b) (b1 : b < 18446744073709551616) : IntKind.u64.wrap (IntKind.u64.wrap (AF.divu.v a b * b) + AF.remu.v a b) = a := by
  by_cases h : b = 0
  · simp only [AF.v, h, if_true, Int.mul_zero]
    rw [IntKind.wrap_u64, IntKind.wrap_u64]; omega
  · simp only [AF.v, if_neg h]
    have eb : b = b % 18446744073709551616 := by omega
    have hr : a.tmod b = a.tmod b % 18446744073709551616 := by
      have l := Int.tmod_nonneg b a0
      have u := Int.tmod_lt_of_pos a (show 0 < b by omega)
      omega
    have h1 : IntKind.u64.wrap (a.tdiv b) = a.tdiv b % 18446744073709551616 := IntKind.wrap_u64 _
    rw [h1, IntKind.wrap_u64, IntKind.wrap_u64]
    have h3 := modM (a.tdiv b) b (a.tmod b)
    rw [← eb, ← hr] at h3
    rw [h3, Int.mul_comm, Int.mul_tdiv_add_tmod]
    omega

theorem divw_back {a b : Int} (a0 : 0 ≤ a) (a1 : a < 18446744073709551616) (b0 : 0 ≤ b) (b1 : b < 18446744073709551616) :
    widen 32 (IntKind.u64.wrap (IntKind.u64.wrap (widen 32 (AF.div.v (widen 32 a) (widen 32 b)) * b) + widen 32 (AF.rem.v (widen 32 a) (widen 32 b)))) = widen 32 a := by
  refine widen32_mod ?_
  have h := div_back (widen32_bd a).1 (widen32_bd a).2 (widen32_bd b).1 (widen32_bd b).2
  have low : ∀ x, widen 32 x % 4294967296 = x % 4294967296 := by intro x; rw [widen32]; split <;> omega
  have hA := low a
  have hB := low b
  generalize AF.div.v (widen 32 a) (widen 32 b) = q at *
  generalize AF.rem.v (widen 32 a) (widen 32 b) = r at *
  have hq := low q
  have hr := low r
  have e1 : IntKind.u64.wrap (IntKind.u64.wrap (widen 32 q * b) + widen 32 r) % 4294967296 = (widen 32 q * b + widen 32 r) % 4294967296 := by
    rw [wrap_mod32, Int.add_emod, wrap_mod32, ← Int.add_emod]
  have e2 : IntKind.u64.wrap (IntKind.u64.wrap (q * widen 32 b) + r) % 4294967296 = (q * widen 32 b + r) % 4294967296 := by
    rw [wrap_mod32, Int.add_emod, wrap_mod32, ← Int.add_emod]
  rw [h] at e2
  have e3 : (widen 32 q * b + widen 32 r) % 4294967296 = (q * widen 32 b + r) % 4294967296 := by
    rw [Int.add_emod, Int.mul_emod, hq, hr, Int.add_emod (q * widen 32 b), Int.mul_emod q (widen 32 b), hB]
  rw [e1, e3, ← e2, hA]

theorem remu_lt {a b : Int} (a0 : 0 ≤ a) (b0 : 0 ≤ b) (h : ¬ b = 0) : AF.remu.v a b < b := by
  simp only [AF.v, if_neg h]
  exact Int.tmod_lt_of_pos a (by omega)

end Go.Proofs.YtjkeiedjnefeaaaR
