/- Arithmetic of words, in plain numbers. -/
import Derived.Test.YtjkeiedjnefeaaaRDecP
import Derived.Lib.Mul64
namespace Go.Proofs.YtjkeiedjnefeaaaR
open Go.RowKit
set_option linter.unusedVariables false

/-- By how much a shift moves: of 64 bits, of 32. -/
def sh (b : Int) : Nat := (b % 64).toNat

def sh5 (b : Int) : Nat := (b % 32).toNat

theorem sh_eq (b : Int) : b % 64 = (sh b : Int) := by unfold sh; omega

theorem sh5_eq (b : Int) : b % 32 = (sh5 b : Int) := by unfold sh5; omega

theorem sh5_sh (b : Int) : sh (b % 32) = sh5 b := by unfold sh sh5; omega

theorem sh_lt (b : Int) : sh b < 64 := by unfold sh; omega

theorem sh5_lt (b : Int) : sh5 b < 32 := by unfold sh5; omega

/-- What an Op of 64 bits makes of two words. -/
inductive AF where | sum | slt | sltu | xor | or | and | sl | sr | sra | sub | mul | mulh | mulhsu | high | div | divu | rem | remu
deriving DecidableEq

def bitV (b : Bool) : Int := if b then 1 else 0

def highV (a b : Int) : Int := a * b / 18446744073709551616

def highSuV (a b : Int) : Int := if wrap64 a < 0 then IntKind.u64.wrap (highV a b - b) else highV a b

def highSV (a b : Int) : Int := if wrap64 b < 0 then IntKind.u64.wrap (highSuV a b - a) else highSuV a b

def AF.v : AF → Int → Int → Int
  | .sum, a, b => IntKind.u64.wrap (a + b)
  | .sub, a, b => IntKind.u64.wrap (a - b)
  | .xor, a, b => bits .xor .u64 a b
  | .or, a, b => bits .or .u64 a b
  | .and, a, b => bits .and .u64 a b
  | .sl, a, b => IntKind.u64.wrap (a * 2 ^ sh b)
  | .sr, a, b => a / 2 ^ sh b
  | .sra, a, b => IntKind.u64.wrap (wrap64 a / 2 ^ sh b)
  | .slt, a, b => bitV (decide (wrap64 a < wrap64 b))
  | .sltu, a, b => bitV (decide (a < b))
  | .mul, a, b => IntKind.u64.wrap (a * b)
  | .high, a, b => highV a b
  | .mulhsu, a, b => highSuV a b
  | .mulh, a, b => highSV a b
  | .div, a, b => if b = 0 then 18446744073709551615 else IntKind.u64.wrap (wrap64 ((wrap64 a).tdiv (wrap64 b)))
  | .rem, a, b => if b = 0 then a else IntKind.u64.wrap ((wrap64 a).tmod (wrap64 b))
  | .divu, a, b => if b = 0 then 18446744073709551615 else IntKind.u64.wrap (a.tdiv b)
  | .remu, a, b => if b = 0 then a else a.tmod b

theorem wrap64_zero {b : Int} (h0 : 0 ≤ b) (h1 : b < 18446744073709551616) : wrap64 b = 0 ↔ b = 0 := by unfold wrap64; omega

theorem wrap64_ones {b : Int} (h0 : 0 ≤ b) (h1 : b < 18446744073709551616) : wrap64 b = -1 ↔ b = 18446744073709551615 := by unfold wrap64; omega

theorem div_ones (a : Int) (h0 : 0 ≤ a) (h1 : a < 18446744073709551616) : IntKind.u64.wrap (wrap64 ((wrap64 a).tdiv (-1))) = IntKind.u64.wrap (-a) := by
  rw [Int.tdiv_neg, Int.tdiv_one, IntKind.wrap_u64, IntKind.wrap_u64]
  unfold wrap64
  omega

theorem rem_ones (a : Int) : IntKind.u64.wrap ((wrap64 a).tmod (-1)) = 0 := by
  rw [Int.tmod_neg, Int.tmod_one]; rfl

/-- The low 32 bits widened. -/
theorem widen32 (x : Int) : widen 32 x = if x % 4294967296 < 2147483648 then x % 4294967296 else x % 4294967296 + 18446744069414584320 := by
  have e : (2 : Int) ^ (64 - 32) = 4294967296 := by decide
  unfold widen
  rw [e, IntKind.wrap_u64, IntKind.wrap_u64]
  unfold wrap64
  split <;> omega

theorem widen32_mod {x y : Int} (h : x % 4294967296 = y % 4294967296) : widen 32 x = widen 32 y := by rw [widen32, widen32, h]

theorem widen32_bd (x : Int) : 0 ≤ widen 32 x ∧ widen 32 x < 18446744073709551616 := by rw [widen32]; split <;> omega

theorem widen32_sgn (x : Int) : -2147483648 ≤ wrap64 (widen 32 x) ∧ wrap64 (widen 32 x) < 2147483648 := by
  rw [widen32]
  unfold wrap64
  split <;> omega

theorem widen32_small (z : Int) (h0 : -2147483648 ≤ z) (h1 : z < 2147483648) : widen 32 (IntKind.u64.wrap z) = IntKind.u64.wrap z := by
  rw [widen32, IntKind.wrap_u64]
  split <;> omega

theorem mul_mod32 (a p : Int) : (a % 4294967296 * p) % 4294967296 = a * p % 4294967296 := by
  rw [Int.mul_emod, Int.emod_emod_of_dvd _ (Int.dvd_refl _), ← Int.mul_emod]

theorem wrap_mod32 (x : Int) : IntKind.u64.wrap x % 4294967296 = x % 4294967296 := by
  rw [IntKind.wrap_u64]; omega

theorem div_pow_bd (z : Int) (h0 : -2147483648 ≤ z) (h1 : z < 2147483648) (n : Nat) : -2147483648 ≤ z / 2 ^ n ∧ z / 2 ^ n < 2147483648 := by
  have hp : (0 : Int) < 2 ^ n := Int.pow_pos (by omega)
  constructor
  · refine (Int.le_ediv_iff_mul_le hp).mpr ?_
    have : (1 : Int) ≤ 2 ^ n := by omega
    have h2 : (2147483648 : Int) * 1 ≤ 2147483648 * 2 ^ n := Int.mul_le_mul_of_nonneg_left this (by omega)
    omega
  · refine Int.ediv_lt_of_lt_mul hp ?_
    have : (1 : Int) ≤ 2 ^ n := by omega
    have h2 : (2147483648 : Int) * 1 ≤ 2147483648 * 2 ^ n := Int.mul_le_mul_of_nonneg_left this (by omega)
    omega

/-- How an Op of 32 bits reads its arguments. -/
inductive SD where | low | sgn | five
deriving DecidableEq

def SD.v : SD → Int → Int
  | .low, x => x % 4294967296
  | .sgn, x => widen 32 x
  | .five, x => x % 32

theorem SD.bd (s : SD) (x : Int) (h0 : 0 ≤ x) : 0 ≤ s.v x ∧ s.v x < 18446744073709551616 := by
  cases s
  · simp only [SD.v]; omega
  · exact widen32_bd x
  · simp only [SD.v]; omega

/-- The rows of the arithmetic: of 64 bits, and of 32. -/
inductive AO where | d (f : AF) | w (f : AF) (l r : SD)
deriving DecidableEq

def aos : List AO := [
  .d .sum, .d .slt, .d .sltu, .d .xor, .d .or, .d .and, .d .sl, .d .sr, .d .sra,
  .w .sum .low .low, .w .sl .low .five, .w .sr .low .five, .w .sra .sgn .five,
  .d .sum, .d .sub, .d .sl, .d .slt, .d .sltu, .d .xor, .d .sr, .d .sra, .d .or, .d .and,
  .w .sum .low .low, .w .sub .low .low, .w .sl .low .five, .w .sr .low .five, .w .sra .sgn .five,
  .d .mul, .d .mulh, .d .mulhsu, .d .high, .d .div, .d .divu, .d .rem, .d .remu,
  .w .mul .low .low, .w .div .sgn .sgn, .w .divu .low .low, .w .rem .sgn .sgn, .w .remu .low .low]

def aoAt (k : Nat) : AO := aos.getD k (.d .sum)

def AO.v : AO → Int → Int → Int
  | .d f, a, b => f.v a b
  | .w f l r, a, b => widen 32 (f.v (l.v a) (r.v b))

def aluB (op : Int) : Bool := decide (22 ≤ op ∧ op ≤ 62)

def aluV (op a b : Int) : Int := if aluB op then (aoAt (op - 22).toNat).v a b else 0

/- The Ops of 32 bits, as the model reckons them. -/
theorem w_sum (a b : Int) : widen 32 (IntKind.u64.wrap (a + b)) = (AO.w .sum .low .low).v a b := by
  refine widen32_mod ?_
  simp only [AF.v, SD.v, wrap_mod32]
  omega

theorem w_sub (a b : Int) : widen 32 (IntKind.u64.wrap (a - b)) = (AO.w .sub .low .low).v a b := by
  refine widen32_mod ?_
  simp only [AF.v, SD.v, wrap_mod32]
  omega

theorem w_mul (a b : Int) : widen 32 (IntKind.u64.wrap (a * b)) = (AO.w .mul .low .low).v a b := by
  refine widen32_mod ?_
  simp only [AF.v, SD.v, wrap_mod32]
  rw [mul_mod32, Int.mul_comm a (b % _), mul_mod32, Int.mul_comm]

theorem w_sl (a b : Int) : widen 32 (IntKind.u64.wrap (a * 2 ^ sh5 b)) = (AO.w .sl .low .five).v a b := by
  refine widen32_mod ?_
  simp only [AF.v, SD.v, wrap_mod32, sh5_sh]
  rw [mul_mod32]

theorem w_sr (a b : Int) : widen 32 (a % 4294967296 / 2 ^ sh5 b) = (AO.w .sr .low .five).v a b := by
  simp only [AO.v, AF.v, SD.v, sh5_sh]

theorem w_sra (a b : Int) : IntKind.u64.wrap (wrap64 (widen 32 a) / 2 ^ sh5 b) = (AO.w .sra .sgn .five).v a b := by
  simp only [AO.v, AF.v, SD.v, sh5_sh]
  have h := widen32_sgn a
  have h2 := div_pow_bd _ h.1 h.2 (sh5 b)
  exact (widen32_small _ h2.1 h2.2).symm

/-- The high half of a product, as both reckon it out of halves. -/
theorem mask32 (a : Int) (h0 : 0 ≤ a) (h1 : a < 18446744073709551616) : bits .and .u64 a 4294967295 = a % 4294967296 := and_low a 32 h0 h1 (by omega)

theorem wrapS {x : Int} (h0 : 0 ≤ x) (h1 : x < 18446744073709551616) : IntKind.u64.wrap x = x := by rw [IntKind.wrap_u64]; omega

/-- The four products of halves, and the sums of them: none wraps. -/
theorem high_parts (a b : Int) (a0 : 0 ≤ a) (a1 : a < 18446744073709551616) (b0 : 0 ≤ b) (b1 : b < 18446744073709551616) :
    ∃ ll lh hl hh t u v : Int,
      IntKind.u64.wrap (a % 4294967296 * (b % 4294967296)) = ll ∧ IntKind.u64.wrap (a % 4294967296 * (b / 4294967296)) = lh ∧
      IntKind.u64.wrap (a / 4294967296 * (b % 4294967296)) = hl ∧ IntKind.u64.wrap (a / 4294967296 * (b / 4294967296)) = hh ∧
      IntKind.u64.wrap (hl + ll / 4294967296) = t ∧ bits .and .u64 t 4294967295 = t % 4294967296 ∧ IntKind.u64.wrap (t % 4294967296 + lh) = u ∧
      IntKind.u64.wrap (hh + t / 4294967296) = v ∧ IntKind.u64.wrap (v + u / 4294967296) = highV a b := by
  obtain ⟨A, rfl⟩ := Int.eq_ofNat_of_zero_le a0
  obtain ⟨B, rfl⟩ := Int.eq_ofNat_of_zero_le b0
  have hA : A < 18446744073709551616 := by omega
  have hB : B < 18446744073709551616 := by omega
  obtain ⟨bd, bt, bw, hhi⟩ := Lib.mul64_hi A B hA hB
  have ba := Lib.half_mul_le (a := A / 4294967296) (b := B / 4294967296) (by omega) (by omega)
  have bb := Lib.half_mul_le (a := A / 4294967296) (b := B % 4294967296) (by omega) (by omega)
  have bc := Lib.half_mul_le (a := A % 4294967296) (b := B / 4294967296) (by omega) (by omega)
  have e1 : ((A : Int) % 4294967296 * ((B : Int) % 4294967296)) = ((A % 4294967296 * (B % 4294967296) : Nat) : Int) := by simp
  have e2 : ((A : Int) % 4294967296 * ((B : Int) / 4294967296)) = ((A % 4294967296 * (B / 4294967296) : Nat) : Int) := by simp
  have e3 : ((A : Int) / 4294967296 * ((B : Int) % 4294967296)) = ((A / 4294967296 * (B % 4294967296) : Nat) : Int) := by simp
  have e4 : ((A : Int) / 4294967296 * ((B : Int) / 4294967296)) = ((A / 4294967296 * (B / 4294967296) : Nat) : Int) := by simp
  have e5 : highV A B = ((A * B / 18446744073709551616 : Nat) : Int) := by simp [highV]
  rw [e1, e2, e3, e4, e5, ← hhi]
  generalize A % 4294967296 * (B % 4294967296) = ll at *
  generalize A % 4294967296 * (B / 4294967296) = lh at *
  generalize A / 4294967296 * (B % 4294967296) = hl at *
  generalize A / 4294967296 * (B / 4294967296) = hh at *
  refine ⟨(ll : Int), (lh : Int), (hl : Int), (hh : Int), (hl : Int) + (ll : Int) / 4294967296, ((hl : Int) + (ll : Int) / 4294967296) % 4294967296 + (lh : Int), (hh : Int) + ((hl : Int) + (ll : Int) / 4294967296) / 4294967296,
    wrapS (by omega) (by omega), wrapS (by omega) (by omega), wrapS (by omega) (by omega), wrapS (by omega) (by omega), wrapS (by omega) (by omega), mask32 _ (by omega) (by omega), wrapS (by omega) (by omega), wrapS (by omega) (by omega), ?_⟩
  rw [wrapS (by omega) (by omega)]
  simp

end Go.Proofs.YtjkeiedjnefeaaaR
