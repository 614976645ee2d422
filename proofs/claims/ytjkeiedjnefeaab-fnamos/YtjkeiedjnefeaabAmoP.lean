/- Atomic sums, in plain numbers. -/
import Derived.Test.YtjkeiedjnefeaabAluP
import Derived.Laws.BitsAllLaws
namespace Go.Proofs.Ytjkeiedjnefeaab
open Go.RowKit
set_option linter.unusedVariables false

inductive MF where | second | sum | xor | and | or | smin | smax | umin | umax
deriving DecidableEq

def MF.v : MF → Int → Int → Int
  | .second, a, b => b
  | .sum, a, b => IntKind.u64.wrap (a + b)
  | .xor, a, b => bits .xor .u64 a b
  | .and, a, b => bits .and .u64 a b
  | .or, a, b => bits .or .u64 a b
  | .smin, a, b => if wrap64 b < wrap64 a then b else a
  | .smax, a, b => if wrap64 a < wrap64 b then b else a
  | .umin, a, b => if b < a then b else a
  | .umax, a, b => if a < b then b else a

def mfs : List MF := [.second, .sum, .xor, .and, .or, .smin, .smax, .umin, .umax]

def mfAt (k : Nat) : MF := mfs.getD k .second

def amoB (op : Int) : Bool := decide (65 ≤ op ∧ op ≤ 73) || decide (76 ≤ op ∧ op ≤ 84)

/-- What an atomic sum stores. -/
def amoV (op a b : Int) : Int :=
  if 76 ≤ op ∧ op ≤ 84 then (mfAt (op - 76).toNat).v a b
  else if 65 ≤ op ∧ op ≤ 73 then (mfAt (op - 65).toNat).v (widen 32 a) (widen 32 b) % 4294967296 else 0

theorem u64_back {a : Int} (a0 : 0 ≤ a) (a1 : a < 18446744073709551616) : IntKind.u64.wrap (wrap64 a) = a := by
  rw [IntKind.wrap_u64]; unfold wrap64; omega

theorem wrap64_inj {a b : Int} (a0 : 0 ≤ a) (a1 : a < 18446744073709551616) (b0 : 0 ≤ b) (b1 : b < 18446744073709551616) (h : wrap64 a = wrap64 b) : a = b := by
  unfold wrap64 at h; omega

theorem widen64_id {u : Int} (h0 : 0 ≤ u) (h1 : u < 18446744073709551616) : widen 64 u = u := by
  have e : (2 : Int) ^ (64 - 64) = 1 := by decide
  unfold widen
  rw [e, IntKind.wrap_u64, IntKind.wrap_u64]
  unfold wrap64
  omega

theorem and_all {u : Int} (h0 : 0 ≤ u) (h1 : u < 18446744073709551616) : bits .and .u64 u 18446744073709551615 = u := by
  obtain ⟨n, rfl⟩ := Int.eq_ofNat_of_zero_le h0
  have h := u64_and_nat n 18446744073709551615 (by omega) (by omega)
  have e : n &&& 18446744073709551615 = n % 18446744073709551616 := Nat.and_two_pow_sub_one_eq_mod n 64
  rw [e] at h
  refine Eq.trans h ?_
  omega

theorem widen32_low (x : Int) : widen 32 x % 4294967296 = x % 4294967296 := by rw [widen32]; split <;> omega

theorem widen32_of_low (x : Int) : widen 32 (x % 4294967296) = widen 32 x := widen32_mod (by omega)

/-- Bit by bit, the low half of the whole is the whole of the low halves. -/
theorem low_xor {a b : Int} (a0 : 0 ≤ a) (a1 : a < 18446744073709551616) (b0 : 0 ≤ b) (b1 : b < 18446744073709551616) : bits .xor .u64 a b % 4294967296 = bits .xor .u64 (a % 4294967296) (b % 4294967296) := by
  obtain ⟨n, rfl⟩ := Int.eq_ofNat_of_zero_le a0
  obtain ⟨m, rfl⟩ := Int.eq_ofNat_of_zero_le b0
  have h := u64_xor_nat n m (by omega) (by omega)
  have h2 := u64_xor_nat (n % 4294967296) (m % 4294967296) (by omega) (by omega)
  have e := @Nat.xor_mod_two_pow n m 32
  have e1 : ((n : Int) % 4294967296) = ((n % 4294967296 : Nat) : Int) := by omega
  have e2 : ((m : Int) % 4294967296) = ((m % 4294967296 : Nat) : Int) := by omega
  rw [h, e1, e2, h2]
  have e3 : (n ^^^ m) % 4294967296 = n % 4294967296 ^^^ m % 4294967296 := e
  rw [← e3]; omega

theorem low_and {a b : Int} (a0 : 0 ≤ a) (a1 : a < 18446744073709551616) (b0 : 0 ≤ b) (b1 : b < 18446744073709551616) : bits .and .u64 a b % 4294967296 = bits .and .u64 (a % 4294967296) (b % 4294967296) := by
  obtain ⟨n, rfl⟩ := Int.eq_ofNat_of_zero_le a0
  obtain ⟨m, rfl⟩ := Int.eq_ofNat_of_zero_le b0
  have h := u64_and_nat n m (by omega) (by omega)
  have h2 := u64_and_nat (n % 4294967296) (m % 4294967296) (by omega) (by omega)
  have e := @Nat.and_mod_two_pow n m 32
  have e1 : ((n : Int) % 4294967296) = ((n % 4294967296 : Nat) : Int) := by omega
  have e2 : ((m : Int) % 4294967296) = ((m % 4294967296 : Nat) : Int) := by omega
  rw [h, e1, e2, h2]
  have e3 : (n &&& m) % 4294967296 = n % 4294967296 &&& m % 4294967296 := e
  rw [← e3]; omega

theorem low_or {a b : Int} (a0 : 0 ≤ a) (a1 : a < 18446744073709551616) (b0 : 0 ≤ b) (b1 : b < 18446744073709551616) : bits .or .u64 a b % 4294967296 = bits .or .u64 (a % 4294967296) (b % 4294967296) := by
  obtain ⟨n, rfl⟩ := Int.eq_ofNat_of_zero_le a0
  obtain ⟨m, rfl⟩ := Int.eq_ofNat_of_zero_le b0
  have h := u64_or_nat n m (by omega) (by omega)
  have h2 := u64_or_nat (n % 4294967296) (m % 4294967296) (by omega) (by omega)
  have e := @Nat.or_mod_two_pow n m 32
  have e1 : ((n : Int) % 4294967296) = ((n % 4294967296 : Nat) : Int) := by omega
  have e2 : ((m : Int) % 4294967296) = ((m % 4294967296 : Nat) : Int) := by omega
  rw [h, e1, e2, h2]
  have e3 : (n ||| m) % 4294967296 = n % 4294967296 ||| m % 4294967296 := e
  rw [← e3]; omega

/-- The words of a number and of its low half, widened, lie to each other as the low halves do. -/
theorem widen32_lt (a b : Int) : widen 32 a < widen 32 b ↔ a % 4294967296 < b % 4294967296 := by
  rw [widen32, widen32]; split <;> split <;> omega

theorem amo_wide {k : Nat} (hk : k < 9) (a b : Int) : amoV ((k : Int) + 76) a b = (mfAt k).v a b := by
  have e : ((k : Int) + 76 - 76).toNat = k := by omega
  simp only [amoV, e]
  rw [if_pos (by omega)]

theorem amo_low {k : Nat} (hk : k < 9) (a b : Int) : amoV ((k : Int) + 65) a b = (mfAt k).v (widen 32 a) (widen 32 b) % 4294967296 := by
  have e : ((k : Int) + 65 - 65).toNat = k := by omega
  simp only [amoV, e]
  rw [if_neg (by omega), if_pos (by omega)]

/-- The same, as the model reckons it: of the low halves. -/
theorem low_second (a b : Int) : MF.second.v (widen 32 a) (widen 32 b) % 4294967296 = b % 4294967296 := widen32_low b

theorem low_sum (a b : Int) : MF.sum.v (widen 32 a) (widen 32 b) % 4294967296 = IntKind.u64.wrap (a % 4294967296 + b % 4294967296) % 4294967296 := by
  have h1 := widen32_low a
  have h2 := widen32_low b
  simp only [MF.v, wrap_mod32]
  omega

theorem low_xorV (a b : Int) : MF.xor.v (widen 32 a) (widen 32 b) % 4294967296 = bits .xor .u64 (a % 4294967296) (b % 4294967296) := by
  have h := low_xor (widen32_bd a).1 (widen32_bd a).2 (widen32_bd b).1 (widen32_bd b).2
  rw [widen32_low, widen32_low] at h
  exact h

theorem low_andV (a b : Int) : MF.and.v (widen 32 a) (widen 32 b) % 4294967296 = bits .and .u64 (a % 4294967296) (b % 4294967296) := by
  have h := low_and (widen32_bd a).1 (widen32_bd a).2 (widen32_bd b).1 (widen32_bd b).2
  rw [widen32_low, widen32_low] at h
  exact h

theorem low_orV (a b : Int) : MF.or.v (widen 32 a) (widen 32 b) % 4294967296 = bits .or .u64 (a % 4294967296) (b % 4294967296) := by
  have h := low_or (widen32_bd a).1 (widen32_bd a).2 (widen32_bd b).1 (widen32_bd b).2
  rw [widen32_low, widen32_low] at h
  exact h

theorem low_pick (a b : Int) (c : Prop) [Decidable c] : (if c then widen 32 b else widen 32 a) % 4294967296 = if c then b % 4294967296 else a % 4294967296 := by
  split <;> exact widen32_low _

theorem s_eq {a b : Int} (h1 : ¬ wrap64 (widen 32 a) < wrap64 (widen 32 b)) (h2 : ¬ wrap64 (widen 32 b) < wrap64 (widen 32 a)) : a % 4294967296 = b % 4294967296 := by
  have e := wrap64_inj (widen32_bd a).1 (widen32_bd a).2 (widen32_bd b).1 (widen32_bd b).2 (by omega)
  have e1 := widen32_low a
  have e2 := widen32_low b
  rw [e] at e1; omega

theorem MF.pos (f : MF) {a b : Int} (a0 : 0 ≤ a) (a1 : a < 18446744073709551616) (b0 : 0 ≤ b) (b1 : b < 18446744073709551616) : 0 ≤ f.v a b := by
  cases f with
  | second => exact b0
  | sum => simp only [MF.v]; rw [IntKind.wrap_u64]; omega
  | xor =>
    obtain ⟨n, rfl⟩ := Int.eq_ofNat_of_zero_le a0
    obtain ⟨m, rfl⟩ := Int.eq_ofNat_of_zero_le b0
    simp only [MF.v]; rw [u64_xor_nat n m (by omega) (by omega)]; omega
  | and =>
    obtain ⟨n, rfl⟩ := Int.eq_ofNat_of_zero_le a0
    obtain ⟨m, rfl⟩ := Int.eq_ofNat_of_zero_le b0
    simp only [MF.v]; rw [u64_and_nat n m (by omega) (by omega)]; omega
  | or =>
    obtain ⟨n, rfl⟩ := Int.eq_ofNat_of_zero_le a0
    obtain ⟨m, rfl⟩ := Int.eq_ofNat_of_zero_le b0
    simp only [MF.v]; rw [u64_or_nat n m (by omega) (by omega)]; omega
  | smin => simp only [MF.v]; split <;> assumption
  | smax => simp only [MF.v]; split <;> assumption
  | umin => simp only [MF.v]; split <;> assumption
  | umax => simp only [MF.v]; split <;> assumption

theorem amo_none {op : Int} (h : amoB op = false) (a b : Int) : amoV op a b = 0 := by
  have h2 : ¬ (65 ≤ op ∧ op ≤ 73) ∧ ¬ (76 ≤ op ∧ op ≤ 84) := by simpa [amoB] using h
  simp only [amoV]
  rw [if_neg h2.2, if_neg h2.1]

theorem amo_cases {op : Int} (h : amoB op = true) : ∃ k : Nat, k < 9 ∧ (op = (k : Int) + 76 ∨ op = (k : Int) + 65) := by
  have h2 : (65 ≤ op ∧ op ≤ 73) ∨ (76 ≤ op ∧ op ≤ 84) := by simpa [amoB] using h
  rcases h2 with h2 | h2
  · exact ⟨(op - 65).toNat, by omega, Or.inr (by omega)⟩
  · exact ⟨(op - 76).toNat, by omega, Or.inl (by omega)⟩

/- The nine, as the model picks: of words, and of low halves. -/
theorem smin_eq {a b : Int} (a0 : 0 ≤ a) (a1 : a < 18446744073709551616) (b0 : 0 ≤ b) (b1 : b < 18446744073709551616) : MF.smin.v a b = if wrap64 a < wrap64 b then a else b := by
  simp only [MF.v]
  split <;> split
  · omega
  · rfl
  · rfl
  · exact wrap64_inj a0 a1 b0 b1 (by omega)

theorem umin_eq (a b : Int) : MF.umin.v a b = if a < b then a else b := by
  simp only [MF.v]
  split <;> split <;> omega

theorem low_smin (a b : Int) : MF.smin.v (widen 32 a) (widen 32 b) % 4294967296 = if wrap64 (widen 32 a) < wrap64 (widen 32 b) then a % 4294967296 else b % 4294967296 := by
  rw [smin_eq (widen32_bd a).1 (widen32_bd a).2 (widen32_bd b).1 (widen32_bd b).2]
  exact low_pick b a _

theorem low_smax (a b : Int) : MF.smax.v (widen 32 a) (widen 32 b) % 4294967296 = if wrap64 (widen 32 a) < wrap64 (widen 32 b) then b % 4294967296 else a % 4294967296 := low_pick a b _

theorem low_umin (a b : Int) : MF.umin.v (widen 32 a) (widen 32 b) % 4294967296 = if a % 4294967296 < b % 4294967296 then a % 4294967296 else b % 4294967296 := by
  rw [umin_eq, low_pick b a]
  simp only [widen32_lt]

theorem low_umax (a b : Int) : MF.umax.v (widen 32 a) (widen 32 b) % 4294967296 = if a % 4294967296 < b % 4294967296 then b % 4294967296 else a % 4294967296 := by
  rw [show MF.umax.v (widen 32 a) (widen 32 b) = if widen 32 a < widen 32 b then widen 32 b else widen 32 a from rfl, low_pick a b]
  simp only [widen32_lt]

end Go.Proofs.Ytjkeiedjnefeaab
