/- Words bit by bit. -/
import Derived.Test.YtjjpklalihaanaaDoorDecP
namespace Go.Proofs.YtjjpklalihaanaaDoor
open Go.RowKit
set_option linter.unusedVariables false

/-- A number is a word. -/
def U (x : Int) : Prop := 0 ≤ x ∧ x < 18446744073709551616

/-- Bit i of a word. -/
def bt (x : Int) (i : Nat) : Bool := (BitVec.ofInt 64 x).getLsbD i

theorem U_wrap (x : Int) : U (IntKind.u64.wrap x) := by
  rw [IntKind.wrap_u64]; exact ⟨Int.emod_nonneg _ (by omega), Int.emod_lt_of_pos _ (by omega)⟩

theorem U_bits (o : BinOp) (x y : Int) : U (bits o .u64 x y) := U_wrap _

theorem ofInt_wrap (x : Int) : BitVec.ofInt 64 (IntKind.u64.wrap x) = BitVec.ofInt 64 x := by
  rw [IntKind.wrap_u64]
  apply BitVec.eq_of_toInt_eq
  rw [BitVec.toInt_ofInt, BitVec.toInt_ofInt]
  exact Int.emod_bmod x (2 ^ 64)

theorem ofInt_bv (v : BitVec 64) : BitVec.ofInt 64 (IntKind.u64.wrap (v.toNat : Int)) = v := by
  rw [ofInt_wrap]
  simp

theorem bt_and (x y : Int) (i : Nat) : bt (bits .and .u64 x y) i = (bt x i && bt y i) := by
  show (BitVec.ofInt 64 (IntKind.u64.wrap ((BitVec.ofInt 64 x &&& BitVec.ofInt 64 y).toNat : Int))).getLsbD i = _
  rw [ofInt_bv]; simp [bt]

theorem bt_or (x y : Int) (i : Nat) : bt (bits .or .u64 x y) i = (bt x i || bt y i) := by
  show (BitVec.ofInt 64 (IntKind.u64.wrap ((BitVec.ofInt 64 x ||| BitVec.ofInt 64 y).toNat : Int))).getLsbD i = _
  rw [ofInt_bv]; simp [bt]

theorem bt_andNot (x y : Int) (i : Nat) (hi : i < 64) : bt (bits .andNot .u64 x y) i = (bt x i && !bt y i) := by
  show (BitVec.ofInt 64 (IntKind.u64.wrap ((BitVec.ofInt 64 x &&& ~~~BitVec.ofInt 64 y).toNat : Int))).getLsbD i = _
  rw [ofInt_bv]; simp [bt, hi]

theorem bt_nat (x : Int) (h : U x) (i : Nat) : bt x i = x.toNat.testBit i := by
  obtain ⟨h0, h1⟩ := h
  obtain ⟨n, rfl⟩ := Int.eq_ofNat_of_zero_le h0
  have hn : n < 2 ^ 64 := by omega
  unfold bt
  rw [← BitVec.testBit_toNat, ofInt_u64 n (by omega), Int.toNat_natCast]

theorem bt_ext (x y : Int) (hx : U x) (hy : U y) (h : ∀ i, i < 64 → bt x i = bt y i) : x = y := by
  have e : BitVec.ofInt 64 x = BitVec.ofInt 64 y := BitVec.eq_of_getLsbD_eq (fun i hi => h i hi)
  have e2 := congrArg BitVec.toNat e
  obtain ⟨h0, h1⟩ := hx
  obtain ⟨h2, h3⟩ := hy
  obtain ⟨n, rfl⟩ := Int.eq_ofNat_of_zero_le h0
  obtain ⟨m, rfl⟩ := Int.eq_ofNat_of_zero_le h2
  rw [ofInt_u64 n (by omega), ofInt_u64 m (by omega)] at e2
  rw [e2]

theorem U_div (x : Int) (h : U x) (k : Nat) : U (x / 2 ^ k) := by
  have hk : (0 : Int) < 2 ^ k := Int.pow_pos (by omega)
  exact ⟨Int.ediv_nonneg h.1 (by omega), Int.lt_of_le_of_lt (Int.ediv_le_self _ h.1) h.2⟩

theorem toNat_div (x : Int) (h : 0 ≤ x) (k : Nat) : (x / 2 ^ k).toNat = x.toNat / 2 ^ k := by
  obtain ⟨n, rfl⟩ := Int.eq_ofNat_of_zero_le h
  have : ((n : Int) / 2 ^ k) = ((n / 2 ^ k : Nat) : Int) := by simp
  rw [this, Int.toNat_natCast, Int.toNat_natCast]

theorem bt_div (x : Int) (h : U x) (k i : Nat) : bt (x / 2 ^ k) i = bt x (i + k) := by
  rw [bt_nat _ (U_div x h k), bt_nat _ h, toNat_div _ h.1, Nat.testBit_div_two_pow]

theorem bt_high (x : Int) (i : Nat) (hi : 64 ≤ i) : bt x i = false := by
  unfold bt
  exact BitVec.getLsbD_of_ge _ _ hi

theorem U_fld (x : Int) (k n : Nat) (hn : n < 64) : U (fld x k n) := by
  have := fld_bd x k n
  have h2 := pow_le n 63 (by omega)
  have e63 : (2 : Int) ^ 63 = 9223372036854775808 := by decide
  exact ⟨this.1, by omega⟩

theorem bt_fld (x : Int) (h : U x) (k n i : Nat) (hn : n < 64) : bt (fld x k n) i = (decide (i < n) && bt x (i + k)) := by
  rw [bt_nat _ (U_fld x k n hn), ← bt_div x h, bt_nat _ (U_div x h k)]
  unfold fld
  have hd := (U_div x h k).1
  obtain ⟨m, hm⟩ := Int.eq_ofNat_of_zero_le hd
  rw [hm]
  have : ((m : Int) % 2 ^ n) = ((m % 2 ^ n : Nat) : Int) := by simp
  rw [this, Int.toNat_natCast, Int.toNat_natCast, Nat.testBit_mod_two_pow]

theorem bt_shl (y : Int) (h : U y) (k i : Nat) : bt (IntKind.u64.wrap (y * 2 ^ k)) i = (decide (k ≤ i) && decide (i < 64) && bt y (i - k)) := by
  rw [bt_nat _ (U_wrap _), bt_nat _ h]
  obtain ⟨n, rfl⟩ := Int.eq_ofNat_of_zero_le h.1
  rw [IntKind.wrap_u64]
  have e : ((n : Int) * 2 ^ k) % 18446744073709551616 = ((n * 2 ^ k % 2 ^ 64 : Nat) : Int) := by simp
  rw [e, Int.toNat_natCast, Int.toNat_natCast, Nat.testBit_mod_two_pow, Nat.testBit_mul_two_pow]
  cases decide (i < 64) <;> cases decide (k ≤ i) <;> simp

end Go.Proofs.YtjjpklalihaanaaDoor
