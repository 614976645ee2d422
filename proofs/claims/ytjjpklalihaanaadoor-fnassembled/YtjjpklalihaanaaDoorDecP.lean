/- Plain arithmetic of words and instructions: forms' fields, masks, what a word says. -/
import Derived.Test.YtjjpklalihaanaaDoorNameC
import Derived.Laws.BitsAllLaws
namespace Go.Proofs.YtjjpklalihaanaaDoor
set_option linter.unusedVariables false

/-- The bits that every row of a form settles, and where 'more' begins. -/
def Fm.mask : Fm → Int
  | .r => 4261441663 | .w => 4261441663 | .h => 4227887231 | .a => 4160778367 | .x => 4294967295 | .u => 127 | .j => 127 | .i => 28799 | .s => 28799 | .b => 28799 | .c => 28799

def Fm.at : Fm → Nat
  | .r => 25 | .w => 25 | .h => 26 | .a => 27 | .x => 20 | .u => 0 | .j => 0 | .i => 0 | .s => 0 | .b => 0 | .c => 0

def Fm.hasRd : Fm → Bool
  | .r => true | .i => true | .h => true | .w => true | .s => false | .b => false | .u => true | .j => true | .a => true | .c => true | .x => false

def Fm.hasA : Fm → Bool
  | .r => true | .i => true | .h => true | .w => true | .s => true | .b => true | .u => false | .j => false | .a => true | .c => true | .x => false

def Fm.hasB : Fm → Bool
  | .r => true | .i => false | .h => false | .w => false | .s => true | .b => true | .u => false | .j => false | .a => true | .c => false | .x => false

/-- The pieces of Imm: from which bit of the word, how many, to which bit. -/
def Fm.pcs : Fm → List (Nat × Nat × Nat)
  | .r => [] | .i => [(20, 12, 0)] | .h => [(20, 6, 0)] | .w => [(20, 5, 0)] | .s => [(25, 7, 5), (7, 5, 0)] | .b => [(31, 1, 12), (7, 1, 11), (25, 6, 5), (8, 4, 1)]
  | .u => [(12, 20, 12)] | .j => [(31, 1, 20), (12, 8, 12), (20, 1, 11), (21, 10, 1)] | .a => [(25, 2, 0)] | .c => [(20, 12, 0)] | .x => []

def Fm.width : Fm → Nat
  | .r => 64 | .i => 12 | .h => 64 | .w => 64 | .s => 12 | .b => 13 | .u => 32 | .j => 21 | .a => 64 | .c => 64 | .x => 64

/-- An instruction. -/
structure Ins where
  op : Int
  rd : Int
  a : Int
  b : Int
  imm : Int
deriving DecidableEq

def Ins.val (i : Ins) : Value := .agg #[.int .i64 i.op, .int .i64 i.rd, .int .i64 i.a, .int .i64 i.b, .int .i64 i.imm]

/-- n bits of a word from bit k on. -/
def fld (x : Int) (k n : Nat) : Int := x / 2 ^ k % 2 ^ n

theorem fld_bd (x : Int) (k n : Nat) : 0 ≤ fld x k n ∧ fld x k n < 2 ^ n := by
  have hp : (0 : Int) < 2 ^ n := Int.pow_pos (by omega)
  exact ⟨Int.emod_nonneg _ (by omega), Int.emod_lt_of_pos _ hp⟩

theorem pow_le (m n : Nat) (h : m ≤ n) : (2 : Int) ^ m ≤ 2 ^ n := by
  obtain ⟨d, rfl⟩ := Nat.exists_eq_add_of_le h
  rw [Int.pow_add]
  have h1 : (0 : Int) < 2 ^ m := Int.pow_pos (by omega)
  have h2 : (0 : Int) < 2 ^ d := Int.pow_pos (by omega)
  have h3 : (2 : Int) ^ m * 1 ≤ 2 ^ m * 2 ^ d := Int.mul_le_mul_of_nonneg_left (by omega) (by omega)
  omega

/-- What bitsAt reckons. -/
theorem bitsAt_eq (x : Int) (k n : Nat) (h0 : 0 ≤ x) (h1 : x < 18446744073709551616) (hn : n < 64) :
    bits .and .u64 (x / 2 ^ k) (IntKind.u64.wrap (IntKind.u64.wrap (2 ^ n) - 1)) = fld x k n := by
  have hp : (0 : Int) < 2 ^ n := Int.pow_pos (by omega)
  have hk : (0 : Int) < 2 ^ k := Int.pow_pos (by omega)
  have hb : (2 : Int) ^ n ≤ 2 ^ 63 := pow_le n 63 (by omega)
  have e63 : (2 : Int) ^ 63 = 9223372036854775808 := by decide
  have e1 : IntKind.u64.wrap (2 ^ n) = 2 ^ n := by rw [IntKind.wrap_u64]; omega
  have e2 : IntKind.u64.wrap (2 ^ n - 1) = 2 ^ n - 1 := by rw [IntKind.wrap_u64]; omega
  have d0 : 0 ≤ x / 2 ^ k := Int.ediv_nonneg h0 (by omega)
  have d1 : x / 2 ^ k ≤ x := Int.ediv_le_self _ h0
  rw [e1, e2, u64_and _ _ d0 (by omega) (by omega) (by omega)]
  have e3 : (2 ^ n - 1 : Int).toNat = 2 ^ n - 1 := by
    have : (2 : Int) ^ n = ((2 ^ n : Nat) : Int) := by simp
    rw [this]; omega
  rw [e3, Nat.and_two_pow_sub_one_eq_mod]
  unfold fld
  have e4 : ((x / 2 ^ k).toNat : Int) = x / 2 ^ k := Int.toNat_of_nonneg d0
  rw [Int.natCast_emod, e4]
  simp

/-- Masks as remainders. -/
theorem and_split (n m k : Nat) : n &&& m = 2 ^ k * (n / 2 ^ k &&& m / 2 ^ k) + (n % 2 ^ k &&& m % 2 ^ k) := by
  rw [← Nat.and_div_two_pow, ← Nat.and_mod_two_pow]
  exact (Nat.div_add_mod _ _).symm

theorem and_ones (n k : Nat) : n &&& (2 ^ k - 1) = n % 2 ^ k := Nat.and_two_pow_sub_one_eq_mod n k

/-- Bits laid where none are. -/
theorem or_field (a x k m : Nat) (h : a / 2 ^ k % 2 ^ m = 0) (hx : x < 2 ^ m) : a ||| x * 2 ^ k = a + x * 2 ^ k := by
  have hk : 0 < 2 ^ k := Nat.two_pow_pos k
  have hm : 0 < 2 ^ m := Nat.two_pow_pos m
  have e1 : a = a / 2 ^ k / 2 ^ m * 2 ^ (k + m) + a % 2 ^ k := by
    have h1 := Nat.div_add_mod a (2 ^ k)
    have h2 := Nat.div_add_mod (a / 2 ^ k) (2 ^ m)
    rw [h, Nat.add_zero] at h2
    rw [← h2] at h1
    rw [Nat.pow_add, ← Nat.mul_assoc, Nat.mul_right_comm, Nat.mul_comm _ (2 ^ k), Nat.mul_comm _ (2 ^ m)] 
    omega
  have hlo : a % 2 ^ k < 2 ^ k := Nat.mod_lt _ hk
  have j1 : a / 2 ^ k / 2 ^ m * 2 ^ (k + m) ||| a % 2 ^ k = a / 2 ^ k / 2 ^ m * 2 ^ (k + m) + a % 2 ^ k := by
    refine nat_join k _ _ ?_ hlo
    rw [Nat.pow_add, Nat.mul_comm (2 ^ k), ← Nat.mul_assoc]; exact Nat.mul_mod_left _ _
  have j2 : x * 2 ^ k ||| a % 2 ^ k = x * 2 ^ k + a % 2 ^ k := nat_join k _ _ (Nat.mul_mod_left _ _) hlo
  have hsm : x * 2 ^ k + a % 2 ^ k < 2 ^ (k + m) := by
    rw [Nat.pow_add, Nat.mul_comm (2 ^ k)]
    have : (x + 1) * 2 ^ k ≤ 2 ^ m * 2 ^ k := Nat.mul_le_mul_right _ hx
    rw [Nat.add_mul] at this
    omega
  have j3 : a / 2 ^ k / 2 ^ m * 2 ^ (k + m) ||| (x * 2 ^ k + a % 2 ^ k) = a / 2 ^ k / 2 ^ m * 2 ^ (k + m) + (x * 2 ^ k + a % 2 ^ k) := nat_join (k + m) _ _ (Nat.mul_mod_left _ _) hsm
  have e2 : a ||| x * 2 ^ k = a / 2 ^ k / 2 ^ m * 2 ^ (k + m) ||| (x * 2 ^ k ||| a % 2 ^ k) := by
    conv => lhs; rw [e1, ← j1]
    rw [Nat.or_assoc, Nat.or_comm (a % 2 ^ k)]
  rw [e2, j2, j3]
  omega

/-- A word has the row's look. -/
def matchP (i : Nat) (f : Fm) (o z m x : Int) : Prop := x % 128 = o ∧ (0 ≤ z → x / 4096 % 8 = z) ∧
  (match f with
  | .r => x / 33554432 = m ∧ (i = 97 → x / 128 % 32 = 0)
  | .h => x / 67108864 = m
  | .w => x / 33554432 = m
  | .a => x / 134217728 = m ∧ (i = 62 ∨ i = 73 → x / 1048576 % 32 = 0)
  | .x => x = m * 1048576 + o
  | _ => True)

instance (i : Nat) (f : Fm) (o z m x : Int) : Decidable (matchP i f o z m x) := by
  unfold matchP; cases f <;> infer_instance

theorem and_low (x : Int) (k : Nat) (h0 : 0 ≤ x) (h1 : x < 18446744073709551616) (hk : k < 64) : bits .and .u64 x (2 ^ k - 1) = x % 2 ^ k := by
  have h := bitsAt_eq x 0 k h0 h1 hk
  have hp : (0 : Int) < 2 ^ k := Int.pow_pos (by omega)
  have hb : (2 : Int) ^ k ≤ 2 ^ 63 := pow_le k 63 (by omega)
  have e63 : (2 : Int) ^ 63 = 9223372036854775808 := by decide
  have e1 : IntKind.u64.wrap (2 ^ k) = 2 ^ k := by rw [IntKind.wrap_u64]; omega
  have e2 : IntKind.u64.wrap (2 ^ k - 1) = 2 ^ k - 1 := by rw [IntKind.wrap_u64]; omega
  rw [e1, e2] at h
  simpa [fld] using h

/-- A number of n bits, widened: as a word. -/
def widen (n : Nat) (x : Int) : Int := IntKind.u64.wrap (RowKit.wrap64 (IntKind.u64.wrap (x * 2 ^ (64 - n))) / 2 ^ (64 - n))

/-- Imm before it is widened. -/
def immU (f : Fm) (x : Int) : Int :=
  match f with
  | .i => x / 1048576
  | .h => x / 1048576 % 64
  | .w => x / 1048576 % 32
  | .s => x / 33554432 * 32 + x / 128 % 32
  | .b => x / 2147483648 * 4096 + x / 128 % 2 * 2048 + x / 33554432 % 64 * 32 + x / 256 % 16 * 2
  | .u => x / 4096 * 4096
  | .j => x / 2147483648 * 1048576 + x / 4096 % 256 * 4096 + x / 1048576 % 2 * 2048 + x / 2097152 % 1024 * 2
  | .a => x / 33554432 % 4
  | .c => x / 1048576
  | .r => 0
  | .x => 0

def immV (f : Fm) (x : Int) : Int := RowKit.wrap64 (widen f.width (immU f x))

theorem widen64 (u : Int) (h0 : 0 ≤ u) (h1 : u < 9223372036854775808) : RowKit.wrap64 (widen 64 u) = u := by
  have e : (2 : Int) ^ (64 - 64) = 1 := by decide
  unfold widen
  rw [e, IntKind.wrap_u64, IntKind.wrap_u64]
  unfold RowKit.wrap64
  omega

/-- Joined where no bits are, as the model's words. -/
theorem or64 (a x : Int) (k m : Nat) (h0 : 0 ≤ a) (h1 : a < 18446744073709551616) (hx : 0 ≤ x) (hx2 : x < 2 ^ m) (hkm : k + m ≤ 64) (h : a / 2 ^ k % 2 ^ m = 0) : bits .or .u64 a (x * 2 ^ k) = a + x * 2 ^ k := by
  obtain ⟨A, rfl⟩ := Int.eq_ofNat_of_zero_le h0
  obtain ⟨X, rfl⟩ := Int.eq_ofNat_of_zero_le hx
  have hX : X < 2 ^ m := by
    have : ((X : Nat) : Int) < ((2 ^ m : Nat) : Int) := by simpa using hx2
    omega
  have hA : A / 2 ^ k % 2 ^ m = 0 := by
    have : (((A / 2 ^ k % 2 ^ m : Nat)) : Int) = 0 := by simpa using h
    omega
  have e : ((X : Int) * 2 ^ k) = ((X * 2 ^ k : Nat) : Int) := by simp
  have hb : X * 2 ^ k < 18446744073709551616 := by
    have h2 : X * 2 ^ k < 2 ^ m * 2 ^ k := Nat.mul_lt_mul_of_pos_right hX (Nat.two_pow_pos k)
    rw [← Nat.pow_add] at h2
    have h3 : 2 ^ (m + k) ≤ 2 ^ 64 := Nat.pow_le_pow_right (by omega) (by omega)
    have e64 : 2 ^ 64 = 18446744073709551616 := by decide
    omega
  rw [e, u64_or_nat A (X * 2 ^ k) (by omega) hb, or_field A X k m hA hX]
  simp

end Go.Proofs.YtjjpklalihaanaaDoor
