/- Own lemmas. -/
import Derived.Test.YtcdjfiljlahaeaaK01
import Derived.Test.YtcdjfiljlahaeaaK02
import Derived.Laws.BitsAllLaws
import Derived.BigQuiet
import Derived.OwnWalk
namespace Go.Proofs.Ytcdjfiljlahaeaa
set_option linter.unusedVariables false

def Fm.at : Fm → Nat
  | .r => 25 | .w => 25 | .h => 26 | .a => 27 | .x => 20 | .u => 0 | .j => 0 | .i => 0 | .s => 0 | .b => 0 | .c => 0

def Fm.hasRd : Fm → Bool
  | .r => true | .i => true | .h => true | .w => true | .s => false | .b => false | .u => true | .j => true | .a => true | .c => true | .x => false

def Fm.hasA : Fm → Bool
  | .r => true | .i => true | .h => true | .w => true | .s => true | .b => true | .u => false | .j => false | .a => true | .c => true | .x => false

def Fm.hasB : Fm → Bool
  | .r => true | .i => false | .h => false | .w => false | .s => true | .b => true | .u => false | .j => false | .a => true | .c => false | .x => false

def Fm.width : Fm → Nat
  | .r => 64 | .i => 12 | .h => 64 | .w => 64 | .s => 12 | .b => 13 | .u => 32 | .j => 21 | .a => 64 | .c => 64 | .x => 64

structure Ins where
  op : Int
  rd : Int
  a : Int
  b : Int
  imm : Int
deriving DecidableEq

def Ins.val (i : Ins) : Value := .agg #[.int .i64 i.op, .int .i64 i.rd, .int .i64 i.a, .int .i64 i.b, .int .i64 i.imm]

def fld (x : Int) (k n : Nat) : Int := x / 2 ^ k % 2 ^ n

theorem fld_bd (x : Int) (k n : Nat) : 0 ≤ fld x k n ∧ fld x k n < 2 ^ n := by
  have hp : (0 : Int) < 2 ^ n := Int.pow_pos (by omega)
  exact ⟨Int.emod_nonneg _ (by omega), Int.emod_lt_of_pos _ hp⟩

theorem pow_le (m n : Nat) (h : m ≤ n) : (2 : Int) ^ m ≤ 2 ^ n := by
  obtain ⟨d, rfl⟩ := Nat.exists_eq_add_of_le h
  rw [Int.pow_add]
  have h1 : (0 : Int) < 2 ^ m := Int.pow_pos (by omega)
  have h2 : (0 : Int) < 2 ^ d := Int.pow_pos (by omega)
  have h3 : (2 : Int) ^ m * 1 ≤ 2 ^ m * 2 ^ d := Int.mul_le_mul_of_nonneg_left (by omega) (by omega)
  omega

theorem bitsAt_eq (x : Int) (k n : Nat) (h0 : 0 ≤ x) (h1 : x < 18446744073709551616) (hn : n < 64) :
    bits .and .u64 (x / 2 ^ k) (IntKind.u64.wrap (IntKind.u64.wrap (2 ^ n) - 1)) = fld x k n := by
  have hp : (0 : Int) < 2 ^ n := Int.pow_pos (by omega)
  have hk : (0 : Int) < 2 ^ k := Int.pow_pos (by omega)
  have hb : (2 : Int) ^ n ≤ 2 ^ 63 := pow_le n 63 (by omega)
  have e63 : (2 : Int) ^ 63 = 9223372036854775808 := by decide
  have e1 : IntKind.u64.wrap (2 ^ n) = 2 ^ n := by rw [IntKind.wrap_u64]; omega
  have e2 : IntKind.u64.wrap (2 ^ n - 1) = 2 ^ n - 1 := by rw [IntKind.wrap_u64]; omega
  have d0 : 0 ≤ x / 2 ^ k := Int.ediv_nonneg h0 (by omega)
  have d1 : x / 2 ^ k ≤ x := Int.ediv_le_self _ h0
  rw [e1, e2, u64_and _ _ d0 (by omega) (by omega) (by omega)]
  have e3 : (2 ^ n - 1 : Int).toNat = 2 ^ n - 1 := by
    have : (2 : Int) ^ n = ((2 ^ n : Nat) : Int) := by simp
    rw [this]; omega
  rw [e3, Nat.and_two_pow_sub_one_eq_mod]
  unfold fld
  have e4 : ((x / 2 ^ k).toNat : Int) = x / 2 ^ k := Int.toNat_of_nonneg d0
  rw [Int.natCast_emod, e4]
  simp

theorem or_field (a x k m : Nat) (h : a / 2 ^ k % 2 ^ m = 0) (hx : x < 2 ^ m) : a ||| x * 2 ^ k = a + x * 2 ^ k := by
  have hk : 0 < 2 ^ k := Nat.two_pow_pos k
  have hm : 0 < 2 ^ m := Nat.two_pow_pos m
  have e1 : a = a / 2 ^ k / 2 ^ m * 2 ^ (k + m) + a % 2 ^ k := by
    have h1 := Nat.div_add_mod a (2 ^ k)
    have h2 := Nat.div_add_mod (a / 2 ^ k) (2 ^ m)
    rw [h, Nat.add_zero] at h2
    rw [← h2] at h1
    rw [Nat.pow_add, ← Nat.mul_assoc, Nat.mul_right_comm, Nat.mul_comm _ (2 ^ k), Nat.mul_comm _ (2 ^ m)] 
    omega
  have hlo : a % 2 ^ k < 2 ^ k := Nat.mod_lt _ hk
  have j1 : a / 2 ^ k / 2 ^ m * 2 ^ (k + m) ||| a % 2 ^ k = a / 2 ^ k / 2 ^ m * 2 ^ (k + m) + a % 2 ^ k := by
    refine nat_join k _ _ ?_ hlo
    rw [Nat.pow_add, Nat.mul_comm (2 ^ k), ← Nat.mul_assoc]; exact Nat.mul_mod_left _ _
  have j2 : x * 2 ^ k ||| a % 2 ^ k = x * 2 ^ k + a % 2 ^ k := nat_join k _ _ (Nat.mul_mod_left _ _) hlo
  have hsm : x * 2 ^ k + a % 2 ^ k < 2 ^ (k + m) := by
    rw [Nat.pow_add, Nat.mul_comm (2 ^ k)]
    have : (x + 1) * 2 ^ k ≤ 2 ^ m * 2 ^ k := Nat.mul_le_mul_right _ hx
    rw [Nat.add_mul] at this
    omega
  have j3 : a / 2 ^ k / 2 ^ m * 2 ^ (k + m) ||| (x * 2 ^ k + a % 2 ^ k) = a / 2 ^ k / 2 ^ m * 2 ^ (k + m) + (x * 2 ^ k + a % 2 ^ k) := nat_join (k + m) _ _ (Nat.mul_mod_left _ _) hsm
  have e2 : a ||| x * 2 ^ k = a / 2 ^ k / 2 ^ m * 2 ^ (k + m) ||| (x * 2 ^ k ||| a % 2 ^ k) := by
    conv => lhs; rw [e1, ← j1]
    rw [Nat.or_assoc, Nat.or_comm (a % 2 ^ k)]
  rw [e2, j2, j3]
  omega

def matchP (i : Nat) (f : Fm) (o z m x : Int) : Prop := x % 128 = o ∧ (0 ≤ z → x / 4096 % 8 = z) ∧
  (match f with
  | .r => x / 33554432 = m ∧ (i = 97 → x / 128 % 32 = 0)
  | .h => x / 67108864 = m
  | .w => x / 33554432 = m
  | .a => x / 134217728 = m ∧ (i = 62 ∨ i = 73 → x / 1048576 % 32 = 0)
  | .x => x = m * 1048576 + o
  | _ => True)

instance (i : Nat) (f : Fm) (o z m x : Int) : Decidable (matchP i f o z m x) := by
  unfold matchP; cases f <;> infer_instance

theorem and_low (x : Int) (k : Nat) (h0 : 0 ≤ x) (h1 : x < 18446744073709551616) (hk : k < 64) : bits .and .u64 x (2 ^ k - 1) = x % 2 ^ k := by
  have h := bitsAt_eq x 0 k h0 h1 hk
  have hp : (0 : Int) < 2 ^ k := Int.pow_pos (by omega)
  have hb : (2 : Int) ^ k ≤ 2 ^ 63 := pow_le k 63 (by omega)
  have e63 : (2 : Int) ^ 63 = 9223372036854775808 := by decide
  have e1 : IntKind.u64.wrap (2 ^ k) = 2 ^ k := by rw [IntKind.wrap_u64]; omega
  have e2 : IntKind.u64.wrap (2 ^ k - 1) = 2 ^ k - 1 := by rw [IntKind.wrap_u64]; omega
  rw [e1, e2] at h
  simpa [fld] using h

def widen (n : Nat) (x : Int) : Int := IntKind.u64.wrap (RowKit.wrap64 (IntKind.u64.wrap (x * 2 ^ (64 - n))) / 2 ^ (64 - n))

def immU (f : Fm) (x : Int) : Int :=
  match f with
  | .i => x / 1048576
  | .h => x / 1048576 % 64
  | .w => x / 1048576 % 32
  | .s => x / 33554432 * 32 + x / 128 % 32
  | .b => x / 2147483648 * 4096 + x / 128 % 2 * 2048 + x / 33554432 % 64 * 32 + x / 256 % 16 * 2
  | .u => x / 4096 * 4096
  | .j => x / 2147483648 * 1048576 + x / 4096 % 256 * 4096 + x / 1048576 % 2 * 2048 + x / 2097152 % 1024 * 2
  | .a => x / 33554432 % 4
  | .c => x / 1048576
  | .r => 0
  | .x => 0

def immV (f : Fm) (x : Int) : Int := RowKit.wrap64 (widen f.width (immU f x))

theorem widen64 (u : Int) (h0 : 0 ≤ u) (h1 : u < 9223372036854775808) : RowKit.wrap64 (widen 64 u) = u := by
  have e : (2 : Int) ^ (64 - 64) = 1 := by decide
  unfold widen
  rw [e, IntKind.wrap_u64, IntKind.wrap_u64]
  unfold RowKit.wrap64
  omega

theorem or64 (a x : Int) (k m : Nat) (h0 : 0 ≤ a) (h1 : a < 18446744073709551616) (hx : 0 ≤ x) (hx2 : x < 2 ^ m) (hkm : k + m ≤ 64) (h : a / 2 ^ k % 2 ^ m = 0) : bits .or .u64 a (x * 2 ^ k) = a + x * 2 ^ k := by
  obtain ⟨A, rfl⟩ := Int.eq_ofNat_of_zero_le h0
  obtain ⟨X, rfl⟩ := Int.eq_ofNat_of_zero_le hx
  have hX : X < 2 ^ m := by
    have : ((X : Nat) : Int) < ((2 ^ m : Nat) : Int) := by simpa using hx2
    omega
  have hA : A / 2 ^ k % 2 ^ m = 0 := by
    have : (((A / 2 ^ k % 2 ^ m : Nat)) : Int) = 0 := by simpa using h
    omega
  have e : ((X : Int) * 2 ^ k) = ((X * 2 ^ k : Nat) : Int) := by simp
  have hb : X * 2 ^ k < 18446744073709551616 := by
    have h2 : X * 2 ^ k < 2 ^ m * 2 ^ k := Nat.mul_lt_mul_of_pos_right hX (Nat.two_pow_pos k)
    rw [← Nat.pow_add] at h2
    have h3 : 2 ^ (m + k) ≤ 2 ^ 64 := Nat.pow_le_pow_right (by omega) (by omega)
    have e64 : 2 ^ 64 = 18446744073709551616 := by decide
    omega
  rw [e, u64_or_nat A (X * 2 ^ k) (by omega) hb, or_field A X k m hA hX]
  simp

end Go.Proofs.Ytcdjfiljlahaeaa

namespace Go.Proofs.Ytcdjfiljlahaeaa
open Go.RowKit
set_option linter.unusedVariables false

structure Fd where
  addr : Int
  code : Int
  marked : Bool
  at_ : Int
  entry : Int

def Fd.cells (f : Fd) : Array Value := #[.int .u64 f.addr, .int .i64 f.code, .bool f.marked, .int .u64 f.at_, .int .u64 f.entry]

def Own (w : World) (base g cap : Nat) (l : List Int) : Prop := w.ownsRow base 25 1 (.slice (some ⟨g, 0, none⟩) 22 cap) 22 (l.map (Value.int .u64))

theorem Own.len {w : World} {base g cap : Nat} {l : List Int} (h : Own w base g cap l) : l.length = 22 := by
  have := h.1; simpa using this

theorem Own.cell {w : World} {base g cap : Nat} {l : List Int} (h : Own w base g cap l) (j : Nat) (hj : j < 22) : w.cell? ⟨g, j, none⟩ = some (.int .u64 (l.getD j 0)) := by
  have hl := h.len
  have e := World.ownsRow.cellAt h j hj
  rw [e]
  simp [List.getD, List.getElem?_eq_getElem (show j < l.length by omega)]

theorem Own.put {w : World} {base g cap : Nat} {l : List Int} (h : Own w base g cap l) (j : Nat) (v : Int) : Own (w.setCell ⟨g, j, none⟩ (.int .u64 v)) base g cap (l.set j v) ∧ w.grownBy (w.setCell ⟨g, j, none⟩ (.int .u64 v)) (some g) := by
  have e := World.ownsRow.stored h j (.int .u64 v)
  rw [map_set_u64] at e
  exact e

theorem Own.below {w w' : World} {base g cap : Nat} {l : List Int} (h : Own w base g cap l) (hb : Below w.heap.size w w') : Own w' base g cap l := ownsRow_below h hb

def entryV (f b : Int) : Int := if (f / 17592186044416 != 0) = true then 0 else if decide (0 ≤ b ∧ b ≤ 255) = true then bits .or .u64 (IntKind.u64.wrap (f * 1024)) (IntKind.u64.wrap b) else 0

theorem specEntry_any (f b : Int) (w : World) : Calls Try.prog 82 #[.int .u64 f, .int .i64 b] w fun e w' => e = .returned (.int .u64 (entryV f b)) ∧ w' = w := by
  have HI : Hid (∀ w, Calls Try.prog 61 #[.int .i64 b, .int .i64 0, .int .i64 255] w fun e w' => e = .returned (.bool (decide (0 ≤ b ∧ b ≤ 255))) ∧ w' = w) := l1In_d b 0 255
  have F : Hid (entryV f b = if (f / 17592186044416 != 0) = true then 0 else if decide (0 ≤ b ∧ b ≤ 255) = true then bits .or .u64 (IntKind.u64.wrap (f * 1024)) (IntKind.u64.wrap b) else 0) := (rfl : entryV f b = _)
  generalize entryV f b = v at *
  generalize decide (0 ≤ b ∧ b ≤ 255) = q at *
  cases d : (f / 17592186044416 != 0) with
  | true =>
    have F2 : Hid (v = 0) := by show v = 0; rw [F.out, d]; exact if_pos rfl
    clear F
    go_enter Try.func82, Try.ntmps82
    go_wp2_with fail
    go_ret
    exact ⟨by rw [F2.out]; rfl, rfl⟩
  | false =>
    have F1 : v = if q = true then bits .or .u64 (IntKind.u64.wrap (f * 1024)) (IntKind.u64.wrap b) else 0 := by rw [F.out, d]; exact if_neg (by decide)
    clear F
    cases q with
    | false =>
      have F2 : Hid (v = 0) := F1.trans (if_neg (by decide))
      clear F1
      go_enter Try.func82, Try.ntmps82
      go_wp2_with fail
      refine (HI.out _).mono ?_
      rintro e wx ⟨rfl, hwx⟩
      have hwy := hwx.symm
      subst hwy
      go_wp2_with fail
      go_ret
      exact ⟨by rw [F2.out]; rfl, rfl⟩
    | true =>
      have F2 : Hid (v = bits .or .u64 (IntKind.u64.wrap (f * 1024)) (IntKind.u64.wrap b)) := F1.trans (if_pos rfl)
      clear F1
      go_enter Try.func82, Try.ntmps82
      go_wp2_with fail
      refine (HI.out _).mono ?_
      rintro e wx ⟨rfl, hwx⟩
      have hwy := hwx.symm
      subst hwy
      go_wp2_with fail
      go_ret
      exact ⟨by rw [F2.out]; rfl, rfl⟩

theorem bitsAt_any (x : Int) (k n : Nat) (h0 : 0 ≤ x) (h1 : x < 18446744073709551616) (hk : k < 64) (hn : n < 64) (w : World) :
    Calls Try.prog 33 #[.int .u64 x, .int .i64 k, .int .i64 n] w fun e w' => e = .returned (.int .u64 (fld x k n)) ∧ w' = w.drew := by
  have F : Hid (bits .and .u64 (x / 2 ^ k) (IntKind.u64.wrap (IntKind.u64.wrap (2 ^ n) - 1)) = fld x k n) := bitsAt_eq x k n h0 h1 hn
  go_enter Try.func33, Try.ntmps33
  go_wp2_with fail
  go_region
  all_goals go_wp2_with fail
  all_goals go_ret
  all_goals exact ⟨by rw [← F.out]; rfl, rfl⟩

theorem l1Widen_any (x : Int) (n : Nat) (h1 : 1 ≤ n) (h2 : n ≤ 64) (w : World) :
    Calls Try.prog 86 #[.int .u64 x, .int .u64 n] w fun e w' => e = .returned (.int .u64 (widen n x)) ∧ w' = w := by
  obtain ⟨m, hm, hm0⟩ : ∃ m : Nat, (64 : Int) - (n : Int) = (m : Int) ∧ m = 64 - n := ⟨64 - n, by omega, rfl⟩
  have F : Hid (IntKind.u64.wrap (wrap64 (IntKind.u64.wrap (x * 2 ^ m)) / 2 ^ m) = widen n x) := by
    show _ = _
    rw [hm0]; rfl
  clear hm0
  have hm2 : IntKind.u64.wrap (m : Int) = m := by rw [IntKind.wrap_u64]; omega
  go_enter Try.func86, Try.ntmps86
  go_wp2_with fail
  go_ret
  exact ⟨by rw [← F.out]; rfl, rfl⟩

def U (x : Int) : Prop := 0 ≤ x ∧ x < 18446744073709551616

def bt (x : Int) (i : Nat) : Bool := (BitVec.ofInt 64 x).getLsbD i

theorem U_wrap (x : Int) : U (IntKind.u64.wrap x) := by
  rw [IntKind.wrap_u64]; exact ⟨Int.emod_nonneg _ (by omega), Int.emod_lt_of_pos _ (by omega)⟩

theorem U_bits (o : BinOp) (x y : Int) : U (bits o .u64 x y) := U_wrap _

theorem ofInt_wrap (x : Int) : BitVec.ofInt 64 (IntKind.u64.wrap x) = BitVec.ofInt 64 x := by
  rw [IntKind.wrap_u64]
  apply BitVec.eq_of_toInt_eq
  rw [BitVec.toInt_ofInt, BitVec.toInt_ofInt]
  exact Int.emod_bmod x (2 ^ 64)

theorem ofInt_bv (v : BitVec 64) : BitVec.ofInt 64 (IntKind.u64.wrap (v.toNat : Int)) = v := by
  rw [ofInt_wrap]
  simp

theorem bt_and (x y : Int) (i : Nat) : bt (bits .and .u64 x y) i = (bt x i && bt y i) := by
  show (BitVec.ofInt 64 (IntKind.u64.wrap ((BitVec.ofInt 64 x &&& BitVec.ofInt 64 y).toNat : Int))).getLsbD i = _
  rw [ofInt_bv]; simp [bt]

theorem bt_or (x y : Int) (i : Nat) : bt (bits .or .u64 x y) i = (bt x i || bt y i) := by
  show (BitVec.ofInt 64 (IntKind.u64.wrap ((BitVec.ofInt 64 x ||| BitVec.ofInt 64 y).toNat : Int))).getLsbD i = _
  rw [ofInt_bv]; simp [bt]

theorem bt_andNot (x y : Int) (i : Nat) (hi : i < 64) : bt (bits .andNot .u64 x y) i = (bt x i && !bt y i) := by
  show (BitVec.ofInt 64 (IntKind.u64.wrap ((BitVec.ofInt 64 x &&& ~~~BitVec.ofInt 64 y).toNat : Int))).getLsbD i = _
  rw [ofInt_bv]; simp [bt, hi]

theorem bt_nat (x : Int) (h : U x) (i : Nat) : bt x i = x.toNat.testBit i := by
  obtain ⟨h0, h1⟩ := h
  obtain ⟨n, rfl⟩ := Int.eq_ofNat_of_zero_le h0
  have hn : n < 2 ^ 64 := by omega
  unfold bt
  rw [← BitVec.testBit_toNat, ofInt_u64 n (by omega), Int.toNat_natCast]

theorem bt_ext (x y : Int) (hx : U x) (hy : U y) (h : ∀ i, i < 64 → bt x i = bt y i) : x = y := by
  have e : BitVec.ofInt 64 x = BitVec.ofInt 64 y := BitVec.eq_of_getLsbD_eq (fun i hi => h i hi)
  have e2 := congrArg BitVec.toNat e
  obtain ⟨h0, h1⟩ := hx
  obtain ⟨h2, h3⟩ := hy
  obtain ⟨n, rfl⟩ := Int.eq_ofNat_of_zero_le h0
  obtain ⟨m, rfl⟩ := Int.eq_ofNat_of_zero_le h2
  rw [ofInt_u64 n (by omega), ofInt_u64 m (by omega)] at e2
  rw [e2]

theorem U_div (x : Int) (h : U x) (k : Nat) : U (x / 2 ^ k) := by
  have hk : (0 : Int) < 2 ^ k := Int.pow_pos (by omega)
  exact ⟨Int.ediv_nonneg h.1 (by omega), Int.lt_of_le_of_lt (Int.ediv_le_self _ h.1) h.2⟩

theorem toNat_div (x : Int) (h : 0 ≤ x) (k : Nat) : (x / 2 ^ k).toNat = x.toNat / 2 ^ k := by
  obtain ⟨n, rfl⟩ := Int.eq_ofNat_of_zero_le h
  have : ((n : Int) / 2 ^ k) = ((n / 2 ^ k : Nat) : Int) := by simp
  rw [this, Int.toNat_natCast, Int.toNat_natCast]

theorem bt_div (x : Int) (h : U x) (k i : Nat) : bt (x / 2 ^ k) i = bt x (i + k) := by
  rw [bt_nat _ (U_div x h k), bt_nat _ h, toNat_div _ h.1, Nat.testBit_div_two_pow]

theorem U_fld (x : Int) (k n : Nat) (hn : n < 64) : U (fld x k n) := by
  have := fld_bd x k n
  have h2 := pow_le n 63 (by omega)
  have e63 : (2 : Int) ^ 63 = 9223372036854775808 := by decide
  exact ⟨this.1, by omega⟩

theorem bt_fld (x : Int) (h : U x) (k n i : Nat) (hn : n < 64) : bt (fld x k n) i = (decide (i < n) && bt x (i + k)) := by
  rw [bt_nat _ (U_fld x k n hn), ← bt_div x h, bt_nat _ (U_div x h k)]
  unfold fld
  have hd := (U_div x h k).1
  obtain ⟨m, hm⟩ := Int.eq_ofNat_of_zero_le hd
  rw [hm]
  have : ((m : Int) % 2 ^ n) = ((m % 2 ^ n : Nat) : Int) := by simp
  rw [this, Int.toNat_natCast, Int.toNat_natCast, Nat.testBit_mod_two_pow]

def memM (M : MV) (R : List Int) : MV := ⟨M.pc, M.x, M.pr, M.cs, R, M.d, M.hd, M.hl, M.wt⟩

def devM (M : MV) (D : DV) : MV := ⟨M.pc, M.x, M.pr, M.cs, M.ram, D, M.hd, M.hl, M.wt⟩

def freeM (M : MV) : MV := ⟨M.pc, M.x, M.pr, M.cs, M.ram, M.d, 0, false, M.wt⟩

def Renew (w w' : World) (a1 : Option Addr) (c1 : Nat) (xs : List Int) (a2 : Option Addr) (c2 : Nat) (ys : List Int) (b1 : Option Addr) (d1 : Nat) (zs : List Int) (b2 : Option Addr) (d2 : Nat) (us : List Int) : Prop :=
  ((b1 = a1 ∧ d1 = c1 ∧ zs = xs) ∧ b2 = a2 ∧ d2 = c2 ∧ us = ys) ∨
  (w'.ownsRow w.heap.size 5 1 (.slice b1 zs.length d1) zs.length (zs.map (Value.int .u8)) ∧ b2 = a2 ∧ d2 = c2 ∧ us = ys) ∨
  ((b1 = a1 ∧ d1 = c1 ∧ zs = xs) ∧ w'.ownsRow w.heap.size 5 1 (.slice b2 us.length d2) us.length (us.map (Value.int .u8))) ∨
  Fam w.heap.size w'.heap.size w' (devF b1 zs.length d1 zs b2 us.length d2 us)

theorem Renew.below {w w1 w' : World} {a1 : Option Addr} {c1 : Nat} {xs : List Int} {a2 : Option Addr} {c2 : Nat} {ys : List Int} {b1 : Option Addr} {d1 : Nat} {zs : List Int} {b2 : Option Addr} {d2 : Nat} {us : List Int} (h : Renew w w1 a1 c1 xs a2 c2 ys b1 d1 zs b2 d2 us) (hb : Below w1.heap.size w1 w') : Renew w w' a1 c1 xs a2 c2 ys b1 d1 zs b2 d2 us := by
  rcases h with h | ⟨h1, h2⟩ | ⟨h1, h2⟩ | h
  · exact .inl h
  · exact .inr (.inl ⟨ownsRow_below h1 hb, h2⟩)
  · exact .inr (.inr (.inl ⟨h1, ownsRow_below h2 hb⟩))
  · exact .inr (.inr (.inr ((h.below hb).low (Nat.le_refl _) hb.size)))

theorem Fam.sub {B E : Nat} {w : World} {L L' : List FRow} (h : Fam B E w L) (hs : L'.Sublist L) : Fam B E w L' :=
  ⟨fun q hq => h.own q (hs.subset hq), fun q hq => h.hi q (hs.subset hq), h.ne.sublist hs⟩

theorem Fam.ins {B E E' : Nat} {w : World} {L1 L2 : List FRow} {q : FRow} (h : Fam B E w (L1 ++ L2)) (hq : w.ownsRow E q.t 1 q.v q.n q.xs) (h1 : B ≤ E) (h2 : w.heap.size ≤ E') (h3 : E ≤ E') : Fam B E' w (L1 ++ q :: L2) := by
  have hne := List.pairwise_append.1 h.ne
  have hi : ∀ s ∈ L1 ++ L2, ∀ k, s.v.ownBlock = some k → k < E := fun s hs k e => h.hi s hs k e
  have lo : ∀ k, q.v.ownBlock = some k → E ≤ k ∧ k < w.heap.size := fun k e => hq.lt k e
  refine ⟨fun s hs => ?_, fun s hs k e => ?_, List.pairwise_append.2 ⟨hne.1, List.pairwise_cons.2 ⟨fun s hs k e e2 => ?_, hne.2.1⟩, fun s hs t ht k e e2 => ?_⟩⟩
  · rcases List.mem_append.1 hs with hs | hs
    · exact h.own s (List.mem_append_left _ hs)
    · rcases List.mem_cons.1 hs with rfl | hs
      · exact own_low hq h1
      · exact h.own s (List.mem_append_right _ hs)
  · rcases List.mem_append.1 hs with hs | hs
    · have := hi s (List.mem_append_left _ hs) k e; omega
    · rcases List.mem_cons.1 hs with rfl | hs
      · have := lo k e; omega
      · have := hi s (List.mem_append_right _ hs) k e; omega
  · have := lo k e
    have := hi s (List.mem_append_right _ hs) k e2
    omega
  · rcases List.mem_cons.1 ht with rfl | ht
    · have := lo k e2
      have := hi s (List.mem_append_left _ hs) k e
      omega
    · exact hne.2.2 s hs t ht k e e2

theorem Fam.app {B E E' : Nat} {w : World} {L1 L2 : List FRow} (h : Fam B E w L1) (h2 : Fam E E' w L2) (h1 : B ≤ E) (h3 : E ≤ E') : Fam B E' w (L1 ++ L2) := by
  refine ⟨fun s hs => ?_, fun s hs k e => ?_, List.pairwise_append.2 ⟨h.ne, h2.ne, fun s hs t ht k e e2 => ?_⟩⟩
  · rcases List.mem_append.1 hs with hs | hs
    · exact h.own s hs
    · exact own_low (h2.own s hs) h1
  · rcases List.mem_append.1 hs with hs | hs
    · have := h.hi s hs k e; omega
    · exact h2.hi s hs k e
  · have := h.hi s hs k e
    have := ((h2.own t ht).lt k e2).1
    omega

def devA (A : MA) (b1 : Option Addr) (d1 : Nat) (b2 : Option Addr) (d2 : Nat) : MA := ⟨A.ax, A.cx, A.ac, A.cc, A.ar, A.cr, b1, d1, b2, d2⟩

theorem dev_fam {B : Nat} {M : MV} {A : MA} {w w' : World} (h : Fam B w.heap.size w (mvF M A)) (hB : B ≤ w.heap.size) (hb : Below w.heap.size w w') (D : DV) {b1 : Option Addr} {d1 : Nat} {b2 : Option Addr} {d2 : Nat} (hr : Renew w w' A.ai A.ci M.d.xs A.ao A.co M.d.ys b1 d1 D.xs b2 d2 D.ys) : Fam B w'.heap.size w' (mvF (devM M D) (devA A b1 d1 b2 d2)) := by
  have hf := h.below hb
  rcases hr with ⟨⟨rfl, rfl, e1⟩, rfl, rfl, e2⟩ | ⟨h1, rfl, rfl, e2⟩ | ⟨⟨rfl, rfl, e1⟩, h1⟩ | h1
  · unfold mvF devM devA
    dsimp only
    rw [e1, e2]
    exact hf.low (Nat.le_refl _) hb.size
  · have h4 : Fam B w.heap.size w' ([wRow A.ax M.x.length A.cx M.x, wRow A.ac M.cs.length A.cc M.cs, bRow A.ar M.ram.length A.cr M.ram] ++ [bRow A.ao M.d.ys.length A.co M.d.ys]) := hf.sub (by unfold mvF; simp)
    unfold mvF devM devA
    dsimp only
    rw [e2]
    exact h4.ins (q := bRow b1 D.xs.length d1 D.xs) h1 hB (Nat.le_refl _) hb.size
  · have h4 : Fam B w.heap.size w' ([wRow A.ax M.x.length A.cx M.x, wRow A.ac M.cs.length A.cc M.cs, bRow A.ar M.ram.length A.cr M.ram, bRow A.ai M.d.xs.length A.ci M.d.xs] ++ []) := hf.sub (by unfold mvF; simp)
    unfold mvF devM devA
    dsimp only
    rw [e1]
    exact h4.ins (q := bRow b2 D.ys.length d2 D.ys) h1 hB (Nat.le_refl _) hb.size
  · have h4 : Fam B w.heap.size w' [wRow A.ax M.x.length A.cx M.x, wRow A.ac M.cs.length A.cc M.cs, bRow A.ar M.ram.length A.cr M.ram] := hf.sub (by unfold mvF; simp)
    exact h4.app h1 hB hb.size

theorem dev_own {M : MV} {A : MA} {w w' : World} (D : DV) {b1 : Option Addr} {d1 : Nat} {b2 : Option Addr} {d2 : Nat} (hr : Renew w w' A.ai A.ci M.d.xs A.ao A.co M.d.ys b1 d1 D.xs b2 d2 D.ys) : ∀ q ∈ mvF (devM M D) (devA A b1 d1 b2 d2), ∀ k, q.v.ownBlock = some k → k < w.heap.size → ∃ q0 ∈ mvF M A, q0.v.ownBlock = some k := by
  intro q hq k e hk
  simp only [mvF, devM, devA, List.mem_cons, List.not_mem_nil, or_false] at hq
  have nw : ∀ (b : Option Addr) (d : Nat) (zs : List Int), w'.ownsRow w.heap.size 5 1 (.slice b zs.length d) zs.length (zs.map (Value.int .u8)) → ∀ k, (Value.slice b zs.length d).ownBlock = some k → k < w.heap.size → False := fun b d zs h k e hk => by have := (h.lt k e).1; omega
  have m4 : bRow A.ai M.d.xs.length A.ci M.d.xs ∈ mvF M A := by simp [mvF]
  have m5 : bRow A.ao M.d.ys.length A.co M.d.ys ∈ mvF M A := by simp [mvF]
  rcases hq with rfl | rfl | rfl | rfl | rfl
  · exact ⟨_, by simp [mvF], e⟩
  · exact ⟨wRow A.ac M.cs.length A.cc M.cs, by simp [mvF], e⟩
  · exact ⟨bRow A.ar M.ram.length A.cr M.ram, by simp [mvF], e⟩
  · rcases hr with ⟨⟨rfl, rfl, e1⟩, _⟩ | ⟨h1, _⟩ | ⟨⟨rfl, rfl, e1⟩, _⟩ | h1
    · rw [e1] at e; exact ⟨_, m4, e⟩
    · exact (nw _ _ _ h1 k e hk).elim
    · rw [e1] at e; exact ⟨_, m4, e⟩
    · exact (nw _ _ _ (h1.own (bRow b1 D.xs.length d1 D.xs) (by simp [devF])) k e hk).elim
  · rcases hr with ⟨_, rfl, rfl, e2⟩ | ⟨_, rfl, rfl, e2⟩ | ⟨_, h1⟩ | h1
    · rw [e2] at e; exact ⟨_, m5, e⟩
    · rw [e2] at e; exact ⟨_, m5, e⟩
    · exact (nw _ _ _ h1 k e hk).elim
    · exact (nw _ _ _ (h1.own (bRow b2 D.ys.length d2 D.ys) (by simp [devF])) k e hk).elim

def put6r (w : World) (r : Nat) (D : DV) (b1 : Option Addr) (d1 : Nat) (b2 : Option Addr) (d2 : Nat) : World := (((((w.setCell ⟨r, 5, none⟩ (.int .u64 D.t)).setCell ⟨r, 6, none⟩ (.int .u64 D.cm)).setCell ⟨r, 7, none⟩ (.bool D.so)).setCell ⟨r, 8, none⟩ (.slice b1 D.xs.length d1)).setCell ⟨r, 9, none⟩ (.slice b2 D.ys.length d2)).setCell ⟨r, 10, none⟩ (.int .i64 D.ir)

theorem Kx.put6r {r : Nat} {L : List FRow} (w : World) (D : DV) (b1 : Option Addr) (d1 : Nat) (b2 : Option Addr) (d2 : Nat) : Kx r L L w (put6r w r D b1 d1 b2 d2) :=
  (((((Kx.set w 5 _).trans (Kx.set _ 6 _)).trans (Kx.set _ 7 _)).trans (Kx.set _ 8 _)).trans (Kx.set _ 9 _)).trans (Kx.set _ 10 _)

theorem Mp.fam_set {B r : Nat} {L : List FRow} {w : World} (h : Fam B w.heap.size w L) (hne : ∀ q ∈ L, q.v.ownBlock ≠ some r) (i : Nat) (v : Value) : Fam B (w.setCell ⟨r, i, none⟩ v).heap.size (w.setCell ⟨r, i, none⟩ v) L :=
  ⟨fun q hq => fown_of (h.own q hq) (fun k e => Below.heap_setCell w ⟨r, i, none⟩ v k (fun e2 => hne q hq (by rw [show r = k from e2.symm]; exact e))), fun q hq k e => by rw [size_set]; exact h.hi q hq k e, h.ne⟩

theorem Mp.dev {B r : Nat} {M : MV} {A : MA} {w w' : World} (h : Mp B r M A w) (hb : Below w.heap.size w w') (D : DV) {b1 : Option Addr} {d1 : Nat} {b2 : Option Addr} {d2 : Nat} (hr : Renew w w' A.ai A.ci M.d.xs A.ao A.co M.d.ys b1 d1 D.xs b2 d2 D.ys) : Mp B r (devM M D) (devA A b1 d1 b2 d2) (put6r w' r D b1 d1 b2 d2) ∧ Kx r (mvF M A) (mvF (devM M D) (devA A b1 d1 b2 d2)) w (put6r w' r D b1 d1 b2 d2) := by
  have hlt := h.lt
  have hB : B ≤ w.heap.size := by have := h.lo; omega
  have hown := dev_own D hr
  have hne : ∀ q ∈ mvF (devM M D) (devA A b1 d1 b2 d2), q.v.ownBlock ≠ some r := fun q hq e => by
    obtain ⟨q0, h0, e0⟩ := hown q hq r e hlt
    exact h.ne q0 h0 e0
  have hf := dev_fam h.fam hB hb D hr
  refine ⟨⟨?_, ?_, hne, h.lo⟩, ?_⟩
  · have R0 := dstays hb h.row
    unfold mvc at R0
    have R1 := row_set R0 5 (.int .u64 D.t)
    have R2 := row_set R1 6 (.int .u64 D.cm)
    have R3 := row_set R2 7 (.bool D.so)
    have R4 := row_set R3 8 (.slice b1 D.xs.length d1)
    have R5 := row_set R4 9 (.slice b2 D.ys.length d2)
    exact row_set R5 10 (.int .i64 D.ir)
  · exact Mp.fam_set (Mp.fam_set (Mp.fam_set (Mp.fam_set (Mp.fam_set (Mp.fam_set hf hne 5 _) hne 6 _) hne 7 _) hne 8 _) hne 9 _) hne 10 _
  · have k1 : Kx r (mvF M A) (mvF (devM M D) (devA A b1 d1 b2 d2)) w w' := ⟨hb.os, hb.tape, hb.output, hb.size, fun k hk _ _ => hb.block k hk, hown⟩
    exact k1.trans (Kx.put6r w' D b1 d1 b2 d2)

def put2r (w : World) (r : Nat) : World := (w.setCell ⟨r, 12, none⟩ (.bool false)).setCell ⟨r, 11, none⟩ (.int .u64 0)

theorem Mp.free {B r : Nat} {M : MV} {A : MA} {w : World} (h : Mp B r M A w) : Mp B r (freeM M) A (put2r w r) ∧ Kx r (mvF M A) (mvF (freeM M) A) w (put2r w r) := by
  refine ⟨⟨?_, Mp.fam_set (Mp.fam_set h.fam h.ne 12 _) h.ne 11 _, h.ne, h.lo⟩, (Kx.set w 12 _).trans (Kx.set _ 11 _)⟩
  have R0 := h.row
  unfold mvc at R0
  exact row_set (row_set R0 12 (.bool false)) 11 (.int .u64 0)

theorem l1Put_mp (M : MV) (A : MA) (B r : Nat) (addr size x : Int) (w : World) (hl : M.ram.length ≤ 1048576) (hok : okB M.ram.length addr size = true) (hx0 : 0 ≤ x) (hx1 : x ≤ 18446744073709551615) (h : Mp B r M A w) :
    Calls Try.prog 70 #[.slice A.ar M.ram.length A.cr, .int .u64 addr, .int .i64 size, .int .u64 x] w fun e w' => e = .returned (.tuple #[]) ∧ Mp B r (memM M (put M.ram (addr - 2147483648).toNat x size.toNat)) A w' ∧ Kx r (mvF M A) (mvF (memM M (put M.ram (addr - 2147483648).toNat x size.toNat)) A) w w' := by
  have hb := okB_true hok
  obtain ⟨f, hf⟩ : ∃ f : Nat, f = (addr - 2147483648).toNat := ⟨_, rfl⟩
  obtain ⟨m, hm⟩ : ∃ m : Nat, m = size.toNat := ⟨_, rfl⟩
  have ea : addr = 2147483648 + (f : Int) := by omega
  have es : size = (m : Int) := by omega
  have hmem : bRow A.ar M.ram.length A.cr M.ram ∈ mvF M A := by simp [mvF]
  have ho := h.fam.own _ hmem
  have hfm : f + m ≤ M.ram.length := by omega
  have hg : ∃ g, A.ar = some ⟨g, 0, none⟩ := by
    rcases ho.2 with ⟨e, e0⟩ | ⟨g', cap, cur, e, _⟩
    · have : M.ram.length = 0 := e0; omega
    · have e2 : Value.slice A.ar M.ram.length A.cr = .slice (some ⟨g', 0, none⟩) M.ram.length cap := e
      injection e2 with e3
      exact ⟨g', e3⟩
  obtain ⟨g, hg⟩ := hg
  have hplen : (put M.ram f x m).length = M.ram.length := put_len _ _ _ _
  rw [← hf, ← hm]
  rw [ea, es]
  have ho2 : w.ownsRow B 5 1 (.slice (some ⟨g, 0, none⟩) M.ram.length A.cr) M.ram.length (M.ram.map (Value.int .u8)) := by rw [← hg]; exact ho
  rw [hg]
  refine (l1Put_any g M.ram.length A.cr f m B M.ram x w hl (by omega) hfm hx0 hx1 ho2).mono fun e w' ⟨h1, h2, h3⟩ => ⟨h1, ?_⟩
  have hgr : w.grownBy w' (bRow A.ar M.ram.length A.cr M.ram).v.ownBlock := by
    have e : (bRow A.ar M.ram.length A.cr M.ram).v.ownBlock = some g := by show (Value.slice A.ar M.ram.length A.cr).ownBlock = _; rw [hg]; rfl
    rw [e]; exact h3
  have hst : w'.ownsRow B 5 1 (bRow A.ar M.ram.length A.cr M.ram).v M.ram.length ((put M.ram f x m).map (Value.int .u8)) := by
    show w'.ownsRow B 5 1 (.slice A.ar M.ram.length A.cr) _ _
    rw [hg]; exact h2
  have hmk := Fam.markL (L1 := [wRow A.ax M.x.length A.cx M.x, wRow A.ac M.cs.length A.cc M.cs]) (L2 := [bRow A.ai M.d.xs.length A.ci M.d.xs, bRow A.ao M.d.ys.length A.co M.d.ys]) (r := bRow A.ar M.ram.length A.cr M.ram) h.fam hgr _ hst
  have hsame := mvF_same (M := M) (M' := memM M (put M.ram f x m)) (A := A) rfl rfl hplen rfl rfl
  have hF : Fam B w.heap.size w' (mvF (memM M (put M.ram f x m)) A) := by
    unfold mvF memM
    dsimp only
    rw [hplen]
    exact hmk.1
  refine ⟨⟨?_, hF.low (Nat.le_refl _) h3.size, fun q hq e => ?_, h.lo⟩, Kx.of_keepL hmk.2 hsame⟩
  · have hr : w'.heap[r]? = w.heap[r]? := hmk.2.block r h.lt (fun q hq e => h.ne q hq e)
    rw [hr, h.row]
    unfold mvc memM
    dsimp only
    rw [hplen]
  · obtain ⟨q0, h0, e0⟩ := hsame q hq
    exact h.ne q0 h0 (by rw [e0]; exact e)

theorem and_i64 (z : Int) (m : Nat) (hm : m < 9223372036854775808) : 0 ≤ bits .and .i64 z (m : Int) ∧ bits .and .i64 z (m : Int) ≤ m := by
  have e : bits .and .i64 z (m : Int) = wrap64 (((BitVec.ofInt 64 z).toNat &&& m : Nat) : Int) := by
    show IntKind.i64.wrap ((BitVec.ofInt 64 z &&& BitVec.ofInt 64 (m : Int)).toNat : Int) = _
    rw [BitVec.toNat_and, BitVec.ofInt_natCast, BitVec.toNat_ofNat, Nat.mod_eq_of_lt (show m < 2 ^ 64 by omega)]
    rw [IntKind.wrap_i64]; unfold wrap64; rfl
  have h : (BitVec.ofInt 64 z).toNat &&& m ≤ m := Nat.and_le_right
  rw [e]
  unfold wrap64
  omega

structure Code (w0 : World) (a : Option Addr) (n : Nat) (zs : List Int) : Prop where
  len : zs.length = n
  few : n ≤ 4096
  sl : Sl .u8 w0 a zs
  bd : ∀ y ∈ zs, (Lit.int .u8 y).wf = true

structure Cur (w0 w : World) (g : Nat) (a : Option Addr) (n cap : Nat) : Prop where
  new : w0.heap.size ≤ g
  below : Below w0.heap.size w0 w
  row : ∃ (i : Nat) (h : Int), i ≤ n ∧ w.heap[g]? = some (.cells #[.slice a n cap, .int .i64 (i : Int), .int .i64 h] 69 (0, 0))

theorem grown_set (w : World) (g i : Nat) (v : Value) : w.grownBy (w.setCell ⟨g, i, none⟩ v) (some g) :=
  ⟨rfl, rfl, rfl, by simp, fun k _ hk => heap_setCell_other _ _ _ _ (by intro h; exact hk (by rw [h]))⟩

theorem grown_dN (w : World) (n : Nat) (row : Option Nat) : w.grownBy (w.drewN n) row := ⟨rfl, rfl, rfl, Nat.le_refl _, fun _ _ _ => rfl⟩

theorem grown_alloc (w : World) (o : Obj) (row : Option Nat) : w.grownBy (w.alloc o) row :=
  ⟨rfl, rfl, rfl, by simp, fun k hk _ => heap_alloc_old w o hk⟩

theorem Cur.grown {w0 w w' : World} {g : Nat} {a : Option Addr} {n cap : Nat} (hc : Cur w0 w g a n cap) (hw : w.grownBy w' none) : Cur w0 w' g a n cap := by
  obtain ⟨i, h, hi, hrow⟩ := hc.row
  have lt : ∀ k o, w.heap[k]? = some o → k < w.heap.size := by
    intro k o hk
    by_cases hl : k < w.heap.size
    · exact hl
    · rw [Array.getElem?_eq_none (by omega)] at hk; cases hk
  refine ⟨hc.new, ?_, i, h, hi, ?_⟩
  · exact ⟨hw.os.trans hc.below.os, hw.tape.trans hc.below.tape, hw.output.trans hc.below.output, Nat.le_trans hc.below.size hw.size, fun k hk => (hw.block k (Nat.lt_of_lt_of_le hk hc.below.size) (by simp)).trans (hc.below.block k hk)⟩
  · rw [hw.block g (lt _ _ hrow) (by simp)]; exact hrow

theorem Cur.set2 {w0 w : World} {g : Nat} {a : Option Addr} {n cap : Nat} (hc : Cur w0 w g a n cap) (v : Int) : Cur w0 (w.setCell ⟨g, 2, none⟩ (.int .i64 v)) g a n cap := by
  obtain ⟨i, h, hi, hrow⟩ := hc.row
  exact ⟨hc.new, hc.below.setCell hc.new _, i, v, hi, heap_setCell_same w g 2 _ _ _ hrow⟩

theorem Cur.set1 {w0 w : World} {g : Nat} {a : Option Addr} {n cap : Nat} (hc : Cur w0 w g a n cap) (j : Nat) (hj : j ≤ n) : Cur w0 (w.setCell ⟨g, 1, none⟩ (.int .i64 (j : Int))) g a n cap := by
  obtain ⟨i, h, hi, hrow⟩ := hc.row
  exact ⟨hc.new, hc.below.setCell hc.new _, j, h, hj, heap_setCell_same w g 1 _ _ _ hrow⟩

theorem Cur.dN {w0 w : World} {g : Nat} {a : Option Addr} {n cap : Nat} (hc : Cur w0 w g a n cap) (m : Nat) : Cur w0 (w.drewN m) g a n cap := hc.grown (grown_dN w m none)

set_option maxHeartbeats 1600000 in
theorem l1Byte_any {w0 : World} {g : Nat} {a : Option Addr} {n cap : Nat} {zs : List Int} (hcd : Code w0 a n zs) (w : World) (hc : Cur w0 w g a n cap) :
    Calls Try.prog 65 #[.pointer (some ⟨g, 0, none⟩)] w fun e w' => ∃ x : Int, e = .returned (.int .i64 x) ∧ 0 ≤ x ∧ x ≤ 255 ∧ Cur w0 w' g a n cap ∧ w.grownBy w' (some g) := by
  obtain ⟨i, h, hi, hrow⟩ := hc.row
  have c2 := cell_of_row w g 2 _ _ _ hrow
  have f2 := frozen_of_row w g 2 _ _ hrow
  simp at c2
  have R : ∀ v, (w.setCell ⟨g, 2, none⟩ v).heap[g]? = some (.cells #[.slice a n cap, .int .i64 (i : Int), v] 69 (0, 0)) := fun v => heap_setCell_same w g 2 _ _ v hrow
  have K0 : ∀ v, (w.setCell ⟨g, 2, none⟩ v).cell? ⟨g, 0, none⟩ = some (.slice a n cap) := fun v => cell_of_row _ _ _ _ _ _ (R v)
  have K1 : ∀ v, (w.setCell ⟨g, 2, none⟩ v).cell? ⟨g, 1, none⟩ = some (.int .i64 (i : Int)) := fun v => cell_of_row _ _ _ _ _ _ (R v)
  have K2 : ∀ v, (w.setCell ⟨g, 2, none⟩ v).cell? ⟨g, 2, none⟩ = some v := fun v => cell_of_row _ _ _ _ _ _ (R v)
  have F1 : ∀ v, (w.setCell ⟨g, 2, none⟩ v).frozen? ⟨g, 1, none⟩ = false := fun v => frozen_of_row _ _ _ _ _ (R v)
  have HR : Hid (∀ v, (w.setCell ⟨g, 2, none⟩ v).heap[g]? = some (.cells #[.slice a n cap, .int .i64 (i : Int), v] 69 (0, 0))) := R
  have HC : Hid (Cur w0 w g a n cap) := hc
  have HD : Hid (Code w0 a n zs) := hcd
  clear R hrow hc hcd
  by_cases hlt : i < n
  · obtain ⟨b, off, rfl, hb, hcl⟩ := HD.out.sl i (by rw [HD.out.len]; exact hlt)
    have KC : ∀ v, (w.setCell ⟨g, 2, none⟩ v).cell? ⟨b, off + i, none⟩ = some (.int .u8 (zs.getD i 0)) := fun v => ((HC.out.below.setCell HC.out.new v).cell (by exact hb)).trans hcl
    obtain ⟨y, hy⟩ : ∃ y, y = zs.getD i 0 := ⟨_, rfl⟩
    rw [← hy] at KC
    clear hcl hy
    go_enter Try.func65, Try.ntmps65
    go_wp2_with fail
    go_quiet (fail)
    go_wp2_with fail
    go_quiet (fail)
    go_wp2_with fail
    go_quiet (fail)
    go_wp2_with fail
    have hi1 : wrap64 ((i : Int) + 1) = ((i + 1 : Nat) : Int) := by
      have := HD.out.few
      unfold wrap64; omega
    rw [hi1]
    go_ret
    refine ⟨_, rfl, (and_i64 _ 255 (by omega)).1, (and_i64 _ 255 (by omega)).2, ?_, ?_⟩
    · exact ((HC.out.set2 _).dN _).set1 _ (by omega)
    · exact grown_trans (grown_trans (grown_set _ _ _ _) (grown_dN _ _ _)) (grown_set _ _ _ _)
  · go_enter Try.func65, Try.ntmps65
    go_wp2_with fail
    go_quiet (fail)
    go_wp2_with fail
    go_quiet (fail)
    go_wp2_with fail
    go_ret
    refine ⟨_, rfl, (and_i64 _ 255 (by omega)).1, (and_i64 _ 255 (by omega)).2, ?_, ?_⟩
    · exact ((HC.out.set2 _).dN _).dN _
    · exact grown_trans (grown_trans (grown_set _ _ _ _) (grown_dN _ _ _)) (grown_dN _ _ _)

def Cs (w0 : World) (g : Nat) (a : Option Addr) (n cap : Nat) (w w' : World) : Prop := Cur w0 w' g a n cap ∧ w.grownBy w' (some g)

theorem Cs.trans {w0 w1 w2 w3 : World} {g : Nat} {a : Option Addr} {n cap : Nat} (h : Cs w0 g a n cap w1 w2) (k : Cs w0 g a n cap w2 w3) : Cs w0 g a n cap w1 w3 := ⟨k.1, grown_trans h.2 k.2⟩

theorem Cs.refl {w0 w : World} {g : Nat} {a : Option Addr} {n cap : Nat} (h : Cur w0 w g a n cap) : Cs w0 g a n cap w w := ⟨h, grown_refl _ _⟩

theorem l1Byte_c {w0 : World} {g : Nat} {a : Option Addr} {n cap : Nat} {zs : List Int} (hcd : Code w0 a n zs) (w : World) (hc : Cur w0 w g a n cap) :
    Calls Try.prog 65 #[.pointer (some ⟨g, 0, none⟩)] w fun e w' => ∃ x : Int, e = .returned (.int .i64 x) ∧ (0 ≤ x ∧ x ≤ 255) ∧ Hid (Cs w0 g a n cap w w') :=
  (l1Byte_any hcd w hc).mono fun e w' ⟨x, h1, h2, h3, h4, h5⟩ => ⟨x, h1, ⟨h2, h3⟩, ⟨h4, h5⟩⟩

set_option maxHeartbeats 1600000 in
theorem l1Below_c {w0 : World} {g : Nat} {a : Option Addr} {n cap : Nat} {zs : List Int} (hcd : Code w0 a n zs) (m : Int) (hm : 0 < m) (w : World) (hc : Cur w0 w g a n cap) :
    Calls Try.prog 54 #[.pointer (some ⟨g, 0, none⟩), .int .i64 m] w fun e w' => ∃ x : Int, e = .returned (.int .i64 x) ∧ (0 ≤ x ∧ x < m) ∧ Hid (Cs w0 g a n cap w w') := by
  have HD : Hid (Code w0 a n zs) := hcd
  have HC : Hid (Cur w0 w g a n cap) := hc
  have d1 : decide (m ≤ 0) = false := by simp; omega
  have dz : ¬ m = 0 := by omega
  clear hcd hc
  by_cases hle : m ≤ 256
  · have d2 : decide (m ≤ 256) = true := by simpa using hle
    go_enter Try.func54, Try.ntmps54
    go_wp2_with fail
    refine (l1Byte_c HD.out _ HC.out).mono ?_
    rintro e w1 ⟨x, rfl, ⟨hx0, hx1⟩, hs⟩
    go_wp2_with fail
    go_ret
    refine ⟨_, rfl, ?_, hs⟩
    exact ⟨Int.emod_nonneg _ dz, Int.emod_lt_of_pos _ hm⟩
  · have d2 : decide (m ≤ 256) = false := by simpa using hle
    go_enter Try.func54, Try.ntmps54
    go_wp2_with fail
    refine (l1Byte_c HD.out _ HC.out).mono ?_
    rintro e w1 ⟨x, rfl, ⟨hx0, hx1⟩, hs1⟩
    go_wp2_with fail
    refine (l1Byte_c HD.out _ hs1.out.1).mono ?_
    rintro e w2 ⟨y, rfl, ⟨hy0, hy1⟩, hs2⟩
    go_wp2_with fail
    refine (l1Byte_c HD.out _ hs2.out.1).mono ?_
    rintro e w3 ⟨z, rfl, ⟨hz0, hz1⟩, hs3⟩
    go_wp2_with fail
    refine (l1Byte_c HD.out _ hs3.out.1).mono ?_
    rintro e w4 ⟨u, rfl, ⟨hu0, hu1⟩, hs4⟩
    go_wp2_with fail
    go_ret
    refine ⟨_, rfl, ?_, hs1.out.trans (hs2.out.trans (hs3.out.trans hs4.out))⟩
    exact ⟨Int.emod_nonneg _ dz, Int.emod_lt_of_pos _ hm⟩

theorem l1Once_c {w0 : World} {g : Nat} {a : Option Addr} {n cap : Nat} {zs : List Int} (hcd : Code w0 a n zs) (m : Int) (hm : 0 < m) (w : World) (hc : Cur w0 w g a n cap) :
    Calls Try.prog 53 #[.pointer (some ⟨g, 0, none⟩), .int .i64 m] w fun e w' => ∃ c : Bool, e = .returned (.bool c) ∧ Hid (Cs w0 g a n cap w w') := by
  have HD : Hid (Code w0 a n zs) := hcd
  have HC : Hid (Cur w0 w g a n cap) := hc
  clear hcd hc
  go_enter Try.func53, Try.ntmps53
  go_wp2_with fail
  refine (l1Below_c HD.out m hm _ HC.out).mono ?_
  rintro e w1 ⟨x, rfl, ⟨hx0, hx1⟩, hs⟩
  go_wp2_with fail
  go_ret
  exact ⟨_, rfl, hs⟩

set_option maxHeartbeats 1600000 in
theorem l1New_c {a : Option Addr} {n : Nat} (cap : Nat) {zs : List Int} (w : World) (hcd : Code w a n zs) :
    Calls Try.prog 29 #[.slice a n cap] w fun e w' => ∃ g, e = .returned (.pointer (some ⟨g, 0, none⟩)) ∧ Hid (Cur w w' g a n cap) := by
  have HD : Hid (Code w a n zs) := hcd
  have hn := hcd.few
  clear hcd
  go_enter Try.func29, Try.ntmps29
  go_wp2_with fail
  go_loopw [3, 4] (fun h i wr => ∃ (k : Nat) (x : Int), k ≤ n ∧ h = .int .i64 x ∧ i = .int .i64 k ∧ Hid (Below w.heap.size w wr))
    (fun _ i _ => n - (intOf i).toNat)
  case atStart => exact ⟨0, _, Nat.zero_le _, rfl, rfl, Below.refl _ _⟩
  case round =>
    obtain ⟨k, x, hk, rfl, rfl, hbel⟩ := hrel
    by_cases hlt : k < n
    · obtain ⟨b, off, rfl, hb, hcl⟩ := HD.out.sl k (by rw [HD.out.len]; exact hlt)
      have KC : wr.cell? ⟨b, off + k, none⟩ = some (.int .u8 (zs.getD k 0)) := (hbel.out.cell (by exact hb)).trans hcl
      clear hcl
      go_wp2_with fail
      go_roundw
      case rel => exact ⟨k + 1, _, by omega, rfl, by go_num, hbel⟩
      case measure => simp [intOf]; omega
    · go_wp2_with fail
      go_ret
      refine ⟨_, rfl, ?_⟩
      exact ⟨hbel.out.size, hbel.out.alloc hbel.out.size _, 0, x, Nat.zero_le _, heap_alloc_new _ _⟩

theorem wf64 {x : Int} (h0 : -9223372036854775808 ≤ x) (h1 : x ≤ 9223372036854775807) : (Lit.int .i64 x).wf = true := by
  have hmin : IntKind.i64.min = -9223372036854775808 := rfl
  have hmax : IntKind.i64.max = 9223372036854775807 := rfl
  simp only [Lit.wf, Bool.and_eq_true, decide_eq_true_eq]
  omega

theorem Cs.keep {w0 w w' : World} {g : Nat} {a : Option Addr} {n cap : Nat} (h : Cs w0 g a n cap w w') {k : Nat} {o : Obj} (hk : w.heap[k]? = some o) (hne : k ≠ g) : w'.heap[k]? = some o := by
  by_cases hl : k < w.heap.size
  · rw [h.2.block k hl (by simp [hne])]; exact hk
  · rw [Array.getElem?_eq_none (by omega)] at hk; cases hk

theorem Cur.lt {w0 w : World} {g : Nat} {a : Option Addr} {n cap : Nat} (h : Cur w0 w g a n cap) : g < w.heap.size := by
  obtain ⟨i, x, _, hrow⟩ := h.row
  by_cases hl : g < w.heap.size
  · exact hl
  · rw [Array.getElem?_eq_none (by omega)] at hrow; cases hrow

set_option maxHeartbeats 3200000 in
theorem l1DrawWord_c {w0 : World} {g : Nat} {a : Option Addr} {n cap : Nat} {zs : List Int} (hcd : Code w0 a n zs) (w : World) (hc : Cur w0 w g a n cap) :
    Calls Try.prog 69 #[.pointer (some ⟨g, 0, none⟩)] w fun e w' => ∃ x : Int, e = .returned (.int .u64 x) ∧ (0 ≤ x ∧ x < 18446744073709551616) ∧ Hid (Cs w0 g a n cap w w') := by
  have HD : Hid (Code w0 a n zs) := hcd
  have HC : Hid (Cur w0 w g a n cap) := hc
  clear hcd hc
  go_enter Try.func69, Try.ntmps69
  go_wp2_with fail
  go_loopw [3, 4] (fun h i wr => ∃ (k : Nat) (x : Int), k ≤ 8 ∧ h = .int .u64 x ∧ i = .int .i64 k ∧ (0 ≤ x ∧ x < 18446744073709551616) ∧ Hid (Cs w0 g a n cap w wr))
    (fun _ i _ => 8 - (intOf i).toNat)
  case atStart => exact ⟨0, 0, Nat.zero_le _, rfl, rfl, by omega, Cs.refl HC.out⟩
  case round =>
    obtain ⟨k, x, hk, rfl, rfl, ⟨hx0, hx1⟩, hs⟩ := hrel
    by_cases hlt : k < 8
    · go_wp2_with fail
      refine (l1Byte_c HD.out _ hs.out.1).mono ?_
      rintro e w1 ⟨y, rfl, ⟨hy0, hy1⟩, hs1⟩
      obtain ⟨z, hz⟩ : ∃ z, z = IntKind.u64.wrap (IntKind.u64.wrap (x * 256) + y) := ⟨_, rfl⟩
      go_wp2_with fail
      go_roundw
      case rel =>
        refine ⟨k + 1, _, by omega, rfl, by go_num, ?_, hs.out.trans hs1.out⟩
        rw [IntKind.wrap_u64]; omega
      case measure => simp [intOf]; omega
    · go_wp2_with fail
      refine (l1Below_c HD.out 5 (by omega) _ hs.out.1).mono ?_
      rintro e w1 ⟨y, rfl, ⟨hy0, hy1⟩, hs1⟩
      have HS1 : Hid (Cs w0 g a n cap w w1) := hs.out.trans hs1.out
      have hm : 0 ≤ x % 100 ∧ x % 100 < 18446744073709551616 := by omega
      have hsh : 0 ≤ IntKind.u64.wrap (wrap64 x / 1099511627776) ∧ IntKind.u64.wrap (wrap64 x / 1099511627776) < 18446744073709551616 := by rw [IntKind.wrap_u64]; omega
      obtain ⟨k, rfl⟩ := Int.eq_ofNat_of_zero_le hy0
      match k, hy1 with
      | 0, _ =>
        go_wp2_with fail
        have HA : Hid (Cur w0 (w1.alloc (.cells #[.int .u64 0, .int .u64 1, .int .u64 18446744073709551615, .int .u64 9223372036854775808, .int .u64 9223372036854775807, .int .u64 2147483648, .int .u64 2147483647, .int .u64 18446744071562067968, .int .u64 4294967295, .int .u64 64] 25)) g a n cap) := hs1.out.1.grown (grown_alloc _ _ _)
        refine (l1Below_c HD.out 10 (by omega) _ HA.out).mono ?_
        rintro e w2 ⟨y, rfl, ⟨hx0, hx1⟩, hs2⟩
        obtain ⟨k, rfl⟩ := Int.eq_ofNat_of_zero_le hx0
        have hrow : w2.heap[w1.heap.size]? = some (.cells #[.int .u64 0, .int .u64 1, .int .u64 18446744073709551615, .int .u64 9223372036854775808, .int .u64 9223372036854775807, .int .u64 2147483648, .int .u64 2147483647, .int .u64 18446744071562067968, .int .u64 4294967295, .int .u64 64] 25 (0, 0)) := hs2.out.keep (heap_alloc_new _ _) (Nat.ne_of_gt hs1.out.1.lt)
        obtain ⟨v, hv, hcell⟩ : ∃ v : Int, (0 ≤ v ∧ v < 18446744073709551616) ∧ w2.cell? ⟨w1.heap.size, k, none⟩ = some (.int .u64 v) := by
          have ec := cell_of_row w2 w1.heap.size k _ _ _ hrow
          match k, hx1 with
          | 0, _ => exact ⟨_, by omega, ec⟩
          | 1, _ => exact ⟨_, by omega, ec⟩
          | 2, _ => exact ⟨_, by omega, ec⟩
          | 3, _ => exact ⟨_, by omega, ec⟩
          | 4, _ => exact ⟨_, by omega, ec⟩
          | 5, _ => exact ⟨_, by omega, ec⟩
          | 6, _ => exact ⟨_, by omega, ec⟩
          | 7, _ => exact ⟨_, by omega, ec⟩
          | 8, _ => exact ⟨_, by omega, ec⟩
          | 9, _ => exact ⟨_, by omega, ec⟩
          | k + 10, h => exact absurd h (by omega)
        have HV : Hid (0 ≤ v ∧ v < 18446744073709551616) := hv
        have HS : Hid (Cs w0 g a n cap w w2) := ⟨hs2.out.1, grown_trans HS1.out.2 (grown_trans (grown_alloc _ _ _) hs2.out.2)⟩
        clear hrow hv hs hs1 hs2 HA HC HS1
        go_wp2_with fail
        go_ret
        exact ⟨_, rfl, HV.out, HS⟩
      | 1, _ =>
        go_wp2_with fail
        go_ret
        exact ⟨_, rfl, hm, HS1⟩
      | 2, _ =>
        go_wp2_with fail
        go_ret
        exact ⟨_, rfl, hsh, HS1⟩
      | 3, _ =>
        go_wp2_with fail
        go_ret
        exact ⟨_, rfl, ⟨hx0, hx1⟩, HS1⟩
      | 4, _ =>
        go_wp2_with fail
        go_ret
        exact ⟨_, rfl, ⟨hx0, hx1⟩, HS1⟩
      | k + 5, h => exact absurd h (by omega)

theorem Cs.alloc {w0 : World} {g : Nat} {a : Option Addr} {n cap : Nat} {w : World} (h : Cur w0 w g a n cap) (o : Obj) : Cs w0 g a n cap w (w.alloc o) := ⟨h.grown (grown_alloc _ _ _), grown_alloc _ _ _⟩

theorem few_words {w : World} {b k : Nat} (cs : List Int) (t : TypeId) (hr : w.heap[b]? = some (.cells (cs.map (Value.int .u64)).toArray t (0, 0))) (hu : ∀ x ∈ cs, U x) (hk : k < cs.length) : ∃ v, U v ∧ w.cell? ⟨b, k, none⟩ = some (.int .u64 v) := by
  refine ⟨cs[k], hu _ (List.getElem_mem hk), ?_⟩
  rw [cell_of_row _ _ _ _ _ _ hr]
  simp [List.getElem?_eq_getElem hk]

theorem few_ints {w : World} {b k : Nat} (cs : List Int) (t : TypeId) (hr : w.heap[b]? = some (.cells (cs.map (Value.int .i64)).toArray t (0, 0))) (hu : ∀ x ∈ cs, (Lit.int .i64 x).wf = true) (hk : k < cs.length) : ∃ v, (Lit.int .i64 v).wf = true ∧ w.cell? ⟨b, k, none⟩ = some (.int .i64 v) := by
  refine ⟨cs[k], hu _ (List.getElem_mem hk), ?_⟩
  rw [cell_of_row _ _ _ _ _ _ hr]
  simp [List.getElem?_eq_getElem hk]

theorem Cs.of_below {w0 : World} {g : Nat} {a : Option Addr} {n cap : Nat} {w wx : World} (hc : Cur w0 w g a n cap) (hb : Below w.heap.size w wx) : Cs w0 g a n cap w wx := by
  have hg := hc.lt
  obtain ⟨i, x, hi, hrow⟩ := hc.row
  exact ⟨⟨hc.new, below_trans hc.below hb, i, x, hi, by rw [hb.block g hg]; exact hrow⟩, ⟨hb.os, hb.tape, hb.output, hb.size, fun k hk _ => hb.block k hk⟩⟩

theorem infoI : (Try.prog.info? 2).map (fun i => (i.zero, i.size, i.bytes)) = some (some (.int .i64 0), 1, 8) := by kernel_rfl

set_option maxHeartbeats 1600000 in
theorem l4DrawNumber_c {w0 : World} {g : Nat} {a : Option Addr} {n cap : Nat} {zs : List Int} (hcd : Code w0 a n zs) (w : World) (hc : Cur w0 w g a n cap) :
    Calls Try.prog 80 #[.pointer (some ⟨g, 0, none⟩)] w fun e w' => ∃ x : Int, e = .returned (.int .i64 x) ∧ (Lit.int .i64 x).wf = true ∧ Hid (Cs w0 g a n cap w w') := by
  have HD : Hid (Code w0 a n zs) := hcd
  have HC : Hid (Cur w0 w g a n cap) := hc
  obtain ⟨i0, hi, hz0, hz1, hz2⟩ := info_parts infoI
  have hb9 : (22 + 5) * 8 ≤ 140737488355328 := by omega
  have hm9 : 22 + 5 ≤ maxLen := by unfold maxLen; omega
  have h1c : ∀ u ∈ ([256, 260, 324, 3860, 769] : List Int).map (Value.int .i64), u.oneCell' = true := ints_oneCell _ _
  have hnews : ∀ (W : World) (j : Nat) (u : Value), (([256, 260, 324, 3860, 769] : List Int).map (Value.int .i64))[j]? = some u → (W.alloc (.cells #[.int .i64 256, .int .i64 260, .int .i64 324, .int .i64 3860, .int .i64 769] 2)).cell? ((⟨W.heap.size, 0, none⟩ : Addr).add j) = some u := by
    intro W j u hu
    rw [adds, Nat.zero_add, cell_of_row _ _ _ _ _ _ (heap_alloc_new _ _)]
    rw [← hu]
    simp
  have HN : Hid (∀ (W : World) (j : Nat) (u : Value), (([256, 260, 324, 3860, 769] : List Int).map (Value.int .i64))[j]? = some u → (W.alloc (.cells #[.int .i64 256, .int .i64 260, .int .i64 324, .int .i64 3860, .int .i64 769] 2)).cell? ((⟨W.heap.size, 0, none⟩ : Addr).add j) = some u) := hnews
  clear hcd hc hnews
  go_enter Try.func80, Try.ntmps80
  go_wp2_with fail
  refine (l4Numbers_any _).mono ?_
  rintro e w1 ⟨rfl, hw1⟩
  have ho1 : w1.ownsRow w.heap.size 2 1 (.slice (some ⟨w.heap.size, 0, none⟩) 22 22) 22 (csrNumbers.map (Value.int .i64)) := by
    rw [hw1]; exact World.ownsRow_lit w _ 22 (Nat.le_refl _) (by unfold maxLen; omega) rfl
  have hb1 : Below w.heap.size w w1 := by rw [hw1]; exact (Below.refl _ _).alloc (Nat.le_refl _) _
  have hE := ho1.alloc (.cells #[.int .i64 256, .int .i64 260, .int .i64 324, .int .i64 3860, .int .i64 769] 2)
  have hlt1 : w.heap.size < w1.heap.size := by rw [hw1]; simp
  clear hw1 ho1
  go_wp2_with (at_builtin; refine wpList_append_own _ rfl (.tmp 4) (.tmp 5) 72 rfl _ 2 i0 (.int .i64 0) 1 8 Try.underlying72 hi hz0 hz1 hz2 rfl (by decide) _ 22 (csrNumbers.map (Value.int .i64)) (by rfl) hE ⟨w1.heap.size, 0, none⟩ 5 5 (([256, 260, 324, 3860, 769] : List Int).map (Value.int .i64)) rfl rfl (HN.out _) h1c hm9 hb9 (by simp; omega) ?_; intro v' w2 hown1 hgrow1 hnil1)
  obtain ⟨g2, c2, hv2, hg2⟩ := own_shape hown1 (by omega)
  have B2 : Below w.heap.size w w2 := Below.grown (hb1.alloc hb1.size _) hgrow1 (by simp; omega) (by intro k hk; simp [Value.ownBlock] at hk; omega)
  have HS2 : Hid (Cs w0 g a n cap w w2) := Cs.of_below HC.out B2
  obtain ⟨L, hL⟩ : ∃ L, L = csrNumbers ++ ([256, 260, 324, 3860, 769] : List Int) := ⟨_, rfl⟩
  rw [hv2, ← List.map_append, ← hL] at hown1
  have HWF : Hid (∀ x ∈ L, (Lit.int .i64 x).wf = true) := by rw [hL]; show ∀ x ∈ _, _; decide
  have HLL : Hid (L.length = 27) := by rw [hL]; rfl
  have HO : Hid (w2.ownsRow w.heap.size 2 1 (.slice (some ⟨g2, 0, none⟩) 27 c2) 27 (L.map (Value.int .i64))) := hown1
  have HNE : Hid (g < g2) := Nat.lt_of_lt_of_le HC.out.lt hg2
  rw [hv2]
  clear hL hown1 hgrow1 hnil1 hv2 hE hb1 hlt1 HN h1c hg2 B2
  go_wp2_with fail
  refine (l1Once_c HD.out 14 (by omega) _ HS2.out.1).mono ?_
  rintro e w3 ⟨c, rfl, hs3⟩
  cases c with
  | true =>
    go_wp2_with fail
    have HA := Cs.alloc hs3.out.1 (.cells #[.int .i64 0, .int .i64 1, .int .i64 769, .int .i64 2816, .int .i64 3072, .int .i64 4095] 2)
    refine (l1Below_c HD.out 6 (by omega) _ HA.1).mono ?_
    rintro e w4 ⟨x, rfl, ⟨hx0, hx1⟩, hs4⟩
    obtain ⟨k, rfl⟩ := Int.eq_ofNat_of_zero_le hx0
    obtain ⟨v, hv, hcell⟩ := few_ints [0, 1, 769, 2816, 3072, 4095] 2 (hs4.out.keep (heap_alloc_new _ _) (Nat.ne_of_gt hs3.out.1.lt)) (by decide) (k := k) (by simp; omega)
    have HV : Hid ((Lit.int .i64 v).wf = true) := hv
    have HS : Hid (Cs w0 g a n cap w w4) := HS2.out.trans (hs3.out.trans (HA.trans hs4.out))
    clear hv hs3 hs4 HA HC
    go_wp2_with fail
    go_ret
    exact ⟨_, rfl, HV.out, HS⟩
  | false =>
    go_wp2_with fail
    refine (l1Below_c HD.out 27 (by omega) _ hs3.out.1).mono ?_
    rintro e w4 ⟨x, rfl, ⟨hx0, hx1⟩, hs4⟩
    obtain ⟨k, rfl⟩ := Int.eq_ofNat_of_zero_le hx0
    have hs34 := hs3.out.trans hs4.out
    have ho4 := kept_of HO.out hs34.2 (by intro j hj hne; have := HNE.out; simp [Value.ownBlock] at hj hne; omega)
    obtain ⟨b, off, e, _, hcl⟩ := own_sl ho4 k (by have := HLL.out; omega)
    simp only [Option.some.injEq, Addr.mk.injEq, and_true] at e
    obtain ⟨rfl, rfl⟩ := e
    rw [Nat.zero_add] at hcl
    have HV : Hid ((Lit.int .i64 (L.getD k 0)).wf = true) := by
      have hk : k < L.length := by have := HLL.out; omega
      have e : L.getD k 0 = L[k] := by simp [List.getD, List.getElem?_eq_getElem hk]
      show (Lit.int .i64 (L.getD k 0)).wf = true
      rw [e]; exact HWF.out _ (List.getElem_mem hk)
    generalize L.getD k 0 = v at *
    have HS : Hid (Cs w0 g a n cap w w4) := HS2.out.trans hs34
    clear ho4 hs34 hs3 hs4 HC
    go_wp2_with fail
    go_ret
    exact ⟨_, rfl, HV.out, HS⟩

end Go.Proofs.Ytcdjfiljlahaeaa
