/- Own lemmas. -/
import Derived.Test.YtjjpklalihaanaaDoorK01
import Derived.Laws.BitsAllLaws
import Derived.BigQuiet
import Derived.Test.YtjjpklalihaanaaDoorProg
import Derived.Maps.AppendAt
import Derived.ScopeJumps
import Derived.WalkMore
import Derived.Laws.Cover4
import Derived.Laws.IdiomStrings
namespace Go.Proofs.YtjjpklalihaanaaDoor
set_option linter.unusedVariables false

def Fm.mask : Fm → Int
  | .r => 4261441663 | .w => 4261441663 | .h => 4227887231 | .a => 4160778367 | .x => 4294967295 | .u => 127 | .j => 127 | .i => 28799 | .s => 28799 | .b => 28799 | .c => 28799

def Fm.at : Fm → Nat
  | .r => 25 | .w => 25 | .h => 26 | .a => 27 | .x => 20 | .u => 0 | .j => 0 | .i => 0 | .s => 0 | .b => 0 | .c => 0

def Fm.hasRd : Fm → Bool
  | .r => true | .i => true | .h => true | .w => true | .s => false | .b => false | .u => true | .j => true | .a => true | .c => true | .x => false

def Fm.hasA : Fm → Bool
  | .r => true | .i => true | .h => true | .w => true | .s => true | .b => true | .u => false | .j => false | .a => true | .c => true | .x => false

def Fm.hasB : Fm → Bool
  | .r => true | .i => false | .h => false | .w => false | .s => true | .b => true | .u => false | .j => false | .a => true | .c => false | .x => false

def Fm.pcs : Fm → List (Nat × Nat × Nat)
  | .r => [] | .i => [(20, 12, 0)] | .h => [(20, 6, 0)] | .w => [(20, 5, 0)] | .s => [(25, 7, 5), (7, 5, 0)] | .b => [(31, 1, 12), (7, 1, 11), (25, 6, 5), (8, 4, 1)]
  | .u => [(12, 20, 12)] | .j => [(31, 1, 20), (12, 8, 12), (20, 1, 11), (21, 10, 1)] | .a => [(25, 2, 0)] | .c => [(20, 12, 0)] | .x => []

def Fm.width : Fm → Nat
  | .r => 64 | .i => 12 | .h => 64 | .w => 64 | .s => 12 | .b => 13 | .u => 32 | .j => 21 | .a => 64 | .c => 64 | .x => 64

structure Ins where
  op : Int
  rd : Int
  a : Int
  b : Int
  imm : Int
deriving DecidableEq

def Ins.val (i : Ins) : Value := .agg #[.int .i64 i.op, .int .i64 i.rd, .int .i64 i.a, .int .i64 i.b, .int .i64 i.imm]

def fld (x : Int) (k n : Nat) : Int := x / 2 ^ k % 2 ^ n

theorem fld_bd (x : Int) (k n : Nat) : 0 ≤ fld x k n ∧ fld x k n < 2 ^ n := by
  have hp : (0 : Int) < 2 ^ n := Int.pow_pos (by omega)
  exact ⟨Int.emod_nonneg _ (by omega), Int.emod_lt_of_pos _ hp⟩

theorem pow_le (m n : Nat) (h : m ≤ n) : (2 : Int) ^ m ≤ 2 ^ n := by
  obtain ⟨d, rfl⟩ := Nat.exists_eq_add_of_le h
  rw [Int.pow_add]
  have h1 : (0 : Int) < 2 ^ m := Int.pow_pos (by omega)
  have h2 : (0 : Int) < 2 ^ d := Int.pow_pos (by omega)
  have h3 : (2 : Int) ^ m * 1 ≤ 2 ^ m * 2 ^ d := Int.mul_le_mul_of_nonneg_left (by omega) (by omega)
  omega

theorem bitsAt_eq (x : Int) (k n : Nat) (h0 : 0 ≤ x) (h1 : x < 18446744073709551616) (hn : n < 64) :
    bits .and .u64 (x / 2 ^ k) (IntKind.u64.wrap (IntKind.u64.wrap (2 ^ n) - 1)) = fld x k n := by
  have hp : (0 : Int) < 2 ^ n := Int.pow_pos (by omega)
  have hk : (0 : Int) < 2 ^ k := Int.pow_pos (by omega)
  have hb : (2 : Int) ^ n ≤ 2 ^ 63 := pow_le n 63 (by omega)
  have e63 : (2 : Int) ^ 63 = 9223372036854775808 := by decide
  have e1 : IntKind.u64.wrap (2 ^ n) = 2 ^ n := by rw [IntKind.wrap_u64]; omega
  have e2 : IntKind.u64.wrap (2 ^ n - 1) = 2 ^ n - 1 := by rw [IntKind.wrap_u64]; omega
  have d0 : 0 ≤ x / 2 ^ k := Int.ediv_nonneg h0 (by omega)
  have d1 : x / 2 ^ k ≤ x := Int.ediv_le_self _ h0
  rw [e1, e2, u64_and _ _ d0 (by omega) (by omega) (by omega)]
  have e3 : (2 ^ n - 1 : Int).toNat = 2 ^ n - 1 := by
    have : (2 : Int) ^ n = ((2 ^ n : Nat) : Int) := by simp
    rw [this]; omega
  rw [e3, Nat.and_two_pow_sub_one_eq_mod]
  unfold fld
  have e4 : ((x / 2 ^ k).toNat : Int) = x / 2 ^ k := Int.toNat_of_nonneg d0
  rw [Int.natCast_emod, e4]
  simp

theorem and_split (n m k : Nat) : n &&& m = 2 ^ k * (n / 2 ^ k &&& m / 2 ^ k) + (n % 2 ^ k &&& m % 2 ^ k) := by
  rw [← Nat.and_div_two_pow, ← Nat.and_mod_two_pow]
  exact (Nat.div_add_mod _ _).symm

theorem and_ones (n k : Nat) : n &&& (2 ^ k - 1) = n % 2 ^ k := Nat.and_two_pow_sub_one_eq_mod n k

theorem or_field (a x k m : Nat) (h : a / 2 ^ k % 2 ^ m = 0) (hx : x < 2 ^ m) : a ||| x * 2 ^ k = a + x * 2 ^ k := by
  have hk : 0 < 2 ^ k := Nat.two_pow_pos k
  have hm : 0 < 2 ^ m := Nat.two_pow_pos m
  have e1 : a = a / 2 ^ k / 2 ^ m * 2 ^ (k + m) + a % 2 ^ k := by
    have h1 := Nat.div_add_mod a (2 ^ k)
    have h2 := Nat.div_add_mod (a / 2 ^ k) (2 ^ m)
    rw [h, Nat.add_zero] at h2
    rw [← h2] at h1
    rw [Nat.pow_add, ← Nat.mul_assoc, Nat.mul_right_comm, Nat.mul_comm _ (2 ^ k), Nat.mul_comm _ (2 ^ m)] 
    omega
  have hlo : a % 2 ^ k < 2 ^ k := Nat.mod_lt _ hk
  have j1 : a / 2 ^ k / 2 ^ m * 2 ^ (k + m) ||| a % 2 ^ k = a / 2 ^ k / 2 ^ m * 2 ^ (k + m) + a % 2 ^ k := by
    refine nat_join k _ _ ?_ hlo
    rw [Nat.pow_add, Nat.mul_comm (2 ^ k), ← Nat.mul_assoc]; exact Nat.mul_mod_left _ _
  have j2 : x * 2 ^ k ||| a % 2 ^ k = x * 2 ^ k + a % 2 ^ k := nat_join k _ _ (Nat.mul_mod_left _ _) hlo
  have hsm : x * 2 ^ k + a % 2 ^ k < 2 ^ (k + m) := by
    rw [Nat.pow_add, Nat.mul_comm (2 ^ k)]
    have : (x + 1) * 2 ^ k ≤ 2 ^ m * 2 ^ k := Nat.mul_le_mul_right _ hx
    rw [Nat.add_mul] at this
    omega
  have j3 : a / 2 ^ k / 2 ^ m * 2 ^ (k + m) ||| (x * 2 ^ k + a % 2 ^ k) = a / 2 ^ k / 2 ^ m * 2 ^ (k + m) + (x * 2 ^ k + a % 2 ^ k) := nat_join (k + m) _ _ (Nat.mul_mod_left _ _) hsm
  have e2 : a ||| x * 2 ^ k = a / 2 ^ k / 2 ^ m * 2 ^ (k + m) ||| (x * 2 ^ k ||| a % 2 ^ k) := by
    conv => lhs; rw [e1, ← j1]
    rw [Nat.or_assoc, Nat.or_comm (a % 2 ^ k)]
  rw [e2, j2, j3]
  omega

def matchP (i : Nat) (f : Fm) (o z m x : Int) : Prop := x % 128 = o ∧ (0 ≤ z → x / 4096 % 8 = z) ∧
  (match f with
  | .r => x / 33554432 = m ∧ (i = 97 → x / 128 % 32 = 0)
  | .h => x / 67108864 = m
  | .w => x / 33554432 = m
  | .a => x / 134217728 = m ∧ (i = 62 ∨ i = 73 → x / 1048576 % 32 = 0)
  | .x => x = m * 1048576 + o
  | _ => True)

instance (i : Nat) (f : Fm) (o z m x : Int) : Decidable (matchP i f o z m x) := by
  unfold matchP; cases f <;> infer_instance

theorem and_low (x : Int) (k : Nat) (h0 : 0 ≤ x) (h1 : x < 18446744073709551616) (hk : k < 64) : bits .and .u64 x (2 ^ k - 1) = x % 2 ^ k := by
  have h := bitsAt_eq x 0 k h0 h1 hk
  have hp : (0 : Int) < 2 ^ k := Int.pow_pos (by omega)
  have hb : (2 : Int) ^ k ≤ 2 ^ 63 := pow_le k 63 (by omega)
  have e63 : (2 : Int) ^ 63 = 9223372036854775808 := by decide
  have e1 : IntKind.u64.wrap (2 ^ k) = 2 ^ k := by rw [IntKind.wrap_u64]; omega
  have e2 : IntKind.u64.wrap (2 ^ k - 1) = 2 ^ k - 1 := by rw [IntKind.wrap_u64]; omega
  rw [e1, e2] at h
  simpa [fld] using h

def widen (n : Nat) (x : Int) : Int := IntKind.u64.wrap (RowKit.wrap64 (IntKind.u64.wrap (x * 2 ^ (64 - n))) / 2 ^ (64 - n))

def immU (f : Fm) (x : Int) : Int :=
  match f with
  | .i => x / 1048576
  | .h => x / 1048576 % 64
  | .w => x / 1048576 % 32
  | .s => x / 33554432 * 32 + x / 128 % 32
  | .b => x / 2147483648 * 4096 + x / 128 % 2 * 2048 + x / 33554432 % 64 * 32 + x / 256 % 16 * 2
  | .u => x / 4096 * 4096
  | .j => x / 2147483648 * 1048576 + x / 4096 % 256 * 4096 + x / 1048576 % 2 * 2048 + x / 2097152 % 1024 * 2
  | .a => x / 33554432 % 4
  | .c => x / 1048576
  | .r => 0
  | .x => 0

def immV (f : Fm) (x : Int) : Int := RowKit.wrap64 (widen f.width (immU f x))

theorem widen64 (u : Int) (h0 : 0 ≤ u) (h1 : u < 9223372036854775808) : RowKit.wrap64 (widen 64 u) = u := by
  have e : (2 : Int) ^ (64 - 64) = 1 := by decide
  unfold widen
  rw [e, IntKind.wrap_u64, IntKind.wrap_u64]
  unfold RowKit.wrap64
  omega

theorem or64 (a x : Int) (k m : Nat) (h0 : 0 ≤ a) (h1 : a < 18446744073709551616) (hx : 0 ≤ x) (hx2 : x < 2 ^ m) (hkm : k + m ≤ 64) (h : a / 2 ^ k % 2 ^ m = 0) : bits .or .u64 a (x * 2 ^ k) = a + x * 2 ^ k := by
  obtain ⟨A, rfl⟩ := Int.eq_ofNat_of_zero_le h0
  obtain ⟨X, rfl⟩ := Int.eq_ofNat_of_zero_le hx
  have hX : X < 2 ^ m := by
    have : ((X : Nat) : Int) < ((2 ^ m : Nat) : Int) := by simpa using hx2
    omega
  have hA : A / 2 ^ k % 2 ^ m = 0 := by
    have : (((A / 2 ^ k % 2 ^ m : Nat)) : Int) = 0 := by simpa using h
    omega
  have e : ((X : Int) * 2 ^ k) = ((X * 2 ^ k : Nat) : Int) := by simp
  have hb : X * 2 ^ k < 18446744073709551616 := by
    have h2 : X * 2 ^ k < 2 ^ m * 2 ^ k := Nat.mul_lt_mul_of_pos_right hX (Nat.two_pow_pos k)
    rw [← Nat.pow_add] at h2
    have h3 : 2 ^ (m + k) ≤ 2 ^ 64 := Nat.pow_le_pow_right (by omega) (by omega)
    have e64 : 2 ^ 64 = 18446744073709551616 := by decide
    omega
  rw [e, u64_or_nat A (X * 2 ^ k) (by omega) hb, or_field A X k m hA hX]
  simp

end Go.Proofs.YtjjpklalihaanaaDoor

namespace Go.Proofs.YtjjpklalihaanaaDoor
open Go.RowKit
set_option linter.unusedVariables false

theorem bitsAt_any (x : Int) (k n : Nat) (h0 : 0 ≤ x) (h1 : x < 18446744073709551616) (hk : k < 64) (hn : n < 64) (w : World) :
    Calls Tryd.prog 57 #[.int .u64 x, .int .i64 k, .int .i64 n] w fun e w' => e = .returned (.int .u64 (fld x k n)) ∧ w' = w.drew := by
  have F : Hid (bits .and .u64 (x / 2 ^ k) (IntKind.u64.wrap (IntKind.u64.wrap (2 ^ n) - 1)) = fld x k n) := bitsAt_eq x k n h0 h1 hn
  go_enter Tryd.func57, Tryd.ntmps57
  go_wp2_with fail
  go_region
  all_goals go_wp2_with fail
  all_goals go_ret
  all_goals exact ⟨by rw [← F.out]; rfl, rfl⟩

set_option maxHeartbeats 800000 in
theorem settledBits_any (f : Fm) (w : World) :
    Calls Tryd.prog 55 #[.string f.str] w fun e w' => e = .returned (.tuple #[.int .u64 f.mask, .int .i64 f.at]) ∧ w' = w := by
  cases f <;> simp only [Fm.str, Fm.mask, Fm.at]
  all_goals go_enter Tryd.func55, Tryd.ntmps55
  all_goals go_wp2_with fail
  all_goals go_ret2
  all_goals exact ⟨rfl, rfl⟩

theorem implWiden_any (x : Int) (n : Nat) (h1 : 1 ≤ n) (h2 : n ≤ 64) (w : World) :
    Calls Tryd.prog 58 #[.int .u64 x, .int .i64 n] w fun e w' => e = .returned (.int .u64 (widen n x)) ∧ w' = w := by
  have d1 : decide ((n : Int) < 1) = false := by simp; omega
  have d2 : decide ((64 : Int) < (n : Int)) = false := by simp; omega
  obtain ⟨m, hm, hm0⟩ : ∃ m : Nat, (64 : Int) - (n : Int) = (m : Int) ∧ m = 64 - n := ⟨64 - n, by omega, rfl⟩
  have F : Hid (IntKind.u64.wrap (wrap64 (IntKind.u64.wrap (x * 2 ^ m)) / 2 ^ m) = widen n x) := by
    show _ = _
    rw [hm0]; rfl
  clear hm0
  go_enter Tryd.func58, Tryd.ntmps58
  go_wp2_with fail
  go_ret
  exact ⟨by rw [← F.out]; rfl, rfl⟩

theorem l1Widen_any (x : Int) (n : Nat) (h1 : 1 ≤ n) (h2 : n ≤ 64) (w : World) :
    Calls Tryd.prog 71 #[.int .u64 x, .int .u64 n] w fun e w' => e = .returned (.int .u64 (widen n x)) ∧ w' = w := by
  obtain ⟨m, hm, hm0⟩ : ∃ m : Nat, (64 : Int) - (n : Int) = (m : Int) ∧ m = 64 - n := ⟨64 - n, by omega, rfl⟩
  have F : Hid (IntKind.u64.wrap (wrap64 (IntKind.u64.wrap (x * 2 ^ m)) / 2 ^ m) = widen n x) := by
    show _ = _
    rw [hm0]; rfl
  clear hm0
  have hm2 : IntKind.u64.wrap (m : Int) = m := by rw [IntKind.wrap_u64]; omega
  go_enter Tryd.func71, Tryd.ntmps71
  go_wp2_with fail
  go_ret
  exact ⟨by rw [← F.out]; rfl, rfl⟩

def maskI (op : Int) (f : Fm) : Int := if op = 98 then bits .or .u64 f.mask 3968 else if op = 63 ∨ op = 74 then bits .or .u64 f.mask 32505856 else f.mask

def bitsI (f : Fm) (o z m : Int) : Int := bits .or .u64 (bits .or .u64 o (IntKind.u64.wrap (z * 4096))) (IntKind.u64.wrap (m * 2 ^ f.at))

set_option maxHeartbeats 800000 in
theorem rowPattern_any (op : Int) (nm : ByteArray) (f : Fm) (o z m : Int) (w : World) :
    Calls Tryd.prog 26 #[.int .i64 op, .agg #[.string nm, .string f.str, .int .u64 o, .int .u64 z, .int .u64 m]] w fun e w' => e = .returned (.tuple #[.int .u64 (maskI op f), .int .u64 (bitsI f o z m)]) ∧ Below w.heap.size w w' := by
  have hs := settledBits_any f
  obtain ⟨M, hM⟩ : ∃ M, M = f.mask := ⟨_, rfl⟩
  obtain ⟨t, ht⟩ : ∃ t, t = f.at := ⟨_, rfl⟩
  obtain ⟨s, hf⟩ : ∃ s, s = f.str := ⟨_, rfl⟩
  have FB : Hid (bitsI f o z m = bits .or .u64 (bits .or .u64 o (IntKind.u64.wrap (z * 4096))) (IntKind.u64.wrap (m * 2 ^ t))) := by
    show _ = _
    rw [bitsI, ht]
  rw [← hf, ← hM, ← ht] at hs
  rw [← hf]
  have ht64 : t < 64 := by rw [ht]; cases f <;> decide
  by_cases h98 : op = 98
  · subst h98
    have FM : Hid (maskI 98 f = bits .or .u64 M 3968) := by show _ = _; rw [maskI, if_pos rfl, hM]
    clear hM ht hf
    go_enter Tryd.func26, Tryd.ntmps26
    go_wp2_with fail
    refine (hs _).mono ?_
    rintro e w1 ⟨rfl, rfl⟩
    go_wp2_with fail
    go_region
    all_goals go_wp2_with fail
    all_goals go_ret2
    all_goals exact ⟨by rw [FM.out, FB.out]; rfl, ((Below.refl _ _).alloc (Nat.le_refl _) _).drew⟩
  · have d98 : (op == 98) = false := by simpa using h98
    by_cases h63 : op = 63
    · subst h63
      have FM : Hid (maskI 63 f = bits .or .u64 M 32505856) := by show _ = _; rw [maskI, if_neg (by decide), if_pos (by decide), hM]
      clear hM ht hf h98 d98
      go_enter Tryd.func26, Tryd.ntmps26
      go_wp2_with fail
      refine (hs _).mono ?_
      rintro e w1 ⟨rfl, rfl⟩
      go_wp2_with fail
      go_region
      all_goals go_wp2_with fail
      all_goals go_ret2
      all_goals exact ⟨by rw [FM.out, FB.out]; rfl, ((Below.refl _ _).alloc (Nat.le_refl _) _).drew⟩
    · have d63 : (op == 63) = false := by simpa using h63
      by_cases h74 : op = 74
      · subst h74
        have FM : Hid (maskI 74 f = bits .or .u64 M 32505856) := by show _ = _; rw [maskI, if_neg (by decide), if_pos (by decide), hM]
        clear hM ht hf h98 d98 h63 d63
        go_enter Tryd.func26, Tryd.ntmps26
        go_wp2_with fail
        refine (hs _).mono ?_
        rintro e w1 ⟨rfl, rfl⟩
        go_wp2_with fail
        go_region
        all_goals go_wp2_with fail
        all_goals go_ret2
        all_goals exact ⟨by rw [FM.out, FB.out]; rfl, ((Below.refl _ _).alloc (Nat.le_refl _) _).drew⟩
      · have d74 : (op == 74) = false := by simpa using h74
        have FM : Hid (maskI op f = M) := by show _ = _; rw [maskI, if_neg h98, if_neg (by omega), hM]
        clear hM ht hf h98 h63 h74
        go_enter Tryd.func26, Tryd.ntmps26
        go_wp2_with fail
        refine (hs _).mono ?_
        rintro e w1 ⟨rfl, rfl⟩
        go_wp2_with fail
        go_region
        all_goals go_wp2_with fail
        all_goals go_ret2
        all_goals exact ⟨by rw [FM.out, FB.out]; rfl, ((Below.refl _ _).alloc (Nat.le_refl _) _).drew⟩

def PcsAt (w : World) (p : Option Addr) (l : List (Nat × Nat × Nat)) : Prop := ∀ k, k < l.length → ∃ g, p = some ⟨g, 0, none⟩ ∧ g < w.heap.size ∧ w.cell? ⟨g, k * 3, none⟩ = some (.int .i64 (l.getD k (0, 0, 0)).1) ∧
  w.cell? ⟨g, k * 3 + 1, none⟩ = some (.int .i64 (l.getD k (0, 0, 0)).2.1) ∧ w.cell? ⟨g, k * 3 + 2, none⟩ = some (.int .i64 (l.getD k (0, 0, 0)).2.2)

def pc (p : Nat × Nat × Nat) : List Value := [.int .i64 p.1, .int .i64 p.2.1, .int .i64 p.2.2]

theorem pcsAt_mk (w : World) (A : Obj) (cs : Array Value) (t : TypeId) (l : List (Nat × Nat × Nat)) (h : cs = (l.flatMap pc).toArray) : PcsAt ((w.alloc A).alloc (.cells cs t)) (some ⟨w.heap.size + 1, 0, none⟩) l := by
  subst h
  intro k hk
  have hg : ((w.alloc A).alloc (.cells (l.flatMap pc).toArray t)).heap[w.heap.size + 1]? = some (.cells (l.flatMap pc).toArray t (0, 0)) := heap_alloc2_new _ _ _
  have e : ∀ j, j < 3 → ((w.alloc A).alloc (.cells (l.flatMap pc).toArray t)).cell? ⟨w.heap.size + 1, k * 3 + j, none⟩ = (pc (l.getD k (0, 0, 0)))[j]? := by
    intro j hj
    rw [cell_of_row _ _ _ _ _ _ hg]
    have := flat_get pc 3 l (by intro x _; rfl) k hk j hj
    rw [show l.getD k (0, 0, 0) = l[k] by simp [List.getD, hk], ← this]
    simp
  exact ⟨_, rfl, by simp, e 0 (by decide), e 1 (by decide), e 2 (by decide)⟩

theorem pcsAt_nil (w : World) (p : Option Addr) : PcsAt w p [] := by
  intro k hk; simp at hk

theorem fields_size : (Tryd.prog.info? 93).map (·.size) = some 5 := by kernel_rfl

set_option maxHeartbeats 1600000 in
theorem fieldsOf_any (f : Fm) (w : World) :
    Calls Tryd.prog 56 #[.string f.str] w fun e w' => ∃ p, e = .returned (.agg #[.bool f.hasRd, .bool f.hasA, .bool f.hasB, .slice p f.pcs.length f.pcs.length, .int .i64 f.width]) ∧ Hid (PcsAt w' p f.pcs) ∧ Below w.heap.size w w' := by
  cases f
  case r =>
    simp only [Fm.str]
    go_enter Tryd.func56, Tryd.ntmps56
    go_wp2_with fail
    exact bodyPost_ret (results_cell_row Tryd.results56 _ _ _ _ _ _ _ rfl (heap_alloc_new _ _) Tryd.underlying93 rfl fields_size) rfl ⟨none, rfl, pcsAt_nil _ _, (Below.refl _ _).alloc (Nat.le_refl _) _⟩
  case x =>
    simp only [Fm.str]
    go_enter Tryd.func56, Tryd.ntmps56
    go_wp2_with fail
    exact bodyPost_ret (results_cell_row Tryd.results56 _ _ _ _ _ _ _ rfl (heap_alloc_new _ _) Tryd.underlying93 rfl fields_size) rfl ⟨none, rfl, pcsAt_nil _ _, (Below.refl _ _).alloc (Nat.le_refl _) _⟩
  all_goals (
    simp only [Fm.str]
    go_enter Tryd.func56, Tryd.ntmps56
    go_wp2_with fail
    exact bodyPost_ret (results_cell_row Tryd.results56 _ _ _ _ _ _ _ rfl (heap_alloc2_old _ _ _) Tryd.underlying93 rfl fields_size) rfl ⟨some ⟨w.heap.size + 1, 0, none⟩, rfl, pcsAt_mk _ _ _ _ _ rfl, ((Below.refl _ _).alloc (Nat.le_refl _) _).alloc (by simp) _⟩)

def immF (x : Int) (l : List (Nat × Nat × Nat)) : Int := l.foldl (fun acc p => bits .or .u64 acc (IntKind.u64.wrap (fld x p.1 p.2.1 * 2 ^ p.2.2))) 0

def rdV (f : Fm) (x : Int) : Int := if f.hasRd then fld x 7 5 else 0

def aV (f : Fm) (x : Int) : Int := if f.hasA then fld x 15 5 else 0

def bV (f : Fm) (x : Int) : Int := if f.hasB then fld x 20 5 else 0

theorem immF_snoc (x : Int) (l : List (Nat × Nat × Nat)) (k : Nat) (h : k < l.length) : bits .or .u64 (immF x (l.take k)) (IntKind.u64.wrap (fld x (l.getD k (0, 0, 0)).1 (l.getD k (0, 0, 0)).2.1 * 2 ^ (l.getD k (0, 0, 0)).2.2)) = immF x (l.take (k + 1)) := by
  have e : l.getD k (0, 0, 0) = l[k] := by simp [List.getD, h]
  rw [e, List.take_succ_eq_append_getElem h]
  simp only [immF, List.foldl_append, List.foldl_cons, List.foldl_nil]

theorem PcsAt.below {w w' : World} {p : Option Addr} {l : List (Nat × Nat × Nat)} (h : PcsAt w p l) (hb : Below w.heap.size w w') : PcsAt w' p l := by
  intro k hk
  obtain ⟨g, e, hg, c0, c1, c2⟩ := h k hk
  exact ⟨g, e, Nat.lt_of_lt_of_le hg hb.size, (hb.cell (by exact hg)).trans c0, (hb.cell (by exact hg)).trans c1, (hb.cell (by exact hg)).trans c2⟩

theorem keep_some {w w' : World} (hb : Below w.heap.size w w') {g : Nat} {o : Obj} (h : w.heap[g]? = some o) : w'.heap[g]? = some o := by
  rw [hb.block g ?_]
  · exact h
  · obtain ⟨h1, _⟩ := Array.getElem?_eq_some_iff.1 h; exact h1

theorem below_drewN {B : Nat} {a w : World} (h : Below B a w) (n : Nat) : Below B a (w.drewN n) := ⟨h.os, h.tape, h.output, h.size, h.block⟩

theorem bitsAt_q (x : Int) (k n : Nat) (h0 : 0 ≤ x) (h1 : x < 18446744073709551616) (hk : k < 64) (hn : n < 64) (w : World) :
    Calls Tryd.prog 57 #[.int .u64 x, .int .i64 k, .int .i64 n] w fun e w' => e = .returned (.int .u64 (fld x k n)) ∧ ∃ m, w' = w.drewN m :=
  (bitsAt_any x k n h0 h1 hk hn w).mono fun _ _ h => ⟨h.1, 1, h.2⟩

theorem inst_one (a b c d e : Int) : (#[Value.int .i64 a, .int .i64 b, .int .i64 c, .int .i64 d, .int .i64 e] : Array Value).all (·.oneCell') = true := by
  simp [Value.oneCell']

theorem inst_size : (Tryd.prog.info? 30).map (·.size) = some 5 := by kernel_rfl

set_option maxHeartbeats 1600000 in
theorem readFields_any (op : Int) (f : Fm) (x : Int) (h0 : 0 ≤ x) (h1 : x < 18446744073709551616) (w : World) :
    Calls Tryd.prog 27 #[.int .i64 op, .string f.str, .int .u64 x] w fun e w' => e = .returned (.agg #[.int .i64 op, .int .i64 (rdV f x), .int .i64 (aV f x), .int .i64 (bV f x), .int .i64 (wrap64 (widen f.width (immF x f.pcs)))]) ∧ Below w.heap.size w w' := by
  have hfo := fieldsOf_any f
  obtain ⟨b1, hb1⟩ : ∃ b, b = f.hasRd := ⟨_, rfl⟩
  obtain ⟨b2, hb2⟩ : ∃ b, b = f.hasA := ⟨_, rfl⟩
  obtain ⟨b3, hb3⟩ : ∃ b, b = f.hasB := ⟨_, rfl⟩
  obtain ⟨l, hl⟩ : ∃ l, l = f.pcs := ⟨_, rfl⟩
  obtain ⟨wd, hwd⟩ : ∃ wd, wd = f.width := ⟨_, rfl⟩
  obtain ⟨s, hs⟩ : ∃ s, s = f.str := ⟨_, rfl⟩
  have W1 : 1 ≤ wd := by rw [hwd]; cases f <;> decide
  have W2 : wd ≤ 64 := by rw [hwd]; cases f <;> decide
  have PB : Hid (∀ p ∈ l, p.1 < 64 ∧ p.2.1 < 64 ∧ p.2.2 < 64) := by
    show ∀ p ∈ l, p.1 < 64 ∧ p.2.1 < 64 ∧ p.2.2 < 64
    rw [hl]; cases f <;> decide
  have LB : l.length ≤ 4 := by rw [hl]; cases f <;> decide
  rw [← hb1, ← hb2, ← hb3, ← hl, ← hwd, ← hs] at hfo
  have R1 : Hid (rdV f x = if b1 then fld x 7 5 else 0) := by show _ = _; rw [rdV, hb1]
  have R2 : Hid (aV f x = if b2 then fld x 15 5 else 0) := by show _ = _; rw [aV, hb2]
  have R3 : Hid (bV f x = if b3 then fld x 20 5 else 0) := by show _ = _; rw [bV, hb3]
  rw [← hs, ← hl, ← hwd]
  clear hb1 hb2 hb3 hl hwd hs
  obtain ⟨y1, hy1⟩ : ∃ y, y = fld x 7 5 := ⟨_, rfl⟩
  obtain ⟨y2, hy2⟩ : ∃ y, y = fld x 15 5 := ⟨_, rfl⟩
  obtain ⟨y3, hy3⟩ : ∃ y, y = fld x 20 5 := ⟨_, rfl⟩
  have B1 := bitsAt_any x 7 5 h0 h1 (by decide) (by decide)
  have B2 := bitsAt_any x 15 5 h0 h1 (by decide) (by decide)
  have B3 := bitsAt_any x 20 5 h0 h1 (by decide) (by decide)
  have L1 : 0 ≤ y1 ∧ y1 < 32 := by rw [hy1]; exact fld_bd x 7 5
  have L2 : 0 ≤ y2 ∧ y2 < 32 := by rw [hy2]; exact fld_bd x 15 5
  have L3 : 0 ≤ y3 ∧ y3 < 32 := by rw [hy3]; exact fld_bd x 20 5
  have V1 : wrap64 y1 = y1 := IntWalk.wrap64_in _ (by omega)
  have V2 : wrap64 y2 = y2 := IntWalk.wrap64_in _ (by omega)
  have V3 : wrap64 y3 = y3 := IntWalk.wrap64_in _ (by omega)
  rw [← hy1] at B1 R1
  rw [← hy2] at B2 R2
  rw [← hy3] at B3 R3
  clear hy1 hy2 hy3 L1 L2 L3
  have HB1 : Hid (∀ w : World, Calls Tryd.prog 57 #[.int .u64 x, .int .i64 7, .int .i64 5] w fun e w' => e = .returned (.int .u64 y1) ∧ w' = w.drew) := B1
  have HB2 : Hid (∀ w : World, Calls Tryd.prog 57 #[.int .u64 x, .int .i64 15, .int .i64 5] w fun e w' => e = .returned (.int .u64 y2) ∧ w' = w.drew) := B2
  have HB3 : Hid (∀ w : World, Calls Tryd.prog 57 #[.int .u64 x, .int .i64 20, .int .i64 5] w fun e w' => e = .returned (.int .u64 y3) ∧ w' = w.drew) := B3
  clear B1 B2 B3
  cases b1 <;> cases b2 <;> cases b3
  all_goals (
    go_enter Tryd.func27, Tryd.ntmps27
    go_wp2_with fail
    refine (hfo _).mono ?_
    rintro e w1 ⟨p, rfl, hP, hbel⟩
    clear hfo
    have H60 : Hid (w1.heap[w.heap.size]? = some (.cells #[.int .i64 0, .int .i64 0, .int .i64 0, .int .i64 0, .int .i64 0] 30 (0, 0))) := by
      show _ = _
      rw [hbel.block _ (by simp)]; exact heap_alloc_new _ _
    have hsz : w.heap.size < w1.heap.size := by have := hbel.size; simp at this; omega
    go_wp2_with (go_at_call 57; first | (with_reducible refine (HB1.out _).mono ?_; rintro e w2 ⟨rfl, rfl⟩) | (with_reducible refine (HB2.out _).mono ?_; rintro e w2 ⟨rfl, rfl⟩) | (with_reducible refine (HB3.out _).mono ?_; rintro e w2 ⟨rfl, rfl⟩))
    go_loopw [9, 37] (fun acc i wr => ∃ k : Nat, k ≤ l.length ∧ i = .int .i64 k ∧ acc = .int .u64 (immF x (l.take k)) ∧ ∃ r1 r2 r3 : Int, ∃ c1 c2 c3 : Bool, Hid (r1 = rdV f x) ∧ Hid (r2 = aV f x) ∧ Hid (r3 = bV f x) ∧
        Hid (wr.heap[w.heap.size]? = some (.cells #[.int .i64 0, .int .i64 0, .int .i64 0, .int .i64 0, .int .i64 0] 30 (0, 0))) ∧
        Hid (wr.heap[w1.heap.size]? = some (.cells #[.bool c1, .bool c2, .bool c3, .slice p l.length l.length, .int .i64 wd] 93 (0, 0))) ∧
        Hid (wr.heap[w1.heap.size + 1]? = some (.cells #[.int .i64 op, .int .i64 r1, .int .i64 r2, .int .i64 r3, .int .i64 0] 30 (0, 0))) ∧
        Hid (PcsAt wr p l) ∧ Below w.heap.size w wr)
      (fun _ i _ => l.length - (intOf i).toNat)
    case atStart =>
      have hb0 := (((Below.refl _ _).alloc (Nat.le_refl _) _).trans (hbel.mono (by simp)) : Below w.heap.size w w1)
      refine ⟨0, by omega, rfl, rfl, _, _, _, _, _, _, ?_, ?_, ?_, ?_, heap_alloc2_old _ _ _, heap_alloc2_new _ _ _, ?_, ?_⟩
      · show _ = _; rw [R1.out]; rfl
      · show _ = _; rw [R2.out]; rfl
      · show _ = _; rw [R3.out]; rfl
      · exact keep_some (by (repeat apply Below.drew); exact ((Below.refl _ _).alloc (Nat.le_refl _) _).alloc (by simp) _) H60.out
      · exact PcsAt.below hP.out (by (repeat apply Below.drew); exact ((Below.refl _ _).alloc (Nat.le_refl _) _).alloc (by simp) _)
      · exact below_trans hb0 (by (repeat apply Below.drew); exact ((Below.refl _ _).alloc (Nat.le_refl _) _).alloc (by simp) _)
    case round =>
      obtain ⟨k, hk, rfl, rfl, r1, r2, r3, c1, c2, c3, Q1, Q2, Q3, G6, G7, G8, HP, hbel2⟩ := hrel
      clear hP hbel H60
      by_cases hlt : k < l.length
      · obtain ⟨g, hpg, hg, d0, d1, d2⟩ := HP.out k hlt
        subst hpg
        have AC : Hid (bits .or .u64 (immF x (l.take k)) (IntKind.u64.wrap (fld x (l.getD k (0, 0, 0)).1 (l.getD k (0, 0, 0)).2.1 * 2 ^ (l.getD k (0, 0, 0)).2.2)) = immF x (l.take (k + 1))) := immF_snoc x l k hlt
        have PB2 := PB.out (l.getD k (0, 0, 0)) (by simp [List.getD, hlt])
        obtain ⟨⟨pa, pb, pt⟩, hq⟩ : ∃ q, q = l.getD k (0, 0, 0) := ⟨_, rfl⟩
        rw [← hq] at d0 d1 d2 AC PB2
        clear hq
        obtain ⟨PB3, PB4, PB5⟩ := PB2
        simp only at d0 d1 d2 PB3 PB4 PB5
        have BQ0 := bitsAt_q x pa pb h0 h1 PB3 PB4
        obtain ⟨y, hy⟩ : ∃ y, y = fld x pa pb := ⟨_, rfl⟩
        obtain ⟨z, hz⟩ : ∃ z, z = immF x (l.take k) := ⟨_, rfl⟩
        rw [← hy] at BQ0
        have AC2 : Hid (bits .or .u64 z (IntKind.u64.wrap (y * 2 ^ pt)) = immF x (l.take (k + 1))) := by
          show _ = _
          rw [hz, hy]; exact AC.out
        have BQ : Hid (∀ w : World, Calls Tryd.prog 57 #[.int .u64 x, .int .i64 pa, .int .i64 pb] w fun e w' => e = .returned (.int .u64 y) ∧ ∃ m, w' = w.drewN m) := BQ0
        rw [← hz]
        clear BQ0 AC hy hz
        go_wp2_with fail
        go_quiet (first | (go_at_call 57; with_reducible refine Calls.quiet_of (BQ.out _)))
        go_wp2_with fail
        go_roundw
        case rel => 
          have hbn : Below wr.heap.size wr ((wr.alloc (.cells #[.int .i64 pa, .int .i64 pb, .int .i64 pt] 97)).drewN nq) := below_drewN ((Below.refl _ _).alloc (Nat.le_refl _) _) nq
          exact ⟨k + 1, by omega, by go_num, by rw [← AC2.out], r1, r2, r3, c1, c2, c3, Q1, Q2, Q3, keep_some hbn G6.out, keep_some hbn G7.out, keep_some hbn G8.out, PcsAt.below HP.out hbn, below_trans hbel2 hbn⟩
        case measure => simp [intOf]; omega
      · have hkl : k = l.length := by omega
        have hacc : l.take k = l := List.take_of_length_le (by omega)
        rw [hacc]
        subst hkl
        clear hacc HB1 HB2 HB3 R1 R2 R3
        obtain ⟨z, hz⟩ : ∃ z, z = immF x l := ⟨_, rfl⟩
        have HZ : Hid (z = immF x l) := hz
        rw [← hz]
        clear hz
        have e7 := cell_of_row wr w1.heap.size 4 _ _ _ G7.out
        have e8 : ∀ j, wr.cell? ⟨w1.heap.size + 1, j, none⟩ = _ := fun j => cell_of_row wr (w1.heap.size + 1) j _ _ _ G8.out
        have e80 := e8 0
        have e81 := e8 1
        have e82 := e8 2
        have e83 := e8 3
        have e84 := e8 4
        have f84 := frozen_of_row wr (w1.heap.size + 1) 4 _ _ G8.out
        have HG6 : (wr.setCell ⟨w1.heap.size + 1, 4, none⟩ (.int .i64 (wrap64 (widen wd z)))).heap[w.heap.size]? = some (.cells #[.int .i64 0, .int .i64 0, .int .i64 0, .int .i64 0, .int .i64 0] 30 (0, 0)) := by
          rw [heap_setCell_other _ _ _ _ (by show w.heap.size ≠ w1.heap.size + 1; omega)]; exact G6.out
        simp at e7 e80 e81 e82 e83 e84
        clear e8
        go_wp2_with (first | (go_at_call 58; with_reducible refine (implWiden_any z wd W1 W2 _).mono ?_; rintro e w2 ⟨rfl, hw2⟩; have hw3 := hw2.symm; subst hw3) | (refine wpList_store_rowTo rfl 30 (.tmp 6) (.tmp 59) rfl rfl w.heap.size #[.int .i64 op, .int .i64 r1, .int .i64 r2, .int .i64 r3, .int .i64 (wrap64 (widen wd z))] rfl rfl 30 _ HG6 inst_size rfl (inst_one op r1 r2 r3 _) ?_))
        refine bodyPost_ret (results_cell_row Tryd.results27 _ _ _ _ _ _ _ rfl (setRow_heap _ _ _ _ _ _ HG6) Tryd.underlying30 rfl inst_size) rfl ⟨?_, ?_⟩
        · rw [← Q1.out, ← Q2.out, ← Q3.out, ← HZ.out]
        · exact below_setRow (hbel2.setCell (by show w.heap.size ≤ w1.heap.size + 1; omega) _) (Nat.le_refl _) _)

set_option maxHeartbeats 800000 in
theorem next_end (w : World) (gr : Nat) (a : Option Addr) (n c : Nat) (hn : n ≤ 1048576) (hrow : w.heap[gr]? = some (.cells #[.slice a n c, .int .i64 (n : Int)] 104 (0, 0))) :
    Calls Tryd.prog 63 #[.pointer (some ⟨gr, 0, none⟩)] w fun e w' => e = .returned (.int .i32 (-1)) ∧ ∃ k, w' = w.drewN k := by
  have c0 := cell_of_row w gr 0 _ _ _ hrow
  have c1 := cell_of_row w gr 1 _ _ _ hrow
  simp at c0 c1
  have ht : ((n : Int) == (n : Int)) = true := by simp
  clear hrow
  go_enter Tryd.func63, Tryd.ntmps63
  go_wp2_with fail
  go_quiet (fail)
  go_wp2_with fail
  go_ret
  exact ⟨rfl, _, rfl⟩

set_option maxHeartbeats 800000 in
theorem next_some (w : World) (gr b off : Nat) (n c at_ : Nat) (x : Int) (hn : n ≤ 1048576) (hlt : at_ < n) (hne : b ≠ gr) (hrow : w.heap[gr]? = some (.cells #[.slice (some ⟨b, off, none⟩) n c, .int .i64 (at_ : Int)] 104 (0, 0)))
    (hx : w.cell? ⟨b, off + at_, none⟩ = some (.int .i32 x)) :
    Calls Tryd.prog 63 #[.pointer (some ⟨gr, 0, none⟩)] w fun e w' => e = .returned (.int .i32 x) ∧ ∃ k1 k2, w' = ((w.drewN k1).setCell ⟨gr, 1, none⟩ (.int .i64 ((at_ + 1 : Nat) : Int))).drewN k2 := by
  have c0 := cell_of_row w gr 0 _ _ _ hrow
  have c1 := cell_of_row w gr 1 _ _ _ hrow
  have f1 := frozen_of_row w gr 1 _ _ hrow
  simp at c0 c1
  have ht : ((at_ : Int) == (n : Int)) = false := by simp; omega
  have R : ∀ k v, ((w.drewN k).setCell ⟨gr, 1, none⟩ v).heap[gr]? = some (.cells #[.slice (some ⟨b, off, none⟩) n c, v] 104 (0, 0)) := fun k v => heap_setCell_same (w.drewN k) gr 1 _ _ v hrow
  have K0 : ∀ k v, ((w.drewN k).setCell ⟨gr, 1, none⟩ v).cell? ⟨gr, 0, none⟩ = some (.slice (some ⟨b, off, none⟩) n c) := fun k v => cell_of_row _ _ _ _ _ _ (R k v)
  have K1 : ∀ k v, ((w.drewN k).setCell ⟨gr, 1, none⟩ v).cell? ⟨gr, 1, none⟩ = some v := fun k v => cell_of_row _ _ _ _ _ _ (R k v)
  have KX : ∀ k v, ((w.drewN k).setCell ⟨gr, 1, none⟩ v).cell? ⟨b, off + at_, none⟩ = some (.int .i32 x) := by
    intro k v
    unfold World.cell? at hx ⊢
    rw [heap_setCell_other _ _ _ _ (by show b ≠ gr; exact hne)]
    exact hx
  have hwr : wrap64 ((at_ : Int) + 1) = ((at_ + 1 : Nat) : Int) := by unfold wrap64; omega
  have hws : wrap64 (((at_ + 1 : Nat) : Int) - 1) = (at_ : Int) := by unfold wrap64; omega
  clear hrow R
  go_enter Tryd.func63, Tryd.ntmps63
  go_wp2_with fail
  go_quiet (fail)
  go_wp2_with fail
  go_quiet (fail)
  go_wp2_with fail
  go_ret
  exact ⟨rfl, _, _, rfl⟩

structure RL (w wr : World) (gr gb c at_ : Nat) (rs ns ms : List Int) (nv mv : Value) : Prop where
  row : wr.heap[gr]? = some (.cells #[.slice (some ⟨gb, 0, none⟩) rs.length c, .int .i64 (at_ : Int)] 104 (0, 0))
  run : ∀ (k : Nat) (x : Int), rs[k]? = some x → wr.cell? ⟨gb, k, none⟩ = some (.int .i32 x)
  nm : wr.ownsRow w.heap.size 21 1 nv ns.length (ns.map (Value.int .i32))
  nu : wr.ownsRow w.heap.size 2 1 mv ms.length (ms.map (Value.int .i64))
  bel : Below w.heap.size w wr
  lo : w.heap.size ≤ gr
  ne : gb ≠ gr
  gbl : gb < wr.heap.size
  nap : ∀ k, nv.ownBlock = some k → k ≠ gr ∧ k ≠ gb ∧ mv.ownBlock ≠ some k
  map_ : ∀ k, mv.ownBlock = some k → k ≠ gr ∧ k ≠ gb
  le : at_ ≤ rs.length
  small : rs.length ≤ 1048576

theorem own_block_lt {w : World} {base e : Nat} {v : Value} {n : Nat} {xs : List Value} (h : w.ownsRow base e 1 v n xs) (k : Nat) (hk : v.ownBlock = some k) : k < w.heap.size := by
  rcases h.2 with ⟨e1, _⟩ | ⟨g, cap, cur, e1, hg, hh, _⟩
  · rw [e1] at hk; cases hk
  · rw [e1] at hk
    simp only [Value.ownBlock, Option.some.injEq] at hk
    subst hk
    by_cases hl : g < w.heap.size
    · exact hl
    · rw [Array.getElem?_eq_none (by omega)] at hh; cases hh

theorem row_lt' {w : World} {b : Nat} {o : Obj} (h : w.heap[b]? = some o) : b < w.heap.size := by
  by_cases hl : b < w.heap.size
  · exact hl
  · rw [Array.getElem?_eq_none (by omega)] at h; cases h

theorem RL.keep {w wr wx : World} {gr gb c at_ : Nat} {rs ns ms : List Int} {nv mv : Value} (h : RL w wr gr gb c at_ rs ns ms nv mv) (hb : Below wr.heap.size wr wx) : RL w wx gr gb c at_ rs ns ms nv mv :=
  ⟨by rw [hb.block _ (row_lt' h.row)]; exact h.row, fun k x hk => (hb.cell (World.block_lt_of_cell? _ _ (h.run k x hk))).trans (h.run k x hk), ownsRow_below h.nm hb, ownsRow_below h.nu hb, below_trans h.bel hb, h.lo, h.ne, Nat.lt_of_lt_of_le h.gbl hb.size, h.nap, h.map_, h.le, h.small⟩

theorem RL.step {w wr : World} {gr gb c at_ : Nat} {rs ns ms : List Int} {nv mv : Value} (h : RL w wr gr gb c at_ rs ns ms nv mv) (hlt : at_ < rs.length) : RL w (wr.setCell ⟨gr, 1, none⟩ (.int .i64 ((at_ + 1 : Nat) : Int))) gr gb c (at_ + 1) rs ns ms nv mv := by
  have hg : wr.grownBy (wr.setCell ⟨gr, 1, none⟩ (.int .i64 ((at_ + 1 : Nat) : Int))) (some gr) :=
    ⟨rfl, rfl, rfl, by simp [World.setCell], fun k _ hk => heap_setCell_other _ _ _ _ (by show k ≠ gr; intro e; exact hk (by rw [e]))⟩
  refine ⟨heap_setCell_same wr gr 1 _ _ _ h.row, fun k x hk => ?_, kept_of h.nm hg (fun k hk e => (h.nap k hk).1 (Option.some.inj e).symm), kept_of h.nu hg (fun k hk e => (h.map_ k hk).1 (Option.some.inj e).symm), h.bel.setCell h.lo _, h.lo, h.ne, ?_, h.nap, h.map_, hlt, h.small⟩
  · have hx := h.run k x hk
    unfold World.cell? at hx ⊢
    rw [heap_setCell_other _ _ _ _ (by show gb ≠ gr; exact h.ne)]
    exact hx
  · have := h.gbl; simpa [World.setCell] using this

def RLx (w : World) (gr : Nat) (rem ns ms : List Int) (nv mv : Value) (wr : World) : Prop := ∃ gb c at_ rs, RL w wr gr gb c at_ rs ns ms nv mv ∧ rem = rs.drop at_

theorem RLx.keep {w wr wx : World} {gr : Nat} {rem ns ms : List Int} {nv mv : Value} (h : RLx w gr rem ns ms nv mv wr) (hb : Below wr.heap.size wr wx) : RLx w gr rem ns ms nv mv wx := by
  obtain ⟨gb, c, at_, rs, h1, h2⟩ := h
  exact ⟨gb, c, at_, rs, h1.keep hb, h2⟩

theorem RLx.bel {w wr : World} {gr : Nat} {rem ns ms : List Int} {nv mv : Value} (h : RLx w gr rem ns ms nv mv wr) : Below w.heap.size w wr := by
  obtain ⟨gb, c, at_, rs, h1, h2⟩ := h
  exact h1.bel

theorem RLx.next {w wr : World} {gr : Nat} {rem ns ms : List Int} {nv mv : Value} (h : RLx w gr rem ns ms nv mv wr) :
    Calls Tryd.prog 63 #[.pointer (some ⟨gr, 0, none⟩)] wr fun e w' => e = .returned (.int .i32 (rem.headD (-1))) ∧ Hid (RLx w gr rem.tail ns ms nv mv w') := by
  obtain ⟨gb, c, at_, rs, h1, h2⟩ := h
  by_cases hlt : at_ < rs.length
  · have hx : rs[at_]? = some rs[at_] := List.getElem?_eq_getElem hlt
    have hcell := h1.run at_ rs[at_] hx
    have hd : rs.drop at_ = rs[at_] :: rs.drop (at_ + 1) := List.drop_eq_getElem_cons hlt
    refine (next_some wr gr gb 0 rs.length c at_ rs[at_] h1.small hlt h1.ne h1.row (by rw [Nat.zero_add]; exact hcell)).mono ?_
    rintro e w' ⟨rfl, k1, k2, rfl⟩
    refine ⟨by rw [h2, hd]; rfl, ?_⟩
    have hb1 : Below wr.heap.size wr (wr.drewN k1) := below_drewN (Below.refl _ _) _
    have h3 := (h1.keep hb1).step hlt
    exact ⟨gb, c, at_ + 1, rs, h3.keep (below_drewN (Below.refl _ _) _), by rw [h2, hd]; rfl⟩
  · have he : at_ = rs.length := by have := h1.le; omega
    have hrow := h1.row
    rw [he] at hrow
    refine (next_end wr gr _ rs.length c h1.small hrow).mono ?_
    rintro e w' ⟨rfl, k, rfl⟩
    have hd : rem = [] := by rw [h2, he]; simp
    refine ⟨by rw [hd]; rfl, ?_⟩
    exact ⟨gb, c, at_, rs, h1.keep (below_drewN (Below.refl _ _) _), by rw [hd, he]; simp⟩

theorem i32_info : (Tryd.prog.info? 21).map (fun i => (i.zero, i.size, i.bytes)) = some (some (.int .i32 0), 1, 4) := by kernel_rfl

theorem i64_info : (Tryd.prog.info? 2).map (fun i => (i.zero, i.size, i.bytes)) = some (some (.int .i64 0), 1, 8) := by kernel_rfl

theorem RL.rowsKept {w wr wx : World} {gr gb c at_ : Nat} {rs ns ms : List Int} {nv mv : Value} (h : RL w wr gr gb c at_ rs ns ms nv mv) {row : Option Nat} (hg : wr.grownBy wx row) (h1 : row ≠ some gr) (h2 : row ≠ some gb) :
    wx.heap[gr]? = some (.cells #[.slice (some ⟨gb, 0, none⟩) rs.length c, .int .i64 (at_ : Int)] 104 (0, 0)) ∧ (∀ (k : Nat) (x : Int), rs[k]? = some x → wx.cell? ⟨gb, k, none⟩ = some (.int .i32 x)) := by
  refine ⟨by rw [hg.block gr (row_lt' h.row) (fun e => h1 e.symm)]; exact h.row, fun k x hk => ?_⟩
  have hx := h.run k x hk
  unfold World.cell? at hx ⊢
  rw [hg.block gb h.gbl (fun e => h2 e.symm)]
  exact hx

theorem wpList_pushN {ops : Array Oper} {rest : List Oper} {o : Oper} {a : Act} {Q : Exit → Act → World → Prop} {w wr : World} {gr : Nat} {rem ns ms : List Int} {nv mv : Value} (hgd : o.guard = none) (s x : Operand)
    (ho : o.op = .call { callee := .builtin .append, args := #[s, x], argTypes := #[102, 102] }) (r : Int) (hs : a.eval s = nv) (hx : a.eval x = .slice (some ⟨wr.heap.size, 0, none⟩) 1 1)
    (hR : RLx w gr rem ns ms nv mv wr) (hn : ns.length ≤ 1048576)
    (h : ∀ nv' w', RLx w gr rem (ns ++ [r]) ms nv' mv w' → wpList Tryd.prog ops Q rest (a.put o.dst nv') w') :
    wpList Tryd.prog ops Q (o :: rest) a (wr.alloc (.cells #[.int .i32 r] 21 (0, 0))) := by
  obtain ⟨i0, hi, hz0, hz1, hz2⟩ := info_parts i32_info
  obtain ⟨gb, c, at_, rs, h0, hrem⟩ := hR
  have h1 := h0.keep ((Below.refl wr.heap.size wr).alloc (Nat.le_refl _) (.cells #[.int .i32 r] 21 (0, 0)))
  refine wpList_append_own_at _ hgd s x 102 ho w.heap.size 21 i0 (.int .i32 0) 1 4 Tryd.underlying102 hi hz0 hz1 hz2 rfl (by decide) nv ns.length (ns.map (Value.int .i32)) hs h1.nm ⟨wr.heap.size, 0, none⟩ 1 1 [.int .i32 r] hx rfl (one_cell wr _ _) (by simp [Value.oneCell']) (by unfold maxLen; omega) (by omega) h1.bel.size ?_
  intro v' w' hown hg _ hat
  refine h v' w' ⟨gb, c, at_, rs, ?_, hrem⟩
  obtain ⟨g1, g2⟩ := h1.rowsKept hg (fun e => (h1.nap _ e).1 rfl) (fun e => (h1.nap _ e).2.1 rfl)
  have hsz : wr.heap.size < (wr.alloc (.cells #[.int .i32 r] 21 (0, 0))).heap.size := by simp
  refine ⟨g1, g2, ?_, kept_of h1.nu hg (fun k hk e => (h1.nap k e).2.2 hk), Below.grown h1.bel hg h1.bel.size ?_, h1.lo, h1.ne, Nat.lt_of_lt_of_le h1.gbl hg.size, ?_, h1.map_, h1.le, h1.small⟩
  · rw [List.length_append, List.map_append]; exact hown
  · intro k hk
    rcases h1.nm.2 with ⟨e1, _⟩ | ⟨g, cap, cur, e1, hgg, _⟩
    · rw [e1] at hk; cases hk
    · rw [e1] at hk
      simp only [Value.ownBlock, Option.some.injEq] at hk
      omega
  · intro k hk
    rcases hat with e | e
    · exact h1.nap k (by rw [← e]; exact hk)
    · rw [hk] at e
      have e2 := Option.some.inj e
      refine ⟨fun q => ?_, fun q => ?_, fun q => ?_⟩
      · have := row_lt' h1.row; omega
      · have := h1.gbl; omega
      · have := own_block_lt h1.nu k q; omega

theorem wpList_pushM {ops : Array Oper} {rest : List Oper} {o : Oper} {a : Act} {Q : Exit → Act → World → Prop} {w wr : World} {gr : Nat} {rem ns ms : List Int} {nv mv : Value} (hgd : o.guard = none) (s x : Operand)
    (ho : o.op = .call { callee := .builtin .append, args := #[s, x], argTypes := #[61, 61] }) (r : Int) (hs : a.eval s = mv) (hx : a.eval x = .slice (some ⟨wr.heap.size, 0, none⟩) 1 1)
    (hR : RLx w gr rem ns ms nv mv wr) (hn : ms.length ≤ 1048577)
    (h : ∀ mv' w', RLx w gr rem ns (ms ++ [r]) nv mv' w' → wpList Tryd.prog ops Q rest (a.put o.dst mv') w') :
    wpList Tryd.prog ops Q (o :: rest) a (wr.alloc (.cells #[.int .i64 r] 2 (0, 0))) := by
  obtain ⟨i0, hi, hz0, hz1, hz2⟩ := info_parts i64_info
  obtain ⟨gb, c, at_, rs, h0, hrem⟩ := hR
  have h1 := h0.keep ((Below.refl wr.heap.size wr).alloc (Nat.le_refl _) (.cells #[.int .i64 r] 2 (0, 0)))
  refine wpList_append_own_at _ hgd s x 61 ho w.heap.size 2 i0 (.int .i64 0) 1 8 Tryd.underlying61 hi hz0 hz1 hz2 rfl (by decide) mv ms.length (ms.map (Value.int .i64)) hs h1.nu ⟨wr.heap.size, 0, none⟩ 1 1 [.int .i64 r] hx rfl (one_cell wr _ _) (by simp [Value.oneCell']) (by unfold maxLen; omega) (by omega) h1.bel.size ?_
  intro v' w' hown hg _ hat
  refine h v' w' ⟨gb, c, at_, rs, ?_, hrem⟩
  obtain ⟨g1, g2⟩ := h1.rowsKept hg (fun e => (h1.map_ _ e).1 rfl) (fun e => (h1.map_ _ e).2 rfl)
  have hsz : wr.heap.size < (wr.alloc (.cells #[.int .i64 r] 2 (0, 0))).heap.size := by simp
  refine ⟨g1, g2, kept_of h1.nm hg (fun k hk e => (h1.nap k hk).2.2 e), ?_, Below.grown h1.bel hg h1.bel.size ?_, h1.lo, h1.ne, Nat.lt_of_lt_of_le h1.gbl hg.size, ?_, ?_, h1.le, h1.small⟩
  · rw [List.length_append, List.map_append]; exact hown
  · intro k hk
    rcases h1.nu.2 with ⟨e1, _⟩ | ⟨g, cap, cur, e1, hgg, _⟩
    · rw [e1] at hk; cases hk
    · rw [e1] at hk
      simp only [Value.ownBlock, Option.some.injEq] at hk
      omega
  · intro k hk
    refine ⟨(h1.nap k hk).1, (h1.nap k hk).2.1, fun q => ?_⟩
    rcases hat with e | e
    · exact (h1.nap k hk).2.2 (by rw [← e]; exact q)
    · rw [q] at e
      have e2 := Option.some.inj e
      have := own_block_lt h1.nm k hk
      omega
  · intro k hk
    rcases hat with e | e
    · exact h1.map_ k (by rw [← e]; exact hk)
    · rw [hk] at e
      have e2 := Option.some.inj e
      refine ⟨fun q => ?_, fun q => ?_⟩
      · have := row_lt' h1.row; omega
      · have := h1.gbl; omega

def jumpsTo (J : Nat → Act → World → Prop) (Q : Exit → Act → World → Prop) : Exit → Act → World → Prop
  | .goto l, a, w => J l a w
  | e, a, w => Q e a w

theorem wp_scope_labels {P : Program} {a : Act} {w : World} {Q : Exit → Act → World → Prop} {c : Code} (J : Nat → Nat → Act → World → Prop)
    (first : c.wp P (jumpsTo (fun l a w => ∃ m, J l m a w) Q) a w)
    (pass : ∀ l m a w, J l m a w → ∃ rest, findLabel c l = some rest ∧ rest.wp P (jumpsTo (fun l' a' w' => ∃ m', m' < m ∧ J l' m' a' w') Q) a w) : (Code.scope c).wp P Q a w := by
  intro b k cs
  have key : ∀ n l a w, J l n a w → ∃ rest, findLabel c l = some rest ∧ ∃ e a' w', Q e a' w' ∧ Arrives P (lone (b.at a (.code rest :: .inScope c :: k)) cs w) b k cs e a' w' := by
    intro n
    induction n using Nat.strongRecOn with
    | _ n ih =>
      intro l a w hJ
      obtain ⟨rest, hf, hp⟩ := pass l n a w hJ
      refine ⟨rest, hf, ?_⟩
      obtain ⟨e, a₁, w₁, hq, harr⟩ := hp b (.inScope c :: k) cs
      cases e with
      | normal => exact ⟨.normal, a₁, w₁, hq, Steps.trans harr (.one step_inScope)⟩
      | exit id => exact ⟨.exit id, a₁, w₁, hq, fun k' hk => harr k' (by simp [exitTo, hk])⟩
      | goto l' =>
        obtain ⟨m', hlt, hJ'⟩ := hq
        obtain ⟨rest', hf', e₂, a₂, w₂, hq₂, harr₂⟩ := ih m' hlt l' a₁ w₁ hJ'
        have hg : gotoIn l' (.inScope c :: k) = some (.code rest' :: .inScope c :: k) := by simp [gotoIn, hf']
        exact ⟨e₂, a₂, w₂, hq₂, .of_steps (harr _ hg) harr₂⟩
      | ret => exact ⟨_, a₁, w₁, hq, harr⟩
      | panic ch => exact ⟨_, a₁, w₁, hq, harr⟩
      | outgrown => exact ⟨_, a₁, w₁, hq, harr⟩
  obtain ⟨e, a₁, w₁, hq, harr⟩ := first b (.inScope c :: k) cs
  cases e with
  | normal => exact ⟨.normal, a₁, w₁, hq, .head step_scope (Steps.trans harr (.one step_inScope))⟩
  | exit id => exact ⟨.exit id, a₁, w₁, hq, fun k' hk => .head step_scope (harr k' (by simp [exitTo, hk]))⟩
  | goto l' =>
    obtain ⟨m', hJ'⟩ := hq
    obtain ⟨rest', hf', e₂, a₂, w₂, hq₂, harr₂⟩ := key m' l' a₁ w₁ hJ'
    have hg : gotoIn l' (.inScope c :: k) = some (.code rest' :: .inScope c :: k) := by simp [gotoIn, hf']
    exact ⟨e₂, a₂, w₂, hq₂, .of_steps (.head step_scope (harr _ hg)) harr₂⟩
  | ret => exact ⟨_, a₁, w₁, hq, .of_steps (.one step_scope) harr⟩
  | panic ch => exact ⟨_, a₁, w₁, hq, .of_steps (.one step_scope) harr⟩
  | outgrown => exact ⟨_, a₁, w₁, hq, .of_steps (.one step_scope) harr⟩

inductive RdSt where
  | name (rem ns : List Int)
  | ahead (rem ns ms : List Int)
  | num (r : Int) (rem ns ms : List Int) (sign acc : Int)

abbrev RdRes := Option (List Int × List Int)

def rdNum (r : Int) (rem ns ms : List Int) (sign acc : Int) : RdSt ⊕ RdRes :=
  if 48 ≤ r ∧ r ≤ 57 then .inl (.num (rem.headD (-1)) rem.tail ns ms sign (wrap64 (wrap64 (acc * 10) + (r - 48))))
  else if r = 32 then .inl (.ahead rem ns (ms ++ [wrap64 (sign * acc)]))
  else if r = -1 then .inr (some (ns, ms ++ [wrap64 (sign * acc)]))
  else .inr none

def rdAhead (rem ns ms : List Int) : RdSt ⊕ RdRes :=
  if rem.headD (-1) = 120 then rdNum (rem.tail.headD (-1)) rem.tail.tail ns ms 1 0
  else if rem.headD (-1) = 45 then rdNum (rem.tail.headD (-1)) rem.tail.tail ns ms (-1) 0
  else rdNum (rem.headD (-1)) rem.tail ns ms 1 0

def rdName (rem ns : List Int) : RdSt ⊕ RdRes :=
  if rem.headD (-1) = -1 then .inr (some (ns, []))
  else if rem.headD (-1) = 32 then rdAhead rem.tail ns []
  else .inl (.name rem.tail (ns ++ [rem.headD (-1)]))

def rdStep : RdSt → RdSt ⊕ RdRes
  | .name rem ns => rdName rem ns
  | .ahead rem ns ms => rdAhead rem ns ms
  | .num r rem ns ms sign acc => rdNum r rem ns ms sign acc

inductive Runs : RdSt → RdRes → Prop
  | stop {s : RdSt} {r : RdRes} (h : rdStep s = .inr r) : Runs s r
  | go {s s' : RdSt} {r : RdRes} (h : rdStep s = .inl s') (k : Runs s' r) : Runs s r

theorem Runs.same {s : RdSt} {r r' : RdRes} (h : Runs s r) (h' : Runs s r') : r = r' := by
  induction h with
  | stop h =>
    cases h' with
    | stop k => rw [h] at k; exact Sum.inr.inj k
    | go k _ => rw [h] at k; cases k
  | go h k ih =>
    cases h' with
    | stop k' => rw [h] at k'; cases k'
    | go k' k'' => rw [h] at k'; exact ih (by rw [Sum.inl.inj k']; exact k'')

def runesL (s : ByteArray) : List Int := (Conv.runesFrom s s.size 0 #[]).toList.map intOf

theorem runesFrom_ints (s : ByteArray) : ∀ (bound i : Nat) (acc : Array Value), (∀ v ∈ acc.toList, Value.int .i32 (intOf v) = v) → ∀ v ∈ (Conv.runesFrom s bound i acc).toList, Value.int .i32 (intOf v) = v := by
  intro bound
  induction bound with
  | zero => intro i acc h; exact h
  | succ n ih =>
    intro i acc h
    unfold Conv.runesFrom
    split
    · refine ih _ _ ?_
      intro v hv
      rw [Array.toList_push, List.mem_append] at hv
      rcases hv with hv | hv
      · exact h v hv
      · simp only [List.mem_cons, List.not_mem_nil, or_false] at hv
        rw [hv]; rfl
    · exact h

theorem runesL_cells (s : ByteArray) : Conv.runesFrom s s.size 0 #[] = ((runesL s).map (Value.int .i32)).toArray := by
  apply Array.toList_inj.1
  simp only [runesL, List.map_map]
  symm
  rw [List.map_congr_left (g := id), List.map_id]
  intro v hv
  exact runesFrom_ints s s.size 0 #[] (by simp) v hv

theorem runesL_len (s : ByteArray) : (runesL s).length ≤ s.size := by
  have := size_runesFrom s s.size 0 #[]
  simpa [runesL] using this

end Go.Proofs.YtjjpklalihaanaaDoor
