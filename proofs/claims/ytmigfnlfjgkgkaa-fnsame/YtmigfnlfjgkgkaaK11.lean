/- Own lemmas. -/
import Derived.Test.YtmigfnlfjgkgkaaK02
import Derived.OpenShut
import Derived.Deep.Cut
namespace Go.Proofs.Ytmigfnlfjgkgkaa
open Go.RowKit
set_option linter.unusedVariables false

def pc (p : Nat × Nat × Nat) : List Value := [.int .i64 p.1, .int .i64 p.2.1, .int .i64 p.2.2]

def rdV (f : Fm) (x : Int) : Int := if f.hasRd then fld x 7 5 else 0

def aV (f : Fm) (x : Int) : Int := if f.hasA then fld x 15 5 else 0

def bV (f : Fm) (x : Int) : Int := if f.hasB then fld x 20 5 else 0

theorem keep_some {w w' : World} (hb : Below w.heap.size w w') {g : Nat} {o : Obj} (h : w.heap[g]? = some o) : w'.heap[g]? = some o := by
  rw [hb.block g ?_]
  · exact h
  · obtain ⟨h1, _⟩ := Array.getElem?_eq_some_iff.1 h; exact h1

theorem inst_one (a b c d e : Int) : (#[Value.int .i64 a, .int .i64 b, .int .i64 c, .int .i64 d, .int .i64 e] : Array Value).all (·.oneCell') = true := by
  simp [Value.oneCell']

theorem inst_size : (Try.prog.info? 57).map (·.size) = some 5 := by kernel_rfl

def rowOk (k : Nat) (r : Row) : Bool := decide (0 ≤ r.op ∧ r.op < 128 ∧ 0 ≤ r.more ∧ (k = 97 → r.fm = .r) ∧ (k = 62 ∨ k = 73 → r.fm = .a)) &&
  (match r.fm with
  | .r => decide (r.more < 128 ∧ 0 ≤ r.f3 ∧ r.f3 < 8)
  | .w => decide (r.more < 128 ∧ 0 ≤ r.f3 ∧ r.f3 < 8)
  | .h => decide (r.more < 64 ∧ 0 ≤ r.f3 ∧ r.f3 < 8)
  | .a => decide (r.more < 32 ∧ 0 ≤ r.f3 ∧ r.f3 < 8)
  | .x => decide (r.more < 4096 ∧ r.f3 = 0)
  | .u => decide (r.more = 0 ∧ r.f3 = -1)
  | .j => decide (r.more = 0 ∧ r.f3 = -1)
  | _ => decide (r.more = 0 ∧ 0 ≤ r.f3 ∧ r.f3 < 8))

theorem rows_ok : ∀ k, k < 98 → rowOk k (rowAt k) = true := by
  have h : (List.range 98).all (fun k => rowOk k (rowAt k)) = true := by kernel_rfl
  intro k hk
  exact List.all_eq_true.1 h k (by simpa using hk)

def insAt (k : Nat) (x : Int) : Ins := ⟨(k : Int) + 1, rdV (rowAt k).fm x, aV (rowAt k).fm x, bV (rowAt k).fm x, immV (rowAt k).fm x⟩

def matchB (k : Nat) (x : Int) : Bool := decide (matchP k (rowAt k).fm (rowAt k).op (rowAt k).f3 (rowAt k).more x)

def findRow (x : Int) : Nat → Nat → Option Nat
  | 0, _ => none
  | n + 1, k => if matchB k x = true then some k else findRow x n (k + 1)

theorem findRow_hit (x : Int) (k : Nat) (hk : k < 98) (h : matchB k x = true) : findRow x (98 - k) k = some k := by
  rw [show 98 - k = (98 - (k + 1)) + 1 from by omega, findRow, if_pos h]

theorem findRow_miss (x : Int) (k : Nat) (hk : k < 98) (h : matchB k x = false) : findRow x (98 - k) k = findRow x (98 - (k + 1)) (k + 1) := by
  rw [show 98 - k = (98 - (k + 1)) + 1 from by omega, findRow, if_neg (by rw [h]; decide)]

def dec (x : Int) : Option Ins := if x < 4294967296 then (findRow x 98 0).map (fun k => insAt k x) else none

def noIns : Ins := ⟨0, 0, 0, 0, 0⟩

def decV (x : Int) : Value := match dec x with
  | some i => .tuple #[i.val, .bool true]
  | none => .tuple #[noIns.val, .bool false]

theorem decV_far (x : Int) (h : ¬ x < 4294967296) : decV x = .tuple #[noIns.val, .bool false] := by simp [decV, dec, h]

theorem decV_hit (x : Int) (k : Nat) (h : x < 4294967296) (hf : findRow x 98 0 = some k) : decV x = .tuple #[(insAt k x).val, .bool true] := by simp [decV, dec, h, hf]

theorem decV_miss (x : Int) (h : x < 4294967296) (hf : findRow x 98 0 = none) : decV x = .tuple #[noIns.val, .bool false] := by simp [decV, dec, h, hf]

def u64 (y : Int) : Int := IntKind.u64.wrap y

def regBe (i : Ins) : Bool := decide (0 ≤ i.rd ∧ i.rd ≤ 31) && decide (0 ≤ i.a ∧ i.a ≤ 31) && decide (0 ≤ i.b ∧ i.b ≤ 31)

theorem decV_ins (x : Int) : ∃ (j : Ins) (t : Bool), decV x = .tuple #[.agg #[.int .i64 j.op, .int .i64 j.rd, .int .i64 j.a, .int .i64 j.b, .int .i64 j.imm], .bool t] ∧ (t = true → dec x = some j) ∧ (t = false → dec x = none) := by
  unfold decV
  cases h : dec x with
  | none => exact ⟨noIns, false, rfl, by simp, by simp⟩
  | some i => exact ⟨i, true, rfl, by simp, by simp⟩

theorem inst_stood : Try.prog.stoodInHeld 57 = false := by kernel_rfl

theorem inst_guard : Try.prog.eqGuardType Try.prog.depth 57 = false := by kernel_rfl

set_option maxHeartbeats 400000 in
theorem run_neqInst (a b c d e a' b' c' d' e' : Int) (w : World) :
    (binOp .neq 57 (.agg #[.int .i64 a, .int .i64 b, .int .i64 c, .int .i64 d, .int .i64 e]) (.agg #[.int .i64 a', .int .i64 b', .int .i64 c', .int .i64 d', .int .i64 e'])).run Try.prog w = .ok (.bool (!(a == a' && b == b' && c == c' && d == d' && e == e'))) w := by
  rw [run_neq_struct, run_equalIn_struct w 9999 _ _ _ (by rw [Program.fieldsOf, Try.underlying57]) inst_stood]
  simp only [Program.fieldsOf, Try.underlying57]
  have P : ∀ (k : Nat) (x1 x2 x3 x4 x5 v : Value), (#[x1, x2, x3, x4, x5] : Array Value)[k]? = some v → ∀ w, (part 2 #[x1, x2, x3, x4, x5] k).run Try.prog w = .ok v w := by
    intro k x1 x2 x3 x4 x5 v h w
    simp [part, isAgg, run_underlying Try.underlying2, h]
  have Q : ∀ (x y : Int) (w : World), (Op.equalIn 9999 2 (.int .i64 x) (.int .i64 y)).run Try.prog w = .ok (x == y) w := fun x y w => run_equalIn_int w 9998 2 .i64 .i64 x y Try.underlying2
  simp [Op.eqFields, Sem.run_bind, P 0 _ _ _ _ _ _ rfl, P 1 _ _ _ _ _ _ rfl, P 2 _ _ _ _ _ _ rfl, P 3 _ _ _ _ _ _ rfl, P 4 _ _ _ _ _ _ rfl, Q]
  by_cases h1 : a = a' <;> by_cases h2 : b = b' <;> by_cases h3 : c = c' <;> by_cases h4 : d = d' <;> by_cases h5 : e = e' <;> simp [h1, h2, h3, h4, h5]

theorem wp_neqInst {o : Oper} {A : Act} {w : World} {K : Act → World → Prop} {Q : Exit → Act → World → Prop} {a b c d e a' b' c' d' e' : Int} (x y : Operand) (t : TypeId) (ho : o.op = .binOp .neq 57 x y t)
    (hx : A.eval x = .agg #[.int .i64 a, .int .i64 b, .int .i64 c, .int .i64 d, .int .i64 e]) (hy : A.eval y = .agg #[.int .i64 a', .int .i64 b', .int .i64 c', .int .i64 d', .int .i64 e'])
    (nb : Bool) (hn : (!(a == a' && b == b' && c == c' && d == d' && e == e')) = nb) (h : K (A.put o.dst (.bool nb)) w) : o.wp Try.prog A w K Q := by
  subst hn
  unfold Oper.wp execOp
  simp only [ho, hx, hy, Sem.run_bind, run_eqGuard_agg w _ _ _ _ _ _ inst_guard, run_neqInst, Result.andThen_ok]
  exact h

theorem wpList_neqInst {ops : Array Oper} {rest : List Oper} {o : Oper} {A : Act} {w : World} {Q : Exit → Act → World → Prop} {a b c d e a' b' c' d' e' : Int} (hw : Region.wanted o (yielded ops A.tmps) = true) (x y : Operand) (t : TypeId) (ho : o.op = .binOp .neq 57 x y t)
    (hx : A.eval x = .agg #[.int .i64 a, .int .i64 b, .int .i64 c, .int .i64 d, .int .i64 e]) (hy : A.eval y = .agg #[.int .i64 a', .int .i64 b', .int .i64 c', .int .i64 d', .int .i64 e'])
    (nb : Bool) (hn : (!(a == a' && b == b' && c == c' && d == d' && e == e')) = nb) (h : wpList Try.prog ops Q rest (A.put o.dst (.bool nb)) w) : wpList Try.prog ops Q (o :: rest) A w := by
  unfold wpList
  rw [if_pos hw]
  exact Or.inl (wp_neqInst x y t ho hx hy nb hn h)

theorem none_row (w : World) : (w.alloc (.cells #[.int .i64 0, .int .i64 0, .int .i64 0, .int .i64 0, .int .i64 0] 57)).heap[w.heap.size]? = some (.cells #[.int .i64 0, .int .i64 0, .int .i64 0, .int .i64 0, .int .i64 0] 57 (0, 0)) := heap_alloc_new _ _

set_option maxHeartbeats 1600000 in
theorem l2Match_any (i : Nat) (hi : i < 98) (nm : ByteArray) (f : Fm) (o z m x : Int) (h0 : 0 ≤ x) (h1 : x < 4294967296) (hx : Hid (f = .x → 0 ≤ o ∧ o < 128 ∧ 0 ≤ m ∧ m < 4096)) (w : World) :
    Calls Try.prog 62 #[.int .i64 i, .agg #[.string nm, .string f.str, .int .u64 o, .int .i64 z, .int .u64 m], .int .u64 x] w fun e w' => e = .returned (.bool (decide (matchP i f o z m x))) ∧ Below w.heap.size w w' := by
  have A1 : bits .and .u64 x 127 = x % 128 := and_low x 7 h0 (by omega) (by decide)
  have A2 : bits .and .u64 (x / 4096) 7 = x / 4096 % 8 := and_low (x / 4096) 3 (by omega) (by omega) (by decide)
  have A3 : bits .and .u64 (x / 128) 31 = x / 128 % 32 := and_low (x / 128) 5 (by omega) (by omega) (by decide)
  have A4 : bits .and .u64 (x / 1048576) 31 = x / 1048576 % 32 := and_low (x / 1048576) 5 (by omega) (by omega) (by decide)
  cases f
  case x =>
    have H := hx.out rfl
    have A5 : IntKind.u64.wrap (m * 1048576) = m * 1048576 := by rw [IntKind.wrap_u64]; omega
    have A6 : bits .or .u64 (m * 1048576) o = m * 1048576 + o := by
      rw [u64_or _ _ (by omega) (by omega) (by omega) (by omega)]
      rw [nat_join 20 _ _ (by omega) (by omega)]; omega
    clear H
    simp only [Fm.str]
    go_enter Try.func62, Try.ntmps62
    go_wp2_with fail
    all_goals go_ret
    all_goals refine ⟨?_, (Below.refl _ _).alloc (Nat.le_refl _) _⟩
    all_goals (clear hx; go_tidy; show Ending.returned (Value.bool _) = Ending.returned (Value.bool _); congr 2; rw [Bool.eq_iff_iff, decide_eq_true_iff]; simp only [matchP, bne_iff_ne, beq_iff_eq, bne_eq_false_iff_eq, Bool.false_eq_true, ne_eq, false_iff] at *)
    all_goals omega
  all_goals (
    simp only [Fm.str]
    go_enter Try.func62, Try.ntmps62
    go_wp2_with fail
    all_goals go_ret
    all_goals refine ⟨?_, (Below.refl _ _).alloc (Nat.le_refl _) _⟩
    all_goals (clear hx; go_tidy; show Ending.returned (Value.bool _) = Ending.returned (Value.bool _); congr 2; rw [Bool.eq_iff_iff, decide_eq_true_iff]; simp only [matchP, bne_iff_ne, beq_iff_eq, bne_eq_false_iff_eq, Bool.false_eq_true, ne_eq, true_iff, false_iff, and_true] at *)
    all_goals omega)

set_option maxHeartbeats 1600000 in
theorem l2Imm_any (f : Fm) (x : Int) (h0 : 0 ≤ x) (h1 : x < 4294967296) (w : World) :
    Calls Try.prog 63 #[.string f.str, .int .u64 x] w fun e w' => e = .returned (.int .i64 (immV f x)) ∧ w' = w := by
  cases f
  case i =>
    simp only [Fm.str]
    go_enter Try.func63, Try.ntmps63
    go_wp2_with fail
    refine (l1Widen_any (x / 1048576) 12 (by decide) (by decide) _).mono ?_
    rintro e w1 ⟨rfl, rfl⟩
    go_wp2_with fail
    go_ret
    exact ⟨rfl, rfl⟩
  case s =>
    have A1 : IntKind.u64.wrap (x / 33554432 * 32) = x / 33554432 * 32 := by rw [IntKind.wrap_u64]; omega
    have A2 : bits .and .u64 (x / 128) 31 = x / 128 % 32 := and_low (x / 128) 5 (by omega) (by omega) (by decide)
    have A3 : bits .or .u64 (x / 33554432 * 32) (x / 128 % 32) = x / 33554432 * 32 + x / 128 % 32 := by
      have := or64 (x / 33554432 * 32) (x / 128 % 32) 0 5 (by omega) (by omega) (by omega) (by omega) (by omega) (by omega)
      simpa using this
    simp only [Fm.str]
    go_enter Try.func63, Try.ntmps63
    go_wp2_with fail
    refine (l1Widen_any (x / 33554432 * 32 + x / 128 % 32) 12 (by decide) (by decide) _).mono ?_
    rintro e w1 ⟨rfl, rfl⟩
    go_wp2_with fail
    go_ret
    exact ⟨rfl, rfl⟩
  case b =>
    have A1 : IntKind.u64.wrap (x / 2147483648 * 4096) = x / 2147483648 * 4096 := by rw [IntKind.wrap_u64]; omega
    have A2 : bits .and .u64 (x / 128) 1 = x / 128 % 2 := and_low (x / 128) 1 (by omega) (by omega) (by decide)
    have A3 : IntKind.u64.wrap (x / 128 % 2 * 2048) = x / 128 % 2 * 2048 := by rw [IntKind.wrap_u64]; omega
    have A4 : bits .or .u64 (x / 2147483648 * 4096) (x / 128 % 2 * 2048) = x / 2147483648 * 4096 + x / 128 % 2 * 2048 :=
      or64 (x / 2147483648 * 4096) (x / 128 % 2) 11 1 (by omega) (by omega) (by omega) (by omega) (by omega) (by omega)
    have A5 : bits .and .u64 (x / 33554432) 63 = x / 33554432 % 64 := and_low (x / 33554432) 6 (by omega) (by omega) (by decide)
    have A6 : IntKind.u64.wrap (x / 33554432 % 64 * 32) = x / 33554432 % 64 * 32 := by rw [IntKind.wrap_u64]; omega
    have A7 : bits .or .u64 (x / 2147483648 * 4096 + x / 128 % 2 * 2048) (x / 33554432 % 64 * 32) = x / 2147483648 * 4096 + x / 128 % 2 * 2048 + x / 33554432 % 64 * 32 :=
      or64 (x / 2147483648 * 4096 + x / 128 % 2 * 2048) (x / 33554432 % 64) 5 6 (by omega) (by omega) (by omega) (by omega) (by omega) (by omega)
    have A8 : bits .and .u64 (x / 256) 15 = x / 256 % 16 := and_low (x / 256) 4 (by omega) (by omega) (by decide)
    have A9 : IntKind.u64.wrap (x / 256 % 16 * 2) = x / 256 % 16 * 2 := by rw [IntKind.wrap_u64]; omega
    have A10 : bits .or .u64 (x / 2147483648 * 4096 + x / 128 % 2 * 2048 + x / 33554432 % 64 * 32) (x / 256 % 16 * 2) = x / 2147483648 * 4096 + x / 128 % 2 * 2048 + x / 33554432 % 64 * 32 + x / 256 % 16 * 2 :=
      or64 (x / 2147483648 * 4096 + x / 128 % 2 * 2048 + x / 33554432 % 64 * 32) (x / 256 % 16) 1 4 (by omega) (by omega) (by omega) (by omega) (by omega) (by omega)
    simp only [Fm.str]
    go_enter Try.func63, Try.ntmps63
    go_wp2_with fail
    refine (l1Widen_any (x / 2147483648 * 4096 + x / 128 % 2 * 2048 + x / 33554432 % 64 * 32 + x / 256 % 16 * 2) 13 (by decide) (by decide) _).mono ?_
    rintro e w1 ⟨rfl, rfl⟩
    go_wp2_with fail
    go_ret
    exact ⟨rfl, rfl⟩
  case u =>
    have A1 : IntKind.u64.wrap (x / 4096 * 4096) = x / 4096 * 4096 := by rw [IntKind.wrap_u64]; omega
    simp only [Fm.str]
    go_enter Try.func63, Try.ntmps63
    go_wp2_with fail
    refine (l1Widen_any (x / 4096 * 4096) 32 (by decide) (by decide) _).mono ?_
    rintro e w1 ⟨rfl, rfl⟩
    go_wp2_with fail
    go_ret
    exact ⟨rfl, rfl⟩
  case j =>
    have A1 : IntKind.u64.wrap (x / 2147483648 * 1048576) = x / 2147483648 * 1048576 := by rw [IntKind.wrap_u64]; omega
    have A2 : bits .and .u64 (x / 4096) 255 = x / 4096 % 256 := and_low (x / 4096) 8 (by omega) (by omega) (by decide)
    have A3 : IntKind.u64.wrap (x / 4096 % 256 * 4096) = x / 4096 % 256 * 4096 := by rw [IntKind.wrap_u64]; omega
    have A4 : bits .or .u64 (x / 2147483648 * 1048576) (x / 4096 % 256 * 4096) = x / 2147483648 * 1048576 + x / 4096 % 256 * 4096 :=
      or64 (x / 2147483648 * 1048576) (x / 4096 % 256) 12 8 (by omega) (by omega) (by omega) (by omega) (by omega) (by omega)
    have A5 : bits .and .u64 (x / 1048576) 1 = x / 1048576 % 2 := and_low (x / 1048576) 1 (by omega) (by omega) (by decide)
    have A6 : IntKind.u64.wrap (x / 1048576 % 2 * 2048) = x / 1048576 % 2 * 2048 := by rw [IntKind.wrap_u64]; omega
    have A7 : bits .or .u64 (x / 2147483648 * 1048576 + x / 4096 % 256 * 4096) (x / 1048576 % 2 * 2048) = x / 2147483648 * 1048576 + x / 4096 % 256 * 4096 + x / 1048576 % 2 * 2048 :=
      or64 (x / 2147483648 * 1048576 + x / 4096 % 256 * 4096) (x / 1048576 % 2) 11 1 (by omega) (by omega) (by omega) (by omega) (by omega) (by omega)
    have A8 : bits .and .u64 (x / 2097152) 1023 = x / 2097152 % 1024 := and_low (x / 2097152) 10 (by omega) (by omega) (by decide)
    have A9 : IntKind.u64.wrap (x / 2097152 % 1024 * 2) = x / 2097152 % 1024 * 2 := by rw [IntKind.wrap_u64]; omega
    have A10 : bits .or .u64 (x / 2147483648 * 1048576 + x / 4096 % 256 * 4096 + x / 1048576 % 2 * 2048) (x / 2097152 % 1024 * 2) = x / 2147483648 * 1048576 + x / 4096 % 256 * 4096 + x / 1048576 % 2 * 2048 + x / 2097152 % 1024 * 2 :=
      or64 (x / 2147483648 * 1048576 + x / 4096 % 256 * 4096 + x / 1048576 % 2 * 2048) (x / 2097152 % 1024) 1 10 (by omega) (by omega) (by omega) (by omega) (by omega) (by omega)
    simp only [Fm.str]
    go_enter Try.func63, Try.ntmps63
    go_wp2_with fail
    refine (l1Widen_any (x / 2147483648 * 1048576 + x / 4096 % 256 * 4096 + x / 1048576 % 2 * 2048 + x / 2097152 % 1024 * 2) 21 (by decide) (by decide) _).mono ?_
    rintro e w1 ⟨rfl, rfl⟩
    go_wp2_with fail
    go_ret
    exact ⟨rfl, rfl⟩
  case h =>
    have A1 : bits .and .u64 (x / 1048576) 63 = x / 1048576 % 64 := and_low (x / 1048576) 6 (by omega) (by omega) (by decide)
    have F : Hid (immV .h x = x / 1048576 % 64) := widen64 (x / 1048576 % 64) (by omega) (by omega)
    simp only [Fm.str]
    go_enter Try.func63, Try.ntmps63
    go_wp2_with fail
    go_ret
    exact ⟨by rw [F.out]; rfl, rfl⟩
  case w =>
    have A1 : bits .and .u64 (x / 1048576) 31 = x / 1048576 % 32 := and_low (x / 1048576) 5 (by omega) (by omega) (by decide)
    have F : Hid (immV .w x = x / 1048576 % 32) := widen64 (x / 1048576 % 32) (by omega) (by omega)
    simp only [Fm.str]
    go_enter Try.func63, Try.ntmps63
    go_wp2_with fail
    go_ret
    exact ⟨by rw [F.out]; rfl, rfl⟩
  case a =>
    have A1 : bits .and .u64 (x / 33554432) 3 = x / 33554432 % 4 := and_low (x / 33554432) 2 (by omega) (by omega) (by decide)
    have F : Hid (immV .a x = x / 33554432 % 4) := widen64 (x / 33554432 % 4) (by omega) (by omega)
    simp only [Fm.str]
    go_enter Try.func63, Try.ntmps63
    go_wp2_with fail
    go_ret
    exact ⟨by rw [F.out]; rfl, rfl⟩
  case c =>
    have F : Hid (immV .c x = x / 1048576) := widen64 (x / 1048576) (by omega) (by omega)
    simp only [Fm.str]
    go_enter Try.func63, Try.ntmps63
    go_wp2_with fail
    go_ret
    exact ⟨by rw [F.out]; rfl, rfl⟩
  case r =>
    have F : Hid (immV .r x = 0) := widen64 (0) (by omega) (by omega)
    simp only [Fm.str]
    go_enter Try.func63, Try.ntmps63
    go_wp2_with fail
    go_ret
    exact ⟨by rw [F.out]; rfl, rfl⟩
  case x =>
    have F : Hid (immV .x x = 0) := widen64 (0) (by omega) (by omega)
    simp only [Fm.str]
    go_enter Try.func63, Try.ntmps63
    go_wp2_with fail
    go_ret
    exact ⟨by rw [F.out]; rfl, rfl⟩

theorem rowOk_x {k : Nat} {r : Row} (h : rowOk k r = true) : r.fm = .x → 0 ≤ r.op ∧ r.op < 128 ∧ 0 ≤ r.more ∧ r.more < 4096 := by
  intro hx
  simp only [rowOk, hx, Bool.and_eq_true, decide_eq_true_eq] at h
  omega

set_option maxHeartbeats 3200000 in
theorem specDecode_any (x : Int) (h0 : 0 ≤ x) (h1 : x < 18446744073709551616) (w : World) :
    Calls Try.prog 55 #[.int .u64 x] w fun e w' => e = .returned (decV x) ∧ Below w.heap.size w w' := by
  by_cases hbig : x < 4294967296
  · have d1 : (x / 4294967296 != 0) = false := by simp; omega
    have HH : Hid (∀ k, findRow x 98 0 = some k → decV x = .tuple #[(insAt k x).val, .bool true]) := fun k (h : findRow x 98 0 = some k) => decV_hit x k hbig h
    have HM : Hid (findRow x 98 0 = none → decV x = .tuple #[noIns.val, .bool false]) := fun (h : findRow x 98 0 = none) => decV_miss x hbig h
    obtain ⟨V, hV⟩ : ∃ V, V = decV x := ⟨_, rfl⟩
    rw [← hV] at HH HM ⊢
    clear hV
    go_enter Try.func55, Try.ntmps55
    go_wp2_with fail
    refine (l2Rows_T _).mono ?_
    rintro e w1 ⟨rfl, hT, hb⟩
    have hsz : w.heap.size + 1 < w1.heap.size := by have := hT.out.1; simp at this; omega
    have G0 : Hid (w1.heap[w.heap.size]? = some (.cells #[.int .i64 0, .int .i64 0, .int .i64 0, .int .i64 0, .int .i64 0] 57 (0, 0))) := by
      show _ = _
      rw [hb.block _ (by simp)]; exact none_row w
    have hb0 : Below w.heap.size w w1 := ((Below.refl _ _).alloc (Nat.le_refl _) _).trans (hb.mono (by simp))
    obtain ⟨g, hg⟩ : ∃ g, g = (w.alloc (.cells #[.int .i64 0, .int .i64 0, .int .i64 0, .int .i64 0, .int .i64 0] 57)).heap.size := ⟨_, rfl⟩
    rw [← hg] at hT ⊢
    clear hb hg
    go_wp2_with fail
    go_loopw [5] (fun i wr => ∃ k : Nat, k ≤ 98 ∧ i = .int .i64 k ∧ Hid (findRow x (98 - k) k = findRow x 98 0) ∧ Hid (TabS wr g) ∧
        Hid (wr.heap[w.heap.size]? = some (.cells #[.int .i64 0, .int .i64 0, .int .i64 0, .int .i64 0, .int .i64 0] 57 (0, 0))) ∧ Below w.heap.size w wr)
      (fun i _ => 98 - (intOf i).toNat)
    case atStart => exact ⟨0, by omega, rfl, (rfl : findRow x (98 - 0) 0 = findRow x 98 0), hT, G0, hb0⟩
    case round =>
      obtain ⟨k, hk, rfl, hf, hT2, G, hb2⟩ := hrel
      clear G0 hb0 hT
      by_cases hlt : k < 98
      · have RX := rowOk_x (rows_ok k hlt)
        obtain ⟨r, hr0⟩ : ∃ r, r = rowAt k := ⟨_, rfl⟩
        obtain ⟨c0, c1, c2, c3, c4⟩ := hT2.out.2 k hlt r hr0
        have MB : decide (matchP k r.fm r.op r.f3 r.more x) = matchB k x := by rw [hr0]; rfl
        have IV : Hid (Value.agg #[.int .i64 ((k : Int) + 1), .int .i64 (rdV r.fm x), .int .i64 (aV r.fm x), .int .i64 (bV r.fm x), .int .i64 (immV r.fm x)] = (insAt k x).val) := by
          show _ = _
          rw [hr0]; rfl
        rw [← hr0] at RX
        have LM0 := l2Match_any k hlt r.name r.fm r.op r.f3 r.more x h0 hbig RX
        rw [MB] at LM0
        clear hr0 MB RX
        obtain ⟨nm, f, o, z, m⟩ := r
        simp only at c0 c1 c2 c3 c4 IV LM0
        obtain ⟨s, hs⟩ : ∃ s, s = f.str := ⟨_, rfl⟩
        rw [← hs] at c1 LM0
        obtain ⟨mb, hmb⟩ : ∃ b, b = matchB k x := ⟨_, rfl⟩
        rw [← hmb] at LM0
        have LM : Hid (∀ w : World, Calls Try.prog 62 #[.int .i64 k, .agg #[.string nm, .string s, .int .u64 o, .int .i64 z, .int .u64 m], .int .u64 x] w fun e w' => e = .returned (.bool mb) ∧ Below w.heap.size w w') := LM0
        have HMB : Hid (mb = matchB k x) := hmb
        have HS : Hid (s = f.str) := hs
        clear LM0 hmb hs
        go_wp2_with fail
        refine (LM.out _).mono ?_
        rintro e w2 ⟨rfl, hbp⟩
        have hbw : Below wr.heap.size wr w2 := ((Below.refl _ _).alloc (Nat.le_refl _) _).trans (hbp.mono (by simp))
        have c1' : w2.cell? ⟨wr.heap.size, 1, none⟩ = some (.string s) := by
          rw [hbp.cell (by simp)]
          rw [cell_of_row _ _ _ _ _ _ (heap_alloc_new _ _)]; rfl
        have G2 : w2.heap[w.heap.size]? = some (.cells #[.int .i64 0, .int .i64 0, .int .i64 0, .int .i64 0, .int .i64 0] 57 (0, 0)) := keep_some hbw G.out
        have hT3 : Hid (TabS w2 g) := TabS.below hT2.out hT2.out.1 hbw
        have hb3 := below_trans hb2 hbw
        have hlt2 : wr.heap.size < w2.heap.size := by have := hbp.size; simp at this; omega
        have c1a : ∀ o, (w2.alloc o).cell? ⟨wr.heap.size, 1, none⟩ = some (.string s) := fun o => (((Below.refl w2.heap.size w2).alloc (Nat.le_refl _) o).cell (p := ⟨wr.heap.size, 1, none⟩) hlt2).trans c1'
        have G2a : ∀ o, (w2.alloc o).heap[w.heap.size]? = some (.cells #[.int .i64 0, .int .i64 0, .int .i64 0, .int .i64 0, .int .i64 0] 57 (0, 0)) := fun o => keep_some ((Below.refl w2.heap.size w2).alloc (Nat.le_refl _) o) G2
        have HG2a : Hid (∀ o, (w2.alloc o).heap[w.heap.size]? = some (.cells #[.int .i64 0, .int .i64 0, .int .i64 0, .int .i64 0, .int .i64 0] 57 (0, 0))) := G2a
        have HG2 : Hid (w2.heap[w.heap.size]? = some (.cells #[.int .i64 0, .int .i64 0, .int .i64 0, .int .i64 0, .int .i64 0] 57 (0, 0))) := G2
        clear G2 G2a
        clear hbp LM c0 c1 c2 c3 c4
        cases mb with
        | true =>
          have F : Hid (V = .tuple #[(insAt k x).val, .bool true]) := HH.out k (hf.out.symm.trans (findRow_hit x k hlt HMB.out.symm))
          have A7 : bits .and .u64 (x / 128) 31 = x / 128 % 32 := and_low (x / 128) 5 (by omega) (by omega) (by decide)
          have A15 : bits .and .u64 (x / 32768) 31 = x / 32768 % 32 := and_low (x / 32768) 5 (by omega) (by omega) (by decide)
          have A20 : bits .and .u64 (x / 1048576) 31 = x / 1048576 % 32 := and_low (x / 1048576) 5 (by omega) (by omega) (by decide)
          have hs := HS.out
          subst hs
          have LI0 := l2Imm_any f x h0 hbig
          obtain ⟨y4, hy4⟩ : ∃ y, y = immV f x := ⟨_, rfl⟩
          rw [← hy4] at LI0 IV
          have LI : Hid (∀ w : World, Calls Try.prog 63 #[.string f.str, .int .u64 x] w fun e w' => e = .returned (.int .i64 y4) ∧ w' = w) := LI0
          clear LI0 hy4 HS
          cases f
          all_goals (
            simp only [Fm.str] at c1' c1a LI ⊢
            go_wp2_with fail
            refine (LI.out _).mono ?_
            rintro e w3 ⟨rfl, hw3⟩
            have hw4 := hw3.symm
            subst hw4
            go_wp2_with (refine wpList_store_rowTo rfl 57 (.tmp 2) (.tmp 82) rfl rfl w.heap.size _ rfl rfl 57 _ (HG2a.out _) inst_size rfl (inst_one _ _ _ _ _) ?_)
            refine bodyPost_ret (results_row2 Try.results55 _ _ _ _ _ _ _ rfl (setRow_heap _ _ _ _ _ _ (HG2a.out _)) Try.underlying57 rfl inst_size) rfl ⟨?_, ?_⟩
            · rw [F.out, ← IV.out]; rfl
            · exact below_setRow (hb3.alloc hb3.size _) (Nat.le_refl _) _)
        | false =>
          have F : Hid (findRow x (98 - (k + 1)) (k + 1) = findRow x 98 0) := (findRow_miss x k hlt HMB.out.symm).symm.trans hf.out
          go_wp2_with fail
          go_roundw
          case rel => exact ⟨k + 1, by omega, by go_num, F, hT3, HG2, hb3⟩
          case measure => simp [intOf]; omega
      · have hk2 : k = 98 := by omega
        subst hk2
        have F : Hid (V = .tuple #[noIns.val, .bool false]) := HM.out hf.out.symm
        have G3 := G.out
        go_wp2_with (refine wpList_store_rowTo rfl 57 (.tmp 2) (.tmp 83) rfl rfl w.heap.size #[.int .i64 0, .int .i64 0, .int .i64 0, .int .i64 0, .int .i64 0] rfl rfl 57 _ G3 inst_size rfl (inst_one _ _ _ _ _) ?_)
        refine bodyPost_ret (results_row2 Try.results55 _ _ _ _ _ _ _ rfl (setRow_heap _ _ _ _ _ _ G3) Try.underlying57 rfl inst_size) rfl ⟨?_, ?_⟩
        · rw [F.out]; rfl
        · exact below_setRow hb2 (Nat.le_refl _) _
  · have d1 : (x / 4294967296 != 0) = true := by simp; omega
    have F : Hid (decV x = .tuple #[noIns.val, .bool false]) := decV_far x hbig
    obtain ⟨V, hV⟩ : ∃ V, V = decV x := ⟨_, rfl⟩
    rw [← hV] at F ⊢
    clear hV
    go_enter Try.func55, Try.ntmps55
    go_wp2_with fail
    refine bodyPost_ret (results_row2 Try.results55 _ _ _ _ _ _ _ rfl (none_row w) Try.underlying57 rfl inst_size) rfl ⟨?_, ?_⟩
    · rw [F.out]; rfl
    · exact (Below.refl _ _).alloc (Nat.le_refl _) _

theorem specDecode_w (x : Int) (h : U x) (w : World) : Calls Try.prog 55 #[.int .u64 x] w fun e w' => ∃ (jo jr ja jb ji : Int) (t : Bool), e = .returned (.tuple #[.agg #[.int .i64 jo, .int .i64 jr, .int .i64 ja, .int .i64 jb, .int .i64 ji], .bool t]) ∧ Below w.heap.size w w' := by
  obtain ⟨j, t, hD, _, _⟩ := decV_ins x
  exact (specDecode_any x h.1 h.2 w).mono fun e w' k => ⟨j.op, j.rd, j.a, j.b, j.imm, t, by rw [k.1, hD], k.2⟩

set_option maxRecDepth 100000 in
set_option maxHeartbeats 12800000 in
theorem specEncode_w (i : Ins) (w : World) :
    Calls Try.prog 40 #[.agg #[.int .i64 i.op, .int .i64 i.rd, .int .i64 i.a, .int .i64 i.b, .int .i64 i.imm]] w fun e w' => ∃ (x : Int) (t : Bool), e = .returned (.tuple #[.int .u64 x, .bool t]) ∧ U x ∧ Below w.heap.size w w' := by
  by_cases hok : opB i.op = true ∧ regBe i = true
  · obtain ⟨ho, hreg⟩ := hok
    have ho2 : 1 ≤ i.op ∧ i.op ≤ 98 := of_decide_eq_true ho
    simp only [regBe, Bool.and_eq_true, decide_eq_true_eq] at hreg
    obtain ⟨⟨R1, R2⟩, R3⟩ := hreg
    obtain ⟨op, rd, a, b, imm⟩ := i
    simp only at ho2 R1 R2 R3 ⊢
    obtain ⟨k, hk⟩ : ∃ k : Nat, op = (k : Int) + 1 := ⟨(op - 1).toNat, by omega⟩
    have hk2 : k < 98 := by omega
    subst hk
    have I1 := l1In_any ((k : Int) + 1) 1 98
    have I2 := l1In_any rd 0 31
    have I3 := l1In_any a 0 31
    have I4 := l1In_any b 0 31
    rw [decide_eq_true (by omega)] at I1 I2 I3 I4
    have H1 : Hid (∀ w : World, Calls Try.prog 51 #[.int .i64 ((k : Int) + 1), .int .i64 1, .int .i64 98] w fun e w' => e = .returned (.bool true) ∧ w' = w) := I1
    have H2 : Hid (∀ w : World, Calls Try.prog 51 #[.int .i64 rd, .int .i64 0, .int .i64 31] w fun e w' => e = .returned (.bool true) ∧ w' = w) := I2
    have H3 : Hid (∀ w : World, Calls Try.prog 51 #[.int .i64 a, .int .i64 0, .int .i64 31] w fun e w' => e = .returned (.bool true) ∧ w' = w) := I3
    have H4 : Hid (∀ w : World, Calls Try.prog 51 #[.int .i64 b, .int .i64 0, .int .i64 31] w fun e w' => e = .returned (.bool true) ∧ w' = w) := I4
    clear I1 I2 I3 I4 ho
    go_enter Try.func40, Try.ntmps40
    go_wp2_with fail
    refine (l2Rows_T _).mono ?_
    rintro e w2 ⟨rfl, hT, hb⟩
    have hb0 : Below w.heap.size w w2 := ((Below.refl _ _).alloc (Nat.le_refl _) _).trans (hb.mono (by simp))
    have K : Hid (w2.heap[w.heap.size]? = some (.cells #[.int .i64 ((k : Int) + 1), .int .i64 rd, .int .i64 a, .int .i64 b, .int .i64 imm] 57 (0, 0))) := by
      show _ = _
      rw [hb.block _ (by simp)]; exact heap_alloc_new _ _
    have q0 : w2.cell? ⟨w.heap.size, 0, none⟩ = some (.int .i64 ((k : Int) + 1)) := (cell_of_row _ _ _ _ _ _ K.out).trans rfl
    have q1 : w2.cell? ⟨w.heap.size, 1, none⟩ = some (.int .i64 rd) := (cell_of_row _ _ _ _ _ _ K.out).trans rfl
    have q2 : w2.cell? ⟨w.heap.size, 2, none⟩ = some (.int .i64 a) := (cell_of_row _ _ _ _ _ _ K.out).trans rfl
    have q3 : w2.cell? ⟨w.heap.size, 3, none⟩ = some (.int .i64 b) := (cell_of_row _ _ _ _ _ _ K.out).trans rfl
    obtain ⟨g, hg⟩ : ∃ g, g = (w.alloc (.cells #[.int .i64 ((k : Int) + 1), .int .i64 rd, .int .i64 a, .int .i64 b, .int .i64 imm] 57)).heap.size := ⟨_, rfl⟩
    rw [← hg] at hT ⊢
    clear hb hg
    obtain ⟨r, hr0⟩ : ∃ r, r = rowAt k := ⟨_, rfl⟩
    obtain ⟨C0, C1, C2, C3, C4⟩ := hT.out.2 k hk2 r hr0
    obtain ⟨nm, f, o, z, m⟩ := r
    simp only at C0 C1 C2 C3 C4
    have ALL : ∀ ob : Obj, Below w2.heap.size w2 (w2.alloc ob) := fun ob => (Below.refl _ _).alloc (Nat.le_refl _) ob
    have Q1 : ∀ ob : Obj, (w2.alloc ob).cell? ⟨w.heap.size, 1, none⟩ = some (.int .i64 rd) := fun ob => (cell_of_row _ _ _ _ _ _ (keep_some (ALL ob) K.out)).trans rfl
    have Q2 : ∀ ob : Obj, (w2.alloc ob).cell? ⟨w.heap.size, 2, none⟩ = some (.int .i64 a) := fun ob => (cell_of_row _ _ _ _ _ _ (keep_some (ALL ob) K.out)).trans rfl
    have Q3 : ∀ ob : Obj, (w2.alloc ob).cell? ⟨w.heap.size, 3, none⟩ = some (.int .i64 b) := fun ob => (cell_of_row _ _ _ _ _ _ (keep_some (ALL ob) K.out)).trans rfl
    have Q4 : ∀ ob : Obj, (w2.alloc ob).cell? ⟨w.heap.size, 4, none⟩ = some (.int .i64 imm) := fun ob => (cell_of_row _ _ _ _ _ _ (keep_some (ALL ob) K.out)).trans rfl
    clear ALL hr0 hT
    obtain ⟨s, hs⟩ : ∃ s, s = f.str := ⟨_, rfl⟩
    rw [← hs] at C1
    have HS : Hid (s = f.str) := hs
    clear hs ho2 R1 R2 R3
    go_wp2_with fail
    refine (H1.out _).mono ?_
    rintro e w3 ⟨rfl, hw3⟩
    have hw4 := hw3.symm
    subst hw4
    go_wp2_with fail
    refine (H2.out _).mono ?_
    rintro e w3 ⟨rfl, hw3⟩
    have hw4 := hw3.symm
    subst hw4
    go_wp2_with fail
    refine (H3.out _).mono ?_
    rintro e w3 ⟨rfl, hw3⟩
    have hw4 := hw3.symm
    subst hw4
    go_wp2_with fail
    refine (H4.out _).mono ?_
    rintro e w3 ⟨rfl, hw3⟩
    have hw4 := hw3.symm
    subst hw4
    go_upto_if 63 with fail
    go_cut [7] from 10 (fun y wc => ∃ x : Int, y = .int .u64 x ∧ Hid (U x) ∧ wc = w2.alloc (.cells #[.string nm, .string s, .int .u64 o, .int .i64 z, .int .u64 m] 82))
    case first =>
      by_cases hz : 0 < z
      · have dz : decide (0 < z) = true := by simpa using hz
        go_wp2_with fail
        go_meet
        exact ⟨_, rfl, U_bits _ _ _, rfl⟩
      · have dz : decide (0 < z) = false := by simpa using hz
        go_wp2_with fail
        go_meet
        exact ⟨_, rfl, U_bits _ _ _, rfl⟩
    case rest =>
      obtain ⟨x, rfl, hx, rfl⟩ := hcut
      have hs := HS.out
      subst hs
      clear HS
      generalize IntKind.u64.wrap imm = M at *
      repeat ((fail_if_success (show Code.wp _ (Code.block 0 _) _ _ _)); first | go_values | go_skip | go_guarded | go_step | go_upon | go_back | go_simp)
      go_cut [7] from 10 (fun y wc => ∃ x : Int, y = .int .u64 x ∧ Hid (U x) ∧ wc = w2.alloc (.cells #[.string nm, .string f.str, .int .u64 o, .int .i64 z, .int .u64 m] 82))
      case first =>
        cases f
        all_goals (
          as_aux_lemma =>
            simp only [Fm.str] at C1 ⊢
            go_wp2_with fail
            go_meet
            exact ⟨_, rfl, (by first | exact U_bits _ _ _ | exact hx.out), rfl⟩)
      case rest =>
        obtain ⟨x, rfl, hx, rfl⟩ := hcut
        go_wp2_with fail
        refine (specDecode_w _ hx.out _).mono ?_
        rintro e w4 ⟨jo, jr, ja, jb, ji, t, rfl, hb4⟩
        have KW : Hid (w4.heap[w.heap.size]? = some (.cells #[.int .i64 ((k : Int) + 1), .int .i64 rd, .int .i64 a, .int .i64 b, .int .i64 imm] 57 (0, 0))) := keep_some hb4 (keep_some ((Below.refl _ _).alloc (Nat.le_refl _) _) K.out)
        have hbF : Below w.heap.size w w4 := hb0.trans ((((Below.refl w2.heap.size w2).alloc (Nat.le_refl _) _).trans (hb4.mono (by simp))).mono hb0.size)
        have AL4 : ∀ ob : Obj, Below w4.heap.size w4 (w4.alloc ob) := fun ob => (Below.refl _ _).alloc (Nat.le_refl _) ob
        have E0 : ∀ ob : Obj, (w4.alloc ob).cell? ⟨w.heap.size, 0, none⟩ = some (.int .i64 ((k : Int) + 1)) := fun ob => (cell_of_row _ _ _ _ _ _ (keep_some (AL4 ob) KW.out)).trans rfl
        have E1 : ∀ ob : Obj, (w4.alloc ob).cell? ⟨w.heap.size, 1, none⟩ = some (.int .i64 rd) := fun ob => (cell_of_row _ _ _ _ _ _ (keep_some (AL4 ob) KW.out)).trans rfl
        have E2 : ∀ ob : Obj, (w4.alloc ob).cell? ⟨w.heap.size, 2, none⟩ = some (.int .i64 a) := fun ob => (cell_of_row _ _ _ _ _ _ (keep_some (AL4 ob) KW.out)).trans rfl
        have E3 : ∀ ob : Obj, (w4.alloc ob).cell? ⟨w.heap.size, 3, none⟩ = some (.int .i64 b) := fun ob => (cell_of_row _ _ _ _ _ _ (keep_some (AL4 ob) KW.out)).trans rfl
        have E4 : ∀ ob : Obj, (w4.alloc ob).cell? ⟨w.heap.size, 4, none⟩ = some (.int .i64 imm) := fun ob => (cell_of_row _ _ _ _ _ _ (keep_some (AL4 ob) KW.out)).trans rfl
        clear AL4 hb4 q0 q1 q2 q3 Q1 Q2 Q3 Q4 C0 C1 C2 C3 C4 H1 H2 H3 H4 K hb0
        cases t with
        | false =>
          as_aux_lemma =>
            go_wp2_with fail
            go_ret2
            exact ⟨_, _, rfl, ⟨by decide, by decide⟩, hbF.alloc hbF.size _⟩
        | true =>
          obtain ⟨nb, hnb⟩ : ∃ nb, (!(jo == (k : Int) + 1 && jr == rd && ja == a && jb == b && ji == imm)) = nb := ⟨_, rfl⟩
          have HNB : Hid ((!(jo == (k : Int) + 1 && jr == rd && ja == a && jb == b && ji == imm)) = nb) := hnb
          clear hnb
          cases nb with
          | true =>
            as_aux_lemma =>
              go_wp2_with (refine wpList_neqInst rfl _ _ _ rfl rfl rfl true HNB.out ?_)
              go_ret2
              exact ⟨_, _, rfl, ⟨by decide, by decide⟩, hbF.alloc hbF.size _⟩
          | false =>
            as_aux_lemma =>
              go_wp2_with (refine wpList_neqInst rfl _ _ _ rfl rfl rfl false HNB.out ?_)
              go_ret2
              exact ⟨_, _, rfl, hx.out, hbF.alloc hbF.size _⟩
  · obtain ⟨op, rd, a, b, imm⟩ := i
    have D : (decide (1 ≤ op ∧ op ≤ 98) && (decide (0 ≤ rd ∧ rd ≤ 31) && decide (0 ≤ a ∧ a ≤ 31) && decide (0 ≤ b ∧ b ≤ 31))) = false := by
      rw [Bool.eq_false_iff]; intro h; rw [Bool.and_eq_true] at h; exact hok h
    simp only
    obtain ⟨t1, ht1⟩ : ∃ t, t = decide (1 ≤ op ∧ op ≤ 98) := ⟨_, rfl⟩
    obtain ⟨t2, ht2⟩ : ∃ t, t = decide (0 ≤ rd ∧ rd ≤ 31) := ⟨_, rfl⟩
    obtain ⟨t3, ht3⟩ : ∃ t, t = decide (0 ≤ a ∧ a ≤ 31) := ⟨_, rfl⟩
    obtain ⟨t4, ht4⟩ : ∃ t, t = decide (0 ≤ b ∧ b ≤ 31) := ⟨_, rfl⟩
    have I1 := l1In_any op 1 98
    have I2 := l1In_any rd 0 31
    have I3 := l1In_any a 0 31
    have I4 := l1In_any b 0 31
    rw [← ht1] at I1 D
    rw [← ht2] at I2 D
    rw [← ht3] at I3 D
    rw [← ht4] at I4 D
    have H1 : Hid (∀ w : World, Calls Try.prog 51 #[.int .i64 op, .int .i64 1, .int .i64 98] w fun e w' => e = .returned (.bool t1) ∧ w' = w) := I1
    have H2 : Hid (∀ w : World, Calls Try.prog 51 #[.int .i64 rd, .int .i64 0, .int .i64 31] w fun e w' => e = .returned (.bool t2) ∧ w' = w) := I2
    have H3 : Hid (∀ w : World, Calls Try.prog 51 #[.int .i64 a, .int .i64 0, .int .i64 31] w fun e w' => e = .returned (.bool t3) ∧ w' = w) := I3
    have H4 : Hid (∀ w : World, Calls Try.prog 51 #[.int .i64 b, .int .i64 0, .int .i64 31] w fun e w' => e = .returned (.bool t4) ∧ w' = w) := I4
    clear I1 I2 I3 I4 ht1 ht2 ht3 ht4 hok
    go_enter Try.func40, Try.ntmps40
    go_wp2_with fail
    refine (l2Rows_T _).mono ?_
    rintro e w2 ⟨rfl, hT, hb⟩
    have hb0 : Below w.heap.size w w2 := ((Below.refl _ _).alloc (Nat.le_refl _) _).trans (hb.mono (by simp))
    have K : w2.heap[w.heap.size]? = some (.cells #[.int .i64 op, .int .i64 rd, .int .i64 a, .int .i64 b, .int .i64 imm] 57 (0, 0)) := by
      rw [hb.block _ (by simp)]; exact heap_alloc_new _ _
    have q0 : w2.cell? ⟨w.heap.size, 0, none⟩ = some (.int .i64 op) := (cell_of_row _ _ _ _ _ _ K).trans rfl
    have q1 : w2.cell? ⟨w.heap.size, 1, none⟩ = some (.int .i64 rd) := (cell_of_row _ _ _ _ _ _ K).trans rfl
    have q2 : w2.cell? ⟨w.heap.size, 2, none⟩ = some (.int .i64 a) := (cell_of_row _ _ _ _ _ _ K).trans rfl
    have q3 : w2.cell? ⟨w.heap.size, 3, none⟩ = some (.int .i64 b) := (cell_of_row _ _ _ _ _ _ K).trans rfl
    clear K hb hT
    cases t1 <;> cases t2 <;> cases t3 <;> cases t4
    case true.true.true.true => cases D
    all_goals (
      as_aux_lemma =>
        clear D
        go_wp2_with (go_at_call 51; first | (with_reducible refine (H1.out _).mono ?_; rintro e w3 ⟨rfl, hw3⟩; have hw4 := hw3.symm; subst hw4) | (with_reducible refine (H2.out _).mono ?_; rintro e w3 ⟨rfl, hw3⟩; have hw4 := hw3.symm; subst hw4) | (with_reducible refine (H3.out _).mono ?_; rintro e w3 ⟨rfl, hw3⟩; have hw4 := hw3.symm; subst hw4) | (with_reducible refine (H4.out _).mono ?_; rintro e w3 ⟨rfl, hw3⟩; have hw4 := hw3.symm; subst hw4))
        go_ret2
        exact ⟨_, _, rfl, ⟨by decide, by decide⟩, hb0⟩)

end Go.Proofs.Ytmigfnlfjgkgkaa
