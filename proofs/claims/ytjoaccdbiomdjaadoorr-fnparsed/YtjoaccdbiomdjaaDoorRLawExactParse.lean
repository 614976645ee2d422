/- The walk of laws.FnExactParse: both parse a text alike. -/
import Derived.Test.YtjoaccdbiomdjaaDoorRParI
namespace Go.Proofs.YtjoaccdbiomdjaaDoorR
open Go.RowKit
set_option linter.unusedVariables false

set_option maxHeartbeats 1600000 in
theorem implParse_any (s : ByteArray) (hs : s.size ≤ 1048576) (w : World) (hT : Tp w) :
    Calls Tryd.prog 11 #[.string s] w fun e w' => ∃ i t, e = .returned (.tuple #[i.val, .bool t]) ∧ PR s.data.toList i t ∧ Below w.heap.size w w' := by
  have HR0 : Hid ((w.alloc (.cells #[.int .i64 0, .int .i64 0, .int .i64 0, .int .i64 0, .int .i64 0] 25 (0, 0))).heap[w.heap.size]? = some (.cells #[.int .i64 0, .int .i64 0, .int .i64 0, .int .i64 0, .int .i64 0] 25 (0, 0))) := heap_alloc_new _ _
  have HTp : Hid (Tp w) := hT
  clear hT
  go_enter Tryd.func11, Tryd.ntmps11
  go_wp2_with fail
  refine (opsByName_any _).mono ?_
  rintro e w1 ⟨bm, rfl, HO, _, hb1⟩
  have HR1 : Hid (_ = _) := row_keep HR0.out hb1
  have HB1 : Hid (Below w.heap.size w w1) := below_trans ((Below.refl _ _).alloc (Nat.le_refl _) _) hb1
  clear hb1 HR0
  go_wp2_with fail
  refine (parseBy_any s hs _ bm HO.out (HTp.out.below HB1.out)).mono ?_
  rintro e w2 ⟨i, t, rfl, hpr, hb2⟩
  have HPR : Hid (PR s.data.toList i t) := hpr
  have HR2 : Hid (_ = _) := row_keep HR1.out hb2
  have HB2 : Hid (Below w.heap.size w w2) := below_trans HB1.out hb2
  clear hpr hb2 HR1 HB1
  unfold Ins.val
  go_wp2_with (refine wpList_store_rowTo rfl 25 (.tmp 2) (.tmp 7) rfl rfl w.heap.size #[.int .i64 i.op, .int .i64 i.rd, .int .i64 i.a, .int .i64 i.b, .int .i64 i.imm] rfl rfl 25 _ HR2.out inst_size rfl (inst_one _ _ _ _ _) ?_)
  exact bodyPost_ret (results_row2 Tryd.results11 _ _ _ _ _ _ _ rfl (setRow_heap _ _ _ #[.int .i64 i.op, .int .i64 i.rd, .int .i64 i.a, .int .i64 i.b, .int .i64 i.imm] _ _ HR2.out) Tryd.underlying25 rfl inst_size) rfl ⟨i, t, rfl, HPR.out, below_setRow HB2.out (Nat.le_refl _) _⟩

set_option maxHeartbeats 1600000 in
theorem eqInst_same (i : Ins) (w : World) : Calls Tryd.prog 12 #[.agg #[.int .i64 i.op, .int .i64 i.rd, .int .i64 i.a, .int .i64 i.b, .int .i64 i.imm], .agg #[.int .i64 i.op, .int .i64 i.rd, .int .i64 i.a, .int .i64 i.b, .int .i64 i.imm]] w fun e w' => e = .returned (.bool true) ∧ Below w.heap.size w w' := by
  obtain ⟨a, b, c, d, e⟩ := i
  have h0 : (a != a) = false := by simp
  have h1 : (b != b) = false := by simp
  have h2 : (c != c) = false := by simp
  have h3 : (d != d) = false := by simp
  have h4 : (e != e) = false := by simp
  go_enter Tryd.func12, Tryd.ntmps12
  go_wp2_with fail
  go_ret
  exact ⟨rfl, ((Below.refl _ _).alloc (Nat.le_refl _) _).alloc (by simp) _⟩

namespace fnExactParse

set_option maxHeartbeats 1600000 in
theorem walk (s : ByteArray) (hs : s.size ≤ 9223372036854775807) (w : World) (hT : Tp w) :
    Calls Tryd.prog 4 #[.string s] w fun e w' => e = .returned (.bool true) ∧ Below w.heap.size w w' := by
  by_cases hbig : s.size ≤ 1048576
  · have hg : ¬ ((1048576 : Int) < (s.size : Int)) := by omega
    have HTp : Hid (Tp w) := hT
    clear hT
    go_enter Tryd.func4, Tryd.ntmps4
    go_wp2_with fail
    refine (specParse_any s hbig _).mono ?_
    rintro e w1 ⟨i, t, rfl, hpr, hb1⟩
    have HPR : Hid (PR s.data.toList i t) := hpr
    have HB1 : Hid (Below w.heap.size w w1) := hb1
    clear hpr hb1
    unfold Ins.val
    have R1 : Hid ((w1.alloc (.cells #[.int .i64 i.op, .int .i64 i.rd, .int .i64 i.a, .int .i64 i.b, .int .i64 i.imm] 25 (0, 0))).heap[w1.heap.size]? = some (.cells #[.int .i64 i.op, .int .i64 i.rd, .int .i64 i.a, .int .i64 i.b, .int .i64 i.imm] 25 (0, 0))) := heap_alloc_new _ _
    have B2 : Hid (Below w.heap.size w (w1.alloc (.cells #[.int .i64 i.op, .int .i64 i.rd, .int .i64 i.a, .int .i64 i.b, .int .i64 i.imm] 25 (0, 0)))) := below_trans HB1.out ((Below.refl _ _).alloc (Nat.le_refl _) _)
    go_wp2_with fail
    refine (implParse_any s hbig _ (HTp.out.below B2.out)).mono ?_
    rintro e w2 ⟨i2, t2, rfl, hpr, hb2⟩
    obtain ⟨rfl, rfl⟩ := hpr.same HPR.out
    have R2 : Hid (_ = _) := row_keep R1.out hb2
    have B3 : Hid (Below w.heap.size w w2) := below_trans B2.out hb2
    clear hpr hb2 R1 B2 HPR HB1
    unfold Ins.val
    have R3 : Hid (_ = _) := row_keep R2.out ((Below.refl w2.heap.size w2).alloc (Nat.le_refl _) (.cells #[.int .i64 i2.op, .int .i64 i2.rd, .int .i64 i2.a, .int .i64 i2.b, .int .i64 i2.imm] 25 (0, 0)))
    obtain ⟨c0, c1, c2, c3, c4⟩ := ins_row R3.out
    have htt : (t2 != t2) = false := by simp
    go_wp2_with fail
    refine (eqInst_same i2 _).mono ?_
    rintro e w3 ⟨rfl, hb3⟩
    have B4 : Hid (Below w.heap.size w w3) := below_trans (below_trans B3.out ((Below.refl _ _).alloc (Nat.le_refl _) _)) hb3
    clear hb3
    go_wp2_with fail
    go_ret
    exact ⟨rfl, B4.out⟩
  · have hg : ((1048576 : Int) < (s.size : Int)) := by omega
    go_enter Tryd.func4, Tryd.ntmps4
    go_wp2_with fail
    go_ret
    exact ⟨rfl, Below.refl _ _⟩

end fnExactParse

end Go.Proofs.YtjoaccdbiomdjaaDoorR
