/- The program's laying out of a word: layFields. -/
import Derived.Test.YtjjpklalihaanaaDoorEncP
namespace Go.Proofs.YtjjpklalihaanaaDoor
open Go.RowKit
set_option linter.unusedVariables false

theorem layP_snoc (imm acc : Int) (l : List (Nat × Nat × Nat)) (k : Nat) (h : k < l.length) : bits .or .u64 (layP imm acc (l.take k)) (IntKind.u64.wrap (fld (u64 imm) (l.getD k (0, 0, 0)).2.2 (l.getD k (0, 0, 0)).2.1 * 2 ^ (l.getD k (0, 0, 0)).1)) = layP imm acc (l.take (k + 1)) := by
  have e : l.getD k (0, 0, 0) = l[k] := by simp [List.getD, h]
  rw [e, List.take_succ_eq_append_getElem h]
  simp only [layP, List.foldl_append, List.foldl_cons, List.foldl_nil]

set_option maxHeartbeats 3200000 in
theorem layFields_any (op rd a b imm : Int) (nm : ByteArray) (f : Fm) (o z m : Int) (w : World) :
    Calls Tryd.prog 48 #[.agg #[.int .i64 op, .int .i64 rd, .int .i64 a, .int .i64 b, .int .i64 imm], .agg #[.string nm, .string f.str, .int .u64 o, .int .u64 z, .int .u64 m]] w fun e w' => e = .returned (.int .u64 (layI f o z m ⟨op, rd, a, b, imm⟩)) ∧ Below w.heap.size w w' := by
  have hfo := fieldsOf_any f
  have RP0 := rowPattern_any op nm f o z m
  obtain ⟨MM, hMM⟩ : ∃ M, M = maskI op f := ⟨_, rfl⟩
  obtain ⟨c0, hc0⟩ : ∃ c, c = bitsI f o z m := ⟨_, rfl⟩
  rw [← hMM, ← hc0] at RP0
  obtain ⟨b1, hb1⟩ : ∃ b, b = f.hasRd := ⟨_, rfl⟩
  obtain ⟨b2, hb2⟩ : ∃ b, b = f.hasA := ⟨_, rfl⟩
  obtain ⟨b3, hb3⟩ : ∃ b, b = f.hasB := ⟨_, rfl⟩
  obtain ⟨l, hl⟩ : ∃ l, l = f.pcs := ⟨_, rfl⟩
  obtain ⟨wd, hwd⟩ : ∃ wd, wd = f.width := ⟨_, rfl⟩
  obtain ⟨s, hs⟩ : ∃ s, s = f.str := ⟨_, rfl⟩
  have PB : Hid (∀ p ∈ l, p.1 < 64 ∧ p.2.1 < 64 ∧ p.2.2 < 64) := by
    show ∀ p ∈ l, p.1 < 64 ∧ p.2.1 < 64 ∧ p.2.2 < 64
    rw [hl]; cases f <;> decide
  have LB : l.length ≤ 4 := by rw [hl]; cases f <;> decide
  rw [← hb1, ← hb2, ← hb3, ← hl, ← hwd, ← hs] at hfo
  rw [← hs] at RP0
  obtain ⟨y1, hy1⟩ : ∃ y, y = fld (u64 rd) 0 5 := ⟨_, rfl⟩
  obtain ⟨y2, hy2⟩ : ∃ y, y = fld (u64 a) 0 5 := ⟨_, rfl⟩
  obtain ⟨y3, hy3⟩ : ∃ y, y = fld (u64 b) 0 5 := ⟨_, rfl⟩
  have FV : Hid (layI f o z m ⟨op, rd, a, b, imm⟩ = layP imm (if b3 then bits .or .u64 (if b2 then bits .or .u64 (if b1 then bits .or .u64 c0 (IntKind.u64.wrap (y1 * 128)) else c0) (IntKind.u64.wrap (y2 * 32768)) else (if b1 then bits .or .u64 c0 (IntKind.u64.wrap (y1 * 128)) else c0)) (IntKind.u64.wrap (y3 * 1048576)) else (if b2 then bits .or .u64 (if b1 then bits .or .u64 c0 (IntKind.u64.wrap (y1 * 128)) else c0) (IntKind.u64.wrap (y2 * 32768)) else (if b1 then bits .or .u64 c0 (IntKind.u64.wrap (y1 * 128)) else c0))) l) := by
    show _ = _
    rw [hb1, hb2, hb3, hl, hc0, hy1, hy2, hy3]
    rfl
  obtain ⟨V, hV⟩ : ∃ V, V = layI f o z m ⟨op, rd, a, b, imm⟩ := ⟨_, rfl⟩
  rw [← hV] at FV ⊢
  rw [← hs]
  obtain ⟨u1, hu1⟩ : ∃ u, u = IntKind.u64.wrap rd := ⟨_, rfl⟩
  obtain ⟨u2, hu2⟩ : ∃ u, u = IntKind.u64.wrap a := ⟨_, rfl⟩
  obtain ⟨u3, hu3⟩ : ∃ u, u = IntKind.u64.wrap b := ⟨_, rfl⟩
  obtain ⟨u4, hu4⟩ : ∃ u, u = IntKind.u64.wrap imm := ⟨_, rfl⟩
  have B1 := bitsAt_any u1 0 5 (by rw [hu1]; exact (u64_range rd).1) (by rw [hu1]; exact (u64_range rd).2) (by decide) (by decide)
  have B2 := bitsAt_any u2 0 5 (by rw [hu2]; exact (u64_range a).1) (by rw [hu2]; exact (u64_range a).2) (by decide) (by decide)
  have B3 := bitsAt_any u3 0 5 (by rw [hu3]; exact (u64_range b).1) (by rw [hu3]; exact (u64_range b).2) (by decide) (by decide)
  have U4 : Hid (0 ≤ u4 ∧ u4 < 18446744073709551616) := by
    show _ ∧ _
    rw [hu4]; exact u64_range imm
  have E1 : fld u1 0 5 = y1 := by rw [hy1, hu1]; rfl
  have E2 : fld u2 0 5 = y2 := by rw [hy2, hu2]; rfl
  have E3 : fld u3 0 5 = y3 := by rw [hy3, hu3]; rfl
  rw [E1] at B1
  rw [E2] at B2
  rw [E3] at B3
  have HB1 : Hid (∀ w : World, Calls Tryd.prog 57 #[.int .u64 u1, .int .i64 0, .int .i64 5] w fun e w' => e = .returned (.int .u64 y1) ∧ w' = w.drew) := B1
  have HB2 : Hid (∀ w : World, Calls Tryd.prog 57 #[.int .u64 u2, .int .i64 0, .int .i64 5] w fun e w' => e = .returned (.int .u64 y2) ∧ w' = w.drew) := B2
  have HB3 : Hid (∀ w : World, Calls Tryd.prog 57 #[.int .u64 u3, .int .i64 0, .int .i64 5] w fun e w' => e = .returned (.int .u64 y3) ∧ w' = w.drew) := B3
  have RP : Hid (∀ w : World, Calls Tryd.prog 26 #[.int .i64 op, .agg #[.string nm, .string s, .int .u64 o, .int .u64 z, .int .u64 m]] w fun e w' => e = .returned (.tuple #[.int .u64 MM, .int .u64 c0]) ∧ Below w.heap.size w w') := RP0
  have HU4 : Hid (u4 = IntKind.u64.wrap imm) := hu4
  have hu1' := hu1.symm
  have hu2' := hu2.symm
  have hu3' := hu3.symm
  have hu4' := hu4.symm
  clear B1 B2 B3 E1 E2 E3 RP0 hMM hc0 hb1 hb2 hb3 hl hwd hs hy1 hy2 hy3 hV hu1 hu2 hu3 hu4
  cases b1 <;> cases b2 <;> cases b3
  all_goals (
    go_enter Tryd.func48, Tryd.ntmps48
    go_wp2_with fail
    refine (hfo _).mono ?_
    rintro e w1 ⟨p, rfl, hP, hbel⟩
    clear hfo
    have hsz : w.heap.size + 1 < w1.heap.size := by have := hbel.size; simp at this; omega
    have hb0 : Below w.heap.size w w1 := (((Below.refl _ _).alloc (Nat.le_refl _) _).alloc (by simp) _).trans (hbel.mono (by simp; omega))
    have K2 : Hid (w1.heap[w.heap.size]? = some (.cells #[.int .i64 op, .int .i64 rd, .int .i64 a, .int .i64 b, .int .i64 imm] 30 (0, 0))) := by
      show _ = _
      rw [hbel.block _ (by simp; omega)]; exact heap_alloc2_old _ _ _
    have K3 : Hid (w1.heap[w.heap.size + 1]? = some (.cells #[.string nm, .string s, .int .u64 o, .int .u64 z, .int .u64 m] 54 (0, 0))) := by
      show _ = _
      rw [hbel.block _ (by simp)]; exact heap_alloc2_new _ _ _
    clear hbel
    have ALL : ∀ ob : Obj, Below w1.heap.size w1 (w1.alloc ob) := fun ob => (Below.refl _ _).alloc (Nat.le_refl _) ob
    have q0 : ∀ ob : Obj, (w1.alloc ob).cell? ⟨w.heap.size, 0, none⟩ = some (.int .i64 op) := fun ob => (cell_of_row _ _ _ _ _ _ (keep_some (ALL ob) K2.out)).trans rfl
    have q1 : ∀ ob : Obj, (w1.alloc ob).cell? ⟨w.heap.size + 1, 0, none⟩ = some (.string nm) := fun ob => (cell_of_row _ _ _ _ _ _ (keep_some (ALL ob) K3.out)).trans rfl
    have q2 : ∀ ob : Obj, (w1.alloc ob).cell? ⟨w.heap.size + 1, 1, none⟩ = some (.string s) := fun ob => (cell_of_row _ _ _ _ _ _ (keep_some (ALL ob) K3.out)).trans rfl
    have q3 : ∀ ob : Obj, (w1.alloc ob).cell? ⟨w.heap.size + 1, 2, none⟩ = some (.int .u64 o) := fun ob => (cell_of_row _ _ _ _ _ _ (keep_some (ALL ob) K3.out)).trans rfl
    have q4 : ∀ ob : Obj, (w1.alloc ob).cell? ⟨w.heap.size + 1, 3, none⟩ = some (.int .u64 z) := fun ob => (cell_of_row _ _ _ _ _ _ (keep_some (ALL ob) K3.out)).trans rfl
    have q5 : ∀ ob : Obj, (w1.alloc ob).cell? ⟨w.heap.size + 1, 4, none⟩ = some (.int .u64 m) := fun ob => (cell_of_row _ _ _ _ _ _ (keep_some (ALL ob) K3.out)).trans rfl
    clear ALL
    go_wp2_with fail
    refine (RP.out _).mono ?_
    rintro e w2 ⟨rfl, hbp⟩
    clear RP q0 q1 q2 q3 q4 q5
    have K2' : Hid (w2.heap[w.heap.size]? = some (.cells #[.int .i64 op, .int .i64 rd, .int .i64 a, .int .i64 b, .int .i64 imm] 30 (0, 0))) := keep_some hbp (keep_some ((Below.refl _ _).alloc (Nat.le_refl _) _) K2.out)
    have hb2 : Below w1.heap.size w1 w2 := ((Below.refl _ _).alloc (Nat.le_refl _) _).trans (hbp.mono (by simp))
    obtain ⟨d1, hd1⟩ : ∃ d, some (Value.bool d) = w2.cell? ⟨w1.heap.size, 0, none⟩ := ⟨_, ((hbp.cell (p := ⟨w1.heap.size, 0, none⟩) (by simp)).trans (cell_of_row _ _ _ _ _ _ (heap_alloc_new _ _))).symm⟩
    have t0 := (hbp.cell (p := ⟨w1.heap.size, 0, none⟩) (by simp)).trans (cell_of_row _ _ _ _ _ _ (heap_alloc_new _ _))
    have t1 := (hbp.cell (p := ⟨w1.heap.size, 1, none⟩) (by simp)).trans (cell_of_row _ _ _ _ _ _ (heap_alloc_new _ _))
    have t2 := (hbp.cell (p := ⟨w1.heap.size, 2, none⟩) (by simp)).trans (cell_of_row _ _ _ _ _ _ (heap_alloc_new _ _))
    have t3 := (hbp.cell (p := ⟨w1.heap.size, 3, none⟩) (by simp)).trans (cell_of_row _ _ _ _ _ _ (heap_alloc_new _ _))
    have s1 : w2.cell? ⟨w.heap.size, 1, none⟩ = some (.int .i64 rd) := (cell_of_row _ _ _ _ _ _ K2'.out).trans rfl
    have s2 : w2.cell? ⟨w.heap.size, 2, none⟩ = some (.int .i64 a) := (cell_of_row _ _ _ _ _ _ K2'.out).trans rfl
    have s3 : w2.cell? ⟨w.heap.size, 3, none⟩ = some (.int .i64 b) := (cell_of_row _ _ _ _ _ _ K2'.out).trans rfl
    simp at t0 t1 t2 t3
    clear hd1 d1 hbp
    go_wp2_with (go_at_call 57; first | (with_reducible refine (HB1.out _).mono ?_; rintro e w3 ⟨rfl, rfl⟩) | (with_reducible refine (HB2.out _).mono ?_; rintro e w3 ⟨rfl, rfl⟩) | (with_reducible refine (HB3.out _).mono ?_; rintro e w3 ⟨rfl, rfl⟩))
    have FV2 := FV.out
    simp only [if_true, Bool.false_eq_true, if_false] at FV2
    have HFV : Hid (V = _) := FV2
    clear FV2 FV HB1 HB2 HB3 s1 s2 s3 t0 t1 t2 t3
    have hP2 : Hid (PcsAt w2 p l) := PcsAt.below hP.out hb2
    have hb3 := below_trans hb0 hb2
    clear hP hb0 hb2
    go_loopw [7, 50] (fun acc i wr => ∃ k : Nat, k ≤ l.length ∧ i = .int .i64 k ∧ ∃ C : Int, Hid (V = layP imm C l) ∧ acc = .int .u64 (layP imm C (l.take k)) ∧
        Hid (wr.heap[w.heap.size]? = some (.cells #[.int .i64 op, .int .i64 rd, .int .i64 a, .int .i64 b, .int .i64 imm] 30 (0, 0))) ∧
        Hid (PcsAt wr p l) ∧ Below w.heap.size w wr)
      (fun _ i _ => l.length - (intOf i).toNat)
    case atStart =>
      refine ⟨0, by omega, rfl, _, HFV, rfl, ?_, ?_, ?_⟩
      · exact K2'
      · exact hP2
      · (repeat apply Below.drew); exact hb3
    case round =>
      obtain ⟨k, hk, rfl, C, HC, rfl, G2, HP, hbel2⟩ := hrel
      clear hP2 hb3 K2' K2 K3 HFV
      by_cases hlt : k < l.length
      · obtain ⟨g, hpg, hg, d0, d1, d2⟩ := HP.out k hlt
        subst hpg
        have AC : Hid (bits .or .u64 (layP imm C (l.take k)) (IntKind.u64.wrap (fld (Go.Proofs.YtjjpklalihaanaaDoor.u64 imm) (l.getD k (0, 0, 0)).2.2 (l.getD k (0, 0, 0)).2.1 * 2 ^ (l.getD k (0, 0, 0)).1)) = layP imm C (l.take (k + 1))) := layP_snoc imm C l k hlt
        have PB2 := PB.out (l.getD k (0, 0, 0)) (by simp [List.getD, hlt])
        obtain ⟨⟨pa, pb, pt⟩, hq⟩ : ∃ q, q = l.getD k (0, 0, 0) := ⟨_, rfl⟩
        rw [← hq] at d0 d1 d2 AC PB2
        clear hq
        obtain ⟨PB3, PB4, PB5⟩ := PB2
        simp only at d0 d1 d2 PB3 PB4 PB5
        have BQ0 := bitsAt_q u4 pt pb U4.out.1 U4.out.2 PB5 PB4
        obtain ⟨y, hy⟩ : ∃ y, y = fld u4 pt pb := ⟨_, rfl⟩
        obtain ⟨zz, hz⟩ : ∃ z, z = layP imm C (l.take k) := ⟨_, rfl⟩
        rw [← hy] at BQ0
        have AC2 : Hid (bits .or .u64 zz (IntKind.u64.wrap (y * 2 ^ pa)) = layP imm C (l.take (k + 1))) := by
          show _ = _
          rw [hz, hy, HU4.out]; exact AC.out
        have BQ : Hid (∀ w : World, Calls Tryd.prog 57 #[.int .u64 u4, .int .i64 pt, .int .i64 pb] w fun e w' => e = .returned (.int .u64 y) ∧ ∃ m, w' = w.drewN m) := BQ0
        have n4 : ∀ ob : Obj, (wr.alloc ob).cell? ⟨w.heap.size, 4, none⟩ = some (.int .i64 imm) := fun ob => (cell_of_row _ _ _ _ _ _ (keep_some ((Below.refl _ _).alloc (Nat.le_refl _) ob) G2.out)).trans rfl
        rw [← hz]
        clear BQ0 AC hy hz
        go_wp2_with fail
        go_quiet (first | (go_at_call 57; with_reducible refine Calls.quiet_of (BQ.out _)))
        go_wp2_with fail
        go_roundw
        case rel =>
          have hbn : Below wr.heap.size wr ((wr.alloc (.cells #[.int .i64 pa, .int .i64 pb, .int .i64 pt] 97)).drewN nq) := below_drewN ((Below.refl _ _).alloc (Nat.le_refl _) _) nq
          exact ⟨k + 1, by omega, by go_num, C, HC, by rw [← AC2.out], keep_some hbn G2.out, PcsAt.below HP.out hbn, below_trans hbel2 hbn⟩
        case measure => simp [intOf]; omega
      · have hkl : k = l.length := by omega
        have hacc : l.take k = l := List.take_of_length_le (by omega)
        rw [hacc, ← HC.out]
        subst hkl
        clear hacc
        go_wp2_with fail
        go_ret
        exact ⟨rfl, hbel2⟩)

end Go.Proofs.YtjjpklalihaanaaDoor
