/- Own lemmas. -/
import Derived.Test.YtjjpklalihaanaaDoorK04
import Derived.Test.YtjjpklalihaanaaDoorK06
import Derived.Test.YtjjpklalihaanaaDoorK07
import Derived.ChangeMaps5
namespace Go.Proofs.YtjjpklalihaanaaDoor
open Go.RowKit
set_option linter.unusedVariables false

theorem layP_snoc (imm acc : Int) (l : List (Nat × Nat × Nat)) (k : Nat) (h : k < l.length) : bits .or .u64 (layP imm acc (l.take k)) (IntKind.u64.wrap (fld (u64 imm) (l.getD k (0, 0, 0)).2.2 (l.getD k (0, 0, 0)).2.1 * 2 ^ (l.getD k (0, 0, 0)).1)) = layP imm acc (l.take (k + 1)) := by
  have e : l.getD k (0, 0, 0) = l[k] := by simp [List.getD, h]
  rw [e, List.take_succ_eq_append_getElem h]
  simp only [layP, List.foldl_append, List.foldl_cons, List.foldl_nil]

set_option maxHeartbeats 3200000 in
theorem layFields_any (op rd a b imm : Int) (nm : ByteArray) (f : Fm) (o z m : Int) (w : World) :
    Calls Tryd.prog 48 #[.agg #[.int .i64 op, .int .i64 rd, .int .i64 a, .int .i64 b, .int .i64 imm], .agg #[.string nm, .string f.str, .int .u64 o, .int .u64 z, .int .u64 m]] w fun e w' => e = .returned (.int .u64 (layI f o z m ⟨op, rd, a, b, imm⟩)) ∧ Below w.heap.size w w' := by
  have hfo := fieldsOf_any f
  have RP0 := rowPattern_any op nm f o z m
  obtain ⟨MM, hMM⟩ : ∃ M, M = maskI op f := ⟨_, rfl⟩
  obtain ⟨c0, hc0⟩ : ∃ c, c = bitsI f o z m := ⟨_, rfl⟩
  rw [← hMM, ← hc0] at RP0
  obtain ⟨b1, hb1⟩ : ∃ b, b = f.hasRd := ⟨_, rfl⟩
  obtain ⟨b2, hb2⟩ : ∃ b, b = f.hasA := ⟨_, rfl⟩
  obtain ⟨b3, hb3⟩ : ∃ b, b = f.hasB := ⟨_, rfl⟩
  obtain ⟨l, hl⟩ : ∃ l, l = f.pcs := ⟨_, rfl⟩
  obtain ⟨wd, hwd⟩ : ∃ wd, wd = f.width := ⟨_, rfl⟩
  obtain ⟨s, hs⟩ : ∃ s, s = f.str := ⟨_, rfl⟩
  have PB : Hid (∀ p ∈ l, p.1 < 64 ∧ p.2.1 < 64 ∧ p.2.2 < 64) := by
    show ∀ p ∈ l, p.1 < 64 ∧ p.2.1 < 64 ∧ p.2.2 < 64
    rw [hl]; cases f <;> decide
  have LB : l.length ≤ 4 := by rw [hl]; cases f <;> decide
  rw [← hb1, ← hb2, ← hb3, ← hl, ← hwd, ← hs] at hfo
  rw [← hs] at RP0
  obtain ⟨y1, hy1⟩ : ∃ y, y = fld (u64 rd) 0 5 := ⟨_, rfl⟩
  obtain ⟨y2, hy2⟩ : ∃ y, y = fld (u64 a) 0 5 := ⟨_, rfl⟩
  obtain ⟨y3, hy3⟩ : ∃ y, y = fld (u64 b) 0 5 := ⟨_, rfl⟩
  have FV : Hid (layI f o z m ⟨op, rd, a, b, imm⟩ = layP imm (if b3 then bits .or .u64 (if b2 then bits .or .u64 (if b1 then bits .or .u64 c0 (IntKind.u64.wrap (y1 * 128)) else c0) (IntKind.u64.wrap (y2 * 32768)) else (if b1 then bits .or .u64 c0 (IntKind.u64.wrap (y1 * 128)) else c0)) (IntKind.u64.wrap (y3 * 1048576)) else (if b2 then bits .or .u64 (if b1 then bits .or .u64 c0 (IntKind.u64.wrap (y1 * 128)) else c0) (IntKind.u64.wrap (y2 * 32768)) else (if b1 then bits .or .u64 c0 (IntKind.u64.wrap (y1 * 128)) else c0))) l) := by
    show _ = _
    rw [hb1, hb2, hb3, hl, hc0, hy1, hy2, hy3]
    rfl
  obtain ⟨V, hV⟩ : ∃ V, V = layI f o z m ⟨op, rd, a, b, imm⟩ := ⟨_, rfl⟩
  rw [← hV] at FV ⊢
  rw [← hs]
  obtain ⟨u1, hu1⟩ : ∃ u, u = IntKind.u64.wrap rd := ⟨_, rfl⟩
  obtain ⟨u2, hu2⟩ : ∃ u, u = IntKind.u64.wrap a := ⟨_, rfl⟩
  obtain ⟨u3, hu3⟩ : ∃ u, u = IntKind.u64.wrap b := ⟨_, rfl⟩
  obtain ⟨u4, hu4⟩ : ∃ u, u = IntKind.u64.wrap imm := ⟨_, rfl⟩
  have B1 := bitsAt_any u1 0 5 (by rw [hu1]; exact (u64_range rd).1) (by rw [hu1]; exact (u64_range rd).2) (by decide) (by decide)
  have B2 := bitsAt_any u2 0 5 (by rw [hu2]; exact (u64_range a).1) (by rw [hu2]; exact (u64_range a).2) (by decide) (by decide)
  have B3 := bitsAt_any u3 0 5 (by rw [hu3]; exact (u64_range b).1) (by rw [hu3]; exact (u64_range b).2) (by decide) (by decide)
  have U4 : Hid (0 ≤ u4 ∧ u4 < 18446744073709551616) := by
    show _ ∧ _
    rw [hu4]; exact u64_range imm
  have E1 : fld u1 0 5 = y1 := by rw [hy1, hu1]; rfl
  have E2 : fld u2 0 5 = y2 := by rw [hy2, hu2]; rfl
  have E3 : fld u3 0 5 = y3 := by rw [hy3, hu3]; rfl
  rw [E1] at B1
  rw [E2] at B2
  rw [E3] at B3
  have HB1 : Hid (∀ w : World, Calls Tryd.prog 57 #[.int .u64 u1, .int .i64 0, .int .i64 5] w fun e w' => e = .returned (.int .u64 y1) ∧ w' = w.drew) := B1
  have HB2 : Hid (∀ w : World, Calls Tryd.prog 57 #[.int .u64 u2, .int .i64 0, .int .i64 5] w fun e w' => e = .returned (.int .u64 y2) ∧ w' = w.drew) := B2
  have HB3 : Hid (∀ w : World, Calls Tryd.prog 57 #[.int .u64 u3, .int .i64 0, .int .i64 5] w fun e w' => e = .returned (.int .u64 y3) ∧ w' = w.drew) := B3
  have RP : Hid (∀ w : World, Calls Tryd.prog 26 #[.int .i64 op, .agg #[.string nm, .string s, .int .u64 o, .int .u64 z, .int .u64 m]] w fun e w' => e = .returned (.tuple #[.int .u64 MM, .int .u64 c0]) ∧ Below w.heap.size w w') := RP0
  have HU4 : Hid (u4 = IntKind.u64.wrap imm) := hu4
  have hu1' := hu1.symm
  have hu2' := hu2.symm
  have hu3' := hu3.symm
  have hu4' := hu4.symm
  clear B1 B2 B3 E1 E2 E3 RP0 hMM hc0 hb1 hb2 hb3 hl hwd hs hy1 hy2 hy3 hV hu1 hu2 hu3 hu4
  cases b1 <;> cases b2 <;> cases b3
  all_goals (
    go_enter Tryd.func48, Tryd.ntmps48
    go_wp2_with fail
    refine (hfo _).mono ?_
    rintro e w1 ⟨p, rfl, hP, hbel⟩
    clear hfo
    have hsz : w.heap.size + 1 < w1.heap.size := by have := hbel.size; simp at this; omega
    have hb0 : Below w.heap.size w w1 := (((Below.refl _ _).alloc (Nat.le_refl _) _).alloc (by simp) _).trans (hbel.mono (by simp; omega))
    have K2 : Hid (w1.heap[w.heap.size]? = some (.cells #[.int .i64 op, .int .i64 rd, .int .i64 a, .int .i64 b, .int .i64 imm] 30 (0, 0))) := by
      show _ = _
      rw [hbel.block _ (by simp; omega)]; exact heap_alloc2_old _ _ _
    have K3 : Hid (w1.heap[w.heap.size + 1]? = some (.cells #[.string nm, .string s, .int .u64 o, .int .u64 z, .int .u64 m] 54 (0, 0))) := by
      show _ = _
      rw [hbel.block _ (by simp)]; exact heap_alloc2_new _ _ _
    clear hbel
    have ALL : ∀ ob : Obj, Below w1.heap.size w1 (w1.alloc ob) := fun ob => (Below.refl _ _).alloc (Nat.le_refl _) ob
    have q0 : ∀ ob : Obj, (w1.alloc ob).cell? ⟨w.heap.size, 0, none⟩ = some (.int .i64 op) := fun ob => (cell_of_row _ _ _ _ _ _ (keep_some (ALL ob) K2.out)).trans rfl
    have q1 : ∀ ob : Obj, (w1.alloc ob).cell? ⟨w.heap.size + 1, 0, none⟩ = some (.string nm) := fun ob => (cell_of_row _ _ _ _ _ _ (keep_some (ALL ob) K3.out)).trans rfl
    have q2 : ∀ ob : Obj, (w1.alloc ob).cell? ⟨w.heap.size + 1, 1, none⟩ = some (.string s) := fun ob => (cell_of_row _ _ _ _ _ _ (keep_some (ALL ob) K3.out)).trans rfl
    have q3 : ∀ ob : Obj, (w1.alloc ob).cell? ⟨w.heap.size + 1, 2, none⟩ = some (.int .u64 o) := fun ob => (cell_of_row _ _ _ _ _ _ (keep_some (ALL ob) K3.out)).trans rfl
    have q4 : ∀ ob : Obj, (w1.alloc ob).cell? ⟨w.heap.size + 1, 3, none⟩ = some (.int .u64 z) := fun ob => (cell_of_row _ _ _ _ _ _ (keep_some (ALL ob) K3.out)).trans rfl
    have q5 : ∀ ob : Obj, (w1.alloc ob).cell? ⟨w.heap.size + 1, 4, none⟩ = some (.int .u64 m) := fun ob => (cell_of_row _ _ _ _ _ _ (keep_some (ALL ob) K3.out)).trans rfl
    clear ALL
    go_wp2_with fail
    refine (RP.out _).mono ?_
    rintro e w2 ⟨rfl, hbp⟩
    clear RP q0 q1 q2 q3 q4 q5
    have K2' : Hid (w2.heap[w.heap.size]? = some (.cells #[.int .i64 op, .int .i64 rd, .int .i64 a, .int .i64 b, .int .i64 imm] 30 (0, 0))) := keep_some hbp (keep_some ((Below.refl _ _).alloc (Nat.le_refl _) _) K2.out)
    have hb2 : Below w1.heap.size w1 w2 := ((Below.refl _ _).alloc (Nat.le_refl _) _).trans (hbp.mono (by simp))
    obtain ⟨d1, hd1⟩ : ∃ d, some (Value.bool d) = w2.cell? ⟨w1.heap.size, 0, none⟩ := ⟨_, ((hbp.cell (p := ⟨w1.heap.size, 0, none⟩) (by simp)).trans (cell_of_row _ _ _ _ _ _ (heap_alloc_new _ _))).symm⟩
    have t0 := (hbp.cell (p := ⟨w1.heap.size, 0, none⟩) (by simp)).trans (cell_of_row _ _ _ _ _ _ (heap_alloc_new _ _))
    have t1 := (hbp.cell (p := ⟨w1.heap.size, 1, none⟩) (by simp)).trans (cell_of_row _ _ _ _ _ _ (heap_alloc_new _ _))
    have t2 := (hbp.cell (p := ⟨w1.heap.size, 2, none⟩) (by simp)).trans (cell_of_row _ _ _ _ _ _ (heap_alloc_new _ _))
    have t3 := (hbp.cell (p := ⟨w1.heap.size, 3, none⟩) (by simp)).trans (cell_of_row _ _ _ _ _ _ (heap_alloc_new _ _))
    have s1 : w2.cell? ⟨w.heap.size, 1, none⟩ = some (.int .i64 rd) := (cell_of_row _ _ _ _ _ _ K2'.out).trans rfl
    have s2 : w2.cell? ⟨w.heap.size, 2, none⟩ = some (.int .i64 a) := (cell_of_row _ _ _ _ _ _ K2'.out).trans rfl
    have s3 : w2.cell? ⟨w.heap.size, 3, none⟩ = some (.int .i64 b) := (cell_of_row _ _ _ _ _ _ K2'.out).trans rfl
    simp at t0 t1 t2 t3
    clear hd1 d1 hbp
    go_wp2_with (go_at_call 57; first | (with_reducible refine (HB1.out _).mono ?_; rintro e w3 ⟨rfl, rfl⟩) | (with_reducible refine (HB2.out _).mono ?_; rintro e w3 ⟨rfl, rfl⟩) | (with_reducible refine (HB3.out _).mono ?_; rintro e w3 ⟨rfl, rfl⟩))
    have FV2 := FV.out
    simp only [if_true, Bool.false_eq_true, if_false] at FV2
    have HFV : Hid (V = _) := FV2
    clear FV2 FV HB1 HB2 HB3 s1 s2 s3 t0 t1 t2 t3
    have hP2 : Hid (PcsAt w2 p l) := PcsAt.below hP.out hb2
    have hb3 := below_trans hb0 hb2
    clear hP hb0 hb2
    go_loopw [7, 50] (fun acc i wr => ∃ k : Nat, k ≤ l.length ∧ i = .int .i64 k ∧ ∃ C : Int, Hid (V = layP imm C l) ∧ acc = .int .u64 (layP imm C (l.take k)) ∧
        Hid (wr.heap[w.heap.size]? = some (.cells #[.int .i64 op, .int .i64 rd, .int .i64 a, .int .i64 b, .int .i64 imm] 30 (0, 0))) ∧
        Hid (PcsAt wr p l) ∧ Below w.heap.size w wr)
      (fun _ i _ => l.length - (intOf i).toNat)
    case atStart =>
      refine ⟨0, by omega, rfl, _, HFV, rfl, ?_, ?_, ?_⟩
      · exact K2'
      · exact hP2
      · (repeat apply Below.drew); exact hb3
    case round =>
      obtain ⟨k, hk, rfl, C, HC, rfl, G2, HP, hbel2⟩ := hrel
      clear hP2 hb3 K2' K2 K3 HFV
      by_cases hlt : k < l.length
      · obtain ⟨g, hpg, hg, d0, d1, d2⟩ := HP.out k hlt
        subst hpg
        have AC : Hid (bits .or .u64 (layP imm C (l.take k)) (IntKind.u64.wrap (fld (Go.Proofs.YtjjpklalihaanaaDoor.u64 imm) (l.getD k (0, 0, 0)).2.2 (l.getD k (0, 0, 0)).2.1 * 2 ^ (l.getD k (0, 0, 0)).1)) = layP imm C (l.take (k + 1))) := layP_snoc imm C l k hlt
        have PB2 := PB.out (l.getD k (0, 0, 0)) (by simp [List.getD, hlt])
        obtain ⟨⟨pa, pb, pt⟩, hq⟩ : ∃ q, q = l.getD k (0, 0, 0) := ⟨_, rfl⟩
        rw [← hq] at d0 d1 d2 AC PB2
        clear hq
        obtain ⟨PB3, PB4, PB5⟩ := PB2
        simp only at d0 d1 d2 PB3 PB4 PB5
        have BQ0 := bitsAt_q u4 pt pb U4.out.1 U4.out.2 PB5 PB4
        obtain ⟨y, hy⟩ : ∃ y, y = fld u4 pt pb := ⟨_, rfl⟩
        obtain ⟨zz, hz⟩ : ∃ z, z = layP imm C (l.take k) := ⟨_, rfl⟩
        rw [← hy] at BQ0
        have AC2 : Hid (bits .or .u64 zz (IntKind.u64.wrap (y * 2 ^ pa)) = layP imm C (l.take (k + 1))) := by
          show _ = _
          rw [hz, hy, HU4.out]; exact AC.out
        have BQ : Hid (∀ w : World, Calls Tryd.prog 57 #[.int .u64 u4, .int .i64 pt, .int .i64 pb] w fun e w' => e = .returned (.int .u64 y) ∧ ∃ m, w' = w.drewN m) := BQ0
        have n4 : ∀ ob : Obj, (wr.alloc ob).cell? ⟨w.heap.size, 4, none⟩ = some (.int .i64 imm) := fun ob => (cell_of_row _ _ _ _ _ _ (keep_some ((Below.refl _ _).alloc (Nat.le_refl _) ob) G2.out)).trans rfl
        rw [← hz]
        clear BQ0 AC hy hz
        go_wp2_with fail
        go_quiet (first | (go_at_call 57; with_reducible refine Calls.quiet_of (BQ.out _)))
        go_wp2_with fail
        go_roundw
        case rel =>
          have hbn : Below wr.heap.size wr ((wr.alloc (.cells #[.int .i64 pa, .int .i64 pb, .int .i64 pt] 97)).drewN nq) := below_drewN ((Below.refl _ _).alloc (Nat.le_refl _) _) nq
          exact ⟨k + 1, by omega, by go_num, C, HC, by rw [← AC2.out], keep_some hbn G2.out, PcsAt.below HP.out hbn, below_trans hbel2 hbn⟩
        case measure => simp [intOf]; omega
      · have hkl : k = l.length := by omega
        have hacc : l.take k = l := List.take_of_length_le (by omega)
        rw [hacc, ← HC.out]
        subst hkl
        clear hacc
        go_wp2_with fail
        go_ret
        exact ⟨rfl, hbel2⟩)

theorem layP_range (imm : Int) : ∀ (l : List (Nat × Nat × Nat)) (acc : Int), 0 ≤ acc ∧ acc < 18446744073709551616 → 0 ≤ layP imm acc l ∧ layP imm acc l < 18446744073709551616 := by
  intro l
  induction l with
  | nil => intro acc h; exact h
  | cons p l ih => intro acc h; exact ih _ (bits_range _ _ _)

theorem layI_range (f : Fm) (o z m : Int) (i : Ins) : 0 ≤ layI f o z m i ∧ layI f o z m i < 18446744073709551616 := by
  have h0 : 0 ≤ bitsI f o z m ∧ bitsI f o z m < 18446744073709551616 := bits_range _ _ _
  have h1 : 0 ≤ layI1 f o z m i.rd ∧ layI1 f o z m i.rd < 18446744073709551616 := by
    unfold layI1; split
    · exact bits_range _ _ _
    · exact h0
  have h2 : 0 ≤ layI2 f o z m i.rd i.a ∧ layI2 f o z m i.rd i.a < 18446744073709551616 := by
    unfold layI2; split
    · exact bits_range _ _ _
    · exact h1
  have h3 : 0 ≤ layI3 f o z m i.rd i.a i.b ∧ layI3 f o z m i.rd i.a i.b < 18446744073709551616 := by
    unfold layI3; split
    · exact bits_range _ _ _
    · exact h2
  exact layP_range _ _ _ h3

def encVI (i : Ins) : Value := .tuple #[.int .u64 (encI i).1, .bool (encI i).2]

def BareDoes : Prop := ∀ (i : Ins), (rowOp i.op).fm = .x → opB i.op = true → ∀ w : World,
  Calls Tryd.prog 47 #[.agg #[.int .i64 i.op, .int .i64 i.rd, .int .i64 i.a, .int .i64 i.b, .int .i64 i.imm]] w fun e w' =>
    e = .returned (.tuple #[.int .u64 (if bareB i then bitsI .x (rowOp i.op).op (rowOp i.op).f3z (rowOp i.op).more else 0), .bool (bareB i)]) ∧ Below w.heap.size w w'

set_option maxRecDepth 100000 in
set_option maxHeartbeats 3200000 in
theorem implEncode_any (HBW : BareDoes) (i : Ins) (w1 : (Lit.int .i64 i.op).wf = true) (w : World) :
    Calls Tryd.prog 22 #[.agg #[.int .i64 i.op, .int .i64 i.rd, .int .i64 i.a, .int .i64 i.b, .int .i64 i.imm]] w fun e w' => e = .returned (encVI i) ∧ Below w.heap.size w w' := by
  obtain ⟨V, hV⟩ : ∃ V, V = encVI i := ⟨_, rfl⟩
  have RO := rowOf_any i.op w1
  cases ho : opB i.op with
  | false =>
    have F : Hid (V = .tuple #[.int .u64 0, .bool false]) := by
      show _ = _
      rw [hV]; unfold encVI encI; rw [ho]; rfl
    rw [← hV]
    rw [ho, rowV_false ho] at RO
    obtain ⟨op, rd, a, b, imm⟩ := i
    simp only at RO ⊢
    have HRO : Hid (∀ w : World, Calls Tryd.prog 46 #[.int .i64 op] w fun e w' => e = .returned (.tuple #[.agg #[.string ⟨#[]⟩, .string ⟨#[]⟩, .int .u64 0, .int .u64 0, .int .u64 0], .bool false]) ∧ Below w.heap.size w w') := RO
    clear RO hV ho HBW
    go_enter Tryd.func22, Tryd.ntmps22
    go_wp2_with fail
    refine (HRO.out _).mono ?_
    rintro e w2 ⟨rfl, hb⟩
    have hb0 : Below w.heap.size w w2 := ((Below.refl _ _).alloc (Nat.le_refl _) _).trans (hb.mono (by simp))
    clear hb
    go_wp2_with fail
    go_ret2
    exact ⟨by rw [F.out]; rfl, hb0.alloc hb0.size _⟩
  | true =>
    have ho2 : 1 ≤ i.op ∧ i.op ≤ 98 := of_decide_eq_true ho
    obtain ⟨op, rd, a, b, imm⟩ := i
    simp only at ho2 w1 ho RO ⊢
    obtain ⟨k, hk⟩ : ∃ k : Nat, op = (k : Int) + 1 := ⟨(op - 1).toNat, by omega⟩
    have hk2 : k < 98 := by omega
    subst hk
    have RK : rowOp ((k : Int) + 1) = rowAt k := by simp [rowOp]
    have BW0 := HBW ⟨(k : Int) + 1, rd, a, b, imm⟩
    simp only [RK] at BW0
    obtain ⟨r, hr0⟩ : ∃ r, r = rowAt k := ⟨_, rfl⟩
    rw [ho, rowV_true ho, ← hr0] at RO
    rw [← hr0] at BW0
    have EV : Hid (V = if r.fm = .x then .tuple #[.int .u64 (if bareB ⟨(k : Int) + 1, rd, a, b, imm⟩ then bitsI .x r.op r.f3z r.more else 0), .bool (bareB ⟨(k : Int) + 1, rd, a, b, imm⟩)] else if dec (layI r.fm r.op r.f3z r.more ⟨(k : Int) + 1, rd, a, b, imm⟩) = some ⟨(k : Int) + 1, rd, a, b, imm⟩ then .tuple #[.int .u64 (layI r.fm r.op r.f3z r.more ⟨(k : Int) + 1, rd, a, b, imm⟩), .bool true] else .tuple #[.int .u64 0, .bool false]) := by
      show _ = _
      rw [hV]
      unfold encVI encI wordI
      simp only [ho, RK, ← hr0, if_true]
      by_cases h1 : r.fm = .x
      · simp only [h1, if_true]
        cases bareB ⟨(k : Int) + 1, rd, a, b, imm⟩ <;> rfl
      · simp only [h1, if_false]
        by_cases h2 : dec (layI r.fm r.op r.f3z r.more ⟨(k : Int) + 1, rd, a, b, imm⟩) = some ⟨(k : Int) + 1, rd, a, b, imm⟩ <;> simp [h2]
    rw [← hV]
    clear hV HBW RK hr0 ho2
    obtain ⟨nm, f, o, m3, m⟩ := r
    obtain ⟨z, hz⟩ : ∃ z, z = Row.f3z ⟨nm, f, o, m3, m⟩ := ⟨_, rfl⟩
    rw [← hz] at EV BW0
    have HRO : Hid (∀ w : World, Calls Tryd.prog 46 #[.int .i64 ((k : Int) + 1)] w fun e w' => e = .returned (.tuple #[.agg #[.string nm, .string f.str, .int .u64 o, .int .u64 z, .int .u64 m], .bool true]) ∧ Below w.heap.size w w') := by
      intro w
      have := RO w
      rw [Row.val, ← hz] at this
      exact this
    simp only at EV BW0
    clear RO hz
    by_cases hx : f = .x
    · subst hx
      obtain ⟨v, hv⟩ : ∃ v, v = (if bareB ⟨(k : Int) + 1, rd, a, b, imm⟩ then bitsI .x o z m else 0) := ⟨_, rfl⟩
      obtain ⟨t, ht⟩ : ∃ t, t = bareB ⟨(k : Int) + 1, rd, a, b, imm⟩ := ⟨_, rfl⟩
      have BW1 := BW0 rfl ho
      have F : Hid (V = .tuple #[.int .u64 v, .bool t]) := by
        show _ = _
        rw [EV.out, if_pos rfl, hv, ht]
      rw [← hv, ← ht] at BW1
      have BW : Hid (∀ w : World, Calls Tryd.prog 47 #[.agg #[.int .i64 ((k : Int) + 1), .int .i64 rd, .int .i64 a, .int .i64 b, .int .i64 imm]] w fun e w' => e = .returned (.tuple #[.int .u64 v, .bool t]) ∧ Below w.heap.size w w') := BW1
      clear BW0 BW1 EV hv ht ho
      simp only [Fm.str] at HRO
      go_enter Tryd.func22, Tryd.ntmps22
      go_wp2_with fail
      refine (HRO.out _).mono ?_
      rintro e w2 ⟨rfl, hb⟩
      have hb0 : Below w.heap.size w w2 := ((Below.refl _ _).alloc (Nat.le_refl _) _).trans (hb.mono (by simp))
      have K : Hid (w2.heap[w.heap.size]? = some (.cells #[.int .i64 ((k : Int) + 1), .int .i64 rd, .int .i64 a, .int .i64 b, .int .i64 imm] 30 (0, 0))) := by
        show _ = _
        rw [hb.block _ (by simp)]; exact heap_alloc_new _ _
      have AL : ∀ ob : Obj, Below w2.heap.size w2 (w2.alloc ob) := fun ob => (Below.refl _ _).alloc (Nat.le_refl _) ob
      have E0 : ∀ ob : Obj, (w2.alloc ob).cell? ⟨w.heap.size, 0, none⟩ = some (.int .i64 ((k : Int) + 1)) := fun ob => (cell_of_row _ _ _ _ _ _ (keep_some (AL ob) K.out)).trans rfl
      have E1 : ∀ ob : Obj, (w2.alloc ob).cell? ⟨w.heap.size, 1, none⟩ = some (.int .i64 rd) := fun ob => (cell_of_row _ _ _ _ _ _ (keep_some (AL ob) K.out)).trans rfl
      have E2 : ∀ ob : Obj, (w2.alloc ob).cell? ⟨w.heap.size, 2, none⟩ = some (.int .i64 a) := fun ob => (cell_of_row _ _ _ _ _ _ (keep_some (AL ob) K.out)).trans rfl
      have E3 : ∀ ob : Obj, (w2.alloc ob).cell? ⟨w.heap.size, 3, none⟩ = some (.int .i64 b) := fun ob => (cell_of_row _ _ _ _ _ _ (keep_some (AL ob) K.out)).trans rfl
      have E4 : ∀ ob : Obj, (w2.alloc ob).cell? ⟨w.heap.size, 4, none⟩ = some (.int .i64 imm) := fun ob => (cell_of_row _ _ _ _ _ _ (keep_some (AL ob) K.out)).trans rfl
      clear hb AL
      go_wp2_with fail
      refine (BW.out _).mono ?_
      rintro e w3 ⟨rfl, hb3⟩
      go_wp2_with fail
      go_ret2
      exact ⟨by rw [F.out]; rfl, (hb0.alloc hb0.size _).trans (hb3.mono (by have := hb0.size; simp; omega))⟩
    · have LF0 := layFields_any ((k : Int) + 1) rd a b imm nm f o z m
      have YR := layI_range f o z m ⟨(k : Int) + 1, rd, a, b, imm⟩
      obtain ⟨y, hy⟩ : ∃ y, y = layI f o z m ⟨(k : Int) + 1, rd, a, b, imm⟩ := ⟨_, rfl⟩
      rw [← hy] at LF0 YR EV
      have EV2 : Hid (V = if dec y = some ⟨(k : Int) + 1, rd, a, b, imm⟩ then .tuple #[.int .u64 y, .bool true] else .tuple #[.int .u64 0, .bool false]) := by
        show _ = _
        rw [EV.out, if_neg hx]
      obtain ⟨j, t, hD, hD1, hD2⟩ := decV_ins y
      have SD := implDecode_any y YR.1 YR.2
      rw [hD] at SD
      have HD1 : Hid (t = true → dec y = some j) := hD1
      have HD2 : Hid (t = false → dec y = none) := hD2
      obtain ⟨jo, jr, ja, jb, ji⟩ := j
      simp only at SD
      have HSD : Hid (∀ w : World, Calls Tryd.prog 9 #[.int .u64 y] w fun e w' => e = .returned (.tuple #[.agg #[.int .i64 jo, .int .i64 jr, .int .i64 ja, .int .i64 jb, .int .i64 ji], .bool t]) ∧ Below w.heap.size w w') := SD
      have LF : Hid (∀ w : World, Calls Tryd.prog 48 #[.agg #[.int .i64 ((k : Int) + 1), .int .i64 rd, .int .i64 a, .int .i64 b, .int .i64 imm], .agg #[.string nm, .string f.str, .int .u64 o, .int .u64 z, .int .u64 m]] w fun e w' => e = .returned (.int .u64 y) ∧ Below w.heap.size w w') := LF0
      clear LF0 YR EV SD hD hD1 hD2 BW0 hy ho
      cases f
      case x => exact absurd rfl hx
      all_goals (
        clear hx
        simp only [Fm.str] at HRO LF
        go_enter Tryd.func22, Tryd.ntmps22
        go_wp2_with fail
        refine (HRO.out _).mono ?_
        rintro e w2 ⟨rfl, hb⟩
        have hb0 : Below w.heap.size w w2 := ((Below.refl _ _).alloc (Nat.le_refl _) _).trans (hb.mono (by simp))
        have K : Hid (w2.heap[w.heap.size]? = some (.cells #[.int .i64 ((k : Int) + 1), .int .i64 rd, .int .i64 a, .int .i64 b, .int .i64 imm] 30 (0, 0))) := by
          show _ = _
          rw [hb.block _ (by simp)]; exact heap_alloc_new _ _
        have AL : ∀ ob : Obj, Below w2.heap.size w2 (w2.alloc ob) := fun ob => (Below.refl _ _).alloc (Nat.le_refl _) ob
        have E0 : ∀ ob : Obj, (w2.alloc ob).cell? ⟨w.heap.size, 0, none⟩ = some (.int .i64 ((k : Int) + 1)) := fun ob => (cell_of_row _ _ _ _ _ _ (keep_some (AL ob) K.out)).trans rfl
        have E1 : ∀ ob : Obj, (w2.alloc ob).cell? ⟨w.heap.size, 1, none⟩ = some (.int .i64 rd) := fun ob => (cell_of_row _ _ _ _ _ _ (keep_some (AL ob) K.out)).trans rfl
        have E2 : ∀ ob : Obj, (w2.alloc ob).cell? ⟨w.heap.size, 2, none⟩ = some (.int .i64 a) := fun ob => (cell_of_row _ _ _ _ _ _ (keep_some (AL ob) K.out)).trans rfl
        have E3 : ∀ ob : Obj, (w2.alloc ob).cell? ⟨w.heap.size, 3, none⟩ = some (.int .i64 b) := fun ob => (cell_of_row _ _ _ _ _ _ (keep_some (AL ob) K.out)).trans rfl
        have E4 : ∀ ob : Obj, (w2.alloc ob).cell? ⟨w.heap.size, 4, none⟩ = some (.int .i64 imm) := fun ob => (cell_of_row _ _ _ _ _ _ (keep_some (AL ob) K.out)).trans rfl
        clear hb AL
        go_wp2_with fail
        refine (LF.out _).mono ?_
        rintro e w3 ⟨rfl, hb3⟩
        have K3 : Hid (w3.heap[w.heap.size]? = some (.cells #[.int .i64 ((k : Int) + 1), .int .i64 rd, .int .i64 a, .int .i64 b, .int .i64 imm] 30 (0, 0))) := keep_some hb3 (keep_some ((Below.refl _ _).alloc (Nat.le_refl _) _) K.out)
        have hb4 : Below w.heap.size w w3 := hb0.trans ((((Below.refl w2.heap.size w2).alloc (Nat.le_refl _) _).trans (hb3.mono (by simp))).mono hb0.size)
        clear hb3 E0 E1 E2 E3 E4 K hb0
        go_wp2_with fail
        refine (HSD.out _).mono ?_
        rintro e w4 ⟨rfl, hb5⟩
        have K4 : Hid (w4.heap[w.heap.size]? = some (.cells #[.int .i64 ((k : Int) + 1), .int .i64 rd, .int .i64 a, .int .i64 b, .int .i64 imm] 30 (0, 0))) := keep_some hb5 K3.out
        have hbF : Below w.heap.size w w4 := below_trans hb4 hb5
        have AL4 : ∀ ob : Obj, Below w4.heap.size w4 (w4.alloc ob) := fun ob => (Below.refl _ _).alloc (Nat.le_refl _) ob
        have E0 : ∀ ob : Obj, (w4.alloc ob).cell? ⟨w.heap.size, 0, none⟩ = some (.int .i64 ((k : Int) + 1)) := fun ob => (cell_of_row _ _ _ _ _ _ (keep_some (AL4 ob) K4.out)).trans rfl
        have E1 : ∀ ob : Obj, (w4.alloc ob).cell? ⟨w.heap.size, 1, none⟩ = some (.int .i64 rd) := fun ob => (cell_of_row _ _ _ _ _ _ (keep_some (AL4 ob) K4.out)).trans rfl
        have E2 : ∀ ob : Obj, (w4.alloc ob).cell? ⟨w.heap.size, 2, none⟩ = some (.int .i64 a) := fun ob => (cell_of_row _ _ _ _ _ _ (keep_some (AL4 ob) K4.out)).trans rfl
        have E3 : ∀ ob : Obj, (w4.alloc ob).cell? ⟨w.heap.size, 3, none⟩ = some (.int .i64 b) := fun ob => (cell_of_row _ _ _ _ _ _ (keep_some (AL4 ob) K4.out)).trans rfl
        have E4 : ∀ ob : Obj, (w4.alloc ob).cell? ⟨w.heap.size, 4, none⟩ = some (.int .i64 imm) := fun ob => (cell_of_row _ _ _ _ _ _ (keep_some (AL4 ob) K4.out)).trans rfl
        clear AL4 hb5 hb4 K3 HSD LF HRO
        cases t with
        | false =>
          have F : Hid (V = .tuple #[.int .u64 0, .bool false]) := by
            show _ = _
            rw [EV2.out, HD2.out rfl, if_neg (by simp)]
          go_wp2_with fail
          go_ret2
          exact ⟨by rw [F.out]; rfl, hbF.alloc hbF.size _⟩
        | true =>
          have HJ : Hid (dec y = some ⟨jo, jr, ja, jb, ji⟩) := HD1.out rfl
          obtain ⟨nb, hnb⟩ : ∃ nb, (!(jo == (k : Int) + 1 && jr == rd && ja == a && jb == b && ji == imm)) = nb := ⟨_, rfl⟩
          have HNB : Hid ((!(jo == (k : Int) + 1 && jr == rd && ja == a && jb == b && ji == imm)) = nb) := hnb
          clear hnb
          cases nb with
          | true =>
            have F : Hid (V = .tuple #[.int .u64 0, .bool false]) := by
              show _ = _
              rw [EV2.out, HJ.out, if_neg]
              intro h
              simp only [Option.some.injEq, Ins.mk.injEq] at h
              have := HNB.out
              simp [h.1, h.2.1, h.2.2.1, h.2.2.2.1, h.2.2.2.2] at this
            go_wp2_with (refine wpList_neqInst rfl _ _ _ rfl rfl rfl true HNB.out ?_)
            go_ret2
            exact ⟨by rw [F.out]; rfl, hbF.alloc hbF.size _⟩
          | false =>
            have F : Hid (V = .tuple #[.int .u64 y, .bool true]) := by
              show _ = _
              rw [EV2.out, HJ.out, if_pos]
              have := HNB.out
              simp at this
              simp only [Option.some.injEq, Ins.mk.injEq]
              exact ⟨this.1.1.1.1, this.1.1.1.2, this.1.1.2, this.1.2, this.2⟩
            go_wp2_with (refine wpList_neqInst rfl _ _ _ rfl rfl rfl false HNB.out ?_)
            go_ret2
            exact ⟨by rw [F.out]; rfl, hbF.alloc hbF.size _⟩)

def bareKey (op : Int) : Value := .agg #[.int .i64 op, .int .i64 0, .int .i64 0, .int .i64 0, .int .i64 0]

def bareVal (k : Nat) : Int := bitsI .x (rowAt k).op (rowAt k).f3z (rowAt k).more

def bareEs (k : Nat) : Array MapEntry := ((List.range ((k - 92).min 5)).map fun i => { key := bareKey ((i : Int) + 93), val := .int .u64 (bareVal (92 + i)), born := i }).toArray

theorem bare_rows : ∀ k, k < 98 → ((rowAt k).fm = .x ↔ 92 ≤ k ∧ k ≤ 96) := by
  have h : (List.range 98).all (fun k => decide ((rowAt k).fm = .x) == decide (92 ≤ k ∧ k ≤ 96)) = true := by kernel_rfl
  intro k hk
  have := List.all_eq_true.1 h k (by simpa using hk)
  simp only [beq_iff_eq, decide_eq_decide] at this
  exact this

theorem run_eqInst (a b c d e a' b' c' d' e' : Int) (w : World) :
    (Op.equal 30 (.agg #[.int .i64 a, .int .i64 b, .int .i64 c, .int .i64 d, .int .i64 e]) (.agg #[.int .i64 a', .int .i64 b', .int .i64 c', .int .i64 d', .int .i64 e'])).run Tryd.prog w = .ok (a == a' && b == b' && c == c' && d == d' && e == e') w := by
  have e1 : Op.equal 30 (.agg #[.int .i64 a, .int .i64 b, .int .i64 c, .int .i64 d, .int .i64 e]) (.agg #[.int .i64 a', .int .i64 b', .int .i64 c', .int .i64 d', .int .i64 e']) = Op.equalIn (9999 + 1) 30 (.agg #[.int .i64 a, .int .i64 b, .int .i64 c, .int .i64 d, .int .i64 e]) (.agg #[.int .i64 a', .int .i64 b', .int .i64 c', .int .i64 d', .int .i64 e']) := rfl
  rw [e1, run_equalIn_struct w 9999 _ _ _ (by rw [Program.fieldsOf, Tryd.underlying30]) inst_stood]
  simp only [Program.fieldsOf, Tryd.underlying30]
  have P : ∀ (k : Nat) (x1 x2 x3 x4 x5 v : Value), (#[x1, x2, x3, x4, x5] : Array Value)[k]? = some v → ∀ w, (part 2 #[x1, x2, x3, x4, x5] k).run Tryd.prog w = .ok v w := by
    intro k x1 x2 x3 x4 x5 v h w
    simp [part, isAgg, run_underlying Tryd.underlying2, h]
  have Q : ∀ (x y : Int) (w : World), (Op.equalIn 9999 2 (.int .i64 x) (.int .i64 y)).run Tryd.prog w = .ok (x == y) w := fun x y w => run_equalIn_int w 9998 2 .i64 .i64 x y Tryd.underlying2
  simp [Op.eqFields, Sem.run_bind, P 0 _ _ _ _ _ _ rfl, P 1 _ _ _ _ _ _ rfl, P 2 _ _ _ _ _ _ rfl, P 3 _ _ _ _ _ _ rfl, P 4 _ _ _ _ _ _ rfl, Q]
  by_cases h1 : a = a' <;> by_cases h2 : b = b' <;> by_cases h3 : c = c' <;> by_cases h4 : d = d' <;> by_cases h5 : e = e' <;> simp [h1, h2, h3, h4, h5]

theorem run_findAsking (op rd a b imm : Int) (w : World) : ∀ (l : List (Int × Int × Nat)) (n : Nat),
    (Instr.findAsking 30 (.agg #[.int .i64 op, .int .i64 rd, .int .i64 a, .int .i64 b, .int .i64 imm]) (l.map fun p => { key := bareKey p.1, val := .int .u64 p.2.1, born := p.2.2 }) n).run Tryd.prog w =
      .ok ((l.zipIdx n).findSome? fun q => if (op == q.1.1 && rd == 0 && a == 0 && b == 0 && imm == 0) = true then some (q.2, Value.int .u64 q.1.2.1) else none) w := by
  intro l
  induction l with
  | nil => intro n; simp [Instr.findAsking]
  | cons p l ih =>
    intro n
    simp only [List.map_cons, Instr.findAsking, Sem.run_bind, bareKey, run_eqInst, Result.andThen_ok, List.zipIdx_cons, List.findSome?_cons]
    cases h : (op == p.1 && rd == 0 && a == 0 && b == 0 && imm == 0)
    · simp only [Bool.false_eq_true, if_false]
      exact ih (n + 1)
    · simp

theorem run_checkKeyB (e : Bool) (op rd a b imm : Int) (w : World) : (Instr.checkKey e 10000 30 (.agg #[.int .i64 op, .int .i64 rd, .int .i64 a, .int .i64 b, .int .i64 imm])).run Tryd.prog w = .ok () w := by kernel_rfl

theorem bareEs_push (i : Nat) (hi : i < 5) : bareEs (92 + i + 1) = (bareEs (92 + i)).push { key := bareKey ((i : Int) + 93), val := .int .u64 (bareVal (92 + i)), born := i } := by
  have : i = 0 ∨ i = 1 ∨ i = 2 ∨ i = 3 ∨ i = 4 := by omega
  rcases this with rfl | rfl | rfl | rfl | rfl <;> rfl

def bareL (n : Nat) : List (Int × Int × Nat) := (List.range n).map fun (i : Nat) => ((i : Int) + 93, bareVal (92 + i), i)

theorem bareEs_list (k : Nat) : (bareEs k).toList = (bareL ((k - 92).min 5)).map fun p => { key := bareKey p.1, val := .int .u64 p.2.1, born := p.2.2 } := by
  simp [bareEs, bareL]

theorem run_findKeyB (op rd a b imm : Int) (n : Nat) (w : World) :
    (Instr.findKey 30 (.agg #[.int .i64 op, .int .i64 rd, .int .i64 a, .int .i64 b, .int .i64 imm]) ((bareL n).map fun p => { key := bareKey p.1, val := .int .u64 p.2.1, born := p.2.2 })).run Tryd.prog w =
      .ok (((bareL n).zipIdx 0).findSome? fun q => if (op == q.1.1 && rd == 0 && a == 0 && b == 0 && imm == 0) = true then some (q.2, Value.int .u64 q.1.2.1) else none) w := by
  have h := run_findAsking op rd a b imm w (bareL n) 0
  unfold Instr.findKey
  rw [Sem.run_bind, run_underlying Tryd.underlying30, Result.andThen_ok]
  cases hl : bareL n with
  | nil => simp [Instr.findNow]
  | cons p l => 
    rw [hl] at h
    simp only [List.map_cons, Instr.findNow, Instr.sameNow] at h ⊢
    exact h

theorem run_bareUpdate (w : World) (bm i : Nat) (hi : i < 5) (hb : w.heap[bm]? = some (.map (bareEs (92 + i)) i)) :
    (Instr.mapUpdate 106 (.map (some bm)) (.agg #[.int .i64 ((i : Int) + 93), .int .i64 0, .int .i64 0, .int .i64 0, .int .i64 0]) (.int .u64 (bareVal (92 + i)))).run Tryd.prog w = .ok () (ChangeMaps.setBlock w bm (.map (bareEs (92 + i + 1)) (i + 1))) := by
  have hf : (Instr.findKey 30 (.agg #[.int .i64 ((i : Int) + 93), .int .i64 0, .int .i64 0, .int .i64 0, .int .i64 0]) (bareEs (92 + i)).toList).run Tryd.prog w = .ok none w := by
    rw [bareEs_list, run_findKeyB]
    have : i = 0 ∨ i = 1 ∨ i = 2 ∨ i = 3 ∨ i = 4 := by omega
    rcases this with rfl | rfl | rfl | rfl | rfl <;> rfl
  rw [bareEs_push i hi]
  simp [Instr.mapUpdate, run_underlying Tryd.underlying106, MapKept.run_getObj_map hb, run_checkKeyB, hf, MapKept.run_setObj_map _ hb, Result.andThen, ChangeMaps.setBlock, bareKey]

theorem u64_zero : (Tryd.prog.info? 33).bind (·.zero) = some (.int .u64 0) := by kernel_rfl

theorem run_bareLookup (w : World) (bm j : Nat) (hj : j < 5) (rd a b imm : Int) (clock : Nat) (hb : w.heap[bm]? = some (.map (bareEs 98) clock)) :
    (Instr.lookup 106 (.map (some bm)) (.agg #[.int .i64 ((j : Int) + 93), .int .i64 rd, .int .i64 a, .int .i64 b, .int .i64 imm]) true).run Tryd.prog w =
      .ok (.tuple #[.int .u64 (if (rd == 0 && a == 0 && b == 0 && imm == 0) then bareVal (92 + j) else 0), .bool (rd == 0 && a == 0 && b == 0 && imm == 0)]) w := by
  have hf := run_findKeyB ((j : Int) + 93) rd a b imm 5 w
  have hl : (bareEs 98).toList = (bareL 5).map fun p => { key := bareKey p.1, val := .int .u64 p.2.1, born := p.2.2 } := bareEs_list 98
  rw [← hl] at hf
  have hres : (((bareL 5).zipIdx 0).findSome? fun q => if ((j : Int) + 93 == q.1.1 && rd == 0 && a == 0 && b == 0 && imm == 0) = true then some (q.2, Value.int .u64 q.1.2.1) else none) = if (rd == 0 && a == 0 && b == 0 && imm == 0) = true then some (j, Value.int .u64 (bareVal (92 + j))) else none := by
    have e : ∀ q : (Int × Int × Nat) × Nat, ((j : Int) + 93 == q.1.1 && rd == 0 && a == 0 && b == 0 && imm == 0) = ((j : Int) + 93 == q.1.1 && (rd == 0 && a == 0 && b == 0 && imm == 0)) := by
      intro q; simp [Bool.and_assoc]
    simp only [e]
    generalize (rd == 0 && a == 0 && b == 0 && imm == 0) = c
    have : j = 0 ∨ j = 1 ∨ j = 2 ∨ j = 3 ∨ j = 4 := by omega
    cases c
    · simp
    · rcases this with rfl | rfl | rfl | rfl | rfl <;> rfl
  rw [hres] at hf
  generalize (rd == 0 && a == 0 && b == 0 && imm == 0) = c at hf ⊢
  cases c
  · simp at hf
    simp [Instr.lookup, run_underlying Tryd.underlying106, MapKept.run_getObj_map hb, run_checkKeyB, hf, run_zero u64_zero]
  · simp at hf
    simp [Instr.lookup, run_underlying Tryd.underlying106, MapKept.run_getObj_map hb, run_checkKeyB, hf]

theorem run_bareUpdateK (w : World) (bm k : Nat) (h1 : 92 ≤ k) (h2 : k ≤ 96) (hb : w.heap[bm]? = some (.map (bareEs k) ((k - 92).min 5))) :
    (Instr.mapUpdate 106 (.map (some bm)) (.agg #[.int .i64 ((k : Int) + 1), .int .i64 0, .int .i64 0, .int .i64 0, .int .i64 0]) (.int .u64 (bareVal k))).run Tryd.prog w = .ok () (ChangeMaps.setBlock w bm (.map (bareEs (k + 1)) ((k + 1 - 92).min 5))) := by
  obtain ⟨i, rfl⟩ : ∃ i, k = 92 + i := ⟨k - 92, by omega⟩
  have e1 : (92 + i - 92).min 5 = i := by simp only [Nat.min_def]; split <;> omega
  have e2 : (92 + i + 1 - 92).min 5 = i + 1 := by simp only [Nat.min_def]; split <;> omega
  have e3 : (((92 + i : Nat)) : Int) + 1 = (i : Int) + 93 := by omega
  rw [e1] at hb
  rw [e2, e3]
  exact run_bareUpdate w bm i (by omega) hb

theorem bareEs_same (k : Nat) (h : ¬ (92 ≤ k ∧ k ≤ 96)) : bareEs (k + 1) = bareEs k ∧ (k + 1 - 92).min 5 = (k - 92).min 5 := by
  have e : (k + 1 - 92).min 5 = (k - 92).min 5 := by simp only [Nat.min_def]; split <;> split <;> omega
  exact ⟨by unfold bareEs; rw [e], e⟩

theorem wpList_updB {ops : Array Oper} {rest : List Oper} {o : Oper} {A : Act} {w w' : World} {Q : Exit → Act → World → Prop} {bm : Nat} {key val : Value} (H : Hid ((Instr.mapUpdate 106 (.map (some bm)) key val).run Tryd.prog w = .ok () w')) (hg : o.guard = none) (x y z : Operand) (ho : o.op = .mapUpdate 106 x y z)
    (hx : A.eval x = .map (some bm)) (hy : A.eval y = key) (hz : A.eval z = val) (h : wpList Tryd.prog ops Q rest (A.put o.dst undef) w') : wpList Tryd.prog ops Q (o :: rest) A w := by
  refine wpList_plain hg fun K hK => ?_
  unfold Oper.wp
  simp [execOp, ho, hx, hy, hz, H.out, Result.andThen]
  exact hK _ _ h

theorem wpList_lookB {ops : Array Oper} {rest : List Oper} {o : Oper} {A : Act} {w : World} {Q : Exit → Act → World → Prop} {bm : Nat} {key V : Value} (H : Hid ((Instr.lookup 106 (.map (some bm)) key true).run Tryd.prog w = .ok V w)) (hg : o.guard = none) (x y : Operand) (ho : o.op = .lookup 106 x y true)
    (hx : A.eval x = .map (some bm)) (hy : A.eval y = key) (h : wpList Tryd.prog ops Q rest (A.put o.dst V) w) : wpList Tryd.prog ops Q (o :: rest) A w := by
  refine wpList_plain hg fun K hK => ?_
  have hrun : (execOp A.eval o).run Tryd.prog w = .ok (.value V) w := by
    simp [execOp, ho, hx, hy, H.out]
  unfold Oper.wp
  rw [hrun, Oper.upon_value]
  exact hK _ _ h

set_option maxRecDepth 100000 in
set_option maxHeartbeats 3200000 in
theorem bareWord_any (j : Nat) (hj : j < 5) (rd a b imm : Int) (w : World) :
    Calls Tryd.prog 47 #[.agg #[.int .i64 ((j : Int) + 93), .int .i64 rd, .int .i64 a, .int .i64 b, .int .i64 imm]] w fun e w' =>
      e = .returned (.tuple #[.int .u64 (if (rd == 0 && a == 0 && b == 0 && imm == 0) then bareVal (92 + j) else 0), .bool (rd == 0 && a == 0 && b == 0 && imm == 0)]) ∧ Below w.heap.size w w' := by
  obtain ⟨v, hv⟩ : ∃ v, v = (if (rd == 0 && a == 0 && b == 0 && imm == 0) then bareVal (92 + j) else 0) := ⟨_, rfl⟩
  obtain ⟨t, ht⟩ : ∃ t, t = (rd == 0 && a == 0 && b == 0 && imm == 0) := ⟨_, rfl⟩
  have LK0 := fun (w : World) bm clock hb => run_bareLookup w bm j hj rd a b imm clock hb
  rw [← hv, ← ht] at LK0 ⊢
  clear hv ht
  obtain ⟨op, hop⟩ : ∃ op : Int, op = (j : Int) + 93 := ⟨_, rfl⟩
  rw [← hop] at LK0 ⊢
  have LK : Hid (∀ (w : World) bm clock, w.heap[bm]? = some (.map (bareEs 98) clock) → (Instr.lookup 106 (.map (some bm)) (.agg #[.int .i64 op, .int .i64 rd, .int .i64 a, .int .i64 b, .int .i64 imm]) true).run Tryd.prog w = .ok (.tuple #[.int .u64 v, .bool t]) w) := LK0
  clear LK0 hop
  have MK : ∀ w : World, (Instr.makeMap 106 none).run Tryd.prog w = .ok (.map (some w.heap.size)) (w.alloc (.map #[] 0)) := fun w => rfl
  go_enter Tryd.func47, Tryd.ntmps47
  go_wp2_with fail
  refine (opRows_T _).mono ?_
  rintro e w1 ⟨T, rfl, HT, hb⟩
  clear MK
  have hsz : w.heap.size + 1 < w1.heap.size := by have := hb.size; simp at this; omega
  have G0 : Hid (w1.heap[w.heap.size]? = some (.cells #[.int .i64 op, .int .i64 rd, .int .i64 a, .int .i64 b, .int .i64 imm] 30 (0, 0))) := by
    show _ = _
    rw [hb.block _ (by simp; omega)]; exact heap_alloc2_old _ _ _
  have M0 : Hid (w1.heap[w.heap.size + 1]? = some (.map (bareEs 0) ((0 - 92).min 5))) := by
    show _ = _
    rw [hb.block _ (by simp)]; exact heap_alloc2_new _ _ _
  have hb0 : Below w.heap.size w w1 := (((Below.refl _ _).alloc (Nat.le_refl _) _).alloc (by simp) _).trans (hb.mono (by simp; omega))
  clear hb
  go_wp2_with fail
  go_loopw [14] (fun i wr => ∃ k : Nat, k ≤ 98 ∧ i = .int .i64 k ∧ Hid (wr.heap[w.heap.size + 1]? = some (.map (bareEs k) ((k - 92).min 5))) ∧
      Hid (wr.heap[w.heap.size]? = some (.cells #[.int .i64 op, .int .i64 rd, .int .i64 a, .int .i64 b, .int .i64 imm] 30 (0, 0))) ∧ Below w.heap.size w wr)
    (fun i _ => 98 - (intOf i).toNat)
  case atStart => exact ⟨0, by omega, rfl, M0, G0, hb0⟩
  case round =>
    obtain ⟨k, hk, rfl, M, G, hb2⟩ := hrel
    clear G0 hb0 M0
    by_cases hlt : k < 98
    · have BR := bare_rows k hlt
      obtain ⟨r, hr0⟩ : ∃ r, r = rowAt k := ⟨_, rfl⟩
      have hr : Hid (r = rowAt k) := hr0
      rw [← hr0] at BR
      have BVL : r.fm = .x → bitsI r.fm r.op r.f3z r.more = bareVal k := by
        intro h; rw [h, hr0]; rfl
      clear hr0
      obtain ⟨nm, f, o, m3, m⟩ := r
      obtain ⟨z, hz⟩ : ∃ z, z = Row.f3z ⟨nm, f, o, m3, m⟩ := ⟨_, rfl⟩
      rw [← hz] at BVL
      simp only at BR BVL
      have HIX : Hid (∀ w : World, (Instr.index 55 T (.int .i64 (k : Int))).run Tryd.prog w = .ok (.agg #[.string nm, .string f.str, .int .u64 o, .int .u64 z, .int .u64 m]) w) := by
        intro w
        rw [run_index_T HT .i64 k hlt _ hr w, hz]
      clear hr hz
      by_cases hx : f = .x
      · have hrange := BR.1 hx
        have RP0 := rowPattern_any ((k : Int) + 1) nm f o z m
        rw [BVL hx] at RP0
        subst hx
        obtain ⟨BB, hBB⟩ : ∃ B, B = bareVal k := ⟨_, rfl⟩
        obtain ⟨MM, hMM⟩ : ∃ M, M = maskI ((k : Int) + 1) .x := ⟨_, rfl⟩
        rw [← hBB, ← hMM] at RP0
        simp only [Fm.str] at RP0 HIX
        have RP : Hid (∀ w : World, Calls Tryd.prog 26 #[.int .i64 ((k : Int) + 1), .agg #[.string nm, .string ⟨#[88]⟩, .int .u64 o, .int .u64 z, .int .u64 m]] w fun e w' => e = .returned (.tuple #[.int .u64 MM, .int .u64 BB]) ∧ Below w.heap.size w w') := RP0
        have HBB : Hid (BB = bareVal k) := hBB
        clear RP0 hBB hMM BR BVL
        go_wp2_with (refine wpList_indexH HIX rfl _ _ rfl rfl rfl ?_)
        refine (RP.out _).mono ?_
        rintro e w2 ⟨rfl, hbp⟩
        have hbw : Below wr.heap.size wr w2 := ((Below.refl _ _).alloc (Nat.le_refl _) _).trans (hbp.mono (by simp))
        have M2 := keep_some hbw M.out
        have G2 := keep_some hbw G.out
        have hb3 := below_trans hb2 hbw
        have UP : Hid _ := run_bareUpdateK w2 (w.heap.size + 1) k hrange.1 hrange.2 M2
        rw [← HBB.out] at UP
        have MF : Hid ((ChangeMaps.setBlock w2 (w.heap.size + 1) (.map (bareEs (k + 1)) ((k + 1 - 92).min 5))).heap[w.heap.size + 1]? = some (.map (bareEs (k + 1)) ((k + 1 - 92).min 5))) := ChangeMaps.heap_setBlock_same M2 _
        have GF : Hid ((ChangeMaps.setBlock w2 (w.heap.size + 1) (.map (bareEs (k + 1)) ((k + 1 - 92).min 5))).heap[w.heap.size]? = some (.cells #[.int .i64 op, .int .i64 rd, .int .i64 a, .int .i64 b, .int .i64 imm] 30 (0, 0))) := by
          show _ = _
          rw [ChangeMaps.heap_setBlock_other M2 _ (by omega)]; exact G2
        have BF : Below w.heap.size w (ChangeMaps.setBlock w2 (w.heap.size + 1) (.map (bareEs (k + 1)) ((k + 1 - 92).min 5))) :=
          ⟨hb3.os, hb3.tape, hb3.output, by simpa [ChangeMaps.setBlock] using hb3.size, fun n hn => (ChangeMaps.heap_setBlock_other M2 _ (by omega)).trans (hb3.block n hn)⟩
        obtain ⟨w3, hw3⟩ : ∃ w3, w3 = ChangeMaps.setBlock w2 (w.heap.size + 1) (.map (bareEs (k + 1)) ((k + 1 - 92).min 5)) := ⟨_, rfl⟩
        rw [← hw3] at UP MF GF BF
        clear hbp hw3 M2 G2 hbw hb3 M G hb2
        go_wp2_with (refine wpList_updB UP rfl _ _ _ rfl rfl rfl rfl ?_)
        go_roundw
        case rel => exact ⟨k + 1, by omega, by go_num, MF, GF, BF⟩
        case measure => simp [intOf]; omega
      · have hsame := bareEs_same k (fun h => hx (BR.2 h))
        clear BR BVL
        cases f
        case x => exact absurd rfl hx
        all_goals (
          clear hx
          simp only [Fm.str] at HIX
          go_wp2_with (refine wpList_indexH HIX rfl _ _ rfl rfl rfl ?_)
          go_roundw
          case rel =>
            have hbn : ∀ ob : Obj, Below wr.heap.size wr (wr.alloc ob) := fun ob => (Below.refl _ _).alloc (Nat.le_refl _) ob
            exact ⟨k + 1, by omega, by go_num, by rw [hsame.1, hsame.2]; exact keep_some (hbn _) M.out, keep_some (hbn _) G.out, below_trans hb2 (hbn _)⟩
          case measure => simp [intOf]; omega)
    · have hk2 : k = 98 := by omega
      subst hk2
      have q0 : wr.cell? ⟨w.heap.size, 0, none⟩ = some (.int .i64 op) := (cell_of_row _ _ _ _ _ _ G.out).trans rfl
      have q1 : wr.cell? ⟨w.heap.size, 1, none⟩ = some (.int .i64 rd) := (cell_of_row _ _ _ _ _ _ G.out).trans rfl
      have q2 : wr.cell? ⟨w.heap.size, 2, none⟩ = some (.int .i64 a) := (cell_of_row _ _ _ _ _ _ G.out).trans rfl
      have q3 : wr.cell? ⟨w.heap.size, 3, none⟩ = some (.int .i64 b) := (cell_of_row _ _ _ _ _ _ G.out).trans rfl
      have q4 : wr.cell? ⟨w.heap.size, 4, none⟩ = some (.int .i64 imm) := (cell_of_row _ _ _ _ _ _ G.out).trans rfl
      have LK2 : Hid _ := LK.out wr (w.heap.size + 1) _ M.out
      go_wp2_with (refine wpList_lookB LK2 rfl _ _ rfl rfl rfl ?_)
      go_ret2
      exact ⟨rfl, hb2⟩

end Go.Proofs.YtjjpklalihaanaaDoor

namespace Go.Proofs.YtjjpklalihaanaaDoor.fnExactEncode
open Go.RowKit
set_option linter.unusedVariables false

theorem bareDoes : BareDoes := by
  intro i hx ho w
  have ho2 : 1 ≤ i.op ∧ i.op ≤ 98 := of_decide_eq_true ho
  obtain ⟨k, hk⟩ : ∃ k : Nat, i.op = (k : Int) + 1 := ⟨(i.op - 1).toNat, by omega⟩
  have hk2 : k < 98 := by omega
  have RK : rowOp i.op = rowAt k := by rw [hk]; simp [rowOp]
  rw [RK] at hx ⊢
  have hr := (bare_rows k hk2).1 hx
  obtain ⟨j, rfl⟩ : ∃ j, k = 92 + j := ⟨k - 92, by omega⟩
  have h := bareWord_any j (by omega) i.rd i.a i.b i.imm w
  have e : (j : Int) + 93 = i.op := by rw [hk]; omega
  have eb : (i.rd == 0 && i.a == 0 && i.b == 0 && i.imm == 0) = bareB i := by
    rw [Bool.eq_iff_iff]; simp [bareB, and_assoc]
  rw [e, eb] at h
  exact h

theorem bare_word : ∀ k, k < 98 → (rowAt k).fm = .x → dec (bitsI .x (rowAt k).op (rowAt k).f3z (rowAt k).more) = some ⟨(k : Int) + 1, 0, 0, 0, 0⟩ := by
  have h : (List.range 98).all (fun k => !decide ((rowAt k).fm = .x) || decide (dec (bitsI .x (rowAt k).op (rowAt k).f3z (rowAt k).more) = some ⟨(k : Int) + 1, 0, 0, 0, 0⟩)) = true := by kernel_rfl
  intro k hk hx
  have := List.all_eq_true.1 h k (by simpa using hk)
  simp [hx] at this
  exact this

theorem enc_eq (i : Ins) : encI i = encS i := by
  unfold encI encS
  cases ho : opB i.op with
  | false => simp
  | true =>
    have ho2 : 1 ≤ i.op ∧ i.op ≤ 98 := of_decide_eq_true ho
    obtain ⟨k, hk⟩ : ∃ k : Nat, i.op = (k : Int) + 1 := ⟨(i.op - 1).toNat, by omega⟩
    have hk2 : k < 98 := by omega
    have RK : rowOp i.op = rowAt k := by rw [hk]; simp [rowOp]
    have SR : 0 ≤ wordS i := by
      unfold wordS layS
      split <;> exact (bits_range _ _ _).1
    by_cases hx : (rowOp i.op).fm = .x
    · rw [if_pos rfl, if_pos hx]
      have hx2 := hx
      rw [RK] at hx2
      have hw := bare_word k hk2 hx2
      by_cases hb : bareB i = true
      · have hb2 := hb
        simp only [bareB, decide_eq_true_eq] at hb2
        have hi : i = ⟨(k : Int) + 1, 0, 0, 0, 0⟩ := by
          obtain ⟨a, b, c, d, e⟩ := i
          simp only at hb2 hk
          rw [hk, hb2.1, hb2.2.1, hb2.2.2.1, hb2.2.2.2]
        have hd := hw
        rw [← hi] at hd
        have h00 : 0 ≤ bitsI .x (rowAt k).op (rowAt k).f3z (rowAt k).more := (bits_range _ _ _).1
        obtain ⟨_, hreg, _, hws⟩ := dec_words h00 hd
        rw [if_pos hb, hreg, hws, RK, hd]
        simp
      · rw [if_neg hb]
        have hn : ¬ dec (wordS i) = some i := by
          intro h
          obtain ⟨_, k', hk', hm, hi⟩ := dec_some h
          apply hb
          have hkk : k' = k := by
            have : i.op = (k' : Int) + 1 := by rw [hi]; rfl
            omega
          subst hkk
          rw [hi]
          unfold bareB insAt
          rw [hx2]
          have : immV .x (wordS i) = 0 := widen64 0 (by omega) (by omega)
          simp [rdV, aV, bV, Fm.hasRd, Fm.hasA, Fm.hasB, this]
        simp [hn]
    · rw [if_pos rfl, if_neg hx]
      have IR : 0 ≤ wordI i := (layI_range _ _ _ _ i).1
      by_cases h : dec (wordI i) = some i
      · obtain ⟨_, hreg, _, hws⟩ := dec_words IR h
        rw [if_pos h, hreg, hws]
        simp [h]
      · have hn : ¬ dec (wordS i) = some i := by
          intro h2
          obtain ⟨_, _, hwi, _⟩ := dec_words SR h2
          apply h
          rw [hwi]; exact h2
        rw [if_neg h]
        simp [hn]

end Go.Proofs.YtjjpklalihaanaaDoor.fnExactEncode
