/- Own lemmas. -/
import Derived.Test.YtjjpklalihaanaaDoorK06
namespace Go.Proofs.YtjjpklalihaanaaDoor
open Go.RowKit
set_option linter.unusedVariables false

def encVS (i : Ins) : Value := .tuple #[.int .u64 (encS i).1, .bool (encS i).2]

set_option maxRecDepth 100000 in
set_option maxHeartbeats 3200000 in
theorem specEncode_any (i : Ins) (w1 : (Lit.int .i64 i.op).wf = true) (w5 : (Lit.int .i64 i.imm).wf = true) (w : World) :
    Calls Tryd.prog 24 #[.agg #[.int .i64 i.op, .int .i64 i.rd, .int .i64 i.a, .int .i64 i.b, .int .i64 i.imm]] w fun e w' => e = .returned (encVS i) ∧ Below w.heap.size w w' := by
  obtain ⟨V, hV⟩ : ∃ V, V = encVS i := ⟨_, rfl⟩
  by_cases hok : opB i.op = true ∧ regBe i = true
  · obtain ⟨ho, hreg⟩ := hok
    have EV : Hid (encVS i = if dec (wordS i) = some i then .tuple #[.int .u64 (wordS i), .bool true] else .tuple #[.int .u64 0, .bool false]) := by
      show _ = _
      unfold encVS encS
      rw [ho, hreg]
      by_cases h : dec (wordS i) = some i <;> simp [h]
    rw [← hV] at EV ⊢
    clear hV
    have ho2 : 1 ≤ i.op ∧ i.op ≤ 98 := of_decide_eq_true ho
    simp only [regBe, Bool.and_eq_true, decide_eq_true_eq] at hreg
    obtain ⟨⟨R1, R2⟩, R3⟩ := hreg
    obtain ⟨op, rd, a, b, imm⟩ := i
    simp only at ho2 R1 R2 R3 w1 w5 ⊢
    obtain ⟨k, hk⟩ : ∃ k : Nat, op = (k : Int) + 1 := ⟨(op - 1).toNat, by omega⟩
    have hk2 : k < 98 := by omega
    subst hk
    have RO := rows_ok k hk2
    have WS : wordS ⟨(k : Int) + 1, rd, a, b, imm⟩ = layS (rowAt k).fm (rowAt k).op (rowAt k).f3 (rowAt k).more ⟨(k : Int) + 1, rd, a, b, imm⟩ := by
      unfold wordS rowOp; simp
    have I1 := l1In_any ((k : Int) + 1) 1 98
    have I2 := l1In_any rd 0 31
    have I3 := l1In_any a 0 31
    have I4 := l1In_any b 0 31
    rw [decide_eq_true (by omega)] at I1 I2 I3 I4
    have H1 : Hid (∀ w : World, Calls Tryd.prog 53 #[.int .i64 ((k : Int) + 1), .int .i64 1, .int .i64 98] w fun e w' => e = .returned (.bool true) ∧ w' = w) := I1
    have H2 : Hid (∀ w : World, Calls Tryd.prog 53 #[.int .i64 rd, .int .i64 0, .int .i64 31] w fun e w' => e = .returned (.bool true) ∧ w' = w) := I2
    have H3 : Hid (∀ w : World, Calls Tryd.prog 53 #[.int .i64 a, .int .i64 0, .int .i64 31] w fun e w' => e = .returned (.bool true) ∧ w' = w) := I3
    have H4 : Hid (∀ w : World, Calls Tryd.prog 53 #[.int .i64 b, .int .i64 0, .int .i64 31] w fun e w' => e = .returned (.bool true) ∧ w' = w) := I4
    clear I1 I2 I3 I4 ho
    go_enter Tryd.func24, Tryd.ntmps24
    go_wp2_with fail
    refine (l2Rows_T _).mono ?_
    rintro e w2 ⟨rfl, hT, hb⟩
    have hb0 : Below w.heap.size w w2 := ((Below.refl _ _).alloc (Nat.le_refl _) _).trans (hb.mono (by simp))
    have K : Hid (w2.heap[w.heap.size]? = some (.cells #[.int .i64 ((k : Int) + 1), .int .i64 rd, .int .i64 a, .int .i64 b, .int .i64 imm] 30 (0, 0))) := by
      show _ = _
      rw [hb.block _ (by simp)]; exact heap_alloc_new _ _
    have q0 : w2.cell? ⟨w.heap.size, 0, none⟩ = some (.int .i64 ((k : Int) + 1)) := (cell_of_row _ _ _ _ _ _ K.out).trans rfl
    have q1 : w2.cell? ⟨w.heap.size, 1, none⟩ = some (.int .i64 rd) := (cell_of_row _ _ _ _ _ _ K.out).trans rfl
    have q2 : w2.cell? ⟨w.heap.size, 2, none⟩ = some (.int .i64 a) := (cell_of_row _ _ _ _ _ _ K.out).trans rfl
    have q3 : w2.cell? ⟨w.heap.size, 3, none⟩ = some (.int .i64 b) := (cell_of_row _ _ _ _ _ _ K.out).trans rfl
    obtain ⟨g, hg⟩ : ∃ g, g = (w.alloc (.cells #[.int .i64 ((k : Int) + 1), .int .i64 rd, .int .i64 a, .int .i64 b, .int .i64 imm] 30)).heap.size := ⟨_, rfl⟩
    rw [← hg] at hT ⊢
    clear hb hg
    obtain ⟨r, hr0⟩ : ∃ r, r = rowAt k := ⟨_, rfl⟩
    obtain ⟨C0, C1, C2, C3, C4⟩ := hT.out.2 k hk2 r hr0
    rw [← hr0] at RO WS
    obtain ⟨nm, f, o, z, m⟩ := r
    simp only at C0 C1 C2 C3 C4 WS
    simp only [rowOk, Bool.and_eq_true, decide_eq_true_eq] at RO
    obtain ⟨⟨b0, b1, b2, b3, b4⟩, hf⟩ := RO
    have ALL : ∀ ob : Obj, Below w2.heap.size w2 (w2.alloc ob) := fun ob => (Below.refl _ _).alloc (Nat.le_refl _) ob
    have Q1 : ∀ ob : Obj, (w2.alloc ob).cell? ⟨w.heap.size, 1, none⟩ = some (.int .i64 rd) := fun ob => (cell_of_row _ _ _ _ _ _ (keep_some (ALL ob) K.out)).trans rfl
    have Q2 : ∀ ob : Obj, (w2.alloc ob).cell? ⟨w.heap.size, 2, none⟩ = some (.int .i64 a) := fun ob => (cell_of_row _ _ _ _ _ _ (keep_some (ALL ob) K.out)).trans rfl
    have Q3 : ∀ ob : Obj, (w2.alloc ob).cell? ⟨w.heap.size, 3, none⟩ = some (.int .i64 b) := fun ob => (cell_of_row _ _ _ _ _ _ (keep_some (ALL ob) K.out)).trans rfl
    have Q4 : ∀ ob : Obj, (w2.alloc ob).cell? ⟨w.heap.size, 4, none⟩ = some (.int .i64 imm) := fun ob => (cell_of_row _ _ _ _ _ _ (keep_some (ALL ob) K.out)).trans rfl
    clear ALL hr0 hT b3 b4
    have MR := u64_range imm
    obtain ⟨M, hMi⟩ : ∃ M, u64 imm = M := ⟨_, rfl⟩
    rw [hMi] at MR
    have hM : IntKind.u64.wrap imm = M := hMi
    have u1 : IntKind.u64.wrap rd = rd := wrapUe _ (by omega) (by omega)
    have u2 : IntKind.u64.wrap a = a := wrapUe _ (by omega) (by omega)
    have u3 : IntKind.u64.wrap b = b := wrapUe _ (by omega) (by omega)
    have v1 : IntKind.u64.wrap (rd * 128) = rd * 128 := wrapUe _ (by omega) (by omega)
    have v2 : IntKind.u64.wrap (a * 32768) = a * 32768 := wrapUe _ (by omega) (by omega)
    have v3 : IntKind.u64.wrap (b * 1048576) = b * 1048576 := wrapUe _ (by omega) (by omega)
    obtain ⟨c1, hc1⟩ : ∃ c, bits .or .u64 o (rd * 128) = c := ⟨_, rfl⟩
    obtain ⟨c2, hc2⟩ : ∃ c, bits .or .u64 c1 (a * 32768) = c := ⟨_, rfl⟩
    obtain ⟨c3, hc3⟩ : ∃ c, bits .or .u64 c2 (b * 1048576) = c := ⟨_, rfl⟩
    have HB1 : base1 o ⟨(k : Int) + 1, rd, a, b, imm⟩ = c3 := by unfold base1; rw [hc1, hc2, hc3]
    have HWS : Hid (wordS ⟨(k : Int) + 1, rd, a, b, imm⟩ = layS f o z m ⟨(k : Int) + 1, rd, a, b, imm⟩) := WS
    have HHB : Hid (base1 o ⟨(k : Int) + 1, rd, a, b, imm⟩ = c3) := HB1
    have HMI : Hid (Go.Proofs.YtjjpklalihaanaaDoor.u64 imm = M) := hMi
    have HRG : Hid ((1 ≤ (k : Int) + 1 ∧ (k : Int) + 1 ≤ 98) ∧ (0 ≤ rd ∧ rd ≤ 31) ∧ (0 ≤ a ∧ a ≤ 31) ∧ (0 ≤ b ∧ b ≤ 31)) := ⟨ho2, R1, R2, R3⟩
    obtain ⟨s, hs⟩ : ∃ s, s = f.str := ⟨_, rfl⟩
    rw [← hs] at C1
    have HS : Hid (s = f.str) := hs
    clear WS HB1 hMi hs ho2 R1 R2 R3
    revert hf
    intro hf0
    have HF : Hid _ := hf0
    clear hf0
    have ZB : z < 8 ∧ m < 4096 := by
      have h := HF.out
      cases f <;> simp only [decide_eq_true_eq] at h <;> omega
    go_wp2_with fail
    refine (H1.out _).mono ?_
    rintro e w3 ⟨rfl, hw3⟩
    have hw4 := hw3.symm
    subst hw4
    go_wp2_with fail
    refine (H2.out _).mono ?_
    rintro e w3 ⟨rfl, hw3⟩
    have hw4 := hw3.symm
    subst hw4
    go_wp2_with fail
    refine (H3.out _).mono ?_
    rintro e w3 ⟨rfl, hw3⟩
    have hw4 := hw3.symm
    subst hw4
    go_wp2_with fail
    refine (H4.out _).mono ?_
    rintro e w3 ⟨rfl, hw3⟩
    have hw4 := hw3.symm
    subst hw4
    by_cases hz : 0 < z
    · have vz : IntKind.u64.wrap (z * 4096) = z * 4096 := wrapUe _ (by omega) (by omega)
      have uz : IntKind.u64.wrap z = z := wrapUe _ (by omega) (by omega)
      obtain ⟨c4, hc4⟩ : ∃ c, bits .or .u64 c3 (z * 4096) = c := ⟨_, rfl⟩
      have HBS : Hid (baseS o z ⟨(k : Int) + 1, rd, a, b, imm⟩ = c4) := by
        show _ = _
        unfold baseS; rw [if_pos hz, HHB.out, hc4]
      have dz : decide (0 < z) = true := by simpa using hz
      clear hz
      have hs := HS.out
      subst hs
      cases f
      case i =>
        simp only [decide_eq_true_eq] at HF
        have HF2 := HF.out
        have n0 : bits .and .u64 (M) 4095 = M % 4096 := and_low (M) 12 (by omega) (by omega) (by decide)
        have x0 : IntKind.u64.wrap (M % 4096 * 1048576) = M % 4096 * 1048576 := wrapUe _ (by omega) (by omega)
        obtain ⟨e0, he0⟩ : ∃ e, bits .or .u64 c4 (M % 4096 * 1048576) = e := ⟨_, rfl⟩
        have HY : Hid (wordS ⟨(k : Int) + 1, rd, a, b, imm⟩ = e0) := by
          show _ = _
          rw [HWS.out]; simp only [layS]; rw [HBS.out, HMI.out, he0]
        have YR : 0 ≤ e0 ∧ e0 < 18446744073709551616 := by rw [← he0]; exact bits_range _ _ _
        obtain ⟨j, t, hD, hD1, hD2⟩ := decV_ins e0
        have SD := specDecode_any e0 YR.1 YR.2
        rw [hD] at SD
        have HD1 : Hid (t = true → dec (wordS ⟨(k : Int) + 1, rd, a, b, imm⟩) = some j) := by
          show _ → _
          rw [HY.out]; exact hD1
        have HD2 : Hid (t = false → dec (wordS ⟨(k : Int) + 1, rd, a, b, imm⟩) = none) := by
          show _ → _
          rw [HY.out]; exact hD2
        obtain ⟨jo, jr, ja, jb, ji⟩ := j
        simp only at SD
        have HSD : Hid (∀ w : World, Calls Tryd.prog 54 #[.int .u64 e0] w fun e w' => e = .returned (.tuple #[.agg #[.int .i64 jo, .int .i64 jr, .int .i64 ja, .int .i64 jb, .int .i64 ji], .bool t]) ∧ Below w.heap.size w w') := SD
        clear SD hD hD1 hD2 YR HF HF2
        simp only [Fm.str] at C1
        go_wp2_with fail
        refine (HSD.out _).mono ?_
        rintro e w4 ⟨rfl, hb4⟩
        have KW : Hid (w4.heap[w.heap.size]? = some (.cells #[.int .i64 ((k : Int) + 1), .int .i64 rd, .int .i64 a, .int .i64 b, .int .i64 imm] 30 (0, 0))) := keep_some hb4 (keep_some ((Below.refl _ _).alloc (Nat.le_refl _) _) K.out)
        have hbF : Below w.heap.size w w4 := hb0.trans ((((Below.refl w2.heap.size w2).alloc (Nat.le_refl _) _).trans (hb4.mono (by simp))).mono hb0.size)
        have AL4 : ∀ ob : Obj, Below w4.heap.size w4 (w4.alloc ob) := fun ob => (Below.refl _ _).alloc (Nat.le_refl _) ob
        have E0 : ∀ ob : Obj, (w4.alloc ob).cell? ⟨w.heap.size, 0, none⟩ = some (.int .i64 ((k : Int) + 1)) := fun ob => (cell_of_row _ _ _ _ _ _ (keep_some (AL4 ob) KW.out)).trans rfl
        have E1 : ∀ ob : Obj, (w4.alloc ob).cell? ⟨w.heap.size, 1, none⟩ = some (.int .i64 rd) := fun ob => (cell_of_row _ _ _ _ _ _ (keep_some (AL4 ob) KW.out)).trans rfl
        have E2 : ∀ ob : Obj, (w4.alloc ob).cell? ⟨w.heap.size, 2, none⟩ = some (.int .i64 a) := fun ob => (cell_of_row _ _ _ _ _ _ (keep_some (AL4 ob) KW.out)).trans rfl
        have E3 : ∀ ob : Obj, (w4.alloc ob).cell? ⟨w.heap.size, 3, none⟩ = some (.int .i64 b) := fun ob => (cell_of_row _ _ _ _ _ _ (keep_some (AL4 ob) KW.out)).trans rfl
        have E4 : ∀ ob : Obj, (w4.alloc ob).cell? ⟨w.heap.size, 4, none⟩ = some (.int .i64 imm) := fun ob => (cell_of_row _ _ _ _ _ _ (keep_some (AL4 ob) KW.out)).trans rfl
        clear AL4 hb4 q0 q1 q2 q3 Q1 Q2 Q3 Q4 C0 C1 C2 C3 C4 HSD H1 H2 H3 H4
        cases t with
        | false =>
          have F : Hid (V = .tuple #[.int .u64 0, .bool false]) := by
            show _ = _
            rw [EV.out, HD2.out rfl, if_neg (by simp)]
          go_wp2_with fail
          go_ret2
          exact ⟨by rw [F.out]; rfl, hbF.alloc hbF.size _⟩
        | true =>
          have HJ : Hid (dec (wordS ⟨(k : Int) + 1, rd, a, b, imm⟩) = some ⟨jo, jr, ja, jb, ji⟩) := HD1.out rfl
          obtain ⟨nb, hnb⟩ : ∃ nb, (!(jo == (k : Int) + 1 && jr == rd && ja == a && jb == b && ji == imm)) = nb := ⟨_, rfl⟩
          have HNB : Hid ((!(jo == (k : Int) + 1 && jr == rd && ja == a && jb == b && ji == imm)) = nb) := hnb
          clear hnb
          cases nb with
          | true =>
            have F : Hid (V = .tuple #[.int .u64 0, .bool false]) := by
              show _ = _
              rw [EV.out, HJ.out, if_neg]
              intro h
              simp only [Option.some.injEq, Ins.mk.injEq] at h
              have := HNB.out
              simp [h.1, h.2.1, h.2.2.1, h.2.2.2.1, h.2.2.2.2] at this
            go_wp2_with (refine wpList_neqInst rfl _ _ _ rfl rfl rfl true HNB.out ?_)
            go_ret2
            exact ⟨by rw [F.out]; rfl, hbF.alloc hbF.size _⟩
          | false =>
            have F : Hid (V = .tuple #[.int .u64 (wordS ⟨(k : Int) + 1, rd, a, b, imm⟩), .bool true]) := by
              show _ = _
              rw [EV.out, HJ.out, if_pos]
              have := HNB.out
              simp at this
              simp only [Option.some.injEq, Ins.mk.injEq]
              exact ⟨this.1.1.1.1, this.1.1.1.2, this.1.1.2, this.1.2, this.2⟩
            go_wp2_with (refine wpList_neqInst rfl _ _ _ rfl rfl rfl false HNB.out ?_)
            go_ret2
            exact ⟨by rw [F.out, HY.out]; rfl, hbF.alloc hbF.size _⟩
      case c =>
        simp only [decide_eq_true_eq] at HF
        have HF2 := HF.out
        have n0 : bits .and .u64 (M) 4095 = M % 4096 := and_low (M) 12 (by omega) (by omega) (by decide)
        have x0 : IntKind.u64.wrap (M % 4096 * 1048576) = M % 4096 * 1048576 := wrapUe _ (by omega) (by omega)
        obtain ⟨e0, he0⟩ : ∃ e, bits .or .u64 c4 (M % 4096 * 1048576) = e := ⟨_, rfl⟩
        have HY : Hid (wordS ⟨(k : Int) + 1, rd, a, b, imm⟩ = e0) := by
          show _ = _
          rw [HWS.out]; simp only [layS]; rw [HBS.out, HMI.out, he0]
        have YR : 0 ≤ e0 ∧ e0 < 18446744073709551616 := by rw [← he0]; exact bits_range _ _ _
        obtain ⟨j, t, hD, hD1, hD2⟩ := decV_ins e0
        have SD := specDecode_any e0 YR.1 YR.2
        rw [hD] at SD
        have HD1 : Hid (t = true → dec (wordS ⟨(k : Int) + 1, rd, a, b, imm⟩) = some j) := by
          show _ → _
          rw [HY.out]; exact hD1
        have HD2 : Hid (t = false → dec (wordS ⟨(k : Int) + 1, rd, a, b, imm⟩) = none) := by
          show _ → _
          rw [HY.out]; exact hD2
        obtain ⟨jo, jr, ja, jb, ji⟩ := j
        simp only at SD
        have HSD : Hid (∀ w : World, Calls Tryd.prog 54 #[.int .u64 e0] w fun e w' => e = .returned (.tuple #[.agg #[.int .i64 jo, .int .i64 jr, .int .i64 ja, .int .i64 jb, .int .i64 ji], .bool t]) ∧ Below w.heap.size w w') := SD
        clear SD hD hD1 hD2 YR HF HF2
        simp only [Fm.str] at C1
        go_wp2_with fail
        refine (HSD.out _).mono ?_
        rintro e w4 ⟨rfl, hb4⟩
        have KW : Hid (w4.heap[w.heap.size]? = some (.cells #[.int .i64 ((k : Int) + 1), .int .i64 rd, .int .i64 a, .int .i64 b, .int .i64 imm] 30 (0, 0))) := keep_some hb4 (keep_some ((Below.refl _ _).alloc (Nat.le_refl _) _) K.out)
        have hbF : Below w.heap.size w w4 := hb0.trans ((((Below.refl w2.heap.size w2).alloc (Nat.le_refl _) _).trans (hb4.mono (by simp))).mono hb0.size)
        have AL4 : ∀ ob : Obj, Below w4.heap.size w4 (w4.alloc ob) := fun ob => (Below.refl _ _).alloc (Nat.le_refl _) ob
        have E0 : ∀ ob : Obj, (w4.alloc ob).cell? ⟨w.heap.size, 0, none⟩ = some (.int .i64 ((k : Int) + 1)) := fun ob => (cell_of_row _ _ _ _ _ _ (keep_some (AL4 ob) KW.out)).trans rfl
        have E1 : ∀ ob : Obj, (w4.alloc ob).cell? ⟨w.heap.size, 1, none⟩ = some (.int .i64 rd) := fun ob => (cell_of_row _ _ _ _ _ _ (keep_some (AL4 ob) KW.out)).trans rfl
        have E2 : ∀ ob : Obj, (w4.alloc ob).cell? ⟨w.heap.size, 2, none⟩ = some (.int .i64 a) := fun ob => (cell_of_row _ _ _ _ _ _ (keep_some (AL4 ob) KW.out)).trans rfl
        have E3 : ∀ ob : Obj, (w4.alloc ob).cell? ⟨w.heap.size, 3, none⟩ = some (.int .i64 b) := fun ob => (cell_of_row _ _ _ _ _ _ (keep_some (AL4 ob) KW.out)).trans rfl
        have E4 : ∀ ob : Obj, (w4.alloc ob).cell? ⟨w.heap.size, 4, none⟩ = some (.int .i64 imm) := fun ob => (cell_of_row _ _ _ _ _ _ (keep_some (AL4 ob) KW.out)).trans rfl
        clear AL4 hb4 q0 q1 q2 q3 Q1 Q2 Q3 Q4 C0 C1 C2 C3 C4 HSD H1 H2 H3 H4
        cases t with
        | false =>
          have F : Hid (V = .tuple #[.int .u64 0, .bool false]) := by
            show _ = _
            rw [EV.out, HD2.out rfl, if_neg (by simp)]
          go_wp2_with fail
          go_ret2
          exact ⟨by rw [F.out]; rfl, hbF.alloc hbF.size _⟩
        | true =>
          have HJ : Hid (dec (wordS ⟨(k : Int) + 1, rd, a, b, imm⟩) = some ⟨jo, jr, ja, jb, ji⟩) := HD1.out rfl
          obtain ⟨nb, hnb⟩ : ∃ nb, (!(jo == (k : Int) + 1 && jr == rd && ja == a && jb == b && ji == imm)) = nb := ⟨_, rfl⟩
          have HNB : Hid ((!(jo == (k : Int) + 1 && jr == rd && ja == a && jb == b && ji == imm)) = nb) := hnb
          clear hnb
          cases nb with
          | true =>
            have F : Hid (V = .tuple #[.int .u64 0, .bool false]) := by
              show _ = _
              rw [EV.out, HJ.out, if_neg]
              intro h
              simp only [Option.some.injEq, Ins.mk.injEq] at h
              have := HNB.out
              simp [h.1, h.2.1, h.2.2.1, h.2.2.2.1, h.2.2.2.2] at this
            go_wp2_with (refine wpList_neqInst rfl _ _ _ rfl rfl rfl true HNB.out ?_)
            go_ret2
            exact ⟨by rw [F.out]; rfl, hbF.alloc hbF.size _⟩
          | false =>
            have F : Hid (V = .tuple #[.int .u64 (wordS ⟨(k : Int) + 1, rd, a, b, imm⟩), .bool true]) := by
              show _ = _
              rw [EV.out, HJ.out, if_pos]
              have := HNB.out
              simp at this
              simp only [Option.some.injEq, Ins.mk.injEq]
              exact ⟨this.1.1.1.1, this.1.1.1.2, this.1.1.2, this.1.2, this.2⟩
            go_wp2_with (refine wpList_neqInst rfl _ _ _ rfl rfl rfl false HNB.out ?_)
            go_ret2
            exact ⟨by rw [F.out, HY.out]; rfl, hbF.alloc hbF.size _⟩
      case h =>
        simp only [decide_eq_true_eq] at HF
        have HF2 := HF.out
        have n0 : bits .and .u64 (M) 63 = M % 64 := and_low (M) 6 (by omega) (by omega) (by decide)
        have x0 : IntKind.u64.wrap (M % 64 * 1048576) = M % 64 * 1048576 := wrapUe _ (by omega) (by omega)
        obtain ⟨e0, he0⟩ : ∃ e, bits .or .u64 c4 (M % 64 * 1048576) = e := ⟨_, rfl⟩
        have xm : IntKind.u64.wrap (m * 67108864) = m * 67108864 := wrapUe _ (by omega) (by omega)
        obtain ⟨em, hem⟩ : ∃ e, bits .or .u64 e0 (m * 67108864) = e := ⟨_, rfl⟩
        have HY : Hid (wordS ⟨(k : Int) + 1, rd, a, b, imm⟩ = em) := by
          show _ = _
          rw [HWS.out]; simp only [layS]; rw [HBS.out, HMI.out, he0, hem]
        have YR : 0 ≤ em ∧ em < 18446744073709551616 := by rw [← hem]; exact bits_range _ _ _
        obtain ⟨j, t, hD, hD1, hD2⟩ := decV_ins em
        have SD := specDecode_any em YR.1 YR.2
        rw [hD] at SD
        have HD1 : Hid (t = true → dec (wordS ⟨(k : Int) + 1, rd, a, b, imm⟩) = some j) := by
          show _ → _
          rw [HY.out]; exact hD1
        have HD2 : Hid (t = false → dec (wordS ⟨(k : Int) + 1, rd, a, b, imm⟩) = none) := by
          show _ → _
          rw [HY.out]; exact hD2
        obtain ⟨jo, jr, ja, jb, ji⟩ := j
        simp only at SD
        have HSD : Hid (∀ w : World, Calls Tryd.prog 54 #[.int .u64 em] w fun e w' => e = .returned (.tuple #[.agg #[.int .i64 jo, .int .i64 jr, .int .i64 ja, .int .i64 jb, .int .i64 ji], .bool t]) ∧ Below w.heap.size w w') := SD
        clear SD hD hD1 hD2 YR HF HF2
        simp only [Fm.str] at C1
        go_wp2_with fail
        refine (HSD.out _).mono ?_
        rintro e w4 ⟨rfl, hb4⟩
        have KW : Hid (w4.heap[w.heap.size]? = some (.cells #[.int .i64 ((k : Int) + 1), .int .i64 rd, .int .i64 a, .int .i64 b, .int .i64 imm] 30 (0, 0))) := keep_some hb4 (keep_some ((Below.refl _ _).alloc (Nat.le_refl _) _) K.out)
        have hbF : Below w.heap.size w w4 := hb0.trans ((((Below.refl w2.heap.size w2).alloc (Nat.le_refl _) _).trans (hb4.mono (by simp))).mono hb0.size)
        have AL4 : ∀ ob : Obj, Below w4.heap.size w4 (w4.alloc ob) := fun ob => (Below.refl _ _).alloc (Nat.le_refl _) ob
        have E0 : ∀ ob : Obj, (w4.alloc ob).cell? ⟨w.heap.size, 0, none⟩ = some (.int .i64 ((k : Int) + 1)) := fun ob => (cell_of_row _ _ _ _ _ _ (keep_some (AL4 ob) KW.out)).trans rfl
        have E1 : ∀ ob : Obj, (w4.alloc ob).cell? ⟨w.heap.size, 1, none⟩ = some (.int .i64 rd) := fun ob => (cell_of_row _ _ _ _ _ _ (keep_some (AL4 ob) KW.out)).trans rfl
        have E2 : ∀ ob : Obj, (w4.alloc ob).cell? ⟨w.heap.size, 2, none⟩ = some (.int .i64 a) := fun ob => (cell_of_row _ _ _ _ _ _ (keep_some (AL4 ob) KW.out)).trans rfl
        have E3 : ∀ ob : Obj, (w4.alloc ob).cell? ⟨w.heap.size, 3, none⟩ = some (.int .i64 b) := fun ob => (cell_of_row _ _ _ _ _ _ (keep_some (AL4 ob) KW.out)).trans rfl
        have E4 : ∀ ob : Obj, (w4.alloc ob).cell? ⟨w.heap.size, 4, none⟩ = some (.int .i64 imm) := fun ob => (cell_of_row _ _ _ _ _ _ (keep_some (AL4 ob) KW.out)).trans rfl
        clear AL4 hb4 q0 q1 q2 q3 Q1 Q2 Q3 Q4 C0 C1 C2 C3 C4 HSD H1 H2 H3 H4
        cases t with
        | false =>
          have F : Hid (V = .tuple #[.int .u64 0, .bool false]) := by
            show _ = _
            rw [EV.out, HD2.out rfl, if_neg (by simp)]
          go_wp2_with fail
          go_ret2
          exact ⟨by rw [F.out]; rfl, hbF.alloc hbF.size _⟩
        | true =>
          have HJ : Hid (dec (wordS ⟨(k : Int) + 1, rd, a, b, imm⟩) = some ⟨jo, jr, ja, jb, ji⟩) := HD1.out rfl
          obtain ⟨nb, hnb⟩ : ∃ nb, (!(jo == (k : Int) + 1 && jr == rd && ja == a && jb == b && ji == imm)) = nb := ⟨_, rfl⟩
          have HNB : Hid ((!(jo == (k : Int) + 1 && jr == rd && ja == a && jb == b && ji == imm)) = nb) := hnb
          clear hnb
          cases nb with
          | true =>
            have F : Hid (V = .tuple #[.int .u64 0, .bool false]) := by
              show _ = _
              rw [EV.out, HJ.out, if_neg]
              intro h
              simp only [Option.some.injEq, Ins.mk.injEq] at h
              have := HNB.out
              simp [h.1, h.2.1, h.2.2.1, h.2.2.2.1, h.2.2.2.2] at this
            go_wp2_with (refine wpList_neqInst rfl _ _ _ rfl rfl rfl true HNB.out ?_)
            go_ret2
            exact ⟨by rw [F.out]; rfl, hbF.alloc hbF.size _⟩
          | false =>
            have F : Hid (V = .tuple #[.int .u64 (wordS ⟨(k : Int) + 1, rd, a, b, imm⟩), .bool true]) := by
              show _ = _
              rw [EV.out, HJ.out, if_pos]
              have := HNB.out
              simp at this
              simp only [Option.some.injEq, Ins.mk.injEq]
              exact ⟨this.1.1.1.1, this.1.1.1.2, this.1.1.2, this.1.2, this.2⟩
            go_wp2_with (refine wpList_neqInst rfl _ _ _ rfl rfl rfl false HNB.out ?_)
            go_ret2
            exact ⟨by rw [F.out, HY.out]; rfl, hbF.alloc hbF.size _⟩
      case w =>
        simp only [decide_eq_true_eq] at HF
        have HF2 := HF.out
        have n0 : bits .and .u64 (M) 31 = M % 32 := and_low (M) 5 (by omega) (by omega) (by decide)
        have x0 : IntKind.u64.wrap (M % 32 * 1048576) = M % 32 * 1048576 := wrapUe _ (by omega) (by omega)
        obtain ⟨e0, he0⟩ : ∃ e, bits .or .u64 c4 (M % 32 * 1048576) = e := ⟨_, rfl⟩
        have xm : IntKind.u64.wrap (m * 33554432) = m * 33554432 := wrapUe _ (by omega) (by omega)
        obtain ⟨em, hem⟩ : ∃ e, bits .or .u64 e0 (m * 33554432) = e := ⟨_, rfl⟩
        have HY : Hid (wordS ⟨(k : Int) + 1, rd, a, b, imm⟩ = em) := by
          show _ = _
          rw [HWS.out]; simp only [layS]; rw [HBS.out, HMI.out, he0, hem]
        have YR : 0 ≤ em ∧ em < 18446744073709551616 := by rw [← hem]; exact bits_range _ _ _
        obtain ⟨j, t, hD, hD1, hD2⟩ := decV_ins em
        have SD := specDecode_any em YR.1 YR.2
        rw [hD] at SD
        have HD1 : Hid (t = true → dec (wordS ⟨(k : Int) + 1, rd, a, b, imm⟩) = some j) := by
          show _ → _
          rw [HY.out]; exact hD1
        have HD2 : Hid (t = false → dec (wordS ⟨(k : Int) + 1, rd, a, b, imm⟩) = none) := by
          show _ → _
          rw [HY.out]; exact hD2
        obtain ⟨jo, jr, ja, jb, ji⟩ := j
        simp only at SD
        have HSD : Hid (∀ w : World, Calls Tryd.prog 54 #[.int .u64 em] w fun e w' => e = .returned (.tuple #[.agg #[.int .i64 jo, .int .i64 jr, .int .i64 ja, .int .i64 jb, .int .i64 ji], .bool t]) ∧ Below w.heap.size w w') := SD
        clear SD hD hD1 hD2 YR HF HF2
        simp only [Fm.str] at C1
        go_wp2_with fail
        refine (HSD.out _).mono ?_
        rintro e w4 ⟨rfl, hb4⟩
        have KW : Hid (w4.heap[w.heap.size]? = some (.cells #[.int .i64 ((k : Int) + 1), .int .i64 rd, .int .i64 a, .int .i64 b, .int .i64 imm] 30 (0, 0))) := keep_some hb4 (keep_some ((Below.refl _ _).alloc (Nat.le_refl _) _) K.out)
        have hbF : Below w.heap.size w w4 := hb0.trans ((((Below.refl w2.heap.size w2).alloc (Nat.le_refl _) _).trans (hb4.mono (by simp))).mono hb0.size)
        have AL4 : ∀ ob : Obj, Below w4.heap.size w4 (w4.alloc ob) := fun ob => (Below.refl _ _).alloc (Nat.le_refl _) ob
        have E0 : ∀ ob : Obj, (w4.alloc ob).cell? ⟨w.heap.size, 0, none⟩ = some (.int .i64 ((k : Int) + 1)) := fun ob => (cell_of_row _ _ _ _ _ _ (keep_some (AL4 ob) KW.out)).trans rfl
        have E1 : ∀ ob : Obj, (w4.alloc ob).cell? ⟨w.heap.size, 1, none⟩ = some (.int .i64 rd) := fun ob => (cell_of_row _ _ _ _ _ _ (keep_some (AL4 ob) KW.out)).trans rfl
        have E2 : ∀ ob : Obj, (w4.alloc ob).cell? ⟨w.heap.size, 2, none⟩ = some (.int .i64 a) := fun ob => (cell_of_row _ _ _ _ _ _ (keep_some (AL4 ob) KW.out)).trans rfl
        have E3 : ∀ ob : Obj, (w4.alloc ob).cell? ⟨w.heap.size, 3, none⟩ = some (.int .i64 b) := fun ob => (cell_of_row _ _ _ _ _ _ (keep_some (AL4 ob) KW.out)).trans rfl
        have E4 : ∀ ob : Obj, (w4.alloc ob).cell? ⟨w.heap.size, 4, none⟩ = some (.int .i64 imm) := fun ob => (cell_of_row _ _ _ _ _ _ (keep_some (AL4 ob) KW.out)).trans rfl
        clear AL4 hb4 q0 q1 q2 q3 Q1 Q2 Q3 Q4 C0 C1 C2 C3 C4 HSD H1 H2 H3 H4
        cases t with
        | false =>
          have F : Hid (V = .tuple #[.int .u64 0, .bool false]) := by
            show _ = _
            rw [EV.out, HD2.out rfl, if_neg (by simp)]
          go_wp2_with fail
          go_ret2
          exact ⟨by rw [F.out]; rfl, hbF.alloc hbF.size _⟩
        | true =>
          have HJ : Hid (dec (wordS ⟨(k : Int) + 1, rd, a, b, imm⟩) = some ⟨jo, jr, ja, jb, ji⟩) := HD1.out rfl
          obtain ⟨nb, hnb⟩ : ∃ nb, (!(jo == (k : Int) + 1 && jr == rd && ja == a && jb == b && ji == imm)) = nb := ⟨_, rfl⟩
          have HNB : Hid ((!(jo == (k : Int) + 1 && jr == rd && ja == a && jb == b && ji == imm)) = nb) := hnb
          clear hnb
          cases nb with
          | true =>
            have F : Hid (V = .tuple #[.int .u64 0, .bool false]) := by
              show _ = _
              rw [EV.out, HJ.out, if_neg]
              intro h
              simp only [Option.some.injEq, Ins.mk.injEq] at h
              have := HNB.out
              simp [h.1, h.2.1, h.2.2.1, h.2.2.2.1, h.2.2.2.2] at this
            go_wp2_with (refine wpList_neqInst rfl _ _ _ rfl rfl rfl true HNB.out ?_)
            go_ret2
            exact ⟨by rw [F.out]; rfl, hbF.alloc hbF.size _⟩
          | false =>
            have F : Hid (V = .tuple #[.int .u64 (wordS ⟨(k : Int) + 1, rd, a, b, imm⟩), .bool true]) := by
              show _ = _
              rw [EV.out, HJ.out, if_pos]
              have := HNB.out
              simp at this
              simp only [Option.some.injEq, Ins.mk.injEq]
              exact ⟨this.1.1.1.1, this.1.1.1.2, this.1.1.2, this.1.2, this.2⟩
            go_wp2_with (refine wpList_neqInst rfl _ _ _ rfl rfl rfl false HNB.out ?_)
            go_ret2
            exact ⟨by rw [F.out, HY.out]; rfl, hbF.alloc hbF.size _⟩
      case a =>
        simp only [decide_eq_true_eq] at HF
        have HF2 := HF.out
        have n0 : bits .and .u64 (M) 3 = M % 4 := and_low (M) 2 (by omega) (by omega) (by decide)
        have x0 : IntKind.u64.wrap (M % 4 * 33554432) = M % 4 * 33554432 := wrapUe _ (by omega) (by omega)
        obtain ⟨e0, he0⟩ : ∃ e, bits .or .u64 c4 (M % 4 * 33554432) = e := ⟨_, rfl⟩
        have xm : IntKind.u64.wrap (m * 134217728) = m * 134217728 := wrapUe _ (by omega) (by omega)
        obtain ⟨em, hem⟩ : ∃ e, bits .or .u64 e0 (m * 134217728) = e := ⟨_, rfl⟩
        have HY : Hid (wordS ⟨(k : Int) + 1, rd, a, b, imm⟩ = em) := by
          show _ = _
          rw [HWS.out]; simp only [layS]; rw [HBS.out, HMI.out, he0, hem]
        have YR : 0 ≤ em ∧ em < 18446744073709551616 := by rw [← hem]; exact bits_range _ _ _
        obtain ⟨j, t, hD, hD1, hD2⟩ := decV_ins em
        have SD := specDecode_any em YR.1 YR.2
        rw [hD] at SD
        have HD1 : Hid (t = true → dec (wordS ⟨(k : Int) + 1, rd, a, b, imm⟩) = some j) := by
          show _ → _
          rw [HY.out]; exact hD1
        have HD2 : Hid (t = false → dec (wordS ⟨(k : Int) + 1, rd, a, b, imm⟩) = none) := by
          show _ → _
          rw [HY.out]; exact hD2
        obtain ⟨jo, jr, ja, jb, ji⟩ := j
        simp only at SD
        have HSD : Hid (∀ w : World, Calls Tryd.prog 54 #[.int .u64 em] w fun e w' => e = .returned (.tuple #[.agg #[.int .i64 jo, .int .i64 jr, .int .i64 ja, .int .i64 jb, .int .i64 ji], .bool t]) ∧ Below w.heap.size w w') := SD
        clear SD hD hD1 hD2 YR HF HF2
        simp only [Fm.str] at C1
        go_wp2_with fail
        refine (HSD.out _).mono ?_
        rintro e w4 ⟨rfl, hb4⟩
        have KW : Hid (w4.heap[w.heap.size]? = some (.cells #[.int .i64 ((k : Int) + 1), .int .i64 rd, .int .i64 a, .int .i64 b, .int .i64 imm] 30 (0, 0))) := keep_some hb4 (keep_some ((Below.refl _ _).alloc (Nat.le_refl _) _) K.out)
        have hbF : Below w.heap.size w w4 := hb0.trans ((((Below.refl w2.heap.size w2).alloc (Nat.le_refl _) _).trans (hb4.mono (by simp))).mono hb0.size)
        have AL4 : ∀ ob : Obj, Below w4.heap.size w4 (w4.alloc ob) := fun ob => (Below.refl _ _).alloc (Nat.le_refl _) ob
        have E0 : ∀ ob : Obj, (w4.alloc ob).cell? ⟨w.heap.size, 0, none⟩ = some (.int .i64 ((k : Int) + 1)) := fun ob => (cell_of_row _ _ _ _ _ _ (keep_some (AL4 ob) KW.out)).trans rfl
        have E1 : ∀ ob : Obj, (w4.alloc ob).cell? ⟨w.heap.size, 1, none⟩ = some (.int .i64 rd) := fun ob => (cell_of_row _ _ _ _ _ _ (keep_some (AL4 ob) KW.out)).trans rfl
        have E2 : ∀ ob : Obj, (w4.alloc ob).cell? ⟨w.heap.size, 2, none⟩ = some (.int .i64 a) := fun ob => (cell_of_row _ _ _ _ _ _ (keep_some (AL4 ob) KW.out)).trans rfl
        have E3 : ∀ ob : Obj, (w4.alloc ob).cell? ⟨w.heap.size, 3, none⟩ = some (.int .i64 b) := fun ob => (cell_of_row _ _ _ _ _ _ (keep_some (AL4 ob) KW.out)).trans rfl
        have E4 : ∀ ob : Obj, (w4.alloc ob).cell? ⟨w.heap.size, 4, none⟩ = some (.int .i64 imm) := fun ob => (cell_of_row _ _ _ _ _ _ (keep_some (AL4 ob) KW.out)).trans rfl
        clear AL4 hb4 q0 q1 q2 q3 Q1 Q2 Q3 Q4 C0 C1 C2 C3 C4 HSD H1 H2 H3 H4
        cases t with
        | false =>
          have F : Hid (V = .tuple #[.int .u64 0, .bool false]) := by
            show _ = _
            rw [EV.out, HD2.out rfl, if_neg (by simp)]
          go_wp2_with fail
          go_ret2
          exact ⟨by rw [F.out]; rfl, hbF.alloc hbF.size _⟩
        | true =>
          have HJ : Hid (dec (wordS ⟨(k : Int) + 1, rd, a, b, imm⟩) = some ⟨jo, jr, ja, jb, ji⟩) := HD1.out rfl
          obtain ⟨nb, hnb⟩ : ∃ nb, (!(jo == (k : Int) + 1 && jr == rd && ja == a && jb == b && ji == imm)) = nb := ⟨_, rfl⟩
          have HNB : Hid ((!(jo == (k : Int) + 1 && jr == rd && ja == a && jb == b && ji == imm)) = nb) := hnb
          clear hnb
          cases nb with
          | true =>
            have F : Hid (V = .tuple #[.int .u64 0, .bool false]) := by
              show _ = _
              rw [EV.out, HJ.out, if_neg]
              intro h
              simp only [Option.some.injEq, Ins.mk.injEq] at h
              have := HNB.out
              simp [h.1, h.2.1, h.2.2.1, h.2.2.2.1, h.2.2.2.2] at this
            go_wp2_with (refine wpList_neqInst rfl _ _ _ rfl rfl rfl true HNB.out ?_)
            go_ret2
            exact ⟨by rw [F.out]; rfl, hbF.alloc hbF.size _⟩
          | false =>
            have F : Hid (V = .tuple #[.int .u64 (wordS ⟨(k : Int) + 1, rd, a, b, imm⟩), .bool true]) := by
              show _ = _
              rw [EV.out, HJ.out, if_pos]
              have := HNB.out
              simp at this
              simp only [Option.some.injEq, Ins.mk.injEq]
              exact ⟨this.1.1.1.1, this.1.1.1.2, this.1.1.2, this.1.2, this.2⟩
            go_wp2_with (refine wpList_neqInst rfl _ _ _ rfl rfl rfl false HNB.out ?_)
            go_ret2
            exact ⟨by rw [F.out, HY.out]; rfl, hbF.alloc hbF.size _⟩
      case s =>
        simp only [decide_eq_true_eq] at HF
        have HF2 := HF.out
        have n0 : bits .and .u64 (M) 31 = M % 32 := and_low (M) 5 (by omega) (by omega) (by decide)
        have x0 : IntKind.u64.wrap (M % 32 * 128) = M % 32 * 128 := wrapUe _ (by omega) (by omega)
        obtain ⟨e0, he0⟩ : ∃ e, bits .or .u64 c4 (M % 32 * 128) = e := ⟨_, rfl⟩
        have n1 : bits .and .u64 (M / 32) 127 = M / 32 % 128 := and_low (M / 32) 7 (by omega) (by omega) (by decide)
        have x1 : IntKind.u64.wrap (M / 32 % 128 * 33554432) = M / 32 % 128 * 33554432 := wrapUe _ (by omega) (by omega)
        obtain ⟨e1, he1⟩ : ∃ e, bits .or .u64 e0 (M / 32 % 128 * 33554432) = e := ⟨_, rfl⟩
        have HY : Hid (wordS ⟨(k : Int) + 1, rd, a, b, imm⟩ = e1) := by
          show _ = _
          rw [HWS.out]; simp only [layS]; rw [HBS.out, HMI.out, he0, he1]
        have YR : 0 ≤ e1 ∧ e1 < 18446744073709551616 := by rw [← he1]; exact bits_range _ _ _
        obtain ⟨j, t, hD, hD1, hD2⟩ := decV_ins e1
        have SD := specDecode_any e1 YR.1 YR.2
        rw [hD] at SD
        have HD1 : Hid (t = true → dec (wordS ⟨(k : Int) + 1, rd, a, b, imm⟩) = some j) := by
          show _ → _
          rw [HY.out]; exact hD1
        have HD2 : Hid (t = false → dec (wordS ⟨(k : Int) + 1, rd, a, b, imm⟩) = none) := by
          show _ → _
          rw [HY.out]; exact hD2
        obtain ⟨jo, jr, ja, jb, ji⟩ := j
        simp only at SD
        have HSD : Hid (∀ w : World, Calls Tryd.prog 54 #[.int .u64 e1] w fun e w' => e = .returned (.tuple #[.agg #[.int .i64 jo, .int .i64 jr, .int .i64 ja, .int .i64 jb, .int .i64 ji], .bool t]) ∧ Below w.heap.size w w') := SD
        clear SD hD hD1 hD2 YR HF HF2
        simp only [Fm.str] at C1
        go_wp2_with fail
        refine (HSD.out _).mono ?_
        rintro e w4 ⟨rfl, hb4⟩
        have KW : Hid (w4.heap[w.heap.size]? = some (.cells #[.int .i64 ((k : Int) + 1), .int .i64 rd, .int .i64 a, .int .i64 b, .int .i64 imm] 30 (0, 0))) := keep_some hb4 (keep_some ((Below.refl _ _).alloc (Nat.le_refl _) _) K.out)
        have hbF : Below w.heap.size w w4 := hb0.trans ((((Below.refl w2.heap.size w2).alloc (Nat.le_refl _) _).trans (hb4.mono (by simp))).mono hb0.size)
        have AL4 : ∀ ob : Obj, Below w4.heap.size w4 (w4.alloc ob) := fun ob => (Below.refl _ _).alloc (Nat.le_refl _) ob
        have E0 : ∀ ob : Obj, (w4.alloc ob).cell? ⟨w.heap.size, 0, none⟩ = some (.int .i64 ((k : Int) + 1)) := fun ob => (cell_of_row _ _ _ _ _ _ (keep_some (AL4 ob) KW.out)).trans rfl
        have E1 : ∀ ob : Obj, (w4.alloc ob).cell? ⟨w.heap.size, 1, none⟩ = some (.int .i64 rd) := fun ob => (cell_of_row _ _ _ _ _ _ (keep_some (AL4 ob) KW.out)).trans rfl
        have E2 : ∀ ob : Obj, (w4.alloc ob).cell? ⟨w.heap.size, 2, none⟩ = some (.int .i64 a) := fun ob => (cell_of_row _ _ _ _ _ _ (keep_some (AL4 ob) KW.out)).trans rfl
        have E3 : ∀ ob : Obj, (w4.alloc ob).cell? ⟨w.heap.size, 3, none⟩ = some (.int .i64 b) := fun ob => (cell_of_row _ _ _ _ _ _ (keep_some (AL4 ob) KW.out)).trans rfl
        have E4 : ∀ ob : Obj, (w4.alloc ob).cell? ⟨w.heap.size, 4, none⟩ = some (.int .i64 imm) := fun ob => (cell_of_row _ _ _ _ _ _ (keep_some (AL4 ob) KW.out)).trans rfl
        clear AL4 hb4 q0 q1 q2 q3 Q1 Q2 Q3 Q4 C0 C1 C2 C3 C4 HSD H1 H2 H3 H4
        cases t with
        | false =>
          have F : Hid (V = .tuple #[.int .u64 0, .bool false]) := by
            show _ = _
            rw [EV.out, HD2.out rfl, if_neg (by simp)]
          go_wp2_with fail
          go_ret2
          exact ⟨by rw [F.out]; rfl, hbF.alloc hbF.size _⟩
        | true =>
          have HJ : Hid (dec (wordS ⟨(k : Int) + 1, rd, a, b, imm⟩) = some ⟨jo, jr, ja, jb, ji⟩) := HD1.out rfl
          obtain ⟨nb, hnb⟩ : ∃ nb, (!(jo == (k : Int) + 1 && jr == rd && ja == a && jb == b && ji == imm)) = nb := ⟨_, rfl⟩
          have HNB : Hid ((!(jo == (k : Int) + 1 && jr == rd && ja == a && jb == b && ji == imm)) = nb) := hnb
          clear hnb
          cases nb with
          | true =>
            have F : Hid (V = .tuple #[.int .u64 0, .bool false]) := by
              show _ = _
              rw [EV.out, HJ.out, if_neg]
              intro h
              simp only [Option.some.injEq, Ins.mk.injEq] at h
              have := HNB.out
              simp [h.1, h.2.1, h.2.2.1, h.2.2.2.1, h.2.2.2.2] at this
            go_wp2_with (refine wpList_neqInst rfl _ _ _ rfl rfl rfl true HNB.out ?_)
            go_ret2
            exact ⟨by rw [F.out]; rfl, hbF.alloc hbF.size _⟩
          | false =>
            have F : Hid (V = .tuple #[.int .u64 (wordS ⟨(k : Int) + 1, rd, a, b, imm⟩), .bool true]) := by
              show _ = _
              rw [EV.out, HJ.out, if_pos]
              have := HNB.out
              simp at this
              simp only [Option.some.injEq, Ins.mk.injEq]
              exact ⟨this.1.1.1.1, this.1.1.1.2, this.1.1.2, this.1.2, this.2⟩
            go_wp2_with (refine wpList_neqInst rfl _ _ _ rfl rfl rfl false HNB.out ?_)
            go_ret2
            exact ⟨by rw [F.out, HY.out]; rfl, hbF.alloc hbF.size _⟩
      case b =>
        simp only [decide_eq_true_eq] at HF
        have HF2 := HF.out
        have n0 : bits .and .u64 (M / 2048) 1 = M / 2048 % 2 := and_low (M / 2048) 1 (by omega) (by omega) (by decide)
        have x0 : IntKind.u64.wrap (M / 2048 % 2 * 128) = M / 2048 % 2 * 128 := wrapUe _ (by omega) (by omega)
        obtain ⟨e0, he0⟩ : ∃ e, bits .or .u64 c4 (M / 2048 % 2 * 128) = e := ⟨_, rfl⟩
        have n1 : bits .and .u64 (M / 2) 15 = M / 2 % 16 := and_low (M / 2) 4 (by omega) (by omega) (by decide)
        have x1 : IntKind.u64.wrap (M / 2 % 16 * 256) = M / 2 % 16 * 256 := wrapUe _ (by omega) (by omega)
        obtain ⟨e1, he1⟩ : ∃ e, bits .or .u64 e0 (M / 2 % 16 * 256) = e := ⟨_, rfl⟩
        have n2 : bits .and .u64 (M / 32) 63 = M / 32 % 64 := and_low (M / 32) 6 (by omega) (by omega) (by decide)
        have x2 : IntKind.u64.wrap (M / 32 % 64 * 33554432) = M / 32 % 64 * 33554432 := wrapUe _ (by omega) (by omega)
        obtain ⟨e2, he2⟩ : ∃ e, bits .or .u64 e1 (M / 32 % 64 * 33554432) = e := ⟨_, rfl⟩
        have n3 : bits .and .u64 (M / 4096) 1 = M / 4096 % 2 := and_low (M / 4096) 1 (by omega) (by omega) (by decide)
        have x3 : IntKind.u64.wrap (M / 4096 % 2 * 2147483648) = M / 4096 % 2 * 2147483648 := wrapUe _ (by omega) (by omega)
        obtain ⟨e3, he3⟩ : ∃ e, bits .or .u64 e2 (M / 4096 % 2 * 2147483648) = e := ⟨_, rfl⟩
        have HY : Hid (wordS ⟨(k : Int) + 1, rd, a, b, imm⟩ = e3) := by
          show _ = _
          rw [HWS.out]; simp only [layS]; rw [HBS.out, HMI.out, he0, he1, he2, he3]
        have YR : 0 ≤ e3 ∧ e3 < 18446744073709551616 := by rw [← he3]; exact bits_range _ _ _
        obtain ⟨j, t, hD, hD1, hD2⟩ := decV_ins e3
        have SD := specDecode_any e3 YR.1 YR.2
        rw [hD] at SD
        have HD1 : Hid (t = true → dec (wordS ⟨(k : Int) + 1, rd, a, b, imm⟩) = some j) := by
          show _ → _
          rw [HY.out]; exact hD1
        have HD2 : Hid (t = false → dec (wordS ⟨(k : Int) + 1, rd, a, b, imm⟩) = none) := by
          show _ → _
          rw [HY.out]; exact hD2
        obtain ⟨jo, jr, ja, jb, ji⟩ := j
        simp only at SD
        have HSD : Hid (∀ w : World, Calls Tryd.prog 54 #[.int .u64 e3] w fun e w' => e = .returned (.tuple #[.agg #[.int .i64 jo, .int .i64 jr, .int .i64 ja, .int .i64 jb, .int .i64 ji], .bool t]) ∧ Below w.heap.size w w') := SD
        clear SD hD hD1 hD2 YR HF HF2
        simp only [Fm.str] at C1
        go_wp2_with fail
        refine (HSD.out _).mono ?_
        rintro e w4 ⟨rfl, hb4⟩
        have KW : Hid (w4.heap[w.heap.size]? = some (.cells #[.int .i64 ((k : Int) + 1), .int .i64 rd, .int .i64 a, .int .i64 b, .int .i64 imm] 30 (0, 0))) := keep_some hb4 (keep_some ((Below.refl _ _).alloc (Nat.le_refl _) _) K.out)
        have hbF : Below w.heap.size w w4 := hb0.trans ((((Below.refl w2.heap.size w2).alloc (Nat.le_refl _) _).trans (hb4.mono (by simp))).mono hb0.size)
        have AL4 : ∀ ob : Obj, Below w4.heap.size w4 (w4.alloc ob) := fun ob => (Below.refl _ _).alloc (Nat.le_refl _) ob
        have E0 : ∀ ob : Obj, (w4.alloc ob).cell? ⟨w.heap.size, 0, none⟩ = some (.int .i64 ((k : Int) + 1)) := fun ob => (cell_of_row _ _ _ _ _ _ (keep_some (AL4 ob) KW.out)).trans rfl
        have E1 : ∀ ob : Obj, (w4.alloc ob).cell? ⟨w.heap.size, 1, none⟩ = some (.int .i64 rd) := fun ob => (cell_of_row _ _ _ _ _ _ (keep_some (AL4 ob) KW.out)).trans rfl
        have E2 : ∀ ob : Obj, (w4.alloc ob).cell? ⟨w.heap.size, 2, none⟩ = some (.int .i64 a) := fun ob => (cell_of_row _ _ _ _ _ _ (keep_some (AL4 ob) KW.out)).trans rfl
        have E3 : ∀ ob : Obj, (w4.alloc ob).cell? ⟨w.heap.size, 3, none⟩ = some (.int .i64 b) := fun ob => (cell_of_row _ _ _ _ _ _ (keep_some (AL4 ob) KW.out)).trans rfl
        have E4 : ∀ ob : Obj, (w4.alloc ob).cell? ⟨w.heap.size, 4, none⟩ = some (.int .i64 imm) := fun ob => (cell_of_row _ _ _ _ _ _ (keep_some (AL4 ob) KW.out)).trans rfl
        clear AL4 hb4 q0 q1 q2 q3 Q1 Q2 Q3 Q4 C0 C1 C2 C3 C4 HSD H1 H2 H3 H4
        cases t with
        | false =>
          have F : Hid (V = .tuple #[.int .u64 0, .bool false]) := by
            show _ = _
            rw [EV.out, HD2.out rfl, if_neg (by simp)]
          go_wp2_with fail
          go_ret2
          exact ⟨by rw [F.out]; rfl, hbF.alloc hbF.size _⟩
        | true =>
          have HJ : Hid (dec (wordS ⟨(k : Int) + 1, rd, a, b, imm⟩) = some ⟨jo, jr, ja, jb, ji⟩) := HD1.out rfl
          obtain ⟨nb, hnb⟩ : ∃ nb, (!(jo == (k : Int) + 1 && jr == rd && ja == a && jb == b && ji == imm)) = nb := ⟨_, rfl⟩
          have HNB : Hid ((!(jo == (k : Int) + 1 && jr == rd && ja == a && jb == b && ji == imm)) = nb) := hnb
          clear hnb
          cases nb with
          | true =>
            have F : Hid (V = .tuple #[.int .u64 0, .bool false]) := by
              show _ = _
              rw [EV.out, HJ.out, if_neg]
              intro h
              simp only [Option.some.injEq, Ins.mk.injEq] at h
              have := HNB.out
              simp [h.1, h.2.1, h.2.2.1, h.2.2.2.1, h.2.2.2.2] at this
            go_wp2_with (refine wpList_neqInst rfl _ _ _ rfl rfl rfl true HNB.out ?_)
            go_ret2
            exact ⟨by rw [F.out]; rfl, hbF.alloc hbF.size _⟩
          | false =>
            have F : Hid (V = .tuple #[.int .u64 (wordS ⟨(k : Int) + 1, rd, a, b, imm⟩), .bool true]) := by
              show _ = _
              rw [EV.out, HJ.out, if_pos]
              have := HNB.out
              simp at this
              simp only [Option.some.injEq, Ins.mk.injEq]
              exact ⟨this.1.1.1.1, this.1.1.1.2, this.1.1.2, this.1.2, this.2⟩
            go_wp2_with (refine wpList_neqInst rfl _ _ _ rfl rfl rfl false HNB.out ?_)
            go_ret2
            exact ⟨by rw [F.out, HY.out]; rfl, hbF.alloc hbF.size _⟩
      case u =>
        simp only [decide_eq_true_eq] at HF
        have HF2 := HF.out
        have n0 : bits .and .u64 (M / 4096) 1048575 = M / 4096 % 1048576 := and_low (M / 4096) 20 (by omega) (by omega) (by decide)
        have x0 : IntKind.u64.wrap (M / 4096 % 1048576 * 4096) = M / 4096 % 1048576 * 4096 := wrapUe _ (by omega) (by omega)
        obtain ⟨e0, he0⟩ : ∃ e, bits .or .u64 c4 (M / 4096 % 1048576 * 4096) = e := ⟨_, rfl⟩
        have HY : Hid (wordS ⟨(k : Int) + 1, rd, a, b, imm⟩ = e0) := by
          show _ = _
          rw [HWS.out]; simp only [layS]; rw [HBS.out, HMI.out, he0]
        have YR : 0 ≤ e0 ∧ e0 < 18446744073709551616 := by rw [← he0]; exact bits_range _ _ _
        obtain ⟨j, t, hD, hD1, hD2⟩ := decV_ins e0
        have SD := specDecode_any e0 YR.1 YR.2
        rw [hD] at SD
        have HD1 : Hid (t = true → dec (wordS ⟨(k : Int) + 1, rd, a, b, imm⟩) = some j) := by
          show _ → _
          rw [HY.out]; exact hD1
        have HD2 : Hid (t = false → dec (wordS ⟨(k : Int) + 1, rd, a, b, imm⟩) = none) := by
          show _ → _
          rw [HY.out]; exact hD2
        obtain ⟨jo, jr, ja, jb, ji⟩ := j
        simp only at SD
        have HSD : Hid (∀ w : World, Calls Tryd.prog 54 #[.int .u64 e0] w fun e w' => e = .returned (.tuple #[.agg #[.int .i64 jo, .int .i64 jr, .int .i64 ja, .int .i64 jb, .int .i64 ji], .bool t]) ∧ Below w.heap.size w w') := SD
        clear SD hD hD1 hD2 YR HF HF2
        simp only [Fm.str] at C1
        go_wp2_with fail
        refine (HSD.out _).mono ?_
        rintro e w4 ⟨rfl, hb4⟩
        have KW : Hid (w4.heap[w.heap.size]? = some (.cells #[.int .i64 ((k : Int) + 1), .int .i64 rd, .int .i64 a, .int .i64 b, .int .i64 imm] 30 (0, 0))) := keep_some hb4 (keep_some ((Below.refl _ _).alloc (Nat.le_refl _) _) K.out)
        have hbF : Below w.heap.size w w4 := hb0.trans ((((Below.refl w2.heap.size w2).alloc (Nat.le_refl _) _).trans (hb4.mono (by simp))).mono hb0.size)
        have AL4 : ∀ ob : Obj, Below w4.heap.size w4 (w4.alloc ob) := fun ob => (Below.refl _ _).alloc (Nat.le_refl _) ob
        have E0 : ∀ ob : Obj, (w4.alloc ob).cell? ⟨w.heap.size, 0, none⟩ = some (.int .i64 ((k : Int) + 1)) := fun ob => (cell_of_row _ _ _ _ _ _ (keep_some (AL4 ob) KW.out)).trans rfl
        have E1 : ∀ ob : Obj, (w4.alloc ob).cell? ⟨w.heap.size, 1, none⟩ = some (.int .i64 rd) := fun ob => (cell_of_row _ _ _ _ _ _ (keep_some (AL4 ob) KW.out)).trans rfl
        have E2 : ∀ ob : Obj, (w4.alloc ob).cell? ⟨w.heap.size, 2, none⟩ = some (.int .i64 a) := fun ob => (cell_of_row _ _ _ _ _ _ (keep_some (AL4 ob) KW.out)).trans rfl
        have E3 : ∀ ob : Obj, (w4.alloc ob).cell? ⟨w.heap.size, 3, none⟩ = some (.int .i64 b) := fun ob => (cell_of_row _ _ _ _ _ _ (keep_some (AL4 ob) KW.out)).trans rfl
        have E4 : ∀ ob : Obj, (w4.alloc ob).cell? ⟨w.heap.size, 4, none⟩ = some (.int .i64 imm) := fun ob => (cell_of_row _ _ _ _ _ _ (keep_some (AL4 ob) KW.out)).trans rfl
        clear AL4 hb4 q0 q1 q2 q3 Q1 Q2 Q3 Q4 C0 C1 C2 C3 C4 HSD H1 H2 H3 H4
        cases t with
        | false =>
          have F : Hid (V = .tuple #[.int .u64 0, .bool false]) := by
            show _ = _
            rw [EV.out, HD2.out rfl, if_neg (by simp)]
          go_wp2_with fail
          go_ret2
          exact ⟨by rw [F.out]; rfl, hbF.alloc hbF.size _⟩
        | true =>
          have HJ : Hid (dec (wordS ⟨(k : Int) + 1, rd, a, b, imm⟩) = some ⟨jo, jr, ja, jb, ji⟩) := HD1.out rfl
          obtain ⟨nb, hnb⟩ : ∃ nb, (!(jo == (k : Int) + 1 && jr == rd && ja == a && jb == b && ji == imm)) = nb := ⟨_, rfl⟩
          have HNB : Hid ((!(jo == (k : Int) + 1 && jr == rd && ja == a && jb == b && ji == imm)) = nb) := hnb
          clear hnb
          cases nb with
          | true =>
            have F : Hid (V = .tuple #[.int .u64 0, .bool false]) := by
              show _ = _
              rw [EV.out, HJ.out, if_neg]
              intro h
              simp only [Option.some.injEq, Ins.mk.injEq] at h
              have := HNB.out
              simp [h.1, h.2.1, h.2.2.1, h.2.2.2.1, h.2.2.2.2] at this
            go_wp2_with (refine wpList_neqInst rfl _ _ _ rfl rfl rfl true HNB.out ?_)
            go_ret2
            exact ⟨by rw [F.out]; rfl, hbF.alloc hbF.size _⟩
          | false =>
            have F : Hid (V = .tuple #[.int .u64 (wordS ⟨(k : Int) + 1, rd, a, b, imm⟩), .bool true]) := by
              show _ = _
              rw [EV.out, HJ.out, if_pos]
              have := HNB.out
              simp at this
              simp only [Option.some.injEq, Ins.mk.injEq]
              exact ⟨this.1.1.1.1, this.1.1.1.2, this.1.1.2, this.1.2, this.2⟩
            go_wp2_with (refine wpList_neqInst rfl _ _ _ rfl rfl rfl false HNB.out ?_)
            go_ret2
            exact ⟨by rw [F.out, HY.out]; rfl, hbF.alloc hbF.size _⟩
      case j =>
        simp only [decide_eq_true_eq] at HF
        have HF2 := HF.out
        have n0 : bits .and .u64 (M / 4096) 255 = M / 4096 % 256 := and_low (M / 4096) 8 (by omega) (by omega) (by decide)
        have x0 : IntKind.u64.wrap (M / 4096 % 256 * 4096) = M / 4096 % 256 * 4096 := wrapUe _ (by omega) (by omega)
        obtain ⟨e0, he0⟩ : ∃ e, bits .or .u64 c4 (M / 4096 % 256 * 4096) = e := ⟨_, rfl⟩
        have n1 : bits .and .u64 (M / 2048) 1 = M / 2048 % 2 := and_low (M / 2048) 1 (by omega) (by omega) (by decide)
        have x1 : IntKind.u64.wrap (M / 2048 % 2 * 1048576) = M / 2048 % 2 * 1048576 := wrapUe _ (by omega) (by omega)
        obtain ⟨e1, he1⟩ : ∃ e, bits .or .u64 e0 (M / 2048 % 2 * 1048576) = e := ⟨_, rfl⟩
        have n2 : bits .and .u64 (M / 2) 1023 = M / 2 % 1024 := and_low (M / 2) 10 (by omega) (by omega) (by decide)
        have x2 : IntKind.u64.wrap (M / 2 % 1024 * 2097152) = M / 2 % 1024 * 2097152 := wrapUe _ (by omega) (by omega)
        obtain ⟨e2, he2⟩ : ∃ e, bits .or .u64 e1 (M / 2 % 1024 * 2097152) = e := ⟨_, rfl⟩
        have n3 : bits .and .u64 (M / 1048576) 1 = M / 1048576 % 2 := and_low (M / 1048576) 1 (by omega) (by omega) (by decide)
        have x3 : IntKind.u64.wrap (M / 1048576 % 2 * 2147483648) = M / 1048576 % 2 * 2147483648 := wrapUe _ (by omega) (by omega)
        obtain ⟨e3, he3⟩ : ∃ e, bits .or .u64 e2 (M / 1048576 % 2 * 2147483648) = e := ⟨_, rfl⟩
        have HY : Hid (wordS ⟨(k : Int) + 1, rd, a, b, imm⟩ = e3) := by
          show _ = _
          rw [HWS.out]; simp only [layS]; rw [HBS.out, HMI.out, he0, he1, he2, he3]
        have YR : 0 ≤ e3 ∧ e3 < 18446744073709551616 := by rw [← he3]; exact bits_range _ _ _
        obtain ⟨j, t, hD, hD1, hD2⟩ := decV_ins e3
        have SD := specDecode_any e3 YR.1 YR.2
        rw [hD] at SD
        have HD1 : Hid (t = true → dec (wordS ⟨(k : Int) + 1, rd, a, b, imm⟩) = some j) := by
          show _ → _
          rw [HY.out]; exact hD1
        have HD2 : Hid (t = false → dec (wordS ⟨(k : Int) + 1, rd, a, b, imm⟩) = none) := by
          show _ → _
          rw [HY.out]; exact hD2
        obtain ⟨jo, jr, ja, jb, ji⟩ := j
        simp only at SD
        have HSD : Hid (∀ w : World, Calls Tryd.prog 54 #[.int .u64 e3] w fun e w' => e = .returned (.tuple #[.agg #[.int .i64 jo, .int .i64 jr, .int .i64 ja, .int .i64 jb, .int .i64 ji], .bool t]) ∧ Below w.heap.size w w') := SD
        clear SD hD hD1 hD2 YR HF HF2
        simp only [Fm.str] at C1
        go_wp2_with fail
        refine (HSD.out _).mono ?_
        rintro e w4 ⟨rfl, hb4⟩
        have KW : Hid (w4.heap[w.heap.size]? = some (.cells #[.int .i64 ((k : Int) + 1), .int .i64 rd, .int .i64 a, .int .i64 b, .int .i64 imm] 30 (0, 0))) := keep_some hb4 (keep_some ((Below.refl _ _).alloc (Nat.le_refl _) _) K.out)
        have hbF : Below w.heap.size w w4 := hb0.trans ((((Below.refl w2.heap.size w2).alloc (Nat.le_refl _) _).trans (hb4.mono (by simp))).mono hb0.size)
        have AL4 : ∀ ob : Obj, Below w4.heap.size w4 (w4.alloc ob) := fun ob => (Below.refl _ _).alloc (Nat.le_refl _) ob
        have E0 : ∀ ob : Obj, (w4.alloc ob).cell? ⟨w.heap.size, 0, none⟩ = some (.int .i64 ((k : Int) + 1)) := fun ob => (cell_of_row _ _ _ _ _ _ (keep_some (AL4 ob) KW.out)).trans rfl
        have E1 : ∀ ob : Obj, (w4.alloc ob).cell? ⟨w.heap.size, 1, none⟩ = some (.int .i64 rd) := fun ob => (cell_of_row _ _ _ _ _ _ (keep_some (AL4 ob) KW.out)).trans rfl
        have E2 : ∀ ob : Obj, (w4.alloc ob).cell? ⟨w.heap.size, 2, none⟩ = some (.int .i64 a) := fun ob => (cell_of_row _ _ _ _ _ _ (keep_some (AL4 ob) KW.out)).trans rfl
        have E3 : ∀ ob : Obj, (w4.alloc ob).cell? ⟨w.heap.size, 3, none⟩ = some (.int .i64 b) := fun ob => (cell_of_row _ _ _ _ _ _ (keep_some (AL4 ob) KW.out)).trans rfl
        have E4 : ∀ ob : Obj, (w4.alloc ob).cell? ⟨w.heap.size, 4, none⟩ = some (.int .i64 imm) := fun ob => (cell_of_row _ _ _ _ _ _ (keep_some (AL4 ob) KW.out)).trans rfl
        clear AL4 hb4 q0 q1 q2 q3 Q1 Q2 Q3 Q4 C0 C1 C2 C3 C4 HSD H1 H2 H3 H4
        cases t with
        | false =>
          have F : Hid (V = .tuple #[.int .u64 0, .bool false]) := by
            show _ = _
            rw [EV.out, HD2.out rfl, if_neg (by simp)]
          go_wp2_with fail
          go_ret2
          exact ⟨by rw [F.out]; rfl, hbF.alloc hbF.size _⟩
        | true =>
          have HJ : Hid (dec (wordS ⟨(k : Int) + 1, rd, a, b, imm⟩) = some ⟨jo, jr, ja, jb, ji⟩) := HD1.out rfl
          obtain ⟨nb, hnb⟩ : ∃ nb, (!(jo == (k : Int) + 1 && jr == rd && ja == a && jb == b && ji == imm)) = nb := ⟨_, rfl⟩
          have HNB : Hid ((!(jo == (k : Int) + 1 && jr == rd && ja == a && jb == b && ji == imm)) = nb) := hnb
          clear hnb
          cases nb with
          | true =>
            have F : Hid (V = .tuple #[.int .u64 0, .bool false]) := by
              show _ = _
              rw [EV.out, HJ.out, if_neg]
              intro h
              simp only [Option.some.injEq, Ins.mk.injEq] at h
              have := HNB.out
              simp [h.1, h.2.1, h.2.2.1, h.2.2.2.1, h.2.2.2.2] at this
            go_wp2_with (refine wpList_neqInst rfl _ _ _ rfl rfl rfl true HNB.out ?_)
            go_ret2
            exact ⟨by rw [F.out]; rfl, hbF.alloc hbF.size _⟩
          | false =>
            have F : Hid (V = .tuple #[.int .u64 (wordS ⟨(k : Int) + 1, rd, a, b, imm⟩), .bool true]) := by
              show _ = _
              rw [EV.out, HJ.out, if_pos]
              have := HNB.out
              simp at this
              simp only [Option.some.injEq, Ins.mk.injEq]
              exact ⟨this.1.1.1.1, this.1.1.1.2, this.1.1.2, this.1.2, this.2⟩
            go_wp2_with (refine wpList_neqInst rfl _ _ _ rfl rfl rfl false HNB.out ?_)
            go_ret2
            exact ⟨by rw [F.out, HY.out]; rfl, hbF.alloc hbF.size _⟩
      case r =>
        simp only [decide_eq_true_eq] at HF
        have HF2 := HF.out
        have xm : IntKind.u64.wrap (m * 33554432) = m * 33554432 := wrapUe _ (by omega) (by omega)
        obtain ⟨em, hem⟩ : ∃ e, bits .or .u64 c4 (m * 33554432) = e := ⟨_, rfl⟩
        have HY : Hid (wordS ⟨(k : Int) + 1, rd, a, b, imm⟩ = em) := by
          show _ = _
          rw [HWS.out]; simp only [layS]; rw [HBS.out, hem]
        have YR : 0 ≤ em ∧ em < 18446744073709551616 := by rw [← hem]; exact bits_range _ _ _
        obtain ⟨j, t, hD, hD1, hD2⟩ := decV_ins em
        have SD := specDecode_any em YR.1 YR.2
        rw [hD] at SD
        have HD1 : Hid (t = true → dec (wordS ⟨(k : Int) + 1, rd, a, b, imm⟩) = some j) := by
          show _ → _
          rw [HY.out]; exact hD1
        have HD2 : Hid (t = false → dec (wordS ⟨(k : Int) + 1, rd, a, b, imm⟩) = none) := by
          show _ → _
          rw [HY.out]; exact hD2
        obtain ⟨jo, jr, ja, jb, ji⟩ := j
        simp only at SD
        have HSD : Hid (∀ w : World, Calls Tryd.prog 54 #[.int .u64 em] w fun e w' => e = .returned (.tuple #[.agg #[.int .i64 jo, .int .i64 jr, .int .i64 ja, .int .i64 jb, .int .i64 ji], .bool t]) ∧ Below w.heap.size w w') := SD
        clear SD hD hD1 hD2 YR HF HF2
        simp only [Fm.str] at C1
        go_wp2_with fail
        refine (HSD.out _).mono ?_
        rintro e w4 ⟨rfl, hb4⟩
        have KW : Hid (w4.heap[w.heap.size]? = some (.cells #[.int .i64 ((k : Int) + 1), .int .i64 rd, .int .i64 a, .int .i64 b, .int .i64 imm] 30 (0, 0))) := keep_some hb4 (keep_some ((Below.refl _ _).alloc (Nat.le_refl _) _) K.out)
        have hbF : Below w.heap.size w w4 := hb0.trans ((((Below.refl w2.heap.size w2).alloc (Nat.le_refl _) _).trans (hb4.mono (by simp))).mono hb0.size)
        have AL4 : ∀ ob : Obj, Below w4.heap.size w4 (w4.alloc ob) := fun ob => (Below.refl _ _).alloc (Nat.le_refl _) ob
        have E0 : ∀ ob : Obj, (w4.alloc ob).cell? ⟨w.heap.size, 0, none⟩ = some (.int .i64 ((k : Int) + 1)) := fun ob => (cell_of_row _ _ _ _ _ _ (keep_some (AL4 ob) KW.out)).trans rfl
        have E1 : ∀ ob : Obj, (w4.alloc ob).cell? ⟨w.heap.size, 1, none⟩ = some (.int .i64 rd) := fun ob => (cell_of_row _ _ _ _ _ _ (keep_some (AL4 ob) KW.out)).trans rfl
        have E2 : ∀ ob : Obj, (w4.alloc ob).cell? ⟨w.heap.size, 2, none⟩ = some (.int .i64 a) := fun ob => (cell_of_row _ _ _ _ _ _ (keep_some (AL4 ob) KW.out)).trans rfl
        have E3 : ∀ ob : Obj, (w4.alloc ob).cell? ⟨w.heap.size, 3, none⟩ = some (.int .i64 b) := fun ob => (cell_of_row _ _ _ _ _ _ (keep_some (AL4 ob) KW.out)).trans rfl
        have E4 : ∀ ob : Obj, (w4.alloc ob).cell? ⟨w.heap.size, 4, none⟩ = some (.int .i64 imm) := fun ob => (cell_of_row _ _ _ _ _ _ (keep_some (AL4 ob) KW.out)).trans rfl
        clear AL4 hb4 q0 q1 q2 q3 Q1 Q2 Q3 Q4 C0 C1 C2 C3 C4 HSD H1 H2 H3 H4
        cases t with
        | false =>
          have F : Hid (V = .tuple #[.int .u64 0, .bool false]) := by
            show _ = _
            rw [EV.out, HD2.out rfl, if_neg (by simp)]
          go_wp2_with fail
          go_ret2
          exact ⟨by rw [F.out]; rfl, hbF.alloc hbF.size _⟩
        | true =>
          have HJ : Hid (dec (wordS ⟨(k : Int) + 1, rd, a, b, imm⟩) = some ⟨jo, jr, ja, jb, ji⟩) := HD1.out rfl
          obtain ⟨nb, hnb⟩ : ∃ nb, (!(jo == (k : Int) + 1 && jr == rd && ja == a && jb == b && ji == imm)) = nb := ⟨_, rfl⟩
          have HNB : Hid ((!(jo == (k : Int) + 1 && jr == rd && ja == a && jb == b && ji == imm)) = nb) := hnb
          clear hnb
          cases nb with
          | true =>
            have F : Hid (V = .tuple #[.int .u64 0, .bool false]) := by
              show _ = _
              rw [EV.out, HJ.out, if_neg]
              intro h
              simp only [Option.some.injEq, Ins.mk.injEq] at h
              have := HNB.out
              simp [h.1, h.2.1, h.2.2.1, h.2.2.2.1, h.2.2.2.2] at this
            go_wp2_with (refine wpList_neqInst rfl _ _ _ rfl rfl rfl true HNB.out ?_)
            go_ret2
            exact ⟨by rw [F.out]; rfl, hbF.alloc hbF.size _⟩
          | false =>
            have F : Hid (V = .tuple #[.int .u64 (wordS ⟨(k : Int) + 1, rd, a, b, imm⟩), .bool true]) := by
              show _ = _
              rw [EV.out, HJ.out, if_pos]
              have := HNB.out
              simp at this
              simp only [Option.some.injEq, Ins.mk.injEq]
              exact ⟨this.1.1.1.1, this.1.1.1.2, this.1.1.2, this.1.2, this.2⟩
            go_wp2_with (refine wpList_neqInst rfl _ _ _ rfl rfl rfl false HNB.out ?_)
            go_ret2
            exact ⟨by rw [F.out, HY.out]; rfl, hbF.alloc hbF.size _⟩
      case x =>
        simp only [decide_eq_true_eq] at HF
        have HF2 := HF.out
        have xm : IntKind.u64.wrap (m * 1048576) = m * 1048576 := wrapUe _ (by omega) (by omega)
        obtain ⟨em, hem⟩ : ∃ e, bits .or .u64 c4 (m * 1048576) = e := ⟨_, rfl⟩
        have HY : Hid (wordS ⟨(k : Int) + 1, rd, a, b, imm⟩ = em) := by
          show _ = _
          rw [HWS.out]; simp only [layS]; rw [HBS.out, hem]
        have YR : 0 ≤ em ∧ em < 18446744073709551616 := by rw [← hem]; exact bits_range _ _ _
        obtain ⟨j, t, hD, hD1, hD2⟩ := decV_ins em
        have SD := specDecode_any em YR.1 YR.2
        rw [hD] at SD
        have HD1 : Hid (t = true → dec (wordS ⟨(k : Int) + 1, rd, a, b, imm⟩) = some j) := by
          show _ → _
          rw [HY.out]; exact hD1
        have HD2 : Hid (t = false → dec (wordS ⟨(k : Int) + 1, rd, a, b, imm⟩) = none) := by
          show _ → _
          rw [HY.out]; exact hD2
        obtain ⟨jo, jr, ja, jb, ji⟩ := j
        simp only at SD
        have HSD : Hid (∀ w : World, Calls Tryd.prog 54 #[.int .u64 em] w fun e w' => e = .returned (.tuple #[.agg #[.int .i64 jo, .int .i64 jr, .int .i64 ja, .int .i64 jb, .int .i64 ji], .bool t]) ∧ Below w.heap.size w w') := SD
        clear SD hD hD1 hD2 YR HF HF2
        simp only [Fm.str] at C1
        go_wp2_with fail
        refine (HSD.out _).mono ?_
        rintro e w4 ⟨rfl, hb4⟩
        have KW : Hid (w4.heap[w.heap.size]? = some (.cells #[.int .i64 ((k : Int) + 1), .int .i64 rd, .int .i64 a, .int .i64 b, .int .i64 imm] 30 (0, 0))) := keep_some hb4 (keep_some ((Below.refl _ _).alloc (Nat.le_refl _) _) K.out)
        have hbF : Below w.heap.size w w4 := hb0.trans ((((Below.refl w2.heap.size w2).alloc (Nat.le_refl _) _).trans (hb4.mono (by simp))).mono hb0.size)
        have AL4 : ∀ ob : Obj, Below w4.heap.size w4 (w4.alloc ob) := fun ob => (Below.refl _ _).alloc (Nat.le_refl _) ob
        have E0 : ∀ ob : Obj, (w4.alloc ob).cell? ⟨w.heap.size, 0, none⟩ = some (.int .i64 ((k : Int) + 1)) := fun ob => (cell_of_row _ _ _ _ _ _ (keep_some (AL4 ob) KW.out)).trans rfl
        have E1 : ∀ ob : Obj, (w4.alloc ob).cell? ⟨w.heap.size, 1, none⟩ = some (.int .i64 rd) := fun ob => (cell_of_row _ _ _ _ _ _ (keep_some (AL4 ob) KW.out)).trans rfl
        have E2 : ∀ ob : Obj, (w4.alloc ob).cell? ⟨w.heap.size, 2, none⟩ = some (.int .i64 a) := fun ob => (cell_of_row _ _ _ _ _ _ (keep_some (AL4 ob) KW.out)).trans rfl
        have E3 : ∀ ob : Obj, (w4.alloc ob).cell? ⟨w.heap.size, 3, none⟩ = some (.int .i64 b) := fun ob => (cell_of_row _ _ _ _ _ _ (keep_some (AL4 ob) KW.out)).trans rfl
        have E4 : ∀ ob : Obj, (w4.alloc ob).cell? ⟨w.heap.size, 4, none⟩ = some (.int .i64 imm) := fun ob => (cell_of_row _ _ _ _ _ _ (keep_some (AL4 ob) KW.out)).trans rfl
        clear AL4 hb4 q0 q1 q2 q3 Q1 Q2 Q3 Q4 C0 C1 C2 C3 C4 HSD H1 H2 H3 H4
        cases t with
        | false =>
          have F : Hid (V = .tuple #[.int .u64 0, .bool false]) := by
            show _ = _
            rw [EV.out, HD2.out rfl, if_neg (by simp)]
          go_wp2_with fail
          go_ret2
          exact ⟨by rw [F.out]; rfl, hbF.alloc hbF.size _⟩
        | true =>
          have HJ : Hid (dec (wordS ⟨(k : Int) + 1, rd, a, b, imm⟩) = some ⟨jo, jr, ja, jb, ji⟩) := HD1.out rfl
          obtain ⟨nb, hnb⟩ : ∃ nb, (!(jo == (k : Int) + 1 && jr == rd && ja == a && jb == b && ji == imm)) = nb := ⟨_, rfl⟩
          have HNB : Hid ((!(jo == (k : Int) + 1 && jr == rd && ja == a && jb == b && ji == imm)) = nb) := hnb
          clear hnb
          cases nb with
          | true =>
            have F : Hid (V = .tuple #[.int .u64 0, .bool false]) := by
              show _ = _
              rw [EV.out, HJ.out, if_neg]
              intro h
              simp only [Option.some.injEq, Ins.mk.injEq] at h
              have := HNB.out
              simp [h.1, h.2.1, h.2.2.1, h.2.2.2.1, h.2.2.2.2] at this
            go_wp2_with (refine wpList_neqInst rfl _ _ _ rfl rfl rfl true HNB.out ?_)
            go_ret2
            exact ⟨by rw [F.out]; rfl, hbF.alloc hbF.size _⟩
          | false =>
            have F : Hid (V = .tuple #[.int .u64 (wordS ⟨(k : Int) + 1, rd, a, b, imm⟩), .bool true]) := by
              show _ = _
              rw [EV.out, HJ.out, if_pos]
              have := HNB.out
              simp at this
              simp only [Option.some.injEq, Ins.mk.injEq]
              exact ⟨this.1.1.1.1, this.1.1.1.2, this.1.1.2, this.1.2, this.2⟩
            go_wp2_with (refine wpList_neqInst rfl _ _ _ rfl rfl rfl false HNB.out ?_)
            go_ret2
            exact ⟨by rw [F.out, HY.out]; rfl, hbF.alloc hbF.size _⟩
    · have HBS : Hid (baseS o z ⟨(k : Int) + 1, rd, a, b, imm⟩ = c3) := by
        show _ = _
        unfold baseS; rw [if_neg hz, HHB.out]
      have dz : decide (0 < z) = false := by simpa using hz
      clear hz
      have hs := HS.out
      subst hs
      cases f
      case i =>
        simp only [decide_eq_true_eq] at HF
        have HF2 := HF.out
        have n0 : bits .and .u64 (M) 4095 = M % 4096 := and_low (M) 12 (by omega) (by omega) (by decide)
        have x0 : IntKind.u64.wrap (M % 4096 * 1048576) = M % 4096 * 1048576 := wrapUe _ (by omega) (by omega)
        obtain ⟨e0, he0⟩ : ∃ e, bits .or .u64 c3 (M % 4096 * 1048576) = e := ⟨_, rfl⟩
        have HY : Hid (wordS ⟨(k : Int) + 1, rd, a, b, imm⟩ = e0) := by
          show _ = _
          rw [HWS.out]; simp only [layS]; rw [HBS.out, HMI.out, he0]
        have YR : 0 ≤ e0 ∧ e0 < 18446744073709551616 := by rw [← he0]; exact bits_range _ _ _
        obtain ⟨j, t, hD, hD1, hD2⟩ := decV_ins e0
        have SD := specDecode_any e0 YR.1 YR.2
        rw [hD] at SD
        have HD1 : Hid (t = true → dec (wordS ⟨(k : Int) + 1, rd, a, b, imm⟩) = some j) := by
          show _ → _
          rw [HY.out]; exact hD1
        have HD2 : Hid (t = false → dec (wordS ⟨(k : Int) + 1, rd, a, b, imm⟩) = none) := by
          show _ → _
          rw [HY.out]; exact hD2
        obtain ⟨jo, jr, ja, jb, ji⟩ := j
        simp only at SD
        have HSD : Hid (∀ w : World, Calls Tryd.prog 54 #[.int .u64 e0] w fun e w' => e = .returned (.tuple #[.agg #[.int .i64 jo, .int .i64 jr, .int .i64 ja, .int .i64 jb, .int .i64 ji], .bool t]) ∧ Below w.heap.size w w') := SD
        clear SD hD hD1 hD2 YR HF HF2
        simp only [Fm.str] at C1
        go_wp2_with fail
        refine (HSD.out _).mono ?_
        rintro e w4 ⟨rfl, hb4⟩
        have KW : Hid (w4.heap[w.heap.size]? = some (.cells #[.int .i64 ((k : Int) + 1), .int .i64 rd, .int .i64 a, .int .i64 b, .int .i64 imm] 30 (0, 0))) := keep_some hb4 (keep_some ((Below.refl _ _).alloc (Nat.le_refl _) _) K.out)
        have hbF : Below w.heap.size w w4 := hb0.trans ((((Below.refl w2.heap.size w2).alloc (Nat.le_refl _) _).trans (hb4.mono (by simp))).mono hb0.size)
        have AL4 : ∀ ob : Obj, Below w4.heap.size w4 (w4.alloc ob) := fun ob => (Below.refl _ _).alloc (Nat.le_refl _) ob
        have E0 : ∀ ob : Obj, (w4.alloc ob).cell? ⟨w.heap.size, 0, none⟩ = some (.int .i64 ((k : Int) + 1)) := fun ob => (cell_of_row _ _ _ _ _ _ (keep_some (AL4 ob) KW.out)).trans rfl
        have E1 : ∀ ob : Obj, (w4.alloc ob).cell? ⟨w.heap.size, 1, none⟩ = some (.int .i64 rd) := fun ob => (cell_of_row _ _ _ _ _ _ (keep_some (AL4 ob) KW.out)).trans rfl
        have E2 : ∀ ob : Obj, (w4.alloc ob).cell? ⟨w.heap.size, 2, none⟩ = some (.int .i64 a) := fun ob => (cell_of_row _ _ _ _ _ _ (keep_some (AL4 ob) KW.out)).trans rfl
        have E3 : ∀ ob : Obj, (w4.alloc ob).cell? ⟨w.heap.size, 3, none⟩ = some (.int .i64 b) := fun ob => (cell_of_row _ _ _ _ _ _ (keep_some (AL4 ob) KW.out)).trans rfl
        have E4 : ∀ ob : Obj, (w4.alloc ob).cell? ⟨w.heap.size, 4, none⟩ = some (.int .i64 imm) := fun ob => (cell_of_row _ _ _ _ _ _ (keep_some (AL4 ob) KW.out)).trans rfl
        clear AL4 hb4 q0 q1 q2 q3 Q1 Q2 Q3 Q4 C0 C1 C2 C3 C4 HSD H1 H2 H3 H4
        cases t with
        | false =>
          have F : Hid (V = .tuple #[.int .u64 0, .bool false]) := by
            show _ = _
            rw [EV.out, HD2.out rfl, if_neg (by simp)]
          go_wp2_with fail
          go_ret2
          exact ⟨by rw [F.out]; rfl, hbF.alloc hbF.size _⟩
        | true =>
          have HJ : Hid (dec (wordS ⟨(k : Int) + 1, rd, a, b, imm⟩) = some ⟨jo, jr, ja, jb, ji⟩) := HD1.out rfl
          obtain ⟨nb, hnb⟩ : ∃ nb, (!(jo == (k : Int) + 1 && jr == rd && ja == a && jb == b && ji == imm)) = nb := ⟨_, rfl⟩
          have HNB : Hid ((!(jo == (k : Int) + 1 && jr == rd && ja == a && jb == b && ji == imm)) = nb) := hnb
          clear hnb
          cases nb with
          | true =>
            have F : Hid (V = .tuple #[.int .u64 0, .bool false]) := by
              show _ = _
              rw [EV.out, HJ.out, if_neg]
              intro h
              simp only [Option.some.injEq, Ins.mk.injEq] at h
              have := HNB.out
              simp [h.1, h.2.1, h.2.2.1, h.2.2.2.1, h.2.2.2.2] at this
            go_wp2_with (refine wpList_neqInst rfl _ _ _ rfl rfl rfl true HNB.out ?_)
            go_ret2
            exact ⟨by rw [F.out]; rfl, hbF.alloc hbF.size _⟩
          | false =>
            have F : Hid (V = .tuple #[.int .u64 (wordS ⟨(k : Int) + 1, rd, a, b, imm⟩), .bool true]) := by
              show _ = _
              rw [EV.out, HJ.out, if_pos]
              have := HNB.out
              simp at this
              simp only [Option.some.injEq, Ins.mk.injEq]
              exact ⟨this.1.1.1.1, this.1.1.1.2, this.1.1.2, this.1.2, this.2⟩
            go_wp2_with (refine wpList_neqInst rfl _ _ _ rfl rfl rfl false HNB.out ?_)
            go_ret2
            exact ⟨by rw [F.out, HY.out]; rfl, hbF.alloc hbF.size _⟩
      case c =>
        simp only [decide_eq_true_eq] at HF
        have HF2 := HF.out
        have n0 : bits .and .u64 (M) 4095 = M % 4096 := and_low (M) 12 (by omega) (by omega) (by decide)
        have x0 : IntKind.u64.wrap (M % 4096 * 1048576) = M % 4096 * 1048576 := wrapUe _ (by omega) (by omega)
        obtain ⟨e0, he0⟩ : ∃ e, bits .or .u64 c3 (M % 4096 * 1048576) = e := ⟨_, rfl⟩
        have HY : Hid (wordS ⟨(k : Int) + 1, rd, a, b, imm⟩ = e0) := by
          show _ = _
          rw [HWS.out]; simp only [layS]; rw [HBS.out, HMI.out, he0]
        have YR : 0 ≤ e0 ∧ e0 < 18446744073709551616 := by rw [← he0]; exact bits_range _ _ _
        obtain ⟨j, t, hD, hD1, hD2⟩ := decV_ins e0
        have SD := specDecode_any e0 YR.1 YR.2
        rw [hD] at SD
        have HD1 : Hid (t = true → dec (wordS ⟨(k : Int) + 1, rd, a, b, imm⟩) = some j) := by
          show _ → _
          rw [HY.out]; exact hD1
        have HD2 : Hid (t = false → dec (wordS ⟨(k : Int) + 1, rd, a, b, imm⟩) = none) := by
          show _ → _
          rw [HY.out]; exact hD2
        obtain ⟨jo, jr, ja, jb, ji⟩ := j
        simp only at SD
        have HSD : Hid (∀ w : World, Calls Tryd.prog 54 #[.int .u64 e0] w fun e w' => e = .returned (.tuple #[.agg #[.int .i64 jo, .int .i64 jr, .int .i64 ja, .int .i64 jb, .int .i64 ji], .bool t]) ∧ Below w.heap.size w w') := SD
        clear SD hD hD1 hD2 YR HF HF2
        simp only [Fm.str] at C1
        go_wp2_with fail
        refine (HSD.out _).mono ?_
        rintro e w4 ⟨rfl, hb4⟩
        have KW : Hid (w4.heap[w.heap.size]? = some (.cells #[.int .i64 ((k : Int) + 1), .int .i64 rd, .int .i64 a, .int .i64 b, .int .i64 imm] 30 (0, 0))) := keep_some hb4 (keep_some ((Below.refl _ _).alloc (Nat.le_refl _) _) K.out)
        have hbF : Below w.heap.size w w4 := hb0.trans ((((Below.refl w2.heap.size w2).alloc (Nat.le_refl _) _).trans (hb4.mono (by simp))).mono hb0.size)
        have AL4 : ∀ ob : Obj, Below w4.heap.size w4 (w4.alloc ob) := fun ob => (Below.refl _ _).alloc (Nat.le_refl _) ob
        have E0 : ∀ ob : Obj, (w4.alloc ob).cell? ⟨w.heap.size, 0, none⟩ = some (.int .i64 ((k : Int) + 1)) := fun ob => (cell_of_row _ _ _ _ _ _ (keep_some (AL4 ob) KW.out)).trans rfl
        have E1 : ∀ ob : Obj, (w4.alloc ob).cell? ⟨w.heap.size, 1, none⟩ = some (.int .i64 rd) := fun ob => (cell_of_row _ _ _ _ _ _ (keep_some (AL4 ob) KW.out)).trans rfl
        have E2 : ∀ ob : Obj, (w4.alloc ob).cell? ⟨w.heap.size, 2, none⟩ = some (.int .i64 a) := fun ob => (cell_of_row _ _ _ _ _ _ (keep_some (AL4 ob) KW.out)).trans rfl
        have E3 : ∀ ob : Obj, (w4.alloc ob).cell? ⟨w.heap.size, 3, none⟩ = some (.int .i64 b) := fun ob => (cell_of_row _ _ _ _ _ _ (keep_some (AL4 ob) KW.out)).trans rfl
        have E4 : ∀ ob : Obj, (w4.alloc ob).cell? ⟨w.heap.size, 4, none⟩ = some (.int .i64 imm) := fun ob => (cell_of_row _ _ _ _ _ _ (keep_some (AL4 ob) KW.out)).trans rfl
        clear AL4 hb4 q0 q1 q2 q3 Q1 Q2 Q3 Q4 C0 C1 C2 C3 C4 HSD H1 H2 H3 H4
        cases t with
        | false =>
          have F : Hid (V = .tuple #[.int .u64 0, .bool false]) := by
            show _ = _
            rw [EV.out, HD2.out rfl, if_neg (by simp)]
          go_wp2_with fail
          go_ret2
          exact ⟨by rw [F.out]; rfl, hbF.alloc hbF.size _⟩
        | true =>
          have HJ : Hid (dec (wordS ⟨(k : Int) + 1, rd, a, b, imm⟩) = some ⟨jo, jr, ja, jb, ji⟩) := HD1.out rfl
          obtain ⟨nb, hnb⟩ : ∃ nb, (!(jo == (k : Int) + 1 && jr == rd && ja == a && jb == b && ji == imm)) = nb := ⟨_, rfl⟩
          have HNB : Hid ((!(jo == (k : Int) + 1 && jr == rd && ja == a && jb == b && ji == imm)) = nb) := hnb
          clear hnb
          cases nb with
          | true =>
            have F : Hid (V = .tuple #[.int .u64 0, .bool false]) := by
              show _ = _
              rw [EV.out, HJ.out, if_neg]
              intro h
              simp only [Option.some.injEq, Ins.mk.injEq] at h
              have := HNB.out
              simp [h.1, h.2.1, h.2.2.1, h.2.2.2.1, h.2.2.2.2] at this
            go_wp2_with (refine wpList_neqInst rfl _ _ _ rfl rfl rfl true HNB.out ?_)
            go_ret2
            exact ⟨by rw [F.out]; rfl, hbF.alloc hbF.size _⟩
          | false =>
            have F : Hid (V = .tuple #[.int .u64 (wordS ⟨(k : Int) + 1, rd, a, b, imm⟩), .bool true]) := by
              show _ = _
              rw [EV.out, HJ.out, if_pos]
              have := HNB.out
              simp at this
              simp only [Option.some.injEq, Ins.mk.injEq]
              exact ⟨this.1.1.1.1, this.1.1.1.2, this.1.1.2, this.1.2, this.2⟩
            go_wp2_with (refine wpList_neqInst rfl _ _ _ rfl rfl rfl false HNB.out ?_)
            go_ret2
            exact ⟨by rw [F.out, HY.out]; rfl, hbF.alloc hbF.size _⟩
      case h =>
        simp only [decide_eq_true_eq] at HF
        have HF2 := HF.out
        have n0 : bits .and .u64 (M) 63 = M % 64 := and_low (M) 6 (by omega) (by omega) (by decide)
        have x0 : IntKind.u64.wrap (M % 64 * 1048576) = M % 64 * 1048576 := wrapUe _ (by omega) (by omega)
        obtain ⟨e0, he0⟩ : ∃ e, bits .or .u64 c3 (M % 64 * 1048576) = e := ⟨_, rfl⟩
        have xm : IntKind.u64.wrap (m * 67108864) = m * 67108864 := wrapUe _ (by omega) (by omega)
        obtain ⟨em, hem⟩ : ∃ e, bits .or .u64 e0 (m * 67108864) = e := ⟨_, rfl⟩
        have HY : Hid (wordS ⟨(k : Int) + 1, rd, a, b, imm⟩ = em) := by
          show _ = _
          rw [HWS.out]; simp only [layS]; rw [HBS.out, HMI.out, he0, hem]
        have YR : 0 ≤ em ∧ em < 18446744073709551616 := by rw [← hem]; exact bits_range _ _ _
        obtain ⟨j, t, hD, hD1, hD2⟩ := decV_ins em
        have SD := specDecode_any em YR.1 YR.2
        rw [hD] at SD
        have HD1 : Hid (t = true → dec (wordS ⟨(k : Int) + 1, rd, a, b, imm⟩) = some j) := by
          show _ → _
          rw [HY.out]; exact hD1
        have HD2 : Hid (t = false → dec (wordS ⟨(k : Int) + 1, rd, a, b, imm⟩) = none) := by
          show _ → _
          rw [HY.out]; exact hD2
        obtain ⟨jo, jr, ja, jb, ji⟩ := j
        simp only at SD
        have HSD : Hid (∀ w : World, Calls Tryd.prog 54 #[.int .u64 em] w fun e w' => e = .returned (.tuple #[.agg #[.int .i64 jo, .int .i64 jr, .int .i64 ja, .int .i64 jb, .int .i64 ji], .bool t]) ∧ Below w.heap.size w w') := SD
        clear SD hD hD1 hD2 YR HF HF2
        simp only [Fm.str] at C1
        go_wp2_with fail
        refine (HSD.out _).mono ?_
        rintro e w4 ⟨rfl, hb4⟩
        have KW : Hid (w4.heap[w.heap.size]? = some (.cells #[.int .i64 ((k : Int) + 1), .int .i64 rd, .int .i64 a, .int .i64 b, .int .i64 imm] 30 (0, 0))) := keep_some hb4 (keep_some ((Below.refl _ _).alloc (Nat.le_refl _) _) K.out)
        have hbF : Below w.heap.size w w4 := hb0.trans ((((Below.refl w2.heap.size w2).alloc (Nat.le_refl _) _).trans (hb4.mono (by simp))).mono hb0.size)
        have AL4 : ∀ ob : Obj, Below w4.heap.size w4 (w4.alloc ob) := fun ob => (Below.refl _ _).alloc (Nat.le_refl _) ob
        have E0 : ∀ ob : Obj, (w4.alloc ob).cell? ⟨w.heap.size, 0, none⟩ = some (.int .i64 ((k : Int) + 1)) := fun ob => (cell_of_row _ _ _ _ _ _ (keep_some (AL4 ob) KW.out)).trans rfl
        have E1 : ∀ ob : Obj, (w4.alloc ob).cell? ⟨w.heap.size, 1, none⟩ = some (.int .i64 rd) := fun ob => (cell_of_row _ _ _ _ _ _ (keep_some (AL4 ob) KW.out)).trans rfl
        have E2 : ∀ ob : Obj, (w4.alloc ob).cell? ⟨w.heap.size, 2, none⟩ = some (.int .i64 a) := fun ob => (cell_of_row _ _ _ _ _ _ (keep_some (AL4 ob) KW.out)).trans rfl
        have E3 : ∀ ob : Obj, (w4.alloc ob).cell? ⟨w.heap.size, 3, none⟩ = some (.int .i64 b) := fun ob => (cell_of_row _ _ _ _ _ _ (keep_some (AL4 ob) KW.out)).trans rfl
        have E4 : ∀ ob : Obj, (w4.alloc ob).cell? ⟨w.heap.size, 4, none⟩ = some (.int .i64 imm) := fun ob => (cell_of_row _ _ _ _ _ _ (keep_some (AL4 ob) KW.out)).trans rfl
        clear AL4 hb4 q0 q1 q2 q3 Q1 Q2 Q3 Q4 C0 C1 C2 C3 C4 HSD H1 H2 H3 H4
        cases t with
        | false =>
          have F : Hid (V = .tuple #[.int .u64 0, .bool false]) := by
            show _ = _
            rw [EV.out, HD2.out rfl, if_neg (by simp)]
          go_wp2_with fail
          go_ret2
          exact ⟨by rw [F.out]; rfl, hbF.alloc hbF.size _⟩
        | true =>
          have HJ : Hid (dec (wordS ⟨(k : Int) + 1, rd, a, b, imm⟩) = some ⟨jo, jr, ja, jb, ji⟩) := HD1.out rfl
          obtain ⟨nb, hnb⟩ : ∃ nb, (!(jo == (k : Int) + 1 && jr == rd && ja == a && jb == b && ji == imm)) = nb := ⟨_, rfl⟩
          have HNB : Hid ((!(jo == (k : Int) + 1 && jr == rd && ja == a && jb == b && ji == imm)) = nb) := hnb
          clear hnb
          cases nb with
          | true =>
            have F : Hid (V = .tuple #[.int .u64 0, .bool false]) := by
              show _ = _
              rw [EV.out, HJ.out, if_neg]
              intro h
              simp only [Option.some.injEq, Ins.mk.injEq] at h
              have := HNB.out
              simp [h.1, h.2.1, h.2.2.1, h.2.2.2.1, h.2.2.2.2] at this
            go_wp2_with (refine wpList_neqInst rfl _ _ _ rfl rfl rfl true HNB.out ?_)
            go_ret2
            exact ⟨by rw [F.out]; rfl, hbF.alloc hbF.size _⟩
          | false =>
            have F : Hid (V = .tuple #[.int .u64 (wordS ⟨(k : Int) + 1, rd, a, b, imm⟩), .bool true]) := by
              show _ = _
              rw [EV.out, HJ.out, if_pos]
              have := HNB.out
              simp at this
              simp only [Option.some.injEq, Ins.mk.injEq]
              exact ⟨this.1.1.1.1, this.1.1.1.2, this.1.1.2, this.1.2, this.2⟩
            go_wp2_with (refine wpList_neqInst rfl _ _ _ rfl rfl rfl false HNB.out ?_)
            go_ret2
            exact ⟨by rw [F.out, HY.out]; rfl, hbF.alloc hbF.size _⟩
      case w =>
        simp only [decide_eq_true_eq] at HF
        have HF2 := HF.out
        have n0 : bits .and .u64 (M) 31 = M % 32 := and_low (M) 5 (by omega) (by omega) (by decide)
        have x0 : IntKind.u64.wrap (M % 32 * 1048576) = M % 32 * 1048576 := wrapUe _ (by omega) (by omega)
        obtain ⟨e0, he0⟩ : ∃ e, bits .or .u64 c3 (M % 32 * 1048576) = e := ⟨_, rfl⟩
        have xm : IntKind.u64.wrap (m * 33554432) = m * 33554432 := wrapUe _ (by omega) (by omega)
        obtain ⟨em, hem⟩ : ∃ e, bits .or .u64 e0 (m * 33554432) = e := ⟨_, rfl⟩
        have HY : Hid (wordS ⟨(k : Int) + 1, rd, a, b, imm⟩ = em) := by
          show _ = _
          rw [HWS.out]; simp only [layS]; rw [HBS.out, HMI.out, he0, hem]
        have YR : 0 ≤ em ∧ em < 18446744073709551616 := by rw [← hem]; exact bits_range _ _ _
        obtain ⟨j, t, hD, hD1, hD2⟩ := decV_ins em
        have SD := specDecode_any em YR.1 YR.2
        rw [hD] at SD
        have HD1 : Hid (t = true → dec (wordS ⟨(k : Int) + 1, rd, a, b, imm⟩) = some j) := by
          show _ → _
          rw [HY.out]; exact hD1
        have HD2 : Hid (t = false → dec (wordS ⟨(k : Int) + 1, rd, a, b, imm⟩) = none) := by
          show _ → _
          rw [HY.out]; exact hD2
        obtain ⟨jo, jr, ja, jb, ji⟩ := j
        simp only at SD
        have HSD : Hid (∀ w : World, Calls Tryd.prog 54 #[.int .u64 em] w fun e w' => e = .returned (.tuple #[.agg #[.int .i64 jo, .int .i64 jr, .int .i64 ja, .int .i64 jb, .int .i64 ji], .bool t]) ∧ Below w.heap.size w w') := SD
        clear SD hD hD1 hD2 YR HF HF2
        simp only [Fm.str] at C1
        go_wp2_with fail
        refine (HSD.out _).mono ?_
        rintro e w4 ⟨rfl, hb4⟩
        have KW : Hid (w4.heap[w.heap.size]? = some (.cells #[.int .i64 ((k : Int) + 1), .int .i64 rd, .int .i64 a, .int .i64 b, .int .i64 imm] 30 (0, 0))) := keep_some hb4 (keep_some ((Below.refl _ _).alloc (Nat.le_refl _) _) K.out)
        have hbF : Below w.heap.size w w4 := hb0.trans ((((Below.refl w2.heap.size w2).alloc (Nat.le_refl _) _).trans (hb4.mono (by simp))).mono hb0.size)
        have AL4 : ∀ ob : Obj, Below w4.heap.size w4 (w4.alloc ob) := fun ob => (Below.refl _ _).alloc (Nat.le_refl _) ob
        have E0 : ∀ ob : Obj, (w4.alloc ob).cell? ⟨w.heap.size, 0, none⟩ = some (.int .i64 ((k : Int) + 1)) := fun ob => (cell_of_row _ _ _ _ _ _ (keep_some (AL4 ob) KW.out)).trans rfl
        have E1 : ∀ ob : Obj, (w4.alloc ob).cell? ⟨w.heap.size, 1, none⟩ = some (.int .i64 rd) := fun ob => (cell_of_row _ _ _ _ _ _ (keep_some (AL4 ob) KW.out)).trans rfl
        have E2 : ∀ ob : Obj, (w4.alloc ob).cell? ⟨w.heap.size, 2, none⟩ = some (.int .i64 a) := fun ob => (cell_of_row _ _ _ _ _ _ (keep_some (AL4 ob) KW.out)).trans rfl
        have E3 : ∀ ob : Obj, (w4.alloc ob).cell? ⟨w.heap.size, 3, none⟩ = some (.int .i64 b) := fun ob => (cell_of_row _ _ _ _ _ _ (keep_some (AL4 ob) KW.out)).trans rfl
        have E4 : ∀ ob : Obj, (w4.alloc ob).cell? ⟨w.heap.size, 4, none⟩ = some (.int .i64 imm) := fun ob => (cell_of_row _ _ _ _ _ _ (keep_some (AL4 ob) KW.out)).trans rfl
        clear AL4 hb4 q0 q1 q2 q3 Q1 Q2 Q3 Q4 C0 C1 C2 C3 C4 HSD H1 H2 H3 H4
        cases t with
        | false =>
          have F : Hid (V = .tuple #[.int .u64 0, .bool false]) := by
            show _ = _
            rw [EV.out, HD2.out rfl, if_neg (by simp)]
          go_wp2_with fail
          go_ret2
          exact ⟨by rw [F.out]; rfl, hbF.alloc hbF.size _⟩
        | true =>
          have HJ : Hid (dec (wordS ⟨(k : Int) + 1, rd, a, b, imm⟩) = some ⟨jo, jr, ja, jb, ji⟩) := HD1.out rfl
          obtain ⟨nb, hnb⟩ : ∃ nb, (!(jo == (k : Int) + 1 && jr == rd && ja == a && jb == b && ji == imm)) = nb := ⟨_, rfl⟩
          have HNB : Hid ((!(jo == (k : Int) + 1 && jr == rd && ja == a && jb == b && ji == imm)) = nb) := hnb
          clear hnb
          cases nb with
          | true =>
            have F : Hid (V = .tuple #[.int .u64 0, .bool false]) := by
              show _ = _
              rw [EV.out, HJ.out, if_neg]
              intro h
              simp only [Option.some.injEq, Ins.mk.injEq] at h
              have := HNB.out
              simp [h.1, h.2.1, h.2.2.1, h.2.2.2.1, h.2.2.2.2] at this
            go_wp2_with (refine wpList_neqInst rfl _ _ _ rfl rfl rfl true HNB.out ?_)
            go_ret2
            exact ⟨by rw [F.out]; rfl, hbF.alloc hbF.size _⟩
          | false =>
            have F : Hid (V = .tuple #[.int .u64 (wordS ⟨(k : Int) + 1, rd, a, b, imm⟩), .bool true]) := by
              show _ = _
              rw [EV.out, HJ.out, if_pos]
              have := HNB.out
              simp at this
              simp only [Option.some.injEq, Ins.mk.injEq]
              exact ⟨this.1.1.1.1, this.1.1.1.2, this.1.1.2, this.1.2, this.2⟩
            go_wp2_with (refine wpList_neqInst rfl _ _ _ rfl rfl rfl false HNB.out ?_)
            go_ret2
            exact ⟨by rw [F.out, HY.out]; rfl, hbF.alloc hbF.size _⟩
      case a =>
        simp only [decide_eq_true_eq] at HF
        have HF2 := HF.out
        have n0 : bits .and .u64 (M) 3 = M % 4 := and_low (M) 2 (by omega) (by omega) (by decide)
        have x0 : IntKind.u64.wrap (M % 4 * 33554432) = M % 4 * 33554432 := wrapUe _ (by omega) (by omega)
        obtain ⟨e0, he0⟩ : ∃ e, bits .or .u64 c3 (M % 4 * 33554432) = e := ⟨_, rfl⟩
        have xm : IntKind.u64.wrap (m * 134217728) = m * 134217728 := wrapUe _ (by omega) (by omega)
        obtain ⟨em, hem⟩ : ∃ e, bits .or .u64 e0 (m * 134217728) = e := ⟨_, rfl⟩
        have HY : Hid (wordS ⟨(k : Int) + 1, rd, a, b, imm⟩ = em) := by
          show _ = _
          rw [HWS.out]; simp only [layS]; rw [HBS.out, HMI.out, he0, hem]
        have YR : 0 ≤ em ∧ em < 18446744073709551616 := by rw [← hem]; exact bits_range _ _ _
        obtain ⟨j, t, hD, hD1, hD2⟩ := decV_ins em
        have SD := specDecode_any em YR.1 YR.2
        rw [hD] at SD
        have HD1 : Hid (t = true → dec (wordS ⟨(k : Int) + 1, rd, a, b, imm⟩) = some j) := by
          show _ → _
          rw [HY.out]; exact hD1
        have HD2 : Hid (t = false → dec (wordS ⟨(k : Int) + 1, rd, a, b, imm⟩) = none) := by
          show _ → _
          rw [HY.out]; exact hD2
        obtain ⟨jo, jr, ja, jb, ji⟩ := j
        simp only at SD
        have HSD : Hid (∀ w : World, Calls Tryd.prog 54 #[.int .u64 em] w fun e w' => e = .returned (.tuple #[.agg #[.int .i64 jo, .int .i64 jr, .int .i64 ja, .int .i64 jb, .int .i64 ji], .bool t]) ∧ Below w.heap.size w w') := SD
        clear SD hD hD1 hD2 YR HF HF2
        simp only [Fm.str] at C1
        go_wp2_with fail
        refine (HSD.out _).mono ?_
        rintro e w4 ⟨rfl, hb4⟩
        have KW : Hid (w4.heap[w.heap.size]? = some (.cells #[.int .i64 ((k : Int) + 1), .int .i64 rd, .int .i64 a, .int .i64 b, .int .i64 imm] 30 (0, 0))) := keep_some hb4 (keep_some ((Below.refl _ _).alloc (Nat.le_refl _) _) K.out)
        have hbF : Below w.heap.size w w4 := hb0.trans ((((Below.refl w2.heap.size w2).alloc (Nat.le_refl _) _).trans (hb4.mono (by simp))).mono hb0.size)
        have AL4 : ∀ ob : Obj, Below w4.heap.size w4 (w4.alloc ob) := fun ob => (Below.refl _ _).alloc (Nat.le_refl _) ob
        have E0 : ∀ ob : Obj, (w4.alloc ob).cell? ⟨w.heap.size, 0, none⟩ = some (.int .i64 ((k : Int) + 1)) := fun ob => (cell_of_row _ _ _ _ _ _ (keep_some (AL4 ob) KW.out)).trans rfl
        have E1 : ∀ ob : Obj, (w4.alloc ob).cell? ⟨w.heap.size, 1, none⟩ = some (.int .i64 rd) := fun ob => (cell_of_row _ _ _ _ _ _ (keep_some (AL4 ob) KW.out)).trans rfl
        have E2 : ∀ ob : Obj, (w4.alloc ob).cell? ⟨w.heap.size, 2, none⟩ = some (.int .i64 a) := fun ob => (cell_of_row _ _ _ _ _ _ (keep_some (AL4 ob) KW.out)).trans rfl
        have E3 : ∀ ob : Obj, (w4.alloc ob).cell? ⟨w.heap.size, 3, none⟩ = some (.int .i64 b) := fun ob => (cell_of_row _ _ _ _ _ _ (keep_some (AL4 ob) KW.out)).trans rfl
        have E4 : ∀ ob : Obj, (w4.alloc ob).cell? ⟨w.heap.size, 4, none⟩ = some (.int .i64 imm) := fun ob => (cell_of_row _ _ _ _ _ _ (keep_some (AL4 ob) KW.out)).trans rfl
        clear AL4 hb4 q0 q1 q2 q3 Q1 Q2 Q3 Q4 C0 C1 C2 C3 C4 HSD H1 H2 H3 H4
        cases t with
        | false =>
          have F : Hid (V = .tuple #[.int .u64 0, .bool false]) := by
            show _ = _
            rw [EV.out, HD2.out rfl, if_neg (by simp)]
          go_wp2_with fail
          go_ret2
          exact ⟨by rw [F.out]; rfl, hbF.alloc hbF.size _⟩
        | true =>
          have HJ : Hid (dec (wordS ⟨(k : Int) + 1, rd, a, b, imm⟩) = some ⟨jo, jr, ja, jb, ji⟩) := HD1.out rfl
          obtain ⟨nb, hnb⟩ : ∃ nb, (!(jo == (k : Int) + 1 && jr == rd && ja == a && jb == b && ji == imm)) = nb := ⟨_, rfl⟩
          have HNB : Hid ((!(jo == (k : Int) + 1 && jr == rd && ja == a && jb == b && ji == imm)) = nb) := hnb
          clear hnb
          cases nb with
          | true =>
            have F : Hid (V = .tuple #[.int .u64 0, .bool false]) := by
              show _ = _
              rw [EV.out, HJ.out, if_neg]
              intro h
              simp only [Option.some.injEq, Ins.mk.injEq] at h
              have := HNB.out
              simp [h.1, h.2.1, h.2.2.1, h.2.2.2.1, h.2.2.2.2] at this
            go_wp2_with (refine wpList_neqInst rfl _ _ _ rfl rfl rfl true HNB.out ?_)
            go_ret2
            exact ⟨by rw [F.out]; rfl, hbF.alloc hbF.size _⟩
          | false =>
            have F : Hid (V = .tuple #[.int .u64 (wordS ⟨(k : Int) + 1, rd, a, b, imm⟩), .bool true]) := by
              show _ = _
              rw [EV.out, HJ.out, if_pos]
              have := HNB.out
              simp at this
              simp only [Option.some.injEq, Ins.mk.injEq]
              exact ⟨this.1.1.1.1, this.1.1.1.2, this.1.1.2, this.1.2, this.2⟩
            go_wp2_with (refine wpList_neqInst rfl _ _ _ rfl rfl rfl false HNB.out ?_)
            go_ret2
            exact ⟨by rw [F.out, HY.out]; rfl, hbF.alloc hbF.size _⟩
      case s =>
        simp only [decide_eq_true_eq] at HF
        have HF2 := HF.out
        have n0 : bits .and .u64 (M) 31 = M % 32 := and_low (M) 5 (by omega) (by omega) (by decide)
        have x0 : IntKind.u64.wrap (M % 32 * 128) = M % 32 * 128 := wrapUe _ (by omega) (by omega)
        obtain ⟨e0, he0⟩ : ∃ e, bits .or .u64 c3 (M % 32 * 128) = e := ⟨_, rfl⟩
        have n1 : bits .and .u64 (M / 32) 127 = M / 32 % 128 := and_low (M / 32) 7 (by omega) (by omega) (by decide)
        have x1 : IntKind.u64.wrap (M / 32 % 128 * 33554432) = M / 32 % 128 * 33554432 := wrapUe _ (by omega) (by omega)
        obtain ⟨e1, he1⟩ : ∃ e, bits .or .u64 e0 (M / 32 % 128 * 33554432) = e := ⟨_, rfl⟩
        have HY : Hid (wordS ⟨(k : Int) + 1, rd, a, b, imm⟩ = e1) := by
          show _ = _
          rw [HWS.out]; simp only [layS]; rw [HBS.out, HMI.out, he0, he1]
        have YR : 0 ≤ e1 ∧ e1 < 18446744073709551616 := by rw [← he1]; exact bits_range _ _ _
        obtain ⟨j, t, hD, hD1, hD2⟩ := decV_ins e1
        have SD := specDecode_any e1 YR.1 YR.2
        rw [hD] at SD
        have HD1 : Hid (t = true → dec (wordS ⟨(k : Int) + 1, rd, a, b, imm⟩) = some j) := by
          show _ → _
          rw [HY.out]; exact hD1
        have HD2 : Hid (t = false → dec (wordS ⟨(k : Int) + 1, rd, a, b, imm⟩) = none) := by
          show _ → _
          rw [HY.out]; exact hD2
        obtain ⟨jo, jr, ja, jb, ji⟩ := j
        simp only at SD
        have HSD : Hid (∀ w : World, Calls Tryd.prog 54 #[.int .u64 e1] w fun e w' => e = .returned (.tuple #[.agg #[.int .i64 jo, .int .i64 jr, .int .i64 ja, .int .i64 jb, .int .i64 ji], .bool t]) ∧ Below w.heap.size w w') := SD
        clear SD hD hD1 hD2 YR HF HF2
        simp only [Fm.str] at C1
        go_wp2_with fail
        refine (HSD.out _).mono ?_
        rintro e w4 ⟨rfl, hb4⟩
        have KW : Hid (w4.heap[w.heap.size]? = some (.cells #[.int .i64 ((k : Int) + 1), .int .i64 rd, .int .i64 a, .int .i64 b, .int .i64 imm] 30 (0, 0))) := keep_some hb4 (keep_some ((Below.refl _ _).alloc (Nat.le_refl _) _) K.out)
        have hbF : Below w.heap.size w w4 := hb0.trans ((((Below.refl w2.heap.size w2).alloc (Nat.le_refl _) _).trans (hb4.mono (by simp))).mono hb0.size)
        have AL4 : ∀ ob : Obj, Below w4.heap.size w4 (w4.alloc ob) := fun ob => (Below.refl _ _).alloc (Nat.le_refl _) ob
        have E0 : ∀ ob : Obj, (w4.alloc ob).cell? ⟨w.heap.size, 0, none⟩ = some (.int .i64 ((k : Int) + 1)) := fun ob => (cell_of_row _ _ _ _ _ _ (keep_some (AL4 ob) KW.out)).trans rfl
        have E1 : ∀ ob : Obj, (w4.alloc ob).cell? ⟨w.heap.size, 1, none⟩ = some (.int .i64 rd) := fun ob => (cell_of_row _ _ _ _ _ _ (keep_some (AL4 ob) KW.out)).trans rfl
        have E2 : ∀ ob : Obj, (w4.alloc ob).cell? ⟨w.heap.size, 2, none⟩ = some (.int .i64 a) := fun ob => (cell_of_row _ _ _ _ _ _ (keep_some (AL4 ob) KW.out)).trans rfl
        have E3 : ∀ ob : Obj, (w4.alloc ob).cell? ⟨w.heap.size, 3, none⟩ = some (.int .i64 b) := fun ob => (cell_of_row _ _ _ _ _ _ (keep_some (AL4 ob) KW.out)).trans rfl
        have E4 : ∀ ob : Obj, (w4.alloc ob).cell? ⟨w.heap.size, 4, none⟩ = some (.int .i64 imm) := fun ob => (cell_of_row _ _ _ _ _ _ (keep_some (AL4 ob) KW.out)).trans rfl
        clear AL4 hb4 q0 q1 q2 q3 Q1 Q2 Q3 Q4 C0 C1 C2 C3 C4 HSD H1 H2 H3 H4
        cases t with
        | false =>
          have F : Hid (V = .tuple #[.int .u64 0, .bool false]) := by
            show _ = _
            rw [EV.out, HD2.out rfl, if_neg (by simp)]
          go_wp2_with fail
          go_ret2
          exact ⟨by rw [F.out]; rfl, hbF.alloc hbF.size _⟩
        | true =>
          have HJ : Hid (dec (wordS ⟨(k : Int) + 1, rd, a, b, imm⟩) = some ⟨jo, jr, ja, jb, ji⟩) := HD1.out rfl
          obtain ⟨nb, hnb⟩ : ∃ nb, (!(jo == (k : Int) + 1 && jr == rd && ja == a && jb == b && ji == imm)) = nb := ⟨_, rfl⟩
          have HNB : Hid ((!(jo == (k : Int) + 1 && jr == rd && ja == a && jb == b && ji == imm)) = nb) := hnb
          clear hnb
          cases nb with
          | true =>
            have F : Hid (V = .tuple #[.int .u64 0, .bool false]) := by
              show _ = _
              rw [EV.out, HJ.out, if_neg]
              intro h
              simp only [Option.some.injEq, Ins.mk.injEq] at h
              have := HNB.out
              simp [h.1, h.2.1, h.2.2.1, h.2.2.2.1, h.2.2.2.2] at this
            go_wp2_with (refine wpList_neqInst rfl _ _ _ rfl rfl rfl true HNB.out ?_)
            go_ret2
            exact ⟨by rw [F.out]; rfl, hbF.alloc hbF.size _⟩
          | false =>
            have F : Hid (V = .tuple #[.int .u64 (wordS ⟨(k : Int) + 1, rd, a, b, imm⟩), .bool true]) := by
              show _ = _
              rw [EV.out, HJ.out, if_pos]
              have := HNB.out
              simp at this
              simp only [Option.some.injEq, Ins.mk.injEq]
              exact ⟨this.1.1.1.1, this.1.1.1.2, this.1.1.2, this.1.2, this.2⟩
            go_wp2_with (refine wpList_neqInst rfl _ _ _ rfl rfl rfl false HNB.out ?_)
            go_ret2
            exact ⟨by rw [F.out, HY.out]; rfl, hbF.alloc hbF.size _⟩
      case b =>
        simp only [decide_eq_true_eq] at HF
        have HF2 := HF.out
        have n0 : bits .and .u64 (M / 2048) 1 = M / 2048 % 2 := and_low (M / 2048) 1 (by omega) (by omega) (by decide)
        have x0 : IntKind.u64.wrap (M / 2048 % 2 * 128) = M / 2048 % 2 * 128 := wrapUe _ (by omega) (by omega)
        obtain ⟨e0, he0⟩ : ∃ e, bits .or .u64 c3 (M / 2048 % 2 * 128) = e := ⟨_, rfl⟩
        have n1 : bits .and .u64 (M / 2) 15 = M / 2 % 16 := and_low (M / 2) 4 (by omega) (by omega) (by decide)
        have x1 : IntKind.u64.wrap (M / 2 % 16 * 256) = M / 2 % 16 * 256 := wrapUe _ (by omega) (by omega)
        obtain ⟨e1, he1⟩ : ∃ e, bits .or .u64 e0 (M / 2 % 16 * 256) = e := ⟨_, rfl⟩
        have n2 : bits .and .u64 (M / 32) 63 = M / 32 % 64 := and_low (M / 32) 6 (by omega) (by omega) (by decide)
        have x2 : IntKind.u64.wrap (M / 32 % 64 * 33554432) = M / 32 % 64 * 33554432 := wrapUe _ (by omega) (by omega)
        obtain ⟨e2, he2⟩ : ∃ e, bits .or .u64 e1 (M / 32 % 64 * 33554432) = e := ⟨_, rfl⟩
        have n3 : bits .and .u64 (M / 4096) 1 = M / 4096 % 2 := and_low (M / 4096) 1 (by omega) (by omega) (by decide)
        have x3 : IntKind.u64.wrap (M / 4096 % 2 * 2147483648) = M / 4096 % 2 * 2147483648 := wrapUe _ (by omega) (by omega)
        obtain ⟨e3, he3⟩ : ∃ e, bits .or .u64 e2 (M / 4096 % 2 * 2147483648) = e := ⟨_, rfl⟩
        have HY : Hid (wordS ⟨(k : Int) + 1, rd, a, b, imm⟩ = e3) := by
          show _ = _
          rw [HWS.out]; simp only [layS]; rw [HBS.out, HMI.out, he0, he1, he2, he3]
        have YR : 0 ≤ e3 ∧ e3 < 18446744073709551616 := by rw [← he3]; exact bits_range _ _ _
        obtain ⟨j, t, hD, hD1, hD2⟩ := decV_ins e3
        have SD := specDecode_any e3 YR.1 YR.2
        rw [hD] at SD
        have HD1 : Hid (t = true → dec (wordS ⟨(k : Int) + 1, rd, a, b, imm⟩) = some j) := by
          show _ → _
          rw [HY.out]; exact hD1
        have HD2 : Hid (t = false → dec (wordS ⟨(k : Int) + 1, rd, a, b, imm⟩) = none) := by
          show _ → _
          rw [HY.out]; exact hD2
        obtain ⟨jo, jr, ja, jb, ji⟩ := j
        simp only at SD
        have HSD : Hid (∀ w : World, Calls Tryd.prog 54 #[.int .u64 e3] w fun e w' => e = .returned (.tuple #[.agg #[.int .i64 jo, .int .i64 jr, .int .i64 ja, .int .i64 jb, .int .i64 ji], .bool t]) ∧ Below w.heap.size w w') := SD
        clear SD hD hD1 hD2 YR HF HF2
        simp only [Fm.str] at C1
        go_wp2_with fail
        refine (HSD.out _).mono ?_
        rintro e w4 ⟨rfl, hb4⟩
        have KW : Hid (w4.heap[w.heap.size]? = some (.cells #[.int .i64 ((k : Int) + 1), .int .i64 rd, .int .i64 a, .int .i64 b, .int .i64 imm] 30 (0, 0))) := keep_some hb4 (keep_some ((Below.refl _ _).alloc (Nat.le_refl _) _) K.out)
        have hbF : Below w.heap.size w w4 := hb0.trans ((((Below.refl w2.heap.size w2).alloc (Nat.le_refl _) _).trans (hb4.mono (by simp))).mono hb0.size)
        have AL4 : ∀ ob : Obj, Below w4.heap.size w4 (w4.alloc ob) := fun ob => (Below.refl _ _).alloc (Nat.le_refl _) ob
        have E0 : ∀ ob : Obj, (w4.alloc ob).cell? ⟨w.heap.size, 0, none⟩ = some (.int .i64 ((k : Int) + 1)) := fun ob => (cell_of_row _ _ _ _ _ _ (keep_some (AL4 ob) KW.out)).trans rfl
        have E1 : ∀ ob : Obj, (w4.alloc ob).cell? ⟨w.heap.size, 1, none⟩ = some (.int .i64 rd) := fun ob => (cell_of_row _ _ _ _ _ _ (keep_some (AL4 ob) KW.out)).trans rfl
        have E2 : ∀ ob : Obj, (w4.alloc ob).cell? ⟨w.heap.size, 2, none⟩ = some (.int .i64 a) := fun ob => (cell_of_row _ _ _ _ _ _ (keep_some (AL4 ob) KW.out)).trans rfl
        have E3 : ∀ ob : Obj, (w4.alloc ob).cell? ⟨w.heap.size, 3, none⟩ = some (.int .i64 b) := fun ob => (cell_of_row _ _ _ _ _ _ (keep_some (AL4 ob) KW.out)).trans rfl
        have E4 : ∀ ob : Obj, (w4.alloc ob).cell? ⟨w.heap.size, 4, none⟩ = some (.int .i64 imm) := fun ob => (cell_of_row _ _ _ _ _ _ (keep_some (AL4 ob) KW.out)).trans rfl
        clear AL4 hb4 q0 q1 q2 q3 Q1 Q2 Q3 Q4 C0 C1 C2 C3 C4 HSD H1 H2 H3 H4
        cases t with
        | false =>
          have F : Hid (V = .tuple #[.int .u64 0, .bool false]) := by
            show _ = _
            rw [EV.out, HD2.out rfl, if_neg (by simp)]
          go_wp2_with fail
          go_ret2
          exact ⟨by rw [F.out]; rfl, hbF.alloc hbF.size _⟩
        | true =>
          have HJ : Hid (dec (wordS ⟨(k : Int) + 1, rd, a, b, imm⟩) = some ⟨jo, jr, ja, jb, ji⟩) := HD1.out rfl
          obtain ⟨nb, hnb⟩ : ∃ nb, (!(jo == (k : Int) + 1 && jr == rd && ja == a && jb == b && ji == imm)) = nb := ⟨_, rfl⟩
          have HNB : Hid ((!(jo == (k : Int) + 1 && jr == rd && ja == a && jb == b && ji == imm)) = nb) := hnb
          clear hnb
          cases nb with
          | true =>
            have F : Hid (V = .tuple #[.int .u64 0, .bool false]) := by
              show _ = _
              rw [EV.out, HJ.out, if_neg]
              intro h
              simp only [Option.some.injEq, Ins.mk.injEq] at h
              have := HNB.out
              simp [h.1, h.2.1, h.2.2.1, h.2.2.2.1, h.2.2.2.2] at this
            go_wp2_with (refine wpList_neqInst rfl _ _ _ rfl rfl rfl true HNB.out ?_)
            go_ret2
            exact ⟨by rw [F.out]; rfl, hbF.alloc hbF.size _⟩
          | false =>
            have F : Hid (V = .tuple #[.int .u64 (wordS ⟨(k : Int) + 1, rd, a, b, imm⟩), .bool true]) := by
              show _ = _
              rw [EV.out, HJ.out, if_pos]
              have := HNB.out
              simp at this
              simp only [Option.some.injEq, Ins.mk.injEq]
              exact ⟨this.1.1.1.1, this.1.1.1.2, this.1.1.2, this.1.2, this.2⟩
            go_wp2_with (refine wpList_neqInst rfl _ _ _ rfl rfl rfl false HNB.out ?_)
            go_ret2
            exact ⟨by rw [F.out, HY.out]; rfl, hbF.alloc hbF.size _⟩
      case u =>
        simp only [decide_eq_true_eq] at HF
        have HF2 := HF.out
        have n0 : bits .and .u64 (M / 4096) 1048575 = M / 4096 % 1048576 := and_low (M / 4096) 20 (by omega) (by omega) (by decide)
        have x0 : IntKind.u64.wrap (M / 4096 % 1048576 * 4096) = M / 4096 % 1048576 * 4096 := wrapUe _ (by omega) (by omega)
        obtain ⟨e0, he0⟩ : ∃ e, bits .or .u64 c3 (M / 4096 % 1048576 * 4096) = e := ⟨_, rfl⟩
        have HY : Hid (wordS ⟨(k : Int) + 1, rd, a, b, imm⟩ = e0) := by
          show _ = _
          rw [HWS.out]; simp only [layS]; rw [HBS.out, HMI.out, he0]
        have YR : 0 ≤ e0 ∧ e0 < 18446744073709551616 := by rw [← he0]; exact bits_range _ _ _
        obtain ⟨j, t, hD, hD1, hD2⟩ := decV_ins e0
        have SD := specDecode_any e0 YR.1 YR.2
        rw [hD] at SD
        have HD1 : Hid (t = true → dec (wordS ⟨(k : Int) + 1, rd, a, b, imm⟩) = some j) := by
          show _ → _
          rw [HY.out]; exact hD1
        have HD2 : Hid (t = false → dec (wordS ⟨(k : Int) + 1, rd, a, b, imm⟩) = none) := by
          show _ → _
          rw [HY.out]; exact hD2
        obtain ⟨jo, jr, ja, jb, ji⟩ := j
        simp only at SD
        have HSD : Hid (∀ w : World, Calls Tryd.prog 54 #[.int .u64 e0] w fun e w' => e = .returned (.tuple #[.agg #[.int .i64 jo, .int .i64 jr, .int .i64 ja, .int .i64 jb, .int .i64 ji], .bool t]) ∧ Below w.heap.size w w') := SD
        clear SD hD hD1 hD2 YR HF HF2
        simp only [Fm.str] at C1
        go_wp2_with fail
        refine (HSD.out _).mono ?_
        rintro e w4 ⟨rfl, hb4⟩
        have KW : Hid (w4.heap[w.heap.size]? = some (.cells #[.int .i64 ((k : Int) + 1), .int .i64 rd, .int .i64 a, .int .i64 b, .int .i64 imm] 30 (0, 0))) := keep_some hb4 (keep_some ((Below.refl _ _).alloc (Nat.le_refl _) _) K.out)
        have hbF : Below w.heap.size w w4 := hb0.trans ((((Below.refl w2.heap.size w2).alloc (Nat.le_refl _) _).trans (hb4.mono (by simp))).mono hb0.size)
        have AL4 : ∀ ob : Obj, Below w4.heap.size w4 (w4.alloc ob) := fun ob => (Below.refl _ _).alloc (Nat.le_refl _) ob
        have E0 : ∀ ob : Obj, (w4.alloc ob).cell? ⟨w.heap.size, 0, none⟩ = some (.int .i64 ((k : Int) + 1)) := fun ob => (cell_of_row _ _ _ _ _ _ (keep_some (AL4 ob) KW.out)).trans rfl
        have E1 : ∀ ob : Obj, (w4.alloc ob).cell? ⟨w.heap.size, 1, none⟩ = some (.int .i64 rd) := fun ob => (cell_of_row _ _ _ _ _ _ (keep_some (AL4 ob) KW.out)).trans rfl
        have E2 : ∀ ob : Obj, (w4.alloc ob).cell? ⟨w.heap.size, 2, none⟩ = some (.int .i64 a) := fun ob => (cell_of_row _ _ _ _ _ _ (keep_some (AL4 ob) KW.out)).trans rfl
        have E3 : ∀ ob : Obj, (w4.alloc ob).cell? ⟨w.heap.size, 3, none⟩ = some (.int .i64 b) := fun ob => (cell_of_row _ _ _ _ _ _ (keep_some (AL4 ob) KW.out)).trans rfl
        have E4 : ∀ ob : Obj, (w4.alloc ob).cell? ⟨w.heap.size, 4, none⟩ = some (.int .i64 imm) := fun ob => (cell_of_row _ _ _ _ _ _ (keep_some (AL4 ob) KW.out)).trans rfl
        clear AL4 hb4 q0 q1 q2 q3 Q1 Q2 Q3 Q4 C0 C1 C2 C3 C4 HSD H1 H2 H3 H4
        cases t with
        | false =>
          have F : Hid (V = .tuple #[.int .u64 0, .bool false]) := by
            show _ = _
            rw [EV.out, HD2.out rfl, if_neg (by simp)]
          go_wp2_with fail
          go_ret2
          exact ⟨by rw [F.out]; rfl, hbF.alloc hbF.size _⟩
        | true =>
          have HJ : Hid (dec (wordS ⟨(k : Int) + 1, rd, a, b, imm⟩) = some ⟨jo, jr, ja, jb, ji⟩) := HD1.out rfl
          obtain ⟨nb, hnb⟩ : ∃ nb, (!(jo == (k : Int) + 1 && jr == rd && ja == a && jb == b && ji == imm)) = nb := ⟨_, rfl⟩
          have HNB : Hid ((!(jo == (k : Int) + 1 && jr == rd && ja == a && jb == b && ji == imm)) = nb) := hnb
          clear hnb
          cases nb with
          | true =>
            have F : Hid (V = .tuple #[.int .u64 0, .bool false]) := by
              show _ = _
              rw [EV.out, HJ.out, if_neg]
              intro h
              simp only [Option.some.injEq, Ins.mk.injEq] at h
              have := HNB.out
              simp [h.1, h.2.1, h.2.2.1, h.2.2.2.1, h.2.2.2.2] at this
            go_wp2_with (refine wpList_neqInst rfl _ _ _ rfl rfl rfl true HNB.out ?_)
            go_ret2
            exact ⟨by rw [F.out]; rfl, hbF.alloc hbF.size _⟩
          | false =>
            have F : Hid (V = .tuple #[.int .u64 (wordS ⟨(k : Int) + 1, rd, a, b, imm⟩), .bool true]) := by
              show _ = _
              rw [EV.out, HJ.out, if_pos]
              have := HNB.out
              simp at this
              simp only [Option.some.injEq, Ins.mk.injEq]
              exact ⟨this.1.1.1.1, this.1.1.1.2, this.1.1.2, this.1.2, this.2⟩
            go_wp2_with (refine wpList_neqInst rfl _ _ _ rfl rfl rfl false HNB.out ?_)
            go_ret2
            exact ⟨by rw [F.out, HY.out]; rfl, hbF.alloc hbF.size _⟩
      case j =>
        simp only [decide_eq_true_eq] at HF
        have HF2 := HF.out
        have n0 : bits .and .u64 (M / 4096) 255 = M / 4096 % 256 := and_low (M / 4096) 8 (by omega) (by omega) (by decide)
        have x0 : IntKind.u64.wrap (M / 4096 % 256 * 4096) = M / 4096 % 256 * 4096 := wrapUe _ (by omega) (by omega)
        obtain ⟨e0, he0⟩ : ∃ e, bits .or .u64 c3 (M / 4096 % 256 * 4096) = e := ⟨_, rfl⟩
        have n1 : bits .and .u64 (M / 2048) 1 = M / 2048 % 2 := and_low (M / 2048) 1 (by omega) (by omega) (by decide)
        have x1 : IntKind.u64.wrap (M / 2048 % 2 * 1048576) = M / 2048 % 2 * 1048576 := wrapUe _ (by omega) (by omega)
        obtain ⟨e1, he1⟩ : ∃ e, bits .or .u64 e0 (M / 2048 % 2 * 1048576) = e := ⟨_, rfl⟩
        have n2 : bits .and .u64 (M / 2) 1023 = M / 2 % 1024 := and_low (M / 2) 10 (by omega) (by omega) (by decide)
        have x2 : IntKind.u64.wrap (M / 2 % 1024 * 2097152) = M / 2 % 1024 * 2097152 := wrapUe _ (by omega) (by omega)
        obtain ⟨e2, he2⟩ : ∃ e, bits .or .u64 e1 (M / 2 % 1024 * 2097152) = e := ⟨_, rfl⟩
        have n3 : bits .and .u64 (M / 1048576) 1 = M / 1048576 % 2 := and_low (M / 1048576) 1 (by omega) (by omega) (by decide)
        have x3 : IntKind.u64.wrap (M / 1048576 % 2 * 2147483648) = M / 1048576 % 2 * 2147483648 := wrapUe _ (by omega) (by omega)
        obtain ⟨e3, he3⟩ : ∃ e, bits .or .u64 e2 (M / 1048576 % 2 * 2147483648) = e := ⟨_, rfl⟩
        have HY : Hid (wordS ⟨(k : Int) + 1, rd, a, b, imm⟩ = e3) := by
          show _ = _
          rw [HWS.out]; simp only [layS]; rw [HBS.out, HMI.out, he0, he1, he2, he3]
        have YR : 0 ≤ e3 ∧ e3 < 18446744073709551616 := by rw [← he3]; exact bits_range _ _ _
        obtain ⟨j, t, hD, hD1, hD2⟩ := decV_ins e3
        have SD := specDecode_any e3 YR.1 YR.2
        rw [hD] at SD
        have HD1 : Hid (t = true → dec (wordS ⟨(k : Int) + 1, rd, a, b, imm⟩) = some j) := by
          show _ → _
          rw [HY.out]; exact hD1
        have HD2 : Hid (t = false → dec (wordS ⟨(k : Int) + 1, rd, a, b, imm⟩) = none) := by
          show _ → _
          rw [HY.out]; exact hD2
        obtain ⟨jo, jr, ja, jb, ji⟩ := j
        simp only at SD
        have HSD : Hid (∀ w : World, Calls Tryd.prog 54 #[.int .u64 e3] w fun e w' => e = .returned (.tuple #[.agg #[.int .i64 jo, .int .i64 jr, .int .i64 ja, .int .i64 jb, .int .i64 ji], .bool t]) ∧ Below w.heap.size w w') := SD
        clear SD hD hD1 hD2 YR HF HF2
        simp only [Fm.str] at C1
        go_wp2_with fail
        refine (HSD.out _).mono ?_
        rintro e w4 ⟨rfl, hb4⟩
        have KW : Hid (w4.heap[w.heap.size]? = some (.cells #[.int .i64 ((k : Int) + 1), .int .i64 rd, .int .i64 a, .int .i64 b, .int .i64 imm] 30 (0, 0))) := keep_some hb4 (keep_some ((Below.refl _ _).alloc (Nat.le_refl _) _) K.out)
        have hbF : Below w.heap.size w w4 := hb0.trans ((((Below.refl w2.heap.size w2).alloc (Nat.le_refl _) _).trans (hb4.mono (by simp))).mono hb0.size)
        have AL4 : ∀ ob : Obj, Below w4.heap.size w4 (w4.alloc ob) := fun ob => (Below.refl _ _).alloc (Nat.le_refl _) ob
        have E0 : ∀ ob : Obj, (w4.alloc ob).cell? ⟨w.heap.size, 0, none⟩ = some (.int .i64 ((k : Int) + 1)) := fun ob => (cell_of_row _ _ _ _ _ _ (keep_some (AL4 ob) KW.out)).trans rfl
        have E1 : ∀ ob : Obj, (w4.alloc ob).cell? ⟨w.heap.size, 1, none⟩ = some (.int .i64 rd) := fun ob => (cell_of_row _ _ _ _ _ _ (keep_some (AL4 ob) KW.out)).trans rfl
        have E2 : ∀ ob : Obj, (w4.alloc ob).cell? ⟨w.heap.size, 2, none⟩ = some (.int .i64 a) := fun ob => (cell_of_row _ _ _ _ _ _ (keep_some (AL4 ob) KW.out)).trans rfl
        have E3 : ∀ ob : Obj, (w4.alloc ob).cell? ⟨w.heap.size, 3, none⟩ = some (.int .i64 b) := fun ob => (cell_of_row _ _ _ _ _ _ (keep_some (AL4 ob) KW.out)).trans rfl
        have E4 : ∀ ob : Obj, (w4.alloc ob).cell? ⟨w.heap.size, 4, none⟩ = some (.int .i64 imm) := fun ob => (cell_of_row _ _ _ _ _ _ (keep_some (AL4 ob) KW.out)).trans rfl
        clear AL4 hb4 q0 q1 q2 q3 Q1 Q2 Q3 Q4 C0 C1 C2 C3 C4 HSD H1 H2 H3 H4
        cases t with
        | false =>
          have F : Hid (V = .tuple #[.int .u64 0, .bool false]) := by
            show _ = _
            rw [EV.out, HD2.out rfl, if_neg (by simp)]
          go_wp2_with fail
          go_ret2
          exact ⟨by rw [F.out]; rfl, hbF.alloc hbF.size _⟩
        | true =>
          have HJ : Hid (dec (wordS ⟨(k : Int) + 1, rd, a, b, imm⟩) = some ⟨jo, jr, ja, jb, ji⟩) := HD1.out rfl
          obtain ⟨nb, hnb⟩ : ∃ nb, (!(jo == (k : Int) + 1 && jr == rd && ja == a && jb == b && ji == imm)) = nb := ⟨_, rfl⟩
          have HNB : Hid ((!(jo == (k : Int) + 1 && jr == rd && ja == a && jb == b && ji == imm)) = nb) := hnb
          clear hnb
          cases nb with
          | true =>
            have F : Hid (V = .tuple #[.int .u64 0, .bool false]) := by
              show _ = _
              rw [EV.out, HJ.out, if_neg]
              intro h
              simp only [Option.some.injEq, Ins.mk.injEq] at h
              have := HNB.out
              simp [h.1, h.2.1, h.2.2.1, h.2.2.2.1, h.2.2.2.2] at this
            go_wp2_with (refine wpList_neqInst rfl _ _ _ rfl rfl rfl true HNB.out ?_)
            go_ret2
            exact ⟨by rw [F.out]; rfl, hbF.alloc hbF.size _⟩
          | false =>
            have F : Hid (V = .tuple #[.int .u64 (wordS ⟨(k : Int) + 1, rd, a, b, imm⟩), .bool true]) := by
              show _ = _
              rw [EV.out, HJ.out, if_pos]
              have := HNB.out
              simp at this
              simp only [Option.some.injEq, Ins.mk.injEq]
              exact ⟨this.1.1.1.1, this.1.1.1.2, this.1.1.2, this.1.2, this.2⟩
            go_wp2_with (refine wpList_neqInst rfl _ _ _ rfl rfl rfl false HNB.out ?_)
            go_ret2
            exact ⟨by rw [F.out, HY.out]; rfl, hbF.alloc hbF.size _⟩
      case r =>
        simp only [decide_eq_true_eq] at HF
        have HF2 := HF.out
        have xm : IntKind.u64.wrap (m * 33554432) = m * 33554432 := wrapUe _ (by omega) (by omega)
        obtain ⟨em, hem⟩ : ∃ e, bits .or .u64 c3 (m * 33554432) = e := ⟨_, rfl⟩
        have HY : Hid (wordS ⟨(k : Int) + 1, rd, a, b, imm⟩ = em) := by
          show _ = _
          rw [HWS.out]; simp only [layS]; rw [HBS.out, hem]
        have YR : 0 ≤ em ∧ em < 18446744073709551616 := by rw [← hem]; exact bits_range _ _ _
        obtain ⟨j, t, hD, hD1, hD2⟩ := decV_ins em
        have SD := specDecode_any em YR.1 YR.2
        rw [hD] at SD
        have HD1 : Hid (t = true → dec (wordS ⟨(k : Int) + 1, rd, a, b, imm⟩) = some j) := by
          show _ → _
          rw [HY.out]; exact hD1
        have HD2 : Hid (t = false → dec (wordS ⟨(k : Int) + 1, rd, a, b, imm⟩) = none) := by
          show _ → _
          rw [HY.out]; exact hD2
        obtain ⟨jo, jr, ja, jb, ji⟩ := j
        simp only at SD
        have HSD : Hid (∀ w : World, Calls Tryd.prog 54 #[.int .u64 em] w fun e w' => e = .returned (.tuple #[.agg #[.int .i64 jo, .int .i64 jr, .int .i64 ja, .int .i64 jb, .int .i64 ji], .bool t]) ∧ Below w.heap.size w w') := SD
        clear SD hD hD1 hD2 YR HF HF2
        simp only [Fm.str] at C1
        go_wp2_with fail
        refine (HSD.out _).mono ?_
        rintro e w4 ⟨rfl, hb4⟩
        have KW : Hid (w4.heap[w.heap.size]? = some (.cells #[.int .i64 ((k : Int) + 1), .int .i64 rd, .int .i64 a, .int .i64 b, .int .i64 imm] 30 (0, 0))) := keep_some hb4 (keep_some ((Below.refl _ _).alloc (Nat.le_refl _) _) K.out)
        have hbF : Below w.heap.size w w4 := hb0.trans ((((Below.refl w2.heap.size w2).alloc (Nat.le_refl _) _).trans (hb4.mono (by simp))).mono hb0.size)
        have AL4 : ∀ ob : Obj, Below w4.heap.size w4 (w4.alloc ob) := fun ob => (Below.refl _ _).alloc (Nat.le_refl _) ob
        have E0 : ∀ ob : Obj, (w4.alloc ob).cell? ⟨w.heap.size, 0, none⟩ = some (.int .i64 ((k : Int) + 1)) := fun ob => (cell_of_row _ _ _ _ _ _ (keep_some (AL4 ob) KW.out)).trans rfl
        have E1 : ∀ ob : Obj, (w4.alloc ob).cell? ⟨w.heap.size, 1, none⟩ = some (.int .i64 rd) := fun ob => (cell_of_row _ _ _ _ _ _ (keep_some (AL4 ob) KW.out)).trans rfl
        have E2 : ∀ ob : Obj, (w4.alloc ob).cell? ⟨w.heap.size, 2, none⟩ = some (.int .i64 a) := fun ob => (cell_of_row _ _ _ _ _ _ (keep_some (AL4 ob) KW.out)).trans rfl
        have E3 : ∀ ob : Obj, (w4.alloc ob).cell? ⟨w.heap.size, 3, none⟩ = some (.int .i64 b) := fun ob => (cell_of_row _ _ _ _ _ _ (keep_some (AL4 ob) KW.out)).trans rfl
        have E4 : ∀ ob : Obj, (w4.alloc ob).cell? ⟨w.heap.size, 4, none⟩ = some (.int .i64 imm) := fun ob => (cell_of_row _ _ _ _ _ _ (keep_some (AL4 ob) KW.out)).trans rfl
        clear AL4 hb4 q0 q1 q2 q3 Q1 Q2 Q3 Q4 C0 C1 C2 C3 C4 HSD H1 H2 H3 H4
        cases t with
        | false =>
          have F : Hid (V = .tuple #[.int .u64 0, .bool false]) := by
            show _ = _
            rw [EV.out, HD2.out rfl, if_neg (by simp)]
          go_wp2_with fail
          go_ret2
          exact ⟨by rw [F.out]; rfl, hbF.alloc hbF.size _⟩
        | true =>
          have HJ : Hid (dec (wordS ⟨(k : Int) + 1, rd, a, b, imm⟩) = some ⟨jo, jr, ja, jb, ji⟩) := HD1.out rfl
          obtain ⟨nb, hnb⟩ : ∃ nb, (!(jo == (k : Int) + 1 && jr == rd && ja == a && jb == b && ji == imm)) = nb := ⟨_, rfl⟩
          have HNB : Hid ((!(jo == (k : Int) + 1 && jr == rd && ja == a && jb == b && ji == imm)) = nb) := hnb
          clear hnb
          cases nb with
          | true =>
            have F : Hid (V = .tuple #[.int .u64 0, .bool false]) := by
              show _ = _
              rw [EV.out, HJ.out, if_neg]
              intro h
              simp only [Option.some.injEq, Ins.mk.injEq] at h
              have := HNB.out
              simp [h.1, h.2.1, h.2.2.1, h.2.2.2.1, h.2.2.2.2] at this
            go_wp2_with (refine wpList_neqInst rfl _ _ _ rfl rfl rfl true HNB.out ?_)
            go_ret2
            exact ⟨by rw [F.out]; rfl, hbF.alloc hbF.size _⟩
          | false =>
            have F : Hid (V = .tuple #[.int .u64 (wordS ⟨(k : Int) + 1, rd, a, b, imm⟩), .bool true]) := by
              show _ = _
              rw [EV.out, HJ.out, if_pos]
              have := HNB.out
              simp at this
              simp only [Option.some.injEq, Ins.mk.injEq]
              exact ⟨this.1.1.1.1, this.1.1.1.2, this.1.1.2, this.1.2, this.2⟩
            go_wp2_with (refine wpList_neqInst rfl _ _ _ rfl rfl rfl false HNB.out ?_)
            go_ret2
            exact ⟨by rw [F.out, HY.out]; rfl, hbF.alloc hbF.size _⟩
      case x =>
        simp only [decide_eq_true_eq] at HF
        have HF2 := HF.out
        have xm : IntKind.u64.wrap (m * 1048576) = m * 1048576 := wrapUe _ (by omega) (by omega)
        obtain ⟨em, hem⟩ : ∃ e, bits .or .u64 c3 (m * 1048576) = e := ⟨_, rfl⟩
        have HY : Hid (wordS ⟨(k : Int) + 1, rd, a, b, imm⟩ = em) := by
          show _ = _
          rw [HWS.out]; simp only [layS]; rw [HBS.out, hem]
        have YR : 0 ≤ em ∧ em < 18446744073709551616 := by rw [← hem]; exact bits_range _ _ _
        obtain ⟨j, t, hD, hD1, hD2⟩ := decV_ins em
        have SD := specDecode_any em YR.1 YR.2
        rw [hD] at SD
        have HD1 : Hid (t = true → dec (wordS ⟨(k : Int) + 1, rd, a, b, imm⟩) = some j) := by
          show _ → _
          rw [HY.out]; exact hD1
        have HD2 : Hid (t = false → dec (wordS ⟨(k : Int) + 1, rd, a, b, imm⟩) = none) := by
          show _ → _
          rw [HY.out]; exact hD2
        obtain ⟨jo, jr, ja, jb, ji⟩ := j
        simp only at SD
        have HSD : Hid (∀ w : World, Calls Tryd.prog 54 #[.int .u64 em] w fun e w' => e = .returned (.tuple #[.agg #[.int .i64 jo, .int .i64 jr, .int .i64 ja, .int .i64 jb, .int .i64 ji], .bool t]) ∧ Below w.heap.size w w') := SD
        clear SD hD hD1 hD2 YR HF HF2
        simp only [Fm.str] at C1
        go_wp2_with fail
        refine (HSD.out _).mono ?_
        rintro e w4 ⟨rfl, hb4⟩
        have KW : Hid (w4.heap[w.heap.size]? = some (.cells #[.int .i64 ((k : Int) + 1), .int .i64 rd, .int .i64 a, .int .i64 b, .int .i64 imm] 30 (0, 0))) := keep_some hb4 (keep_some ((Below.refl _ _).alloc (Nat.le_refl _) _) K.out)
        have hbF : Below w.heap.size w w4 := hb0.trans ((((Below.refl w2.heap.size w2).alloc (Nat.le_refl _) _).trans (hb4.mono (by simp))).mono hb0.size)
        have AL4 : ∀ ob : Obj, Below w4.heap.size w4 (w4.alloc ob) := fun ob => (Below.refl _ _).alloc (Nat.le_refl _) ob
        have E0 : ∀ ob : Obj, (w4.alloc ob).cell? ⟨w.heap.size, 0, none⟩ = some (.int .i64 ((k : Int) + 1)) := fun ob => (cell_of_row _ _ _ _ _ _ (keep_some (AL4 ob) KW.out)).trans rfl
        have E1 : ∀ ob : Obj, (w4.alloc ob).cell? ⟨w.heap.size, 1, none⟩ = some (.int .i64 rd) := fun ob => (cell_of_row _ _ _ _ _ _ (keep_some (AL4 ob) KW.out)).trans rfl
        have E2 : ∀ ob : Obj, (w4.alloc ob).cell? ⟨w.heap.size, 2, none⟩ = some (.int .i64 a) := fun ob => (cell_of_row _ _ _ _ _ _ (keep_some (AL4 ob) KW.out)).trans rfl
        have E3 : ∀ ob : Obj, (w4.alloc ob).cell? ⟨w.heap.size, 3, none⟩ = some (.int .i64 b) := fun ob => (cell_of_row _ _ _ _ _ _ (keep_some (AL4 ob) KW.out)).trans rfl
        have E4 : ∀ ob : Obj, (w4.alloc ob).cell? ⟨w.heap.size, 4, none⟩ = some (.int .i64 imm) := fun ob => (cell_of_row _ _ _ _ _ _ (keep_some (AL4 ob) KW.out)).trans rfl
        clear AL4 hb4 q0 q1 q2 q3 Q1 Q2 Q3 Q4 C0 C1 C2 C3 C4 HSD H1 H2 H3 H4
        cases t with
        | false =>
          have F : Hid (V = .tuple #[.int .u64 0, .bool false]) := by
            show _ = _
            rw [EV.out, HD2.out rfl, if_neg (by simp)]
          go_wp2_with fail
          go_ret2
          exact ⟨by rw [F.out]; rfl, hbF.alloc hbF.size _⟩
        | true =>
          have HJ : Hid (dec (wordS ⟨(k : Int) + 1, rd, a, b, imm⟩) = some ⟨jo, jr, ja, jb, ji⟩) := HD1.out rfl
          obtain ⟨nb, hnb⟩ : ∃ nb, (!(jo == (k : Int) + 1 && jr == rd && ja == a && jb == b && ji == imm)) = nb := ⟨_, rfl⟩
          have HNB : Hid ((!(jo == (k : Int) + 1 && jr == rd && ja == a && jb == b && ji == imm)) = nb) := hnb
          clear hnb
          cases nb with
          | true =>
            have F : Hid (V = .tuple #[.int .u64 0, .bool false]) := by
              show _ = _
              rw [EV.out, HJ.out, if_neg]
              intro h
              simp only [Option.some.injEq, Ins.mk.injEq] at h
              have := HNB.out
              simp [h.1, h.2.1, h.2.2.1, h.2.2.2.1, h.2.2.2.2] at this
            go_wp2_with (refine wpList_neqInst rfl _ _ _ rfl rfl rfl true HNB.out ?_)
            go_ret2
            exact ⟨by rw [F.out]; rfl, hbF.alloc hbF.size _⟩
          | false =>
            have F : Hid (V = .tuple #[.int .u64 (wordS ⟨(k : Int) + 1, rd, a, b, imm⟩), .bool true]) := by
              show _ = _
              rw [EV.out, HJ.out, if_pos]
              have := HNB.out
              simp at this
              simp only [Option.some.injEq, Ins.mk.injEq]
              exact ⟨this.1.1.1.1, this.1.1.1.2, this.1.1.2, this.1.2, this.2⟩
            go_wp2_with (refine wpList_neqInst rfl _ _ _ rfl rfl rfl false HNB.out ?_)
            go_ret2
            exact ⟨by rw [F.out, HY.out]; rfl, hbF.alloc hbF.size _⟩
  · have F : Hid (encVS i = .tuple #[.int .u64 0, .bool false]) := by
      show _ = _
      unfold encVS encS
      rw [if_neg (by simp only [Bool.and_eq_true]; intro h; exact hok h.1)]
    rw [← hV] at F ⊢
    obtain ⟨op, rd, a, b, imm⟩ := i
    have D : (decide (1 ≤ op ∧ op ≤ 98) && (decide (0 ≤ rd ∧ rd ≤ 31) && decide (0 ≤ a ∧ a ≤ 31) && decide (0 ≤ b ∧ b ≤ 31))) = false := by
      rw [Bool.eq_false_iff]; intro h; rw [Bool.and_eq_true] at h; exact hok h
    simp only
    obtain ⟨t1, ht1⟩ : ∃ t, t = decide (1 ≤ op ∧ op ≤ 98) := ⟨_, rfl⟩
    obtain ⟨t2, ht2⟩ : ∃ t, t = decide (0 ≤ rd ∧ rd ≤ 31) := ⟨_, rfl⟩
    obtain ⟨t3, ht3⟩ : ∃ t, t = decide (0 ≤ a ∧ a ≤ 31) := ⟨_, rfl⟩
    obtain ⟨t4, ht4⟩ : ∃ t, t = decide (0 ≤ b ∧ b ≤ 31) := ⟨_, rfl⟩
    have I1 := l1In_any op 1 98
    have I2 := l1In_any rd 0 31
    have I3 := l1In_any a 0 31
    have I4 := l1In_any b 0 31
    rw [← ht1] at I1 D
    rw [← ht2] at I2 D
    rw [← ht3] at I3 D
    rw [← ht4] at I4 D
    have H1 : Hid (∀ w : World, Calls Tryd.prog 53 #[.int .i64 op, .int .i64 1, .int .i64 98] w fun e w' => e = .returned (.bool t1) ∧ w' = w) := I1
    have H2 : Hid (∀ w : World, Calls Tryd.prog 53 #[.int .i64 rd, .int .i64 0, .int .i64 31] w fun e w' => e = .returned (.bool t2) ∧ w' = w) := I2
    have H3 : Hid (∀ w : World, Calls Tryd.prog 53 #[.int .i64 a, .int .i64 0, .int .i64 31] w fun e w' => e = .returned (.bool t3) ∧ w' = w) := I3
    have H4 : Hid (∀ w : World, Calls Tryd.prog 53 #[.int .i64 b, .int .i64 0, .int .i64 31] w fun e w' => e = .returned (.bool t4) ∧ w' = w) := I4
    clear I1 I2 I3 I4 ht1 ht2 ht3 ht4 hV hok
    go_enter Tryd.func24, Tryd.ntmps24
    go_wp2_with fail
    refine (l2Rows_T _).mono ?_
    rintro e w2 ⟨rfl, hT, hb⟩
    have hb0 : Below w.heap.size w w2 := ((Below.refl _ _).alloc (Nat.le_refl _) _).trans (hb.mono (by simp))
    have K : w2.heap[w.heap.size]? = some (.cells #[.int .i64 op, .int .i64 rd, .int .i64 a, .int .i64 b, .int .i64 imm] 30 (0, 0)) := by
      rw [hb.block _ (by simp)]; exact heap_alloc_new _ _
    have q0 : w2.cell? ⟨w.heap.size, 0, none⟩ = some (.int .i64 op) := (cell_of_row _ _ _ _ _ _ K).trans rfl
    have q1 : w2.cell? ⟨w.heap.size, 1, none⟩ = some (.int .i64 rd) := (cell_of_row _ _ _ _ _ _ K).trans rfl
    have q2 : w2.cell? ⟨w.heap.size, 2, none⟩ = some (.int .i64 a) := (cell_of_row _ _ _ _ _ _ K).trans rfl
    have q3 : w2.cell? ⟨w.heap.size, 3, none⟩ = some (.int .i64 b) := (cell_of_row _ _ _ _ _ _ K).trans rfl
    clear K hb hT
    cases t1 <;> cases t2 <;> cases t3 <;> cases t4
    case true.true.true.true => cases D
    all_goals (
      clear D
      go_wp2_with (go_at_call 53; first | (with_reducible refine (H1.out _).mono ?_; rintro e w3 ⟨rfl, hw3⟩; have hw4 := hw3.symm; subst hw4) | (with_reducible refine (H2.out _).mono ?_; rintro e w3 ⟨rfl, hw3⟩; have hw4 := hw3.symm; subst hw4) | (with_reducible refine (H3.out _).mono ?_; rintro e w3 ⟨rfl, hw3⟩; have hw4 := hw3.symm; subst hw4) | (with_reducible refine (H4.out _).mono ?_; rintro e w3 ⟨rfl, hw3⟩; have hw4 := hw3.symm; subst hw4))
      go_ret2
      exact ⟨by rw [F.out]; rfl, hb0⟩)

end Go.Proofs.YtjjpklalihaanaaDoor
