/- The program's Encode, over a contract of its look-up of bare instructions. -/
import Derived.Test.YtjjpklalihaanaaDoorEncL
import Derived.Test.YtjjpklalihaanaaDoorEncN
import Derived.Test.YtjjpklalihaanaaDoorDecD
namespace Go.Proofs.YtjjpklalihaanaaDoor
open Go.RowKit
set_option linter.unusedVariables false

theorem layP_range (imm : Int) : ∀ (l : List (Nat × Nat × Nat)) (acc : Int), 0 ≤ acc ∧ acc < 18446744073709551616 → 0 ≤ layP imm acc l ∧ layP imm acc l < 18446744073709551616 := by
  intro l
  induction l with
  | nil => intro acc h; exact h
  | cons p l ih => intro acc h; exact ih _ (bits_range _ _ _)

theorem layI_range (f : Fm) (o z m : Int) (i : Ins) : 0 ≤ layI f o z m i ∧ layI f o z m i < 18446744073709551616 := by
  have h0 : 0 ≤ bitsI f o z m ∧ bitsI f o z m < 18446744073709551616 := bits_range _ _ _
  have h1 : 0 ≤ layI1 f o z m i.rd ∧ layI1 f o z m i.rd < 18446744073709551616 := by
    unfold layI1; split
    · exact bits_range _ _ _
    · exact h0
  have h2 : 0 ≤ layI2 f o z m i.rd i.a ∧ layI2 f o z m i.rd i.a < 18446744073709551616 := by
    unfold layI2; split
    · exact bits_range _ _ _
    · exact h1
  have h3 : 0 ≤ layI3 f o z m i.rd i.a i.b ∧ layI3 f o z m i.rd i.a i.b < 18446744073709551616 := by
    unfold layI3; split
    · exact bits_range _ _ _
    · exact h2
  exact layP_range _ _ _ h3

def encVI (i : Ins) : Value := .tuple #[.int .u64 (encI i).1, .bool (encI i).2]

/-- What the look-up of bare instructions is to do. -/
def BareDoes : Prop := ∀ (i : Ins), (rowOp i.op).fm = .x → opB i.op = true → ∀ w : World,
  Calls Tryd.prog 47 #[.agg #[.int .i64 i.op, .int .i64 i.rd, .int .i64 i.a, .int .i64 i.b, .int .i64 i.imm]] w fun e w' =>
    e = .returned (.tuple #[.int .u64 (if bareB i then bitsI .x (rowOp i.op).op (rowOp i.op).f3z (rowOp i.op).more else 0), .bool (bareB i)]) ∧ Below w.heap.size w w'

set_option maxRecDepth 100000 in
set_option maxHeartbeats 3200000 in
theorem implEncode_any (HBW : BareDoes) (i : Ins) (w1 : (Lit.int .i64 i.op).wf = true) (w : World) :
    Calls Tryd.prog 22 #[.agg #[.int .i64 i.op, .int .i64 i.rd, .int .i64 i.a, .int .i64 i.b, .int .i64 i.imm]] w fun e w' => e = .returned (encVI i) ∧ Below w.heap.size w w' := by
  obtain ⟨V, hV⟩ : ∃ V, V = encVI i := ⟨_, rfl⟩
  have RO := rowOf_any i.op w1
  cases ho : opB i.op with
  | false =>
    have F : Hid (V = .tuple #[.int .u64 0, .bool false]) := by
      show _ = _
      rw [hV]; unfold encVI encI; rw [ho]; rfl
    rw [← hV]
    rw [ho, rowV_false ho] at RO
    obtain ⟨op, rd, a, b, imm⟩ := i
    simp only at RO ⊢
    have HRO : Hid (∀ w : World, Calls Tryd.prog 46 #[.int .i64 op] w fun e w' => e = .returned (.tuple #[.agg #[.string ⟨#[]⟩, .string ⟨#[]⟩, .int .u64 0, .int .u64 0, .int .u64 0], .bool false]) ∧ Below w.heap.size w w') := RO
    clear RO hV ho HBW
    go_enter Tryd.func22, Tryd.ntmps22
    go_wp2_with fail
    refine (HRO.out _).mono ?_
    rintro e w2 ⟨rfl, hb⟩
    have hb0 : Below w.heap.size w w2 := ((Below.refl _ _).alloc (Nat.le_refl _) _).trans (hb.mono (by simp))
    clear hb
    go_wp2_with fail
    go_ret2
    exact ⟨by rw [F.out]; rfl, hb0.alloc hb0.size _⟩
  | true =>
    have ho2 : 1 ≤ i.op ∧ i.op ≤ 98 := of_decide_eq_true ho
    obtain ⟨op, rd, a, b, imm⟩ := i
    simp only at ho2 w1 ho RO ⊢
    obtain ⟨k, hk⟩ : ∃ k : Nat, op = (k : Int) + 1 := ⟨(op - 1).toNat, by omega⟩
    have hk2 : k < 98 := by omega
    subst hk
    have RK : rowOp ((k : Int) + 1) = rowAt k := by simp [rowOp]
    have BW0 := HBW ⟨(k : Int) + 1, rd, a, b, imm⟩
    simp only [RK] at BW0
    obtain ⟨r, hr0⟩ : ∃ r, r = rowAt k := ⟨_, rfl⟩
    rw [ho, rowV_true ho, ← hr0] at RO
    rw [← hr0] at BW0
    have EV : Hid (V = if r.fm = .x then .tuple #[.int .u64 (if bareB ⟨(k : Int) + 1, rd, a, b, imm⟩ then bitsI .x r.op r.f3z r.more else 0), .bool (bareB ⟨(k : Int) + 1, rd, a, b, imm⟩)] else if dec (layI r.fm r.op r.f3z r.more ⟨(k : Int) + 1, rd, a, b, imm⟩) = some ⟨(k : Int) + 1, rd, a, b, imm⟩ then .tuple #[.int .u64 (layI r.fm r.op r.f3z r.more ⟨(k : Int) + 1, rd, a, b, imm⟩), .bool true] else .tuple #[.int .u64 0, .bool false]) := by
      show _ = _
      rw [hV]
      unfold encVI encI wordI
      simp only [ho, RK, ← hr0, if_true]
      by_cases h1 : r.fm = .x
      · simp only [h1, if_true]
        cases bareB ⟨(k : Int) + 1, rd, a, b, imm⟩ <;> rfl
      · simp only [h1, if_false]
        by_cases h2 : dec (layI r.fm r.op r.f3z r.more ⟨(k : Int) + 1, rd, a, b, imm⟩) = some ⟨(k : Int) + 1, rd, a, b, imm⟩ <;> simp [h2]
    rw [← hV]
    clear hV HBW RK hr0 ho2
    obtain ⟨nm, f, o, m3, m⟩ := r
    obtain ⟨z, hz⟩ : ∃ z, z = Row.f3z ⟨nm, f, o, m3, m⟩ := ⟨_, rfl⟩
    rw [← hz] at EV BW0
    have HRO : Hid (∀ w : World, Calls Tryd.prog 46 #[.int .i64 ((k : Int) + 1)] w fun e w' => e = .returned (.tuple #[.agg #[.string nm, .string f.str, .int .u64 o, .int .u64 z, .int .u64 m], .bool true]) ∧ Below w.heap.size w w') := by
      intro w
      have := RO w
      rw [Row.val, ← hz] at this
      exact this
    simp only at EV BW0
    clear RO hz
    by_cases hx : f = .x
    · subst hx
      obtain ⟨v, hv⟩ : ∃ v, v = (if bareB ⟨(k : Int) + 1, rd, a, b, imm⟩ then bitsI .x o z m else 0) := ⟨_, rfl⟩
      obtain ⟨t, ht⟩ : ∃ t, t = bareB ⟨(k : Int) + 1, rd, a, b, imm⟩ := ⟨_, rfl⟩
      have BW1 := BW0 rfl ho
      have F : Hid (V = .tuple #[.int .u64 v, .bool t]) := by
        show _ = _
        rw [EV.out, if_pos rfl, hv, ht]
      rw [← hv, ← ht] at BW1
      have BW : Hid (∀ w : World, Calls Tryd.prog 47 #[.agg #[.int .i64 ((k : Int) + 1), .int .i64 rd, .int .i64 a, .int .i64 b, .int .i64 imm]] w fun e w' => e = .returned (.tuple #[.int .u64 v, .bool t]) ∧ Below w.heap.size w w') := BW1
      clear BW0 BW1 EV hv ht ho
      simp only [Fm.str] at HRO
      go_enter Tryd.func22, Tryd.ntmps22
      go_wp2_with fail
      refine (HRO.out _).mono ?_
      rintro e w2 ⟨rfl, hb⟩
      have hb0 : Below w.heap.size w w2 := ((Below.refl _ _).alloc (Nat.le_refl _) _).trans (hb.mono (by simp))
      have K : Hid (w2.heap[w.heap.size]? = some (.cells #[.int .i64 ((k : Int) + 1), .int .i64 rd, .int .i64 a, .int .i64 b, .int .i64 imm] 30 (0, 0))) := by
        show _ = _
        rw [hb.block _ (by simp)]; exact heap_alloc_new _ _
      have AL : ∀ ob : Obj, Below w2.heap.size w2 (w2.alloc ob) := fun ob => (Below.refl _ _).alloc (Nat.le_refl _) ob
      have E0 : ∀ ob : Obj, (w2.alloc ob).cell? ⟨w.heap.size, 0, none⟩ = some (.int .i64 ((k : Int) + 1)) := fun ob => (cell_of_row _ _ _ _ _ _ (keep_some (AL ob) K.out)).trans rfl
      have E1 : ∀ ob : Obj, (w2.alloc ob).cell? ⟨w.heap.size, 1, none⟩ = some (.int .i64 rd) := fun ob => (cell_of_row _ _ _ _ _ _ (keep_some (AL ob) K.out)).trans rfl
      have E2 : ∀ ob : Obj, (w2.alloc ob).cell? ⟨w.heap.size, 2, none⟩ = some (.int .i64 a) := fun ob => (cell_of_row _ _ _ _ _ _ (keep_some (AL ob) K.out)).trans rfl
      have E3 : ∀ ob : Obj, (w2.alloc ob).cell? ⟨w.heap.size, 3, none⟩ = some (.int .i64 b) := fun ob => (cell_of_row _ _ _ _ _ _ (keep_some (AL ob) K.out)).trans rfl
      have E4 : ∀ ob : Obj, (w2.alloc ob).cell? ⟨w.heap.size, 4, none⟩ = some (.int .i64 imm) := fun ob => (cell_of_row _ _ _ _ _ _ (keep_some (AL ob) K.out)).trans rfl
      clear hb AL
      go_wp2_with fail
      refine (BW.out _).mono ?_
      rintro e w3 ⟨rfl, hb3⟩
      go_wp2_with fail
      go_ret2
      exact ⟨by rw [F.out]; rfl, (hb0.alloc hb0.size _).trans (hb3.mono (by have := hb0.size; simp; omega))⟩
    · have LF0 := layFields_any ((k : Int) + 1) rd a b imm nm f o z m
      have YR := layI_range f o z m ⟨(k : Int) + 1, rd, a, b, imm⟩
      obtain ⟨y, hy⟩ : ∃ y, y = layI f o z m ⟨(k : Int) + 1, rd, a, b, imm⟩ := ⟨_, rfl⟩
      rw [← hy] at LF0 YR EV
      have EV2 : Hid (V = if dec y = some ⟨(k : Int) + 1, rd, a, b, imm⟩ then .tuple #[.int .u64 y, .bool true] else .tuple #[.int .u64 0, .bool false]) := by
        show _ = _
        rw [EV.out, if_neg hx]
      obtain ⟨j, t, hD, hD1, hD2⟩ := decV_ins y
      have SD := implDecode_any y YR.1 YR.2
      rw [hD] at SD
      have HD1 : Hid (t = true → dec y = some j) := hD1
      have HD2 : Hid (t = false → dec y = none) := hD2
      obtain ⟨jo, jr, ja, jb, ji⟩ := j
      simp only at SD
      have HSD : Hid (∀ w : World, Calls Tryd.prog 9 #[.int .u64 y] w fun e w' => e = .returned (.tuple #[.agg #[.int .i64 jo, .int .i64 jr, .int .i64 ja, .int .i64 jb, .int .i64 ji], .bool t]) ∧ Below w.heap.size w w') := SD
      have LF : Hid (∀ w : World, Calls Tryd.prog 48 #[.agg #[.int .i64 ((k : Int) + 1), .int .i64 rd, .int .i64 a, .int .i64 b, .int .i64 imm], .agg #[.string nm, .string f.str, .int .u64 o, .int .u64 z, .int .u64 m]] w fun e w' => e = .returned (.int .u64 y) ∧ Below w.heap.size w w') := LF0
      clear LF0 YR EV SD hD hD1 hD2 BW0 hy ho
      cases f
      case x => exact absurd rfl hx
      all_goals (
        clear hx
        simp only [Fm.str] at HRO LF
        go_enter Tryd.func22, Tryd.ntmps22
        go_wp2_with fail
        refine (HRO.out _).mono ?_
        rintro e w2 ⟨rfl, hb⟩
        have hb0 : Below w.heap.size w w2 := ((Below.refl _ _).alloc (Nat.le_refl _) _).trans (hb.mono (by simp))
        have K : Hid (w2.heap[w.heap.size]? = some (.cells #[.int .i64 ((k : Int) + 1), .int .i64 rd, .int .i64 a, .int .i64 b, .int .i64 imm] 30 (0, 0))) := by
          show _ = _
          rw [hb.block _ (by simp)]; exact heap_alloc_new _ _
        have AL : ∀ ob : Obj, Below w2.heap.size w2 (w2.alloc ob) := fun ob => (Below.refl _ _).alloc (Nat.le_refl _) ob
        have E0 : ∀ ob : Obj, (w2.alloc ob).cell? ⟨w.heap.size, 0, none⟩ = some (.int .i64 ((k : Int) + 1)) := fun ob => (cell_of_row _ _ _ _ _ _ (keep_some (AL ob) K.out)).trans rfl
        have E1 : ∀ ob : Obj, (w2.alloc ob).cell? ⟨w.heap.size, 1, none⟩ = some (.int .i64 rd) := fun ob => (cell_of_row _ _ _ _ _ _ (keep_some (AL ob) K.out)).trans rfl
        have E2 : ∀ ob : Obj, (w2.alloc ob).cell? ⟨w.heap.size, 2, none⟩ = some (.int .i64 a) := fun ob => (cell_of_row _ _ _ _ _ _ (keep_some (AL ob) K.out)).trans rfl
        have E3 : ∀ ob : Obj, (w2.alloc ob).cell? ⟨w.heap.size, 3, none⟩ = some (.int .i64 b) := fun ob => (cell_of_row _ _ _ _ _ _ (keep_some (AL ob) K.out)).trans rfl
        have E4 : ∀ ob : Obj, (w2.alloc ob).cell? ⟨w.heap.size, 4, none⟩ = some (.int .i64 imm) := fun ob => (cell_of_row _ _ _ _ _ _ (keep_some (AL ob) K.out)).trans rfl
        clear hb AL
        go_wp2_with fail
        refine (LF.out _).mono ?_
        rintro e w3 ⟨rfl, hb3⟩
        have K3 : Hid (w3.heap[w.heap.size]? = some (.cells #[.int .i64 ((k : Int) + 1), .int .i64 rd, .int .i64 a, .int .i64 b, .int .i64 imm] 30 (0, 0))) := keep_some hb3 (keep_some ((Below.refl _ _).alloc (Nat.le_refl _) _) K.out)
        have hb4 : Below w.heap.size w w3 := hb0.trans ((((Below.refl w2.heap.size w2).alloc (Nat.le_refl _) _).trans (hb3.mono (by simp))).mono hb0.size)
        clear hb3 E0 E1 E2 E3 E4 K hb0
        go_wp2_with fail
        refine (HSD.out _).mono ?_
        rintro e w4 ⟨rfl, hb5⟩
        have K4 : Hid (w4.heap[w.heap.size]? = some (.cells #[.int .i64 ((k : Int) + 1), .int .i64 rd, .int .i64 a, .int .i64 b, .int .i64 imm] 30 (0, 0))) := keep_some hb5 K3.out
        have hbF : Below w.heap.size w w4 := below_trans hb4 hb5
        have AL4 : ∀ ob : Obj, Below w4.heap.size w4 (w4.alloc ob) := fun ob => (Below.refl _ _).alloc (Nat.le_refl _) ob
        have E0 : ∀ ob : Obj, (w4.alloc ob).cell? ⟨w.heap.size, 0, none⟩ = some (.int .i64 ((k : Int) + 1)) := fun ob => (cell_of_row _ _ _ _ _ _ (keep_some (AL4 ob) K4.out)).trans rfl
        have E1 : ∀ ob : Obj, (w4.alloc ob).cell? ⟨w.heap.size, 1, none⟩ = some (.int .i64 rd) := fun ob => (cell_of_row _ _ _ _ _ _ (keep_some (AL4 ob) K4.out)).trans rfl
        have E2 : ∀ ob : Obj, (w4.alloc ob).cell? ⟨w.heap.size, 2, none⟩ = some (.int .i64 a) := fun ob => (cell_of_row _ _ _ _ _ _ (keep_some (AL4 ob) K4.out)).trans rfl
        have E3 : ∀ ob : Obj, (w4.alloc ob).cell? ⟨w.heap.size, 3, none⟩ = some (.int .i64 b) := fun ob => (cell_of_row _ _ _ _ _ _ (keep_some (AL4 ob) K4.out)).trans rfl
        have E4 : ∀ ob : Obj, (w4.alloc ob).cell? ⟨w.heap.size, 4, none⟩ = some (.int .i64 imm) := fun ob => (cell_of_row _ _ _ _ _ _ (keep_some (AL4 ob) K4.out)).trans rfl
        clear AL4 hb5 hb4 K3 HSD LF HRO
        cases t with
        | false =>
          have F : Hid (V = .tuple #[.int .u64 0, .bool false]) := by
            show _ = _
            rw [EV2.out, HD2.out rfl, if_neg (by simp)]
          go_wp2_with fail
          go_ret2
          exact ⟨by rw [F.out]; rfl, hbF.alloc hbF.size _⟩
        | true =>
          have HJ : Hid (dec y = some ⟨jo, jr, ja, jb, ji⟩) := HD1.out rfl
          obtain ⟨nb, hnb⟩ : ∃ nb, (!(jo == (k : Int) + 1 && jr == rd && ja == a && jb == b && ji == imm)) = nb := ⟨_, rfl⟩
          have HNB : Hid ((!(jo == (k : Int) + 1 && jr == rd && ja == a && jb == b && ji == imm)) = nb) := hnb
          clear hnb
          cases nb with
          | true =>
            have F : Hid (V = .tuple #[.int .u64 0, .bool false]) := by
              show _ = _
              rw [EV2.out, HJ.out, if_neg]
              intro h
              simp only [Option.some.injEq, Ins.mk.injEq] at h
              have := HNB.out
              simp [h.1, h.2.1, h.2.2.1, h.2.2.2.1, h.2.2.2.2] at this
            go_wp2_with (refine wpList_neqInst rfl _ _ _ rfl rfl rfl true HNB.out ?_)
            go_ret2
            exact ⟨by rw [F.out]; rfl, hbF.alloc hbF.size _⟩
          | false =>
            have F : Hid (V = .tuple #[.int .u64 y, .bool true]) := by
              show _ = _
              rw [EV2.out, HJ.out, if_pos]
              have := HNB.out
              simp at this
              simp only [Option.some.injEq, Ins.mk.injEq]
              exact ⟨this.1.1.1.1, this.1.1.1.2, this.1.1.2, this.1.2, this.2⟩
            go_wp2_with (refine wpList_neqInst rfl _ _ _ rfl rfl rfl false HNB.out ?_)
            go_ret2
            exact ⟨by rw [F.out]; rfl, hbF.alloc hbF.size _⟩)

end Go.Proofs.YtjjpklalihaanaaDoor
