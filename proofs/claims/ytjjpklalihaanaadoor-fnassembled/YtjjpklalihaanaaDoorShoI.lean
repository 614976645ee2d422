/- The program's Show and what it calls. -/
import Derived.Test.YtjjpklalihaanaaDoorShoP
import Derived.Test.YtjjpklalihaanaaDoorShelf
import Derived.Lib.LaidTab
namespace Go.Proofs.YtjjpklalihaanaaDoor
open Go.RowKit
set_option linter.unusedVariables false

/-- The library's table of powers of ten lies where its initialiser lays it. -/
def Tp (w : World) : Prop := 1 < w.heap.size ∧ Lib.TabIs Tryd.prog w "internal/strconv.uint64pow10" .u64 Lib.pow10Tab

theorem Tp.below {w w' : World} (h : Tp w) (hb : Below w.heap.size w w') : Tp w' := by
  refine ⟨Nat.lt_of_lt_of_le h.1 hb.size, ?_⟩
  have h2 := h.2
  have hg : Tryd.prog.globalNamed "internal/strconv.uint64pow10" = some 1 := by kernel_rfl
  unfold Lib.TabIs World.var? at h2 ⊢
  rw [hg] at h2 ⊢
  simp only [Option.bind_some] at h2 ⊢
  rw [hb.block _ h.1]
  exact h2

theorem below_grow {w : World} (k : Nat) (os : Array Obj) : Below w.heap.size w (Go.Sort.grow (w.drewN k) os) := by
  refine ⟨rfl, rfl, rfl, ?_, fun j hj => ?_⟩
  · simp [Go.Sort.grow, World.drewN]
  · show (w.heap ++ os)[j]? = w.heap[j]?
    rw [Array.getElem?_append_left hj]

theorem fmt_any (n : Int) (h0 : (Lit.int .i64 n).wf = true) (w : World) (hT : Tp w) :
    Calls Tryd.prog 59 #[.int .i64 n, .int .i64 10] w fun e w' => e = .returned (.string ⟨(Lib.itoa n).toArray⟩) ∧ Below w.heap.size w w' := by
  refine (Tryd.strconv_FormatInt_10 n (wf_bds h0).1 (wf_bds h0).2 w hT.2).mono ?_
  rintro e w' ⟨rfl, k, os, rfl⟩
  exact ⟨rfl, below_grow k os⟩

/-- A list in a new block. -/
theorem sl_new (kd : IntKind) (T : TypeId) (zs : List Int) (w : World) : Sl kd (w.alloc (.cells (zs.map (Value.int kd)).toArray T (0, 0))) (some ⟨w.heap.size, 0, none⟩) zs := by
  intro i hi
  have hn : (w.alloc (.cells (zs.map (Value.int kd)).toArray T (0, 0))).heap[w.heap.size]? = some (.cells (zs.map (Value.int kd)).toArray T (0, 0)) := heap_alloc_new _ _
  refine ⟨w.heap.size, 0, rfl, ?_, ?_⟩
  · by_cases hl : w.heap.size < (w.alloc (.cells (zs.map (Value.int kd)).toArray T (0, 0))).heap.size
    · exact hl
    · rw [Array.getElem?_eq_none (by omega)] at hn; cases hn
  · simp only [World.cell?, hn]
    simp [List.getD, hi]

def shInts (f : Fm) : List Int := (shParts f).map fun (p : Nat) => (p : Int)

theorem partsOf_any (f : Fm) (w : World) : Calls Tryd.prog 29 #[.string f.str] w fun e w' => ∃ a, e = .returned (.slice a (shParts f).length (shParts f).length) ∧ Hid (Sl .i64 w' a (shInts f)) ∧ Below w.heap.size w w' := by
  cases f <;> simp only [Fm.str] <;> go_enter Tryd.func29, Tryd.ntmps29 <;> go_wp2 <;> go_ret <;>
    first
      | exact ⟨_, rfl, sl_new .i64 _ [_, _, _, _] _, (Below.refl _ _).alloc (Nat.le_refl _) _⟩
      | exact ⟨_, rfl, sl_new .i64 _ [_, _, _] _, (Below.refl _ _).alloc (Nat.le_refl _) _⟩
      | exact ⟨_, rfl, sl_new .i64 _ [_, _] _, (Below.refl _ _).alloc (Nat.le_refl _) _⟩
      | exact ⟨_, rfl, (fun i hi => absurd hi (Nat.not_lt_zero i) : Sl .i64 w _ (shInts .x)), Below.refl _ _⟩

theorem partsOf_none (w : World) : Calls Tryd.prog 29 #[.string ⟨#[]⟩] w fun e w' => e = .returned (.slice none 0 0) ∧ w' = w := by
  go_enter Tryd.func29, Tryd.ntmps29
  go_wp2
  go_ret
  exact ⟨rfl, rfl⟩

set_option maxRecDepth 20000 in
set_option maxHeartbeats 800000 in
theorem showPart_0 (i : Ins) (h : IW i) (w : World) (hT : Tp w) : Calls Tryd.prog 31 #[.agg #[.int .i64 i.op, .int .i64 i.rd, .int .i64 i.a, .int .i64 i.b, .int .i64 i.imm], .int .i64 0] w fun e w' => e = .returned (.string ⟨(shPart i 0).toArray⟩) ∧ Below w.heap.size w w' := by
  obtain ⟨T, hT0⟩ : ∃ T : ByteArray, T = ⟨(Lib.itoa i.rd).toArray⟩ := ⟨_, rfl⟩
  have HT : Hid (T = ⟨(Lib.itoa i.rd).toArray⟩) := hT0
  have HC : Hid (∀ W : World, Tp W → Calls Tryd.prog 59 #[.int .i64 i.rd, .int .i64 10] W fun e w' => e = .returned (.string T) ∧ Below W.heap.size W w') := fun W hW => by rw [hT0]; exact fmt_any i.rd h.2.1 W hW
  have hTl : T.size ≤ 21 := by rw [hT0]; simpa [ByteArray.size] using Lib.itoa_length_le i.rd (wf_bds h.2.1).1 (wf_bds h.2.1).2
  have hg2 : ¬ 9223372036854775807 < 1 + T.size := by omega
  have HP : Hid (Tp w) := hT
  clear hT0 hTl hT
  go_enter Tryd.func31, Tryd.ntmps31
  go_wp2_with fail
  refine (HC.out _ (HP.out.below ((Below.refl _ _).alloc (Nat.le_refl _) _))).mono ?_
  rintro e w5 ⟨rfl, hb5⟩
  go_wp2_with fail
  go_ret
  refine ⟨?_, below_trans ((Below.refl _ _).alloc (Nat.le_refl _) _) hb5⟩
  have : (⟨#[120]⟩ : ByteArray) ++ T = ⟨(shPart i 0).toArray⟩ := by
    rw [HT.out]; apply ByteArray.ext; apply Array.toList_inj.1; simp [shPart, ByteArray.data_append]
  rw [← this]; rfl

set_option maxRecDepth 20000 in
set_option maxHeartbeats 800000 in
theorem showPart_1 (i : Ins) (h : IW i) (w : World) (hT : Tp w) : Calls Tryd.prog 31 #[.agg #[.int .i64 i.op, .int .i64 i.rd, .int .i64 i.a, .int .i64 i.b, .int .i64 i.imm], .int .i64 1] w fun e w' => e = .returned (.string ⟨(shPart i 1).toArray⟩) ∧ Below w.heap.size w w' := by
  obtain ⟨T, hT0⟩ : ∃ T : ByteArray, T = ⟨(Lib.itoa i.a).toArray⟩ := ⟨_, rfl⟩
  have HT : Hid (T = ⟨(Lib.itoa i.a).toArray⟩) := hT0
  have HC : Hid (∀ W : World, Tp W → Calls Tryd.prog 59 #[.int .i64 i.a, .int .i64 10] W fun e w' => e = .returned (.string T) ∧ Below W.heap.size W w') := fun W hW => by rw [hT0]; exact fmt_any i.a h.2.2.1 W hW
  have hTl : T.size ≤ 21 := by rw [hT0]; simpa [ByteArray.size] using Lib.itoa_length_le i.a (wf_bds h.2.2.1).1 (wf_bds h.2.2.1).2
  have hg2 : ¬ 9223372036854775807 < 1 + T.size := by omega
  have HP : Hid (Tp w) := hT
  clear hT0 hTl hT
  go_enter Tryd.func31, Tryd.ntmps31
  go_wp2_with fail
  refine (HC.out _ (HP.out.below ((Below.refl _ _).alloc (Nat.le_refl _) _))).mono ?_
  rintro e w5 ⟨rfl, hb5⟩
  go_wp2_with fail
  go_ret
  refine ⟨?_, below_trans ((Below.refl _ _).alloc (Nat.le_refl _) _) hb5⟩
  have : (⟨#[120]⟩ : ByteArray) ++ T = ⟨(shPart i 1).toArray⟩ := by
    rw [HT.out]; apply ByteArray.ext; apply Array.toList_inj.1; simp [shPart, ByteArray.data_append]
  rw [← this]; rfl

set_option maxRecDepth 20000 in
set_option maxHeartbeats 800000 in
theorem showPart_2 (i : Ins) (h : IW i) (w : World) (hT : Tp w) : Calls Tryd.prog 31 #[.agg #[.int .i64 i.op, .int .i64 i.rd, .int .i64 i.a, .int .i64 i.b, .int .i64 i.imm], .int .i64 2] w fun e w' => e = .returned (.string ⟨(shPart i 2).toArray⟩) ∧ Below w.heap.size w w' := by
  obtain ⟨T, hT0⟩ : ∃ T : ByteArray, T = ⟨(Lib.itoa i.b).toArray⟩ := ⟨_, rfl⟩
  have HT : Hid (T = ⟨(Lib.itoa i.b).toArray⟩) := hT0
  have HC : Hid (∀ W : World, Tp W → Calls Tryd.prog 59 #[.int .i64 i.b, .int .i64 10] W fun e w' => e = .returned (.string T) ∧ Below W.heap.size W w') := fun W hW => by rw [hT0]; exact fmt_any i.b h.2.2.2.1 W hW
  have hTl : T.size ≤ 21 := by rw [hT0]; simpa [ByteArray.size] using Lib.itoa_length_le i.b (wf_bds h.2.2.2.1).1 (wf_bds h.2.2.2.1).2
  have hg2 : ¬ 9223372036854775807 < 1 + T.size := by omega
  have HP : Hid (Tp w) := hT
  clear hT0 hTl hT
  go_enter Tryd.func31, Tryd.ntmps31
  go_wp2_with fail
  refine (HC.out _ (HP.out.below ((Below.refl _ _).alloc (Nat.le_refl _) _))).mono ?_
  rintro e w5 ⟨rfl, hb5⟩
  go_wp2_with fail
  go_ret
  refine ⟨?_, below_trans ((Below.refl _ _).alloc (Nat.le_refl _) _) hb5⟩
  have : (⟨#[120]⟩ : ByteArray) ++ T = ⟨(shPart i 2).toArray⟩ := by
    rw [HT.out]; apply ByteArray.ext; apply Array.toList_inj.1; simp [shPart, ByteArray.data_append]
  rw [← this]; rfl

set_option maxRecDepth 20000 in
set_option maxHeartbeats 800000 in
theorem showPart_3 (i : Ins) (h : IW i) (w : World) (hT : Tp w) : Calls Tryd.prog 31 #[.agg #[.int .i64 i.op, .int .i64 i.rd, .int .i64 i.a, .int .i64 i.b, .int .i64 i.imm], .int .i64 3] w fun e w' => e = .returned (.string ⟨(shPart i 3).toArray⟩) ∧ Below w.heap.size w w' := by
  obtain ⟨T, hT0⟩ : ∃ T : ByteArray, T = ⟨(Lib.itoa i.imm).toArray⟩ := ⟨_, rfl⟩
  have HT : Hid (T = ⟨(Lib.itoa i.imm).toArray⟩) := hT0
  have HC : Hid (∀ W : World, Tp W → Calls Tryd.prog 59 #[.int .i64 i.imm, .int .i64 10] W fun e w' => e = .returned (.string T) ∧ Below W.heap.size W w') := fun W hW => by rw [hT0]; exact fmt_any i.imm h.2.2.2.2 W hW
  have hTl : T.size ≤ 21 := by rw [hT0]; simpa [ByteArray.size] using Lib.itoa_length_le i.imm (wf_bds h.2.2.2.2).1 (wf_bds h.2.2.2.2).2
  have hg2 : ¬ 9223372036854775807 < 1 + T.size := by omega
  have HP : Hid (Tp w) := hT
  clear hT0 hTl hT
  go_enter Tryd.func31, Tryd.ntmps31
  go_wp2_with fail
  refine (HC.out _ (HP.out.below ((Below.refl _ _).alloc (Nat.le_refl _) _))).mono ?_
  rintro e w5 ⟨rfl, hb5⟩
  go_wp2_with fail
  go_ret
  refine ⟨?_, below_trans ((Below.refl _ _).alloc (Nat.le_refl _) _) hb5⟩
  have : T = ⟨(shPart i 3).toArray⟩ := by
    rw [HT.out]; rfl
  rw [← this]; rfl

theorem showPart_any (i : Ins) (h : IW i) (p : Nat) (hp : p = 0 ∨ p = 1 ∨ p = 2 ∨ p = 3) (w : World) (hT : Tp w) : Calls Tryd.prog 31 #[.agg #[.int .i64 i.op, .int .i64 i.rd, .int .i64 i.a, .int .i64 i.b, .int .i64 i.imm], .int .i64 p] w fun e w' => e = .returned (.string ⟨(shPart i p).toArray⟩) ∧ Below w.heap.size w w' := by
  rcases hp with rfl | rfl | rfl | rfl
  · exact showPart_0 i h w hT
  · exact showPart_1 i h w hT
  · exact showPart_2 i h w hT
  · exact showPart_3 i h w hT

set_option maxRecDepth 20000 in
set_option maxHeartbeats 1600000 in
theorem implShow_any (i : Ins) (h : IW i) (w : World) (hT : Tp w) : Calls Tryd.prog 10 #[.agg #[.int .i64 i.op, .int .i64 i.rd, .int .i64 i.a, .int .i64 i.b, .int .i64 i.imm]] w fun e w' => e = .returned (.string ⟨(showL i).toArray⟩) ∧ Below w.heap.size w w' := by
  have HE : Hid (∀ W : World, _) := encI_cc i h
  have HO : Hid ((encS i).2 = true → opB i.op = true) := encS_opB
  have HS : Hid (showL i = if (encS i).2 then shText i else []) := rfl
  obtain ⟨⟨x, t⟩, hxt⟩ : ∃ xt, xt = encS i := ⟨_, rfl⟩
  rw [← hxt] at HE HO HS
  clear hxt
  have HP : Hid (Tp w) := hT
  clear hT
  have hrow0 : (w.alloc (.cells #[.int .i64 i.op, .int .i64 i.rd, .int .i64 i.a, .int .i64 i.b, .int .i64 i.imm] 30 (0, 0))).heap[w.heap.size]? = some (.cells #[.int .i64 i.op, .int .i64 i.rd, .int .i64 i.a, .int .i64 i.b, .int .i64 i.imm] 30 (0, 0)) := heap_alloc_new _ _
  have HR0 : Hid (_ = _) := hrow0
  clear hrow0
  go_enter Tryd.func10, Tryd.ntmps10
  go_wp2_with fail
  refine (HE.out _).mono ?_
  rintro e w1 ⟨rfl, hb1⟩
  cases t with
  | false =>
    go_wp2_with fail
    go_ret
    exact ⟨by rw [HS.out]; rfl, below_trans ((Below.refl _ _).alloc (Nat.le_refl _) _) hb1⟩
  | true =>
    have HR1 : Hid (_ = _) := row_keep HR0.out hb1
    obtain ⟨c0, c1, c2, c3, c4⟩ := ins_row HR1.out
    clear c1 c2 c3 c4
    go_wp2_with fail
    refine (implName_any i.op h.1 _).mono ?_
    rintro e w2 ⟨rfl, hb2⟩
    have HR2 : Hid (_ = _) := row_keep HR1.out hb2
    have HB2 : Hid (Below w.heap.size w w2) := below_trans (below_trans ((Below.refl _ _).alloc (Nat.le_refl _) _) hb1) hb2
    clear c0
    obtain ⟨c0, c1, c2, c3, c4⟩ := ins_row HR2.out
    clear c1 c2 c3 c4
    obtain ⟨nm, hnm0⟩ : ∃ nm, nm = nameOf i.op := ⟨_, rfl⟩
    have HN : Hid (nm = nameOf i.op) := hnm0
    rw [← hnm0]
    clear hnm0
    go_wp2_with fail
    refine (implForm_any i.op h.1 _).mono ?_
    rintro e w3 ⟨rfl, hb3⟩
    have HF : Hid (∃ f, f = (rowOp i.op).fm ∧ formOf i.op = f.str) := ⟨_, rfl, formOf_true (HO.out trivial)⟩
    obtain ⟨f, hf, hff⟩ := HF.out
    rw [hff]
    have HFm : Hid (f = (rowOp i.op).fm) := hf
    clear HF hf hff
    have HR3 : Hid (_ = _) := row_keep HR2.out hb3
    have HB3 : Hid (Below w.heap.size w w3) := below_trans HB2.out hb3
    clear hb1 hb2 hb3 HB2 HR2 HR1 HR0 c0 HE HO
    go_wp2_with fail
    refine (partsOf_any f _).mono ?_
    rintro e w4 ⟨a, rfl, HSl, hb4⟩
    have HR4 : Hid (_ = _) := row_keep HR3.out hb4
    have HB4 : Hid (Below w.heap.size w w4) := below_trans HB3.out hb4
    obtain ⟨n, hn0⟩ : ∃ n, n = (shParts f).length := ⟨_, rfl⟩
    have HZ : Hid (n = (shParts f).length) := hn0
    have hF4 : n ≤ 4 := by rw [hn0]; exact shParts_len f
    rw [← hn0]
    clear hn0 hb4 HR3 HB3
    go_wp2_with fail
    go_loopw [23, 5] (fun kv sv wr => ∃ (k : Nat) (S : ByteArray), kv = .int .i64 k ∧ sv = .string S ∧ k ≤ n ∧ Hid (S.data.toList = nm.data.toList ++ shTail i ((shParts f).take k)) ∧ Hid (Sl .i64 wr a (shInts f)) ∧ Hid (wr.heap[w.heap.size]? = some (.cells #[.int .i64 i.op, .int .i64 i.rd, .int .i64 i.a, .int .i64 i.b, .int .i64 i.imm] 30 (0, 0))) ∧ Hid (Below w.heap.size w wr))
      (fun kv _ _ => n - (intOf kv).toNat)
    case atStart => exact ⟨0, nm, rfl, rfl, Nat.zero_le _, (by simp [shTail] : nm.data.toList = nm.data.toList ++ shTail i ((shParts f).take 0)), HSl, HR4, HB4⟩
    case round =>
      obtain ⟨k, S, rfl, rfl, hk, hS, hSl, hR, hB⟩ := hrel
      obtain ⟨c0, c1, c2, c3, c4⟩ := ins_row hR.out
      clear HR4 HB4
      by_cases hlt : k < n
      · have hk4 : k < (shParts f).length := by rw [← HZ.out]; exact hlt
        obtain ⟨p, hp, hpc, htk⟩ := shParts_at f k hk4
        obtain ⟨g, off, rfl, hgl, hcell⟩ := hSl.out k (by simpa [shInts] using hk4)
        have hpv : (shInts f).getD k 0 = (p : Int) := by simp [shInts, List.getD, hp]
        rw [hpv] at hcell
        have HSm : Hid (S.size ≤ 200) := by
          show S.size ≤ 200
          have e : S.size = S.data.toList.length := by rw [Array.length_toList]; rfl
          have h1 := name_len i.op
          have h2 := shTail_len i h ((shParts f).take k)
          have h3 := shParts_len f
          rw [e, hS.out, HN.out, List.length_append]
          simp only [List.length_take] at h2
          omega
        obtain ⟨T, hT0⟩ : ∃ T : ByteArray, T = ⟨(shPart i p).toArray⟩ := ⟨_, rfl⟩
        have HC : Hid (∀ W : World, Tp W → Calls Tryd.prog 31 #[.agg #[.int .i64 i.op, .int .i64 i.rd, .int .i64 i.a, .int .i64 i.b, .int .i64 i.imm], .int .i64 p] W fun e w' => e = .returned (.string T) ∧ Below W.heap.size W w') := fun W hW => by rw [hT0]; exact showPart_any i h p hpc W hW
        have hTl : T.size ≤ 22 := by rw [hT0]; simpa [ByteArray.size] using shPart_len i h p
        have hg1 : ¬ 9223372036854775807 < 1 + T.size := by omega
        have hg2 : ¬ 9223372036854775807 < S.size + (1 + T.size) := by have := HSm.out; omega
        have HN1 : Hid ((S ++ (⟨#[32]⟩ ++ T)).data.toList = nm.data.toList ++ shTail i ((shParts f).take (k + 1))) := by
          show (S ++ (⟨#[32]⟩ ++ T)).data.toList = nm.data.toList ++ shTail i ((shParts f).take (k + 1))
          rw [htk, shTail_snoc, ByteArray.data_append, ByteArray.data_append, Array.toList_append, Array.toList_append, hS.out, hT0]
          simp
        clear hT0 hTl htk hpv hpc hp hk4 hgl
        go_wp2_with fail
        refine (HC.out _ (HP.out.below hB.out)).mono ?_
        rintro e w5 ⟨rfl, hb5⟩
        have hR5 : Hid (_ = _) := row_keep hR.out hb5
        have hSl5 : Hid (Sl .i64 w5 (some ⟨g, off, none⟩) (shInts f)) := hSl.out.below hb5
        have hB5 : Hid (Below w.heap.size w w5) := below_trans hB.out hb5
        clear hb5 hR hB HC hS hSl
        go_wp2_with fail
        go_roundw
        case rel => exact ⟨k + 1, _, by go_num, rfl, by omega, HN1, hSl5, hR5, hB5⟩
        case measure => simp [intOf]; omega
      · have hk2 : k = (shParts f).length := by rw [← HZ.out]; omega
        have HN2 : Hid (S = ⟨(showL i).toArray⟩) := by
          apply ByteArray.ext
          apply Array.toList_inj.1
          rw [hS.out, HS.out, if_pos trivial, hk2, List.take_length, HFm.out, HN.out]
          rfl
        clear hk2
        go_wp2_with fail
        go_ret
        exact ⟨by rw [← HN2.out]; rfl, hB.out⟩

end Go.Proofs.YtjjpklalihaanaaDoor
