/- Own lemmas. -/
import Derived.Test.YtjjpklalihaanaaDoorK11
namespace Go.Proofs.YtjjpklalihaanaaDoor
open Go.RowKit
set_option linter.unusedVariables false

theorem spl_ne (l : List UInt8) : ∀ cur, spl cur l ≠ [] := by
  induction l with
  | nil => intro cur; simp [spl]
  | cons c l ih =>
    intro cur
    rw [spl]
    split
    · simp
    · exact ih _

theorem spl_len (l : List UInt8) : ∀ cur, ∀ x ∈ spl cur l, x.length ≤ cur.length + l.length := by
  induction l with
  | nil => intro cur x hx; simp [spl] at hx; simp [hx]
  | cons c l ih =>
    intro cur x hx
    rw [spl] at hx
    split at hx
    · rcases List.mem_cons.1 hx with h | h
      · rw [h]; simp
      · have := ih [] x h; simp at this ⊢; omega
    · have := ih _ x hx; simp at this ⊢; omega

theorem spl_count (l : List UInt8) : ∀ cur, (spl cur l).length ≤ l.length + 1 := by
  induction l with
  | nil => intro cur; simp [spl]
  | cons c l ih =>
    intro cur
    rw [spl]
    split
    · have := ih []; simp; omega
    · have := ih (cur ++ [c]); simp; omega

def insCells (i : Ins) : Array Value := #[.int .i64 i.op, .int .i64 i.rd, .int .i64 i.a, .int .i64 i.b, .int .i64 i.imm]

structure PaS (w : World) (g1 g : Nat) (ws : List (List UInt8)) (i : Ins) (wr : World) : Prop where
  res : wr.heap[w.heap.size]? = some (.cells #[.int .i64 0, .int .i64 0, .int .i64 0, .int .i64 0, .int .i64 0] 30 (0, 0))
  ins : wr.heap[g1]? = some (.cells (insCells i) 30 (0, 0))
  word : ∀ (k : Nat) (T : List UInt8), ws[k]? = some T → wr.cell? ⟨g, k, none⟩ = some (strV T)
  below : Below w.heap.size w wr
  lt1 : w.heap.size < g1
  ne : g ≠ g1

theorem PaS.keep {w : World} {g1 g : Nat} {ws : List (List UInt8)} {i : Ins} {wr wx : World} (h : PaS w g1 g ws i wr) (hb : Below wr.heap.size wr wx) : PaS w g1 g ws i wx :=
  ⟨row_keep h.res hb, row_keep h.ins hb, fun k T hk => (hb.cell (World.block_lt_of_cell? _ _ (h.word k T hk))).trans (h.word k T hk), below_trans h.below hb, h.lt1, h.ne⟩

theorem PaS.put {w : World} {g1 g : Nat} {ws : List (List UInt8)} {i : Ins} {wr : World} (h : PaS w g1 g ws i wr) (p : Nat) (hp : p = 0 ∨ p = 1 ∨ p = 2 ∨ p = 3) (x : Int) : PaS w g1 g ws (setP i p x) (wr.setCell ⟨g1, p + 1, none⟩ (.int .i64 x)) := by
  have h1 := h.lt1
  refine ⟨?_, ?_, fun k T hk => ?_, h.below.setCell (by show w.heap.size ≤ g1; omega) _, h1, h.ne⟩
  · rw [heap_setCell_other _ _ _ _ (by show w.heap.size ≠ g1; omega)]; exact h.res
  · have := heap_setCell_same wr g1 (p + 1) _ _ (.int .i64 x) h.ins
    rw [this]
    rcases hp with rfl | rfl | rfl | rfl <;> rfl
  · have hc := h.word k T hk
    have hne := h.ne
    unfold World.cell? at hc ⊢
    rw [heap_setCell_other _ _ _ _ (by show g ≠ g1; exact hne)]
    exact hc

theorem PaS.cells {w : World} {g1 g : Nat} {ws : List (List UInt8)} {i : Ins} {wr : World} (h : PaS w g1 g ws i wr) :
    wr.cell? ⟨g1, 0, none⟩ = some (.int .i64 i.op) ∧ wr.cell? ⟨g1, 1, none⟩ = some (.int .i64 i.rd) ∧ wr.cell? ⟨g1, 2, none⟩ = some (.int .i64 i.a) ∧ wr.cell? ⟨g1, 3, none⟩ = some (.int .i64 i.b) ∧ wr.cell? ⟨g1, 4, none⟩ = some (.int .i64 i.imm) := ins_row h.ins

theorem PaS.frozen {w : World} {g1 g : Nat} {ws : List (List UInt8)} {i : Ins} {wr : World} (h : PaS w g1 g ws i wr) (k : Nat) : wr.frozen? ⟨g1, k, none⟩ = false := frozen_of_row _ _ _ _ _ h.ins

theorem no_name : findName ⟨#[]⟩ 98 0 = 0 := by kernel_rfl

set_option maxRecDepth 20000 in
set_option maxHeartbeats 6400000 in
theorem specParse_any (s : ByteArray) (hs : s.size ≤ 1048576) (w : World) :
    Calls Tryd.prog 23 #[.string s] w fun e w' => ∃ i t, e = .returned (.tuple #[i.val, .bool t]) ∧ PR s.data.toList i t ∧ Below w.heap.size w w' := by
  obtain ⟨L, hL0⟩ : ∃ L, L = s.data.toList := ⟨_, rfl⟩
  rw [← hL0]
  obtain ⟨ws, hws0⟩ : ∃ ws, ws = spl [] L := ⟨_, rfl⟩
  obtain ⟨w0, wt, hwt⟩ : ∃ w0 wt, ws = w0 :: wt := by
    cases h : ws with
    | nil => exact absurd (hws0.symm.trans h) (spl_ne _ _)
    | cons a b => exact ⟨a, b, rfl⟩
  have HW : Hid (w0 :: wt = spl [] L) := hwt.symm.trans hws0
  have HWL : Hid (∀ T ∈ wt, T.length ≤ 1048576) := by
    intro T hT
    have := spl_len L [] T (by rw [← hws0, hwt]; simp [hT])
    have hl : s.data.toList.length = s.size := by rw [Array.length_toList]; rfl
    rw [hL0] at this
    simp at this
    omega
  have HC : Hid (∀ W : World, Calls Tryd.prog 49 #[.string s] W fun e w' => ∃ v, e = .returned v ∧ Lst 9 W w' v (wt.length + 1) ((w0 :: wt).map strV)) := fun W => by
    have := l13Words_any s hs W
    rw [← hL0, ← hws0, hwt] at this
    exact this
  have HR0 : Hid ((w.alloc (.cells #[.int .i64 0, .int .i64 0, .int .i64 0, .int .i64 0, .int .i64 0] 30 (0, 0))).heap[w.heap.size]? = some (.cells #[.int .i64 0, .int .i64 0, .int .i64 0, .int .i64 0, .int .i64 0] 30 (0, 0))) := heap_alloc_new _ _
  have hsz0 : (w.alloc (.cells #[.int .i64 0, .int .i64 0, .int .i64 0, .int .i64 0, .int .i64 0] 30 (0, 0))).heap.size = w.heap.size + 1 := by simp
  have HLs : Hid (L = s.data.toList) := hL0
  have hwl : wt.length ≤ 1048577 := by
    have h1 := spl_count L []
    have hl : s.data.toList.length = s.size := by rw [Array.length_toList]; rfl
    rw [← hws0, hwt, hL0, hl] at h1
    simp at h1
    omega
  clear hL0 hws0 hwt
  go_enter Tryd.func23, Tryd.ntmps23
  go_wp2_with fail
  refine (HC.out _).mono ?_
  rintro e w1 ⟨v, rfl, hL1⟩
  have HR1 : Hid (_ = _) := row_keep HR0.out hL1.2
  have HB1 : Hid (Below w.heap.size w w1) := below_trans ((Below.refl _ _).alloc (Nat.le_refl _) _) hL1.2
  obtain ⟨g, c, rfl, hg, hcell⟩ := hL1.cell 0 (strV w0) rfl
  have HL1 : Hid (∀ (k : Nat) (T : List UInt8), (w0 :: wt)[k]? = some T → w1.cell? ⟨g, k, none⟩ = some (strV T)) := by
    intro k T hT
    obtain ⟨g', c', e, _, h2⟩ := hL1.cell k (strV T) (by rw [List.getElem?_map, hT]; rfl)
    simp only [Value.slice.injEq, Option.some.injEq, Addr.mk.injEq, and_true] at e
    rw [e.1]; exact h2
  have HG : Hid (w.heap.size < g) := by rw [hsz0] at hg; exact hg
  have HGl : Hid (g < w1.heap.size) := World.block_lt_of_cell? _ _ hcell
  clear hL1 HC HR0 hg hsz0
  unfold strV at hcell
  go_wp2_with fail
  refine (specOpOf_any ⟨w0.toArray⟩ _).mono ?_
  rintro e w2 ⟨rfl, hb2⟩
  have HFN : Hid (∀ j, IW j → (encS j).2 = true → shText j = L → (w0 = (nameOf j.op).data.toList ∧ wt = (shParts (rowOp j.op).fm).map (shPart j)) ∧ findName ⟨w0.toArray⟩ 98 0 = j.op) := by
    intro j hj he ht
    have h1 := HW.out
    rw [← ht, spl_text] at h1
    simp only [List.cons.injEq] at h1
    refine ⟨h1, ?_⟩
    rw [h1.1]
    have : (⟨(nameOf j.op).data.toList.toArray⟩ : ByteArray) = nameOf j.op := by apply ByteArray.ext; simp
    rw [this]
    exact name_op (encS_opB he)
  have HOB : Hid (findName ⟨w0.toArray⟩ 98 0 = 0 ∨ opB (findName ⟨w0.toArray⟩ 98 0) = true) := findName_op _ 98 0 rfl
  have HOE : Hid (L = [] → findName ⟨w0.toArray⟩ 98 0 = 0) := by
    intro h
    have h1 := HW.out
    rw [h] at h1
    simp only [spl, List.cons.injEq] at h1
    rw [h1.1]
    exact no_name
  obtain ⟨o, ho⟩ : ∃ o, o = findName ⟨w0.toArray⟩ 98 0 := ⟨_, rfl⟩
  rw [← ho] at HFN HOB HOE ⊢
  clear ho hcell
  obtain ⟨g1, hg1⟩ : ∃ g1, g1 = w2.heap.size := ⟨_, rfl⟩
  have HP2 : Hid (PaS w g1 g (w0 :: wt) ⟨o, 0, 0, 0, 0⟩ (w2.alloc (.cells #[.int .i64 o, .int .i64 0, .int .i64 0, .int .i64 0, .int .i64 0] 30 (0, 0)))) := by
    have hba : Below w2.heap.size w2 (w2.alloc (.cells #[.int .i64 o, .int .i64 0, .int .i64 0, .int .i64 0, .int .i64 0] 30 (0, 0))) := (Below.refl _ _).alloc (Nat.le_refl _) _
    have hs2 := hb2.size
    have := HGl.out
    have := HG.out
    refine ⟨row_keep (row_keep HR1.out hb2) hba, by rw [hg1]; exact heap_alloc_new _ _, fun k T hT => ?_, below_trans (below_trans HB1.out hb2) hba, by omega, by omega⟩
    rw [hba.cell (by show g < w2.heap.size; omega), hb2.cell (by show g < w1.heap.size; omega)]
    exact HL1.out k T hT
  clear HL1 HR1 HB1 hb2 HG HGl
  cases hoz : (o == 0) with
  | true =>
    have HPR : Hid (PR L noIns false) := by
      refine Or.inr ⟨rfl, rfl, fun j hj he ht => ?_⟩
      have h1 := (HFN.out j hj he ht).2
      have h2 : 1 ≤ j.op ∧ j.op ≤ 98 := of_decide_eq_true (encS_opB he)
      have h3 : o = 0 := by simpa using hoz
      omega
    go_wp2_with (refine wpList_store_rowTo rfl 30 (.tmp 2) (.tmp 21) rfl rfl w.heap.size #[.int .i64 0, .int .i64 0, .int .i64 0, .int .i64 0, .int .i64 0] rfl rfl 30 _ HP2.out.res inst_size rfl (inst_one _ _ _ _ _) ?_)
    refine bodyPost_ret (results_row2 Tryd.results23 _ _ _ _ _ _ _ rfl (setRow_heap _ _ _ #[.int .i64 0, .int .i64 0, .int .i64 0, .int .i64 0, .int .i64 0] _ _ HP2.out.res) Tryd.underlying30 rfl inst_size) rfl ⟨noIns, false, rfl, HPR.out, below_setRow HP2.out.below (Nat.le_refl _) _⟩
  | false =>
    have hob : opB o = true := HOB.out.resolve_left (fun h => by rw [h] at hoz; cases hoz)
    have hob2 : 1 ≤ o ∧ o ≤ 98 := of_decide_eq_true hob
    have HOW : Hid ((Lit.int .i64 o).wf = true) := wf_i64 (by omega) (by omega)
    have HFO : Hid (formOf o = (rowOp o).fm.str) := formOf_true hob
    obtain ⟨f, hf⟩ : ∃ f, f = (rowOp o).fm := ⟨_, rfl⟩
    rw [← hf] at HFO
    have HFm : Hid (f = (rowOp o).fm) := hf
    have HO0 : Hid (o ≠ 0) := fun h => by rw [h] at hoz; cases hoz
    clear hf HOB hob hob2
    go_wp2_with fail
    rw [← hg1]
    refine (specForm_any o HOW.out _).mono ?_
    rintro e w3 ⟨rfl, hb3⟩
    rw [HFO.out]
    have HP3 : Hid (PaS w g1 g (w0 :: wt) ⟨o, 0, 0, 0, 0⟩ w3) := HP2.out.keep hb3
    clear hb3 HP2 hg1
    go_wp2_with fail
    refine (l13Shape_any f _).mono ?_
    rintro e w4 ⟨rfl, hw4⟩
    have hw4' := hw4.symm
    subst hw4'
    clear hw4
    have hz : (shShape f).size = (shParts f).length := by simp [shShape, ByteArray.size]
    obtain ⟨F, hF0⟩ : ∃ F, F = shShape f := ⟨_, rfl⟩
    rw [← hF0] at hz ⊢
    have HFs : Hid (F = shShape f) := hF0
    have HZ : Hid (F.size = (shParts f).length) := hz
    have hF4 : F.size ≤ 4 := by rw [hz]; exact shParts_len f
    clear hF0 hz
    by_cases hlen : wt.length = F.size
    · have hne : ((wt.length : Int) != (F.size : Int)) = false := by simp; omega
      go_wp2_with fail
      go_loopw [7] (fun kv wr => ∃ (k : Nat) (i : Ins), kv = .int .i64 k ∧ k ≤ F.size ∧ Hid (PaS w g1 g (w0 :: wt) i wr) ∧ Hid (IW i ∧ i.op = o) ∧ Hid (∀ j, IW j → (encS j).2 = true → shText j = L → i = fillP j ((shParts f).take k) ⟨o, 0, 0, 0, 0⟩))
        (fun kv _ => F.size - (intOf kv).toNat)
      case atStart => exact ⟨0, ⟨o, 0, 0, 0, 0⟩, rfl, by omega, HP3, (⟨⟨HOW.out, rfl, rfl, rfl, rfl⟩, rfl⟩ : _ ∧ _), (fun j _ _ _ => rfl : ∀ j, _)⟩
      case round =>
        obtain ⟨k, i, rfl, hk, hP, hI, HFILL⟩ := hrel
        clear HP3
        by_cases hlt : k < F.size
        · have hk4 : k < (shParts f).length := by rw [← HZ.out]; exact hlt
          obtain ⟨p, hp, hpc, htk⟩ := shParts_at f k hk4
          have hch : ∀ c : Nat, (shCode p).toNat = c → (F[k]'hlt).toNat = c := by
            intro c hcc
            rw [← hcc]
            have e1 : F.data.toList[k]? = some (shCode p) := by rw [HFs.out]; simp [shShape, hp]
            rw [str_at F k hlt] at e1
            rw [Option.some.inj e1]
          have hkw : k < wt.length := by omega
          obtain ⟨T, hT⟩ : ∃ T, wt[k]? = some T := ⟨wt[k], List.getElem?_eq_getElem hkw⟩
          have hcell := hP.out.word (k + 1) T (by simpa using hT)
          obtain ⟨S, hS⟩ : ∃ S : ByteArray, S = ⟨T.toArray⟩ := ⟨_, rfl⟩
          unfold strV at hcell
          rw [← hS] at hcell
          have HST : Hid (S.data.toList = T) := by rw [hS]; rfl
          have HSz : Hid (S.size = T.length) := by show S.size = T.length; rw [hS]; simp [ByteArray.size]
          have HSm : Hid (S.size ≤ 1048576) := by
            have h1 := HWL.out T (List.mem_of_getElem? hT)
            have h2 := HSz.out
            show S.size ≤ 1048576
            omega
          have hSb : S.size ≤ 1048576 := HSm.out
          have HJ0 : Hid (∀ j, IW j → (encS j).2 = true → shText j = L → T = shPart j p) := by
            intro j hj he ht
            obtain ⟨⟨_, h2⟩, h3⟩ := HFN.out j hj he ht
            rw [h2, ← h3, ← HFm.out, List.getElem?_map, hp] at hT
            exact (Option.some.inj hT).symm
          clear hS hT hp
          rcases hpc with rfl | rfl | rfl | rfl
          · have hc := hch 100 rfl
            clear hch
            have hci : ((((F[k]'hlt).toNat : Nat) : Int) != 105) = true := by rw [hc]; rfl
            have HJ : Hid (∀ j, IW j → (encS j).2 = true → shText j = L → ∃ l, T = 120 :: l ∧ numL l = some (getP j 0)) := by
              intro j hj he ht
              obtain ⟨l, hl1, hl2⟩ := part_reg (encOk he) 0 (by omega)
              exact ⟨l, (HJ0.out j hj he ht).trans hl1, hl2⟩
            by_cases hSe : S.size = 0
            · have hE : S.toList.isEmpty = true := by rw [Go.ByteArray.toList_eq, HST.out]; rw [HSz.out] at hSe; simpa using hSe
              have HPR : Hid (PR L noIns false) := by
                refine Or.inr ⟨rfl, rfl, fun j hj he ht => ?_⟩
                obtain ⟨l, hl, _⟩ := HJ.out j hj he ht
                rw [HSz.out, hl] at hSe
                simp at hSe
              clear hSe HJ HJ0 HFILL
              go_wp2_with (refine wpList_store_rowTo rfl 30 (.tmp 2) (.tmp 55) rfl rfl w.heap.size #[.int .i64 0, .int .i64 0, .int .i64 0, .int .i64 0, .int .i64 0] rfl rfl 30 _ hP.out.res inst_size rfl (inst_one _ _ _ _ _) ?_)
              refine bodyPost_ret (results_row2 Tryd.results23 _ _ _ _ _ _ _ rfl (setRow_heap _ _ _ #[.int .i64 0, .int .i64 0, .int .i64 0, .int .i64 0, .int .i64 0] _ _ hP.out.res) Tryd.underlying30 rfl inst_size) rfl ⟨noIns, false, rfl, HPR.out, below_setRow hP.out.below (Nat.le_refl _) _⟩
            · have hS0 : 0 < S.size := by omega
              have hE : S.toList.isEmpty = false := by
                rw [Go.ByteArray.toList_eq, HST.out]
                rw [HSz.out] at hSe
                cases h : T with
                | nil => rw [h] at hSe; exact absurd rfl hSe
                | cons a b => rfl
              have hs0 : T[0]? = some (S[0]'hS0) := by rw [← HST.out]; exact str_at S 0 hS0
              by_cases hx : (S[0]'hS0).toNat = 120
              · have hxi : ((((S[0]'hS0).toNat : Nat) : Int) != 120) = false := by rw [hx]; rfl
                have hxn : ((S[0]'hS0).toNat != 120) = false := by rw [hx]; rfl
                have hTl : (S.extract 1 S.size).data.toList = T.tail := by
                  rw [ext_take, HST.out]
                  show (T.drop 1).take (S.size - 1) = T.tail
                  rw [List.take_of_length_le (by rw [List.length_drop, HSz.out]; omega), List.drop_one]
                have hX : (S.extract 1 S.size).size ≤ 1048576 := by
                  have e : (S.extract 1 S.size).size = (S.extract 1 S.size).data.toList.length := by rw [Array.length_toList]; rfl
                  rw [e, hTl, List.length_tail, ← HSz.out]
                  have := HSm.out
                  omega
                have HNm : Hid (∀ W : World, Calls Tryd.prog 51 #[.string (S.extract 1 S.size)] W fun e w' => e = .returned (numV T.tail) ∧ w' = W) := fun W => by
                  have := l13Number_any (S.extract 1 S.size) hX W
                  rw [hTl] at this
                  exact this
                clear hX hTl
                cases hn : numL T.tail with
                | none =>
                  have HPR : Hid (PR L noIns false) := by
                    refine Or.inr ⟨rfl, rfl, fun j hj he ht => ?_⟩
                    obtain ⟨l, hl, hl2⟩ := HJ.out j hj he ht
                    rw [hl] at hn
                    exact absurd (hl2.symm.trans hn) (by simp)
                  rw [numV_none hn] at HNm
                  clear hn hs0 hx HJ HJ0 HFILL
                  go_wp2_with fail
                  refine (HNm.out _).mono ?_
                  rintro e w5 ⟨rfl, hw5⟩
                  have hw5' := hw5.symm
                  subst hw5'
                  go_wp2_with (refine wpList_store_rowTo rfl 30 (.tmp 2) (.tmp 65) rfl rfl w.heap.size #[.int .i64 0, .int .i64 0, .int .i64 0, .int .i64 0, .int .i64 0] rfl rfl 30 _ hP.out.res inst_size rfl (inst_one _ _ _ _ _) ?_)
                  refine bodyPost_ret (results_row2 Tryd.results23 _ _ _ _ _ _ _ rfl (setRow_heap _ _ _ #[.int .i64 0, .int .i64 0, .int .i64 0, .int .i64 0, .int .i64 0] _ _ hP.out.res) Tryd.underlying30 rfl inst_size) rfl ⟨noIns, false, rfl, HPR.out, below_setRow hP.out.below (Nat.le_refl _) _⟩
                | some n =>
                  have HF2 : Hid (∀ j, IW j → (encS j).2 = true → shText j = L → setP i 0 n = fillP j ((shParts f).take (k + 1)) ⟨o, 0, 0, 0, 0⟩) := by
                    intro j hj he ht
                    obtain ⟨l, hl, hl2⟩ := HJ.out j hj he ht
                    rw [hl] at hn
                    have hnn : n = getP j 0 := Option.some.inj (hn.symm.trans hl2)
                    rw [htk, fillP_snoc, ← HFILL.out j hj he ht, hnn]
                  have hnb := numL_bd hn
                  have HI2 : Hid (IW (setP i 0 n) ∧ (setP i 0 n).op = o) := ⟨hI.out.1.set 0 (wf_i64 (by omega) (by omega)), by rw [setP_op]; exact hI.out.2⟩
                  rw [numV_some hn] at HNm
                  have HP2 : Hid (PaS w g1 g (w0 :: wt) (setP i 0 n) (wr.setCell ⟨g1, 0 + 1, none⟩ (.int .i64 n))) := hP.out.put 0 (by omega) n
                  obtain ⟨e0, e1, e2, e3, e4⟩ := hP.out.cells
                  have fz := hP.out.frozen 1
                  clear hn hs0 hx HJ HJ0 HFILL htk hI
                  go_wp2_with fail
                  refine (HNm.out _).mono ?_
                  rintro e w5 ⟨rfl, hw5⟩
                  have hw5' := hw5.symm
                  subst hw5'
                  go_wp2_with fail
                  go_roundw
                  case rel => exact ⟨k + 1, setP i 0 n, by go_num, by omega, HP2, HI2, HF2⟩
                  case measure => simp [intOf]; omega
              · have hxi : ((((S[0]'hS0).toNat : Nat) : Int) != 120) = true := by simp; omega
                have hxn : ((S[0]'hS0).toNat != 120) = true := by simpa using hx
                have HPR : Hid (PR L noIns false) := by
                  refine Or.inr ⟨rfl, rfl, fun j hj he ht => ?_⟩
                  obtain ⟨l, hl, _⟩ := HJ.out j hj he ht
                  rw [hl] at hs0
                  have := Option.some.inj hs0
                  exact hx (by rw [← this]; rfl)
                clear hx hs0 HJ HJ0 HFILL
                go_wp2_with (refine wpList_store_rowTo rfl 30 (.tmp 2) (.tmp 55) rfl rfl w.heap.size #[.int .i64 0, .int .i64 0, .int .i64 0, .int .i64 0, .int .i64 0] rfl rfl 30 _ hP.out.res inst_size rfl (inst_one _ _ _ _ _) ?_)
                refine bodyPost_ret (results_row2 Tryd.results23 _ _ _ _ _ _ _ rfl (setRow_heap _ _ _ #[.int .i64 0, .int .i64 0, .int .i64 0, .int .i64 0, .int .i64 0] _ _ hP.out.res) Tryd.underlying30 rfl inst_size) rfl ⟨noIns, false, rfl, HPR.out, below_setRow hP.out.below (Nat.le_refl _) _⟩
          · have hc := hch 97 rfl
            clear hch
            have hci : ((((F[k]'hlt).toNat : Nat) : Int) != 105) = true := by rw [hc]; rfl
            have HJ : Hid (∀ j, IW j → (encS j).2 = true → shText j = L → ∃ l, T = 120 :: l ∧ numL l = some (getP j 1)) := by
              intro j hj he ht
              obtain ⟨l, hl1, hl2⟩ := part_reg (encOk he) 1 (by omega)
              exact ⟨l, (HJ0.out j hj he ht).trans hl1, hl2⟩
            by_cases hSe : S.size = 0
            · have hE : S.toList.isEmpty = true := by rw [Go.ByteArray.toList_eq, HST.out]; rw [HSz.out] at hSe; simpa using hSe
              have HPR : Hid (PR L noIns false) := by
                refine Or.inr ⟨rfl, rfl, fun j hj he ht => ?_⟩
                obtain ⟨l, hl, _⟩ := HJ.out j hj he ht
                rw [HSz.out, hl] at hSe
                simp at hSe
              clear hSe HJ HJ0 HFILL
              go_wp2_with (refine wpList_store_rowTo rfl 30 (.tmp 2) (.tmp 55) rfl rfl w.heap.size #[.int .i64 0, .int .i64 0, .int .i64 0, .int .i64 0, .int .i64 0] rfl rfl 30 _ hP.out.res inst_size rfl (inst_one _ _ _ _ _) ?_)
              refine bodyPost_ret (results_row2 Tryd.results23 _ _ _ _ _ _ _ rfl (setRow_heap _ _ _ #[.int .i64 0, .int .i64 0, .int .i64 0, .int .i64 0, .int .i64 0] _ _ hP.out.res) Tryd.underlying30 rfl inst_size) rfl ⟨noIns, false, rfl, HPR.out, below_setRow hP.out.below (Nat.le_refl _) _⟩
            · have hS0 : 0 < S.size := by omega
              have hE : S.toList.isEmpty = false := by
                rw [Go.ByteArray.toList_eq, HST.out]
                rw [HSz.out] at hSe
                cases h : T with
                | nil => rw [h] at hSe; exact absurd rfl hSe
                | cons a b => rfl
              have hs0 : T[0]? = some (S[0]'hS0) := by rw [← HST.out]; exact str_at S 0 hS0
              by_cases hx : (S[0]'hS0).toNat = 120
              · have hxi : ((((S[0]'hS0).toNat : Nat) : Int) != 120) = false := by rw [hx]; rfl
                have hxn : ((S[0]'hS0).toNat != 120) = false := by rw [hx]; rfl
                have hTl : (S.extract 1 S.size).data.toList = T.tail := by
                  rw [ext_take, HST.out]
                  show (T.drop 1).take (S.size - 1) = T.tail
                  rw [List.take_of_length_le (by rw [List.length_drop, HSz.out]; omega), List.drop_one]
                have hX : (S.extract 1 S.size).size ≤ 1048576 := by
                  have e : (S.extract 1 S.size).size = (S.extract 1 S.size).data.toList.length := by rw [Array.length_toList]; rfl
                  rw [e, hTl, List.length_tail, ← HSz.out]
                  have := HSm.out
                  omega
                have HNm : Hid (∀ W : World, Calls Tryd.prog 51 #[.string (S.extract 1 S.size)] W fun e w' => e = .returned (numV T.tail) ∧ w' = W) := fun W => by
                  have := l13Number_any (S.extract 1 S.size) hX W
                  rw [hTl] at this
                  exact this
                clear hX hTl
                cases hn : numL T.tail with
                | none =>
                  have HPR : Hid (PR L noIns false) := by
                    refine Or.inr ⟨rfl, rfl, fun j hj he ht => ?_⟩
                    obtain ⟨l, hl, hl2⟩ := HJ.out j hj he ht
                    rw [hl] at hn
                    exact absurd (hl2.symm.trans hn) (by simp)
                  rw [numV_none hn] at HNm
                  clear hn hs0 hx HJ HJ0 HFILL
                  go_wp2_with fail
                  refine (HNm.out _).mono ?_
                  rintro e w5 ⟨rfl, hw5⟩
                  have hw5' := hw5.symm
                  subst hw5'
                  go_wp2_with (refine wpList_store_rowTo rfl 30 (.tmp 2) (.tmp 65) rfl rfl w.heap.size #[.int .i64 0, .int .i64 0, .int .i64 0, .int .i64 0, .int .i64 0] rfl rfl 30 _ hP.out.res inst_size rfl (inst_one _ _ _ _ _) ?_)
                  refine bodyPost_ret (results_row2 Tryd.results23 _ _ _ _ _ _ _ rfl (setRow_heap _ _ _ #[.int .i64 0, .int .i64 0, .int .i64 0, .int .i64 0, .int .i64 0] _ _ hP.out.res) Tryd.underlying30 rfl inst_size) rfl ⟨noIns, false, rfl, HPR.out, below_setRow hP.out.below (Nat.le_refl _) _⟩
                | some n =>
                  have HF2 : Hid (∀ j, IW j → (encS j).2 = true → shText j = L → setP i 1 n = fillP j ((shParts f).take (k + 1)) ⟨o, 0, 0, 0, 0⟩) := by
                    intro j hj he ht
                    obtain ⟨l, hl, hl2⟩ := HJ.out j hj he ht
                    rw [hl] at hn
                    have hnn : n = getP j 1 := Option.some.inj (hn.symm.trans hl2)
                    rw [htk, fillP_snoc, ← HFILL.out j hj he ht, hnn]
                  have hnb := numL_bd hn
                  have HI2 : Hid (IW (setP i 1 n) ∧ (setP i 1 n).op = o) := ⟨hI.out.1.set 1 (wf_i64 (by omega) (by omega)), by rw [setP_op]; exact hI.out.2⟩
                  rw [numV_some hn] at HNm
                  have HP2 : Hid (PaS w g1 g (w0 :: wt) (setP i 1 n) (wr.setCell ⟨g1, 1 + 1, none⟩ (.int .i64 n))) := hP.out.put 1 (by omega) n
                  obtain ⟨e0, e1, e2, e3, e4⟩ := hP.out.cells
                  have fz := hP.out.frozen 2
                  clear hn hs0 hx HJ HJ0 HFILL htk hI
                  go_wp2_with fail
                  refine (HNm.out _).mono ?_
                  rintro e w5 ⟨rfl, hw5⟩
                  have hw5' := hw5.symm
                  subst hw5'
                  go_wp2_with fail
                  go_roundw
                  case rel => exact ⟨k + 1, setP i 1 n, by go_num, by omega, HP2, HI2, HF2⟩
                  case measure => simp [intOf]; omega
              · have hxi : ((((S[0]'hS0).toNat : Nat) : Int) != 120) = true := by simp; omega
                have hxn : ((S[0]'hS0).toNat != 120) = true := by simpa using hx
                have HPR : Hid (PR L noIns false) := by
                  refine Or.inr ⟨rfl, rfl, fun j hj he ht => ?_⟩
                  obtain ⟨l, hl, _⟩ := HJ.out j hj he ht
                  rw [hl] at hs0
                  have := Option.some.inj hs0
                  exact hx (by rw [← this]; rfl)
                clear hx hs0 HJ HJ0 HFILL
                go_wp2_with (refine wpList_store_rowTo rfl 30 (.tmp 2) (.tmp 55) rfl rfl w.heap.size #[.int .i64 0, .int .i64 0, .int .i64 0, .int .i64 0, .int .i64 0] rfl rfl 30 _ hP.out.res inst_size rfl (inst_one _ _ _ _ _) ?_)
                refine bodyPost_ret (results_row2 Tryd.results23 _ _ _ _ _ _ _ rfl (setRow_heap _ _ _ #[.int .i64 0, .int .i64 0, .int .i64 0, .int .i64 0, .int .i64 0] _ _ hP.out.res) Tryd.underlying30 rfl inst_size) rfl ⟨noIns, false, rfl, HPR.out, below_setRow hP.out.below (Nat.le_refl _) _⟩
          · have hc := hch 98 rfl
            clear hch
            have hci : ((((F[k]'hlt).toNat : Nat) : Int) != 105) = true := by rw [hc]; rfl
            have HJ : Hid (∀ j, IW j → (encS j).2 = true → shText j = L → ∃ l, T = 120 :: l ∧ numL l = some (getP j 2)) := by
              intro j hj he ht
              obtain ⟨l, hl1, hl2⟩ := part_reg (encOk he) 2 (by omega)
              exact ⟨l, (HJ0.out j hj he ht).trans hl1, hl2⟩
            by_cases hSe : S.size = 0
            · have hE : S.toList.isEmpty = true := by rw [Go.ByteArray.toList_eq, HST.out]; rw [HSz.out] at hSe; simpa using hSe
              have HPR : Hid (PR L noIns false) := by
                refine Or.inr ⟨rfl, rfl, fun j hj he ht => ?_⟩
                obtain ⟨l, hl, _⟩ := HJ.out j hj he ht
                rw [HSz.out, hl] at hSe
                simp at hSe
              clear hSe HJ HJ0 HFILL
              go_wp2_with (refine wpList_store_rowTo rfl 30 (.tmp 2) (.tmp 55) rfl rfl w.heap.size #[.int .i64 0, .int .i64 0, .int .i64 0, .int .i64 0, .int .i64 0] rfl rfl 30 _ hP.out.res inst_size rfl (inst_one _ _ _ _ _) ?_)
              refine bodyPost_ret (results_row2 Tryd.results23 _ _ _ _ _ _ _ rfl (setRow_heap _ _ _ #[.int .i64 0, .int .i64 0, .int .i64 0, .int .i64 0, .int .i64 0] _ _ hP.out.res) Tryd.underlying30 rfl inst_size) rfl ⟨noIns, false, rfl, HPR.out, below_setRow hP.out.below (Nat.le_refl _) _⟩
            · have hS0 : 0 < S.size := by omega
              have hE : S.toList.isEmpty = false := by
                rw [Go.ByteArray.toList_eq, HST.out]
                rw [HSz.out] at hSe
                cases h : T with
                | nil => rw [h] at hSe; exact absurd rfl hSe
                | cons a b => rfl
              have hs0 : T[0]? = some (S[0]'hS0) := by rw [← HST.out]; exact str_at S 0 hS0
              by_cases hx : (S[0]'hS0).toNat = 120
              · have hxi : ((((S[0]'hS0).toNat : Nat) : Int) != 120) = false := by rw [hx]; rfl
                have hxn : ((S[0]'hS0).toNat != 120) = false := by rw [hx]; rfl
                have hTl : (S.extract 1 S.size).data.toList = T.tail := by
                  rw [ext_take, HST.out]
                  show (T.drop 1).take (S.size - 1) = T.tail
                  rw [List.take_of_length_le (by rw [List.length_drop, HSz.out]; omega), List.drop_one]
                have hX : (S.extract 1 S.size).size ≤ 1048576 := by
                  have e : (S.extract 1 S.size).size = (S.extract 1 S.size).data.toList.length := by rw [Array.length_toList]; rfl
                  rw [e, hTl, List.length_tail, ← HSz.out]
                  have := HSm.out
                  omega
                have HNm : Hid (∀ W : World, Calls Tryd.prog 51 #[.string (S.extract 1 S.size)] W fun e w' => e = .returned (numV T.tail) ∧ w' = W) := fun W => by
                  have := l13Number_any (S.extract 1 S.size) hX W
                  rw [hTl] at this
                  exact this
                clear hX hTl
                cases hn : numL T.tail with
                | none =>
                  have HPR : Hid (PR L noIns false) := by
                    refine Or.inr ⟨rfl, rfl, fun j hj he ht => ?_⟩
                    obtain ⟨l, hl, hl2⟩ := HJ.out j hj he ht
                    rw [hl] at hn
                    exact absurd (hl2.symm.trans hn) (by simp)
                  rw [numV_none hn] at HNm
                  clear hn hs0 hx HJ HJ0 HFILL
                  go_wp2_with fail
                  refine (HNm.out _).mono ?_
                  rintro e w5 ⟨rfl, hw5⟩
                  have hw5' := hw5.symm
                  subst hw5'
                  go_wp2_with (refine wpList_store_rowTo rfl 30 (.tmp 2) (.tmp 65) rfl rfl w.heap.size #[.int .i64 0, .int .i64 0, .int .i64 0, .int .i64 0, .int .i64 0] rfl rfl 30 _ hP.out.res inst_size rfl (inst_one _ _ _ _ _) ?_)
                  refine bodyPost_ret (results_row2 Tryd.results23 _ _ _ _ _ _ _ rfl (setRow_heap _ _ _ #[.int .i64 0, .int .i64 0, .int .i64 0, .int .i64 0, .int .i64 0] _ _ hP.out.res) Tryd.underlying30 rfl inst_size) rfl ⟨noIns, false, rfl, HPR.out, below_setRow hP.out.below (Nat.le_refl _) _⟩
                | some n =>
                  have HF2 : Hid (∀ j, IW j → (encS j).2 = true → shText j = L → setP i 2 n = fillP j ((shParts f).take (k + 1)) ⟨o, 0, 0, 0, 0⟩) := by
                    intro j hj he ht
                    obtain ⟨l, hl, hl2⟩ := HJ.out j hj he ht
                    rw [hl] at hn
                    have hnn : n = getP j 2 := Option.some.inj (hn.symm.trans hl2)
                    rw [htk, fillP_snoc, ← HFILL.out j hj he ht, hnn]
                  have hnb := numL_bd hn
                  have HI2 : Hid (IW (setP i 2 n) ∧ (setP i 2 n).op = o) := ⟨hI.out.1.set 2 (wf_i64 (by omega) (by omega)), by rw [setP_op]; exact hI.out.2⟩
                  rw [numV_some hn] at HNm
                  have HP2 : Hid (PaS w g1 g (w0 :: wt) (setP i 2 n) (wr.setCell ⟨g1, 2 + 1, none⟩ (.int .i64 n))) := hP.out.put 2 (by omega) n
                  obtain ⟨e0, e1, e2, e3, e4⟩ := hP.out.cells
                  have fz := hP.out.frozen 3
                  clear hn hs0 hx HJ HJ0 HFILL htk hI
                  go_wp2_with fail
                  refine (HNm.out _).mono ?_
                  rintro e w5 ⟨rfl, hw5⟩
                  have hw5' := hw5.symm
                  subst hw5'
                  go_wp2_with fail
                  go_roundw
                  case rel => exact ⟨k + 1, setP i 2 n, by go_num, by omega, HP2, HI2, HF2⟩
                  case measure => simp [intOf]; omega
              · have hxi : ((((S[0]'hS0).toNat : Nat) : Int) != 120) = true := by simp; omega
                have hxn : ((S[0]'hS0).toNat != 120) = true := by simpa using hx
                have HPR : Hid (PR L noIns false) := by
                  refine Or.inr ⟨rfl, rfl, fun j hj he ht => ?_⟩
                  obtain ⟨l, hl, _⟩ := HJ.out j hj he ht
                  rw [hl] at hs0
                  have := Option.some.inj hs0
                  exact hx (by rw [← this]; rfl)
                clear hx hs0 HJ HJ0 HFILL
                go_wp2_with (refine wpList_store_rowTo rfl 30 (.tmp 2) (.tmp 55) rfl rfl w.heap.size #[.int .i64 0, .int .i64 0, .int .i64 0, .int .i64 0, .int .i64 0] rfl rfl 30 _ hP.out.res inst_size rfl (inst_one _ _ _ _ _) ?_)
                refine bodyPost_ret (results_row2 Tryd.results23 _ _ _ _ _ _ _ rfl (setRow_heap _ _ _ #[.int .i64 0, .int .i64 0, .int .i64 0, .int .i64 0, .int .i64 0] _ _ hP.out.res) Tryd.underlying30 rfl inst_size) rfl ⟨noIns, false, rfl, HPR.out, below_setRow hP.out.below (Nat.le_refl _) _⟩
          · have hc := hch 105 rfl
            clear hch
            have hci : ((((F[k]'hlt).toNat : Nat) : Int) != 105) = false := by rw [hc]; rfl
            have HNm : Hid (∀ W : World, Calls Tryd.prog 51 #[.string S] W fun e w' => e = .returned (numV T) ∧ w' = W) := fun W => by
              have := l13Number_any S HSm.out W
              rw [HST.out] at this
              exact this
            cases hn : numL T with
            | none =>
              have HPR : Hid (PR L noIns false) := by
                refine Or.inr ⟨rfl, rfl, fun j hj he ht => ?_⟩
                have h1 := HJ0.out j hj he ht
                rw [h1, part_imm (encOk he)] at hn
                cases hn
              rw [numV_none hn] at HNm
              clear hn HJ0 HFILL
              go_wp2_with fail
              refine (HNm.out _).mono ?_
              rintro e w5 ⟨rfl, hw5⟩
              have hw5' := hw5.symm
              subst hw5'
              go_wp2_with (refine wpList_store_rowTo rfl 30 (.tmp 2) (.tmp 65) rfl rfl w.heap.size #[.int .i64 0, .int .i64 0, .int .i64 0, .int .i64 0, .int .i64 0] rfl rfl 30 _ hP.out.res inst_size rfl (inst_one _ _ _ _ _) ?_)
              refine bodyPost_ret (results_row2 Tryd.results23 _ _ _ _ _ _ _ rfl (setRow_heap _ _ _ #[.int .i64 0, .int .i64 0, .int .i64 0, .int .i64 0, .int .i64 0] _ _ hP.out.res) Tryd.underlying30 rfl inst_size) rfl ⟨noIns, false, rfl, HPR.out, below_setRow hP.out.below (Nat.le_refl _) _⟩
            | some n =>
              have HF2 : Hid (∀ j, IW j → (encS j).2 = true → shText j = L → setP i 3 n = fillP j ((shParts f).take (k + 1)) ⟨o, 0, 0, 0, 0⟩) := by
                intro j hj he ht
                have h1 := HJ0.out j hj he ht
                have h2 : n = getP j 3 := by
                  rw [h1, part_imm (encOk he)] at hn
                  exact (Option.some.inj hn).symm
                rw [htk, fillP_snoc, ← HFILL.out j hj he ht, h2]
              have hnb := numL_bd hn
              have HI2 : Hid (IW (setP i 3 n) ∧ (setP i 3 n).op = o) := ⟨hI.out.1.set 3 (wf_i64 (by omega) (by omega)), by rw [setP_op]; exact hI.out.2⟩
              rw [numV_some hn] at HNm
              have HP2 : Hid (PaS w g1 g (w0 :: wt) (setP i 3 n) (wr.setCell ⟨g1, 3 + 1, none⟩ (.int .i64 n))) := hP.out.put 3 (by omega) n
              obtain ⟨e0, e1, e2, e3, e4⟩ := hP.out.cells
              have fz := hP.out.frozen 4
              clear hn HJ0 HFILL htk hI
              go_wp2_with fail
              refine (HNm.out _).mono ?_
              rintro e w5 ⟨rfl, hw5⟩
              have hw5' := hw5.symm
              subst hw5'
              go_wp2_with fail
              go_roundw
              case rel => exact ⟨k + 1, setP i 3 n, by go_num, by omega, HP2, HI2, HF2⟩
              case measure => simp [intOf]; omega
        · have hk2 : k = (shParts f).length := by rw [← HZ.out]; omega
          have HFI : Hid (∀ j, IW j → (encS j).2 = true → shText j = L → i = j) := by
            intro j hj he ht
            rw [HFILL.out j hj he ht, hk2, List.take_length, HFm.out]
            have h3 := (HFN.out j hj he ht).2
            rw [h3]
            exact (encOk he).fill
          obtain ⟨Sh, hSh⟩ : ∃ Sh : ByteArray, Sh = ⟨(showL i).toArray⟩ := ⟨_, rfl⟩
          have HSC : Hid (∀ W : World, Calls Tryd.prog 15 #[.agg #[.int .i64 i.op, .int .i64 i.rd, .int .i64 i.a, .int .i64 i.b, .int .i64 i.imm]] W fun e w' => e = .returned (.string Sh) ∧ Below W.heap.size W w') := fun W => by rw [hSh]; exact specShow_any i hI.out.1 W
          obtain ⟨c0, c1, c2, c3, c4⟩ := hP.out.cells
          have HQ : Hid (∀ b, (Sh.toList != s.toList) = b → b = decide (showL i ≠ L)) := by
            intro b hb
            rw [← hb, Go.ByteArray.toList_eq, Go.ByteArray.toList_eq, ← HLs.out, hSh]
            show (showL i != L) = _
            by_cases h : showL i = L <;> simp [h]
          clear hSh hk2 HFILL
          cases hq : (Sh.toList != s.toList) with
          | true =>
            have HPR : Hid (PR L noIns false) := by
              refine Or.inr ⟨rfl, rfl, fun j hj he ht => ?_⟩
              have h1 := HQ.out _ hq
              have h2 := HFI.out j hj he ht
              have h3 : showL i = L := by rw [h2, showL, if_pos he]; exact ht
              rw [decide_eq_false (by simp [h3])] at h1
              cases h1
            have hq2 : (Sh.toList == s.toList) = false := by simpa [bne] using hq
            clear HQ HFI hq
            go_wp2_with fail
            refine (HSC.out _).mono ?_
            rintro e w5 ⟨rfl, hb5⟩
            have HP5 : Hid (PaS w g1 g (w0 :: wt) i w5) := hP.out.keep hb5
            clear hb5
            go_wp2_with (refine wpList_store_rowTo rfl 30 (.tmp 2) (.tmp 87) rfl rfl w.heap.size #[.int .i64 0, .int .i64 0, .int .i64 0, .int .i64 0, .int .i64 0] rfl rfl 30 _ HP5.out.res inst_size rfl (inst_one _ _ _ _ _) ?_)
            refine bodyPost_ret (results_row2 Tryd.results23 _ _ _ _ _ _ _ rfl (setRow_heap _ _ _ #[.int .i64 0, .int .i64 0, .int .i64 0, .int .i64 0, .int .i64 0] _ _ HP5.out.res) Tryd.underlying30 rfl inst_size) rfl ⟨noIns, false, rfl, HPR.out, below_setRow HP5.out.below (Nat.le_refl _) _⟩
          | false =>
            have HPR : Hid (PR L i true) := by
              have h1 := HQ.out _ hq
              have h3 : showL i = L := by
                by_cases h : showL i = L
                · exact h
                · rw [decide_eq_true h] at h1; cases h1
              cases he : (encS i).2 with
              | true => exact Or.inl ⟨rfl, hI.out.1, he, by rw [← h3, showL, if_pos he]⟩
              | false =>
                rw [showL, he] at h3
                exact absurd (HOE.out h3.symm) HO0.out
            have hq2 : (Sh.toList == s.toList) = true := by simpa [bne] using hq
            clear HQ HFI hq
            go_wp2_with fail
            refine (HSC.out _).mono ?_
            rintro e w5 ⟨rfl, hb5⟩
            have HP5 : Hid (PaS w g1 g (w0 :: wt) i w5) := hP.out.keep hb5
            clear hb5 c0 c1 c2 c3 c4
            obtain ⟨c0, c1, c2, c3, c4⟩ := HP5.out.cells
            go_wp2_with (refine wpList_store_rowTo rfl 30 (.tmp 2) (.tmp 88) rfl rfl w.heap.size #[.int .i64 i.op, .int .i64 i.rd, .int .i64 i.a, .int .i64 i.b, .int .i64 i.imm] rfl rfl 30 _ HP5.out.res inst_size rfl (inst_one _ _ _ _ _) ?_)
            refine bodyPost_ret (results_row2 Tryd.results23 _ _ _ _ _ _ _ rfl (setRow_heap _ _ _ #[.int .i64 i.op, .int .i64 i.rd, .int .i64 i.a, .int .i64 i.b, .int .i64 i.imm] _ _ HP5.out.res) Tryd.underlying30 rfl inst_size) rfl ⟨i, true, rfl, HPR.out, below_setRow HP5.out.below (Nat.le_refl _) _⟩
    · have hne : ((wt.length : Int) != (F.size : Int)) = true := by simp; omega
      have HPR : Hid (PR L noIns false) := by
        refine Or.inr ⟨rfl, rfl, fun j hj he ht => ?_⟩
        obtain ⟨⟨_, h2⟩, h3⟩ := HFN.out j hj he ht
        apply hlen
        rw [HZ.out, HFm.out, h3, h2, List.length_map]
      go_wp2_with (refine wpList_store_rowTo rfl 30 (.tmp 2) (.tmp 32) rfl rfl w.heap.size #[.int .i64 0, .int .i64 0, .int .i64 0, .int .i64 0, .int .i64 0] rfl rfl 30 _ HP3.out.res inst_size rfl (inst_one _ _ _ _ _) ?_)
      refine bodyPost_ret (results_row2 Tryd.results23 _ _ _ _ _ _ _ rfl (setRow_heap _ _ _ #[.int .i64 0, .int .i64 0, .int .i64 0, .int .i64 0, .int .i64 0] _ _ HP3.out.res) Tryd.underlying30 rfl inst_size) rfl ⟨noIns, false, rfl, HPR.out, below_setRow HP3.out.below (Nat.le_refl _) _⟩

end Go.Proofs.YtjjpklalihaanaaDoor
