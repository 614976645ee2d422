/- Own lemmas. -/
import Derived.Test.YtcdjfiljlahaeaaHandT
import Derived.Test.YtcdjfiljlahaeaaK02
import Derived.Test.YtcdjfiljlahaeaaK05
import Derived.Test.YtcdjfiljlahaeaaK06
import Derived.Test.YtcdjfiljlahaeaaK07
import Derived.Test.YtcdjfiljlahaeaaK10
import Derived.Deep.RegionWith
import Derived.Deep.Cut
namespace Go.Proofs.Ytcdjfiljlahaeaa
open Go.RowKit
set_option linter.unusedVariables false

theorem lineM_len (M : MV) : (lineM M).cs.length = M.cs.length := by simp [lineM]

theorem MLen.line {M : MV} (h : MLen M) : MLen (lineM M) := ⟨h.x, by rw [lineM_len]; exact h.cs, h.ram, h.xs, h.ys⟩

def linedM (M : MV) : MV := if (decide (M.cs.length = 22) && okD M.d.xs.length M.d.ys.length M.d.ir && machB (lineM M)) = true then lineM M else zeroM

theorem fam_zeroM (B E : Nat) (w : World) : Fam B E w (mvF zeroM zeroA) := by
  refine ⟨fun r hr => ?_, fun r hr k e => ?_, ?_⟩
  · simp only [mvF, List.mem_cons, List.not_mem_nil, or_false] at hr
    rcases hr with rfl | rfl | rfl | rfl | rfl <;> exact ⟨rfl, .inl ⟨rfl, rfl⟩⟩
  · simp only [mvF, List.mem_cons, List.not_mem_nil, or_false] at hr
    rcases hr with rfl | rfl | rfl | rfl | rfl <;> cases e
  · simp only [mvF, List.pairwise_cons, List.mem_cons, List.not_mem_nil, or_false]
    refine ⟨fun s _ k e => ?_, fun s _ k e => ?_, fun s _ k e => ?_, fun s _ k e => ?_, fun s h => h.elim, List.Pairwise.nil⟩ <;> cases e

set_option maxRecDepth 100000 in
set_option maxHeartbeats 6400000 in
theorem specLined_any (M : MV) (A : MA) (w : World) (hl : MLen M) (hs : MSl w M A) :
    Calls Try.prog 14 #[.agg #[.int .u64 M.pc, .slice A.ax M.x.length A.cx, .int .i64 M.pr, .slice A.ac M.cs.length A.cc, .slice A.ar M.ram.length A.cr, .int .u64 M.d.t, .int .u64 M.d.cm, .bool M.d.so, .slice A.ai M.d.xs.length A.ci, .slice A.ao M.d.ys.length A.co, .int .i64 M.d.ir, .int .u64 M.hd, .bool M.hl, .bool M.wt]] w fun e w' => ∃ C : MA, e = .returned (.agg (mvc (linedM M) C)) ∧ Fam w.heap.size w'.heap.size w' (mvF (linedM M) C) ∧ Below w.heap.size w w' := by
  have HD : Hid (∀ w', Below w.heap.size w w' → Calls Try.prog 38 #[.agg #[.int .u64 M.d.t, .int .u64 M.d.cm, .bool M.d.so, .slice A.ai M.d.xs.length A.ci, .slice A.ao M.d.ys.length A.co, .int .i64 M.d.ir]] w' fun e w'' => e = .returned (.bool (okD M.d.xs.length M.d.ys.length M.d.ir)) ∧ Below w'.heap.size w' w'') := fun w' hb => specDevOk_any _ _ _ _ _ _ _ _ _ _ w' hl.xs hl.ys
  have HC : Hid (∀ w', Below w.heap.size w w' → Calls Try.prog 39 #[.agg #[.int .u64 M.pc, .slice A.ax M.x.length A.cx, .int .i64 M.pr, .slice A.ac M.cs.length A.cc, .slice A.ar M.ram.length A.cr, .int .u64 M.d.t, .int .u64 M.d.cm, .bool M.d.so, .slice A.ai M.d.xs.length A.ci, .slice A.ao M.d.ys.length A.co, .int .i64 M.d.ir, .int .u64 M.hd, .bool M.hl, .bool M.wt]] w' fun e w'' => ∃ C : MA, e = .returned (.agg #[.int .u64 M.pc, .slice C.ax M.x.length C.cx, .int .i64 M.pr, .slice C.ac M.cs.length C.cc, .slice C.ar M.ram.length C.cr, .int .u64 M.d.t, .int .u64 M.d.cm, .bool M.d.so, .slice C.ai M.d.xs.length C.ci, .slice C.ao M.d.ys.length C.co, .int .i64 M.d.ir, .int .u64 M.hd, .bool M.hl, .bool M.wt]) ∧ Fam w'.heap.size w''.heap.size w'' (mvF M C) ∧ Below w'.heap.size w' w'') := fun w' hb => l9Copy_any M A w' hl (hs.below hb)
  have HK : Hid (∀ (C : MA) (w' : World), MSl w' (lineM M) C → Calls Try.prog 40 #[.agg #[.int .u64 M.pc, .slice C.ax M.x.length C.cx, .int .i64 M.pr, .slice C.ac M.cs.length C.cc, .slice C.ar M.ram.length C.cr, .int .u64 M.d.t, .int .u64 M.d.cm, .bool M.d.so, .slice C.ai M.d.xs.length C.ci, .slice C.ao M.d.ys.length C.co, .int .i64 M.d.ir, .int .u64 M.hd, .bool M.hl, .bool M.wt]] w' fun e w'' => e = .returned (.bool (machB (lineM M))) ∧ Below w'.heap.size w' w'') := fun C w' h => by
    have h2 := specMachineOk_any (lineM M) C w' hl.line h
    rw [lineM_len] at h2
    exact h2
  have HLN : Hid (∀ (C : MA) (b B E : Nat) (w' : World), M.cs.length = 22 → w'.heap[b]? = some (.cells #[.int .u64 M.pc, .slice C.ax M.x.length C.cx, .int .i64 M.pr, .slice C.ac M.cs.length C.cc, .slice C.ar M.ram.length C.cr, .int .u64 M.d.t, .int .u64 M.d.cm, .bool M.d.so, .slice C.ai M.d.xs.length C.ci, .slice C.ao M.d.ys.length C.co, .int .i64 M.d.ir, .int .u64 M.hd, .bool M.hl, .bool M.wt] 30 (0, 0)) → Fam B E w' (mvF M C) → (∀ q ∈ mvF M C, q.v.ownBlock ≠ some b) → Calls Try.prog 26 #[.pointer (some ⟨b, 0, none⟩)] w' fun e w'' => e = .returned (.tuple #[]) ∧ w''.heap[b]? = some (.cells #[.int .u64 M.pc, .slice C.ax M.x.length C.cx, .int .i64 M.pr, .slice C.ac M.cs.length C.cc, .slice C.ar M.ram.length C.cr, .int .u64 M.d.t, .int .u64 M.d.cm, .bool M.d.so, .slice C.ai M.d.xs.length C.ci, .slice C.ao M.d.ys.length C.co, .int .i64 M.d.ir, .int .u64 M.hd, .bool M.hl, .bool M.wt] 30 (0, 0)) ∧ Fam B E w'' (mvF (lineM M) C) ∧ KeepL (mvF M C) w' w'') := fun C b B E w' h22 hr hf hb => by
    have h2 := l9Line_any M C b B E w' h22 hl hr hf hb
    rw [mvc_line] at h2
    exact h2
  clear hl hs
  obtain ⟨V, hV⟩ : ∃ V, V = linedM M := ⟨_, rfl⟩
  rw [← hV]
  obtain ⟨ra, rb⟩ := rows2 (w := w) (o1 := .cells #[.int .u64 M.pc, .slice A.ax M.x.length A.cx, .int .i64 M.pr, .slice A.ac M.cs.length A.cc, .slice A.ar M.ram.length A.cr, .int .u64 M.d.t, .int .u64 M.d.cm, .bool M.d.so, .slice A.ai M.d.xs.length A.ci, .slice A.ao M.d.ys.length A.co, .int .i64 M.d.ir, .int .u64 M.hd, .bool M.hl, .bool M.wt] 30) (o2 := .cells #[.int .u64 0, .slice none 0 0, .int .i64 0, .slice none 0 0, .slice none 0 0, .int .u64 0, .int .u64 0, .bool false, .slice none 0 0, .slice none 0 0, .int .i64 0, .int .u64 0, .bool false, .bool false] 30) (Below.refl _ _)
  have B0 : Hid (Below w.heap.size w ((w.alloc (.cells #[.int .u64 M.pc, .slice A.ax M.x.length A.cx, .int .i64 M.pr, .slice A.ac M.cs.length A.cc, .slice A.ar M.ram.length A.cr, .int .u64 M.d.t, .int .u64 M.d.cm, .bool M.d.so, .slice A.ai M.d.xs.length A.ci, .slice A.ao M.d.ys.length A.co, .int .i64 M.d.ir, .int .u64 M.hd, .bool M.hl, .bool M.wt] 30)).alloc (.cells #[.int .u64 0, .slice none 0 0, .int .i64 0, .slice none 0 0, .slice none 0 0, .int .u64 0, .int .u64 0, .bool false, .slice none 0 0, .slice none 0 0, .int .i64 0, .int .u64 0, .bool false, .bool false] 30))) := ((Below.refl _ _).alloc (Nat.le_refl _) _).alloc (by simp) _
  have RA := dhid ra
  have RB := dhid rb
  clear ra rb
  by_cases h22 : M.cs.length = 22
  · cases hok : okD M.d.xs.length M.d.ys.length M.d.ir with
    | false =>
      have F : Hid (V = zeroM) := by show _ = _; rw [hV]; unfold linedM; rw [hok, Bool.and_false, Bool.false_and]; rfl
      rw [hok] at HD
      clear hok HC HK HLN hV
      generalize M.cs.length = nc at *
      subst h22
      go_enter Try.func14, Try.ntmps14
      go_wp2_with fail
      refine (HD.out _ B0.out).mono ?_
      rintro e w1 ⟨rfl, hb1⟩
      have RES := dhid (dstays hb1 RB.out)
      have BB := dhid (below_trans B0.out hb1)
      obtain ⟨s0, s1, s2, s3, s4, s5, s6, s7, s8, s9, s10, s11, s12, s13⟩ := cells14 RES.out
      obtain ⟨y0, y1, y2, y3, y4, y5, y6, y7, y8, y9, y10, y11, y12, y13⟩ := froz14 RES.out
      clear hb1 RA RB B0
      go_wp2_with fail
      exact bodyPost_ret (results_cell_row Try.results14 _ _ _ _ _ _ _ rfl (row_put14 RES.out (.int .u64 0) (.slice none 0 0) (.int .i64 0) (.slice none 0 0) (.slice none 0 0) (.int .u64 0) (.int .u64 0) (.bool false) (.slice none 0 0) (.slice none 0 0) (.int .i64 0) (.int .u64 0) (.bool false) (.bool false)) Try.underlying30 rfl mac_size) rfl ⟨zeroA, by rw [F.out]; rfl, by rw [F.out]; exact fam_zeroM _ _ _, below_put14 BB.out (by omega) (.int .u64 0) (.slice none 0 0) (.int .i64 0) (.slice none 0 0) (.slice none 0 0) (.int .u64 0) (.int .u64 0) (.bool false) (.slice none 0 0) (.slice none 0 0) (.int .i64 0) (.int .u64 0) (.bool false) (.bool false)⟩
    | true =>
      rw [hok] at HD
      have F0 : Hid (V = if machB (lineM M) = true then lineM M else zeroM) := by show _ = _; rw [hV]; unfold linedM; rw [hok, decide_eq_true h22]; rfl
      clear hok hV
      have H22 : Hid (M.cs.length = 22) := h22
      have HLN2 : Hid (∀ (C : MA) (b B E : Nat) (w' : World), w'.heap[b]? = some (.cells #[.int .u64 M.pc, .slice C.ax M.x.length C.cx, .int .i64 M.pr, .slice C.ac M.cs.length C.cc, .slice C.ar M.ram.length C.cr, .int .u64 M.d.t, .int .u64 M.d.cm, .bool M.d.so, .slice C.ai M.d.xs.length C.ci, .slice C.ao M.d.ys.length C.co, .int .i64 M.d.ir, .int .u64 M.hd, .bool M.hl, .bool M.wt] 30 (0, 0)) → Fam B E w' (mvF M C) → (∀ q ∈ mvF M C, q.v.ownBlock ≠ some b) → Calls Try.prog 26 #[.pointer (some ⟨b, 0, none⟩)] w' fun e w'' => e = .returned (.tuple #[]) ∧ w''.heap[b]? = some (.cells #[.int .u64 M.pc, .slice C.ax M.x.length C.cx, .int .i64 M.pr, .slice C.ac M.cs.length C.cc, .slice C.ar M.ram.length C.cr, .int .u64 M.d.t, .int .u64 M.d.cm, .bool M.d.so, .slice C.ai M.d.xs.length C.ci, .slice C.ao M.d.ys.length C.co, .int .i64 M.d.ir, .int .u64 M.hd, .bool M.hl, .bool M.wt] 30 (0, 0)) ∧ Fam B E w'' (mvF (lineM M) C) ∧ KeepL (mvF M C) w' w'') := fun C b B E w' hr hf hb => HLN.out C b B E w' h22 hr hf hb
      have HMV : Hid (∀ C : MA, mvc M C = #[.int .u64 M.pc, .slice C.ax M.x.length C.cx, .int .i64 M.pr, .slice C.ac M.cs.length C.cc, .slice C.ar M.ram.length C.cr, .int .u64 M.d.t, .int .u64 M.d.cm, .bool M.d.so, .slice C.ai M.d.xs.length C.ci, .slice C.ao M.d.ys.length C.co, .int .i64 M.d.ir, .int .u64 M.hd, .bool M.hl, .bool M.wt]) := fun C => rfl
      clear HLN H22
      generalize M.cs.length = nc at *
      subst h22
      go_enter Try.func14, Try.ntmps14
      go_wp2_with fail
      refine (HD.out _ B0.out).mono ?_
      rintro e w1 ⟨rfl, hb1⟩
      have RA1 := dhid (dstays hb1 RA.out)
      have RB1 := dhid (dstays hb1 RB.out)
      have B1 := dhid (below_trans B0.out hb1)
      clear hb1 RA RB B0
      obtain ⟨a0, a1, a2, a3, a4, a5, a6, a7, a8, a9, a10, a11, a12, a13⟩ := cells14 RA1.out
      go_wp2_with fail
      refine (HC.out _ B1.out).mono ?_
      rintro e w2 ⟨C, rfl, fm2, hb2⟩
      have FM2 := dhid (fm2.below ((Below.refl _ _).alloc (Nat.le_refl _) (.cells #[.int .u64 M.pc, .slice C.ax M.x.length C.cx, .int .i64 M.pr, .slice C.ac 22 C.cc, .slice C.ar M.ram.length C.cr, .int .u64 M.d.t, .int .u64 M.d.cm, .bool M.d.so, .slice C.ai M.d.xs.length C.ci, .slice C.ao M.d.ys.length C.co, .int .i64 M.d.ir, .int .u64 M.hd, .bool M.hl, .bool M.wt] 30)))
      have NB : Hid (∀ q ∈ mvF M C, q.v.ownBlock ≠ some w2.heap.size) := fun q hq e => by have := fm2.hi q hq _ e; omega
      have RB2 := dhid (row_al8 (dstays hb2 RB1.out) (.cells #[.int .u64 M.pc, .slice C.ax M.x.length C.cx, .int .i64 M.pr, .slice C.ac 22 C.cc, .slice C.ar M.ram.length C.cr, .int .u64 M.d.t, .int .u64 M.d.cm, .bool M.d.so, .slice C.ai M.d.xs.length C.ci, .slice C.ao M.d.ys.length C.co, .int .i64 M.d.ir, .int .u64 M.hd, .bool M.hl, .bool M.wt] 30))
      have B2 := dhid ((below_trans B1.out hb2).alloc (below_trans B1.out hb2).size (.cells #[.int .u64 M.pc, .slice C.ax M.x.length C.cx, .int .i64 M.pr, .slice C.ac 22 C.cc, .slice C.ar M.ram.length C.cr, .int .u64 M.d.t, .int .u64 M.d.cm, .bool M.d.so, .slice C.ai M.d.xs.length C.ci, .slice C.ao M.d.ys.length C.co, .int .i64 M.d.ir, .int .u64 M.hd, .bool M.hl, .bool M.wt] 30))
      have Z2 := dhid (show w.heap.size + 1 < w1.heap.size ∧ w1.heap.size ≤ w2.heap.size from ⟨(Array.getElem?_eq_some_iff.1 RB1.out).1, hb2.size⟩)
      have R2 := dhid (heap_alloc_new w2 (.cells #[.int .u64 M.pc, .slice C.ax M.x.length C.cx, .int .i64 M.pr, .slice C.ac 22 C.cc, .slice C.ar M.ram.length C.cr, .int .u64 M.d.t, .int .u64 M.d.cm, .bool M.d.so, .slice C.ai M.d.xs.length C.ci, .slice C.ao M.d.ys.length C.co, .int .i64 M.d.ir, .int .u64 M.hd, .bool M.hl, .bool M.wt] 30))
      clear fm2 hb2 RA1 RB1 B1
      clear a0 a1 a2 a3 a4 a5 a6 a7 a8 a9 a10 a11 a12 a13
      go_wp2_with fail
      refine (HLN2.out C w2.heap.size _ _ _ R2.out FM2.out NB.out).mono ?_
      rintro e w3 ⟨rfl, row3, fm3, kp3⟩
      have kpb : Below w.heap.size w w3 := (Keep.below (kp3.keep FM2.out) (by have := Z2.out; omega) (by have := B2.out.size; omega) : Below w.heap.size _ w3) |> fun h => B2.out.trans h
      have B3 := dhid kpb
      have R3 := dhid row3
      have FM3 := dhid fm3
      have RB3 := dhid ((kp3.block (w.heap.size + 1) (Array.getElem?_eq_some_iff.1 RB2.out).1 (fun q hq e => by have h1 := ((FM2.out.own q hq).lt _ e).1; have := Z2.out; omega)).trans RB2.out)
      clear kp3 row3 fm3 kpb RB2 B2 FM2 NB R2
      obtain ⟨a0, a1, a2, a3, a4, a5, a6, a7, a8, a9, a10, a11, a12, a13⟩ := cells14 R3.out
      go_wp2_with fail
      refine (HK.out C _ FM3.out.msl).mono ?_
      rintro e w4 ⟨rfl, hb4⟩
      have R4 := dhid (dstays hb4 R3.out)
      have RES := dhid (dstays hb4 RB3.out)
      have FM4 := dhid (FM3.out.below hb4)
      have BB := dhid (below_trans B3.out hb4)
      have Z4 := dhid (show w2.heap.size < w4.heap.size from (Array.getElem?_eq_some_iff.1 R4.out).1)
      clear hb4 R3 RB3 FM3 B3
      clear a0 a1 a2 a3 a4 a5 a6 a7 a8 a9 a10 a11 a12 a13
      obtain ⟨a0, a1, a2, a3, a4, a5, a6, a7, a8, a9, a10, a11, a12, a13⟩ := cells14 R4.out
      obtain ⟨s0, s1, s2, s3, s4, s5, s6, s7, s8, s9, s10, s11, s12, s13⟩ := cells14 RES.out
      obtain ⟨y0, y1, y2, y3, y4, y5, y6, y7, y8, y9, y10, y11, y12, y13⟩ := froz14 RES.out
      have nd1 : ¬ w2.heap.size = w.heap.size + 1 := by have := Z2.out; omega
      have nd2 : ¬ w.heap.size + 1 = w2.heap.size := by have := Z2.out; omega
      cases hmk : machB (lineM M) with
      | false =>
        have F : Hid (V = zeroM) := by show _ = _; rw [F0.out, hmk]; rfl
        clear F0
        go_wp2_with fail
        exact bodyPost_ret (results_cell_row Try.results14 _ _ _ _ _ _ _ rfl (row_put14 RES.out (.int .u64 0) (.slice none 0 0) (.int .i64 0) (.slice none 0 0) (.slice none 0 0) (.int .u64 0) (.int .u64 0) (.bool false) (.slice none 0 0) (.slice none 0 0) (.int .i64 0) (.int .u64 0) (.bool false) (.bool false)) Try.underlying30 rfl mac_size) rfl ⟨zeroA, by rw [F.out]; rfl, by rw [F.out]; exact fam_zeroM _ _ _, below_put14 BB.out (by omega) (.int .u64 0) (.slice none 0 0) (.int .i64 0) (.slice none 0 0) (.slice none 0 0) (.int .u64 0) (.int .u64 0) (.bool false) (.slice none 0 0) (.slice none 0 0) (.int .i64 0) (.int .u64 0) (.bool false) (.bool false)⟩
      | true =>
        have F : Hid (V = lineM M) := by show _ = _; rw [F0.out, hmk]; rfl
        clear F0
        go_wp2_with fail
        exact bodyPost_ret (results_cell_row Try.results14 _ _ _ _ _ _ _ rfl (row_put14 RES.out (.int .u64 M.pc) (.slice C.ax M.x.length C.cx) (.int .i64 M.pr) (.slice C.ac 22 C.cc) (.slice C.ar M.ram.length C.cr) (.int .u64 M.d.t) (.int .u64 M.d.cm) (.bool M.d.so) (.slice C.ai M.d.xs.length C.ci) (.slice C.ao M.d.ys.length C.co) (.int .i64 M.d.ir) (.int .u64 M.hd) (.bool M.hl) (.bool M.wt)) Try.underlying30 rfl mac_size) rfl ⟨C, by rw [F.out, mvc_line, HMV.out], by rw [F.out]; exact (FM4.out.put14 (w.heap.size + 1) (.inl Z2.out.1) (.int .u64 M.pc) (.slice C.ax M.x.length C.cx) (.int .i64 M.pr) (.slice C.ac 22 C.cc) (.slice C.ar M.ram.length C.cr) (.int .u64 M.d.t) (.int .u64 M.d.cm) (.bool M.d.so) (.slice C.ai M.d.xs.length C.ci) (.slice C.ao M.d.ys.length C.co) (.int .i64 M.d.ir) (.int .u64 M.hd) (.bool M.hl) (.bool M.wt)).low (by have := Z2.out; omega) (by have := Z4.out; simp only [size_set]; omega), below_put14 BB.out (by omega) (.int .u64 M.pc) (.slice C.ax M.x.length C.cx) (.int .i64 M.pr) (.slice C.ac 22 C.cc) (.slice C.ar M.ram.length C.cr) (.int .u64 M.d.t) (.int .u64 M.d.cm) (.bool M.d.so) (.slice C.ai M.d.xs.length C.ci) (.slice C.ao M.d.ys.length C.co) (.int .i64 M.d.ir) (.int .u64 M.hd) (.bool M.hl) (.bool M.wt)⟩
  · have d22 : ¬ (((M.cs.length : Nat) : Int) = 22) := by omega
    have F : Hid (V = zeroM) := by show _ = _; rw [hV]; unfold linedM; rw [decide_eq_false h22]; rfl
    clear HC HK HLN HD hV
    generalize M.cs.length = nc at *
    go_enter Try.func14, Try.ntmps14
    go_wp2_with fail
    exact bodyPost_ret (results_cell_row Try.results14 _ _ _ _ _ _ _ rfl RB.out Try.underlying30 rfl mac_size) rfl ⟨zeroA, by rw [F.out]; rfl, by rw [F.out]; exact fam_zeroM _ _ _, B0.out⟩

set_option maxRecDepth 100000 in
set_option maxHeartbeats 6400000 in
theorem tellLines_x (pc : Int) (ax : Option Addr) (nx cx : Nat) (pr : Int) (g cc : Nat) (ar : Option Addr) (nr cr : Nat) (t cm : Int) (so : Bool) (ai : Option Addr) (ni ci : Nat) (ao : Option Addr) (no co : Nat) (ir hd : Int) (hl wt : Bool) (b : Nat) (y ln : Int) (w : World) (hrow : w.heap[b]? = some (.cells #[.int .u64 pc, .slice ax nx cx, .int .i64 pr, .slice (some ⟨g, 0, none⟩) 22 cc, .slice ar nr cr, .int .u64 t, .int .u64 cm, .bool so, .slice ai ni ci, .slice ao no co, .int .i64 ir, .int .u64 hd, .bool hl, .bool wt] 30 (0, 0))) (hcell : w.cell? ⟨g, 9, none⟩ = some (.int .u64 y)) (hfz : w.frozen? ⟨g, 9, none⟩ = false) (hg : g < w.heap.size)
    (hN : ∀ w', Below w.heap.size w w' → Calls Try.prog 37 #[.agg #[.int .u64 t, .int .u64 cm, .bool so, .slice ai ni ci, .slice ao no co, .int .i64 ir]] w' fun e w'' => e = .returned (.int .u64 ln) ∧ Below w'.heap.size w' w'') :
    Calls Try.prog 23 #[.pointer (some ⟨b, 0, none⟩)] w fun e w' => e = .returned (.tuple #[]) ∧ ∃ w1, Below w.heap.size w w1 ∧ w' = w1.setCell ⟨g, 9, none⟩ (.int .u64 (bits .or .u64 (bits .andNot .u64 y 2184) ln)) := by
  have HN : Hid (Calls Try.prog 37 #[.agg #[.int .u64 t, .int .u64 cm, .bool so, .slice ai ni ci, .slice ao no co, .int .i64 ir]] w.drew fun e w'' => e = .returned (.int .u64 ln) ∧ Below w.drew.heap.size w.drew w'') := hN w.drew (Below.refl _ _).drew
  have HROW := dhid hrow
  have HG := dhid hg
  have HC := dhid (And.intro hcell hfz)
  obtain ⟨p0, p1, p2, p3, p4, p5, p6, p7, p8, p9, p10, p11, p12, p13⟩ := cells14 hrow
  clear hN hrow hg
  go_enter Try.func23, Try.ntmps23
  go_wp2_with fail
  go_region_with (first | (go_at_call 37; with_reducible refine HN.out.mono ?_; rintro e w1 ⟨rfl, hb1⟩; have B1 := dhid (below_trans (Below.refl w.heap.size w).drew hb1); clear hb1; obtain ⟨q0, q1, q2, q3, q4, q5, q6, q7, q8, q9, q10, q11, q12, q13⟩ := cells14 (dstays B1.out HROW.out); have hc1 := (B1.out.cell (p := ⟨g, 9, none⟩) HG.out).trans HC.out.1; have hf1 : w1.frozen? ⟨g, 9, none⟩ = false := (by have h1 := HC.out.2; have h2 := B1.out.block g HG.out; unfold World.frozen? at h1 ⊢; dsimp only at h1 ⊢; rw [h2]; exact h1)))
  all_goals go_wp2_with fail
  all_goals refine bodyPost_end (results_none rfl _ _ _) rfl ?_
  all_goals exact ⟨rfl, w1, B1.out, rfl⟩

def lineD (M : MV) : MV := ⟨M.pc, M.x, M.pr, M.cs.set 9 (bits .or .u64 (bits .andNot .u64 (M.cs.getD 9 0) 2184) (linesD M.d)), M.ram, M.d, M.hd, M.hl, M.wt⟩

theorem mvc_lineD (M : MV) (A : MA) : mvc (lineD M) A = mvc M A := by
  simp [mvc, lineD]

theorem lineD_len (M : MV) : (lineD M).cs.length = M.cs.length := by simp [lineD]

theorem MLen.lineD {M : MV} (h : MLen M) : MLen (lineD M) := ⟨h.x, by rw [lineD_len]; exact h.cs, h.ram, h.xs, h.ys⟩

theorem lineD_eq {M : MV} (h : okD M.d.xs.length M.d.ys.length M.d.ir = true) : lineD M = lineM M := by
  have : linesD M.d = linesV M.d := by unfold linesD; rw [h]; rfl
  unfold lineD lineM
  rw [this]

theorem tellLines_any (M : MV) (A : MA) (b B E : Nat) (w : World) (h22 : M.cs.length = 22) (hl : MLen M) (hrow : w.heap[b]? = some (.cells (mvc M A) 30 (0, 0))) (hf : Fam B E w (mvF M A)) (hb : ∀ q ∈ mvF M A, q.v.ownBlock ≠ some b) :
    Calls Try.prog 23 #[.pointer (some ⟨b, 0, none⟩)] w fun e w' => e = .returned (.tuple #[]) ∧ w'.heap[b]? = some (.cells (mvc (lineD M) A) 30 (0, 0)) ∧ Fam B E w' (mvF (lineD M) A) ∧ KeepL (mvF M A) w w' := by
  have hmem : wRow A.ac M.cs.length A.cc M.cs ∈ mvF M A := by simp [mvF]
  have ho := hf.own _ hmem
  have hsl := hf.msl
  obtain ⟨g, off, hac, hg, hc⟩ := hsl.cs 9 (by omega)
  have hoff : off = 0 := by
    rcases ho.2 with ⟨e, _⟩ | ⟨g', cap, cur, e, _⟩
    · have e2 : Value.slice A.ac M.cs.length A.cc = .slice none 0 0 := e
      injection e2 with e3
      rw [hac] at e3
      cases e3
    · have e2 : Value.slice A.ac M.cs.length A.cc = .slice (some ⟨g', 0, none⟩) M.cs.length cap := e
      injection e2 with e3
      rw [hac] at e3
      injection e3 with e4
      injection e4
  subst hoff
  rw [Nat.zero_add] at hc
  have hblk : (wRow A.ac M.cs.length A.cc M.cs).v.ownBlock = some g := by show (Value.slice A.ac M.cs.length A.cc).ownBlock = _; rw [hac]; rfl
  have hgb : g ≠ b := fun e => hb _ hmem (by rw [hblk, e])
  have hfz : w.frozen? ⟨g, 9, none⟩ = false := by
    rcases ho.2 with ⟨e, _⟩ | ⟨g', cap, cur, e, h1, h2, _⟩
    · have e2 : Value.slice A.ac M.cs.length A.cc = .slice none 0 0 := e
      rw [hac] at e2
      cases e2
    · have e2 : Value.slice A.ac M.cs.length A.cc = .slice (some ⟨g', 0, none⟩) M.cs.length cap := e
      rw [hac] at e2
      injection e2 with e3
      injection e3 with e4
      injection e4 with e5
      subst e5
      exact froz h2 9
  have hr2 := hrow
  unfold mvc at hr2
  rw [hac, h22] at hr2
  refine (tellLines_x _ _ _ _ _ g _ _ _ _ _ _ _ _ _ _ _ _ _ _ _ _ _ b (M.cs.getD 9 0) (linesD M.d) w hr2 hc hfz hg (fun w' hw => lines_any M.d _ _ _ _ w' hl.xs hl.ys)).mono ?_
  rintro e w' ⟨rfl, w1, hb1, rfl⟩
  have hf1 := hf.below hb1
  have ho1 := hf1.own _ hmem
  refine ⟨rfl, ?_, ?_⟩
  · rw [mvc_lineD]
    exact row_far (dstays hb1 hrow) ⟨g, 9, none⟩ _ (fun e => hgb e.symm)
  · have hgr : w1.grownBy (w1.setCell ⟨g, 9, none⟩ (.int .u64 (bits .or .u64 (bits .andNot .u64 (M.cs.getD 9 0) 2184) (linesD M.d)))) (wRow A.ac M.cs.length A.cc M.cs).v.ownBlock := by rw [hblk]; exact grown_one _ _ _ _
    have hst : (w1.setCell ⟨g, 9, none⟩ (.int .u64 (bits .or .u64 (bits .andNot .u64 (M.cs.getD 9 0) 2184) (linesD M.d)))).ownsRow B 25 1 (.slice A.ac M.cs.length A.cc) M.cs.length ((lineD M).cs.map (Value.int .u64)) := by
      have h2 : w1.ownsRow B 25 1 (.slice A.ac M.cs.length A.cc) M.cs.length (M.cs.map (Value.int .u64)) := ho1
      rw [hac] at h2 ⊢
      have h3 := (h2.stored 9 (.int .u64 (bits .or .u64 (bits .andNot .u64 (M.cs.getD 9 0) 2184) (linesD M.d)))).1
      rw [map_set_u64] at h3
      exact h3
    have hm := Fam.markL (L1 := [wRow A.ax M.x.length A.cx M.x]) (L2 := [bRow A.ar M.ram.length A.cr M.ram, bRow A.ai M.d.xs.length A.ci M.d.xs, bRow A.ao M.d.ys.length A.co M.d.ys]) (r := wRow A.ac M.cs.length A.cc M.cs) hf1 hgr _ hst
    refine ⟨?_, (KeepL.of_below hb1).trans hm.2⟩
    have hlen : (lineD M).cs.length = M.cs.length := by simp [lineD]
    unfold mvF
    rw [hlen]
    exact hm.1

theorem fam_put14X {B E : Nat} {w : World} {L : List FRow} (h : Fam B E w L) (g : Nat) (hg : ∀ q ∈ L, q.v.ownBlock ≠ some g) (x0 x1 x2 x3 x4 x5 x6 x7 x8 x9 x10 x11 x12 x13 : Value) : Fam B E (put14 w g x0 x1 x2 x3 x4 x5 x6 x7 x8 x9 x10 x11 x12 x13) L := by
  refine ⟨fun r hr => fown_of (h.own r hr) (fun k e => ?_), h.hi, h.ne⟩
  have hk : k ≠ g := fun e2 => hg r hr (by rw [← e2]; exact e)
  unfold put14
  repeat rw [Below.heap_setCell _ _ _ k hk]

theorem lineD_U {M : MV} (h : ∀ j, U (M.cs.getD j 0)) : ∀ j, U ((lineD M).cs.getD j 0) := by
  intro j
  unfold lineD
  dsimp only
  rw [List.getD_eq_getElem?_getD, List.getElem?_set]
  split
  · split
    · exact U_bits .or (bits .andNot .u64 (M.cs.getD 9 0) 2184) (linesD M.d)
    · exact ⟨by simp, by simp⟩
  · rw [← List.getD_eq_getElem?_getD]; exact h j

theorem linedM_impl (M : MV) : linedM M = if (decide (M.cs.length = 22) && machB (lineD M)) = true then lineD M else zeroM := by
  unfold linedM
  cases hok : okD M.d.xs.length M.d.ys.length M.d.ir with
  | true => rw [lineD_eq hok, Bool.and_true]
  | false =>
    have : machB (lineD M) = false := by
      unfold machB
      have h2 : okD (lineD M).d.xs.length (lineD M).d.ys.length (lineD M).d.ir = false := hok
      rw [h2]
      simp
    rw [this]
    simp

set_option maxRecDepth 100000 in
set_option maxHeartbeats 6400000 in
theorem implLined_any (M : MV) (A : MA) (w : World) (hl : MLen M) (hs : MSl w M A) (hU : ∀ j, U (M.cs.getD j 0)) :
    Calls Try.prog 12 #[.agg #[.int .u64 M.pc, .slice A.ax M.x.length A.cx, .int .i64 M.pr, .slice A.ac M.cs.length A.cc, .slice A.ar M.ram.length A.cr, .int .u64 M.d.t, .int .u64 M.d.cm, .bool M.d.so, .slice A.ai M.d.xs.length A.ci, .slice A.ao M.d.ys.length A.co, .int .i64 M.d.ir, .int .u64 M.hd, .bool M.hl, .bool M.wt]] w fun e w' => ∃ C : MA, e = .returned (.agg (mvc (linedM M) C)) ∧ Fam w.heap.size w'.heap.size w' (mvF (linedM M) C) ∧ Below w.heap.size w w' := by
  have B0 : Below w.heap.size w ((w.alloc (.cells #[.int .u64 M.pc, .slice A.ax M.x.length A.cx, .int .i64 M.pr, .slice A.ac M.cs.length A.cc, .slice A.ar M.ram.length A.cr, .int .u64 M.d.t, .int .u64 M.d.cm, .bool M.d.so, .slice A.ai M.d.xs.length A.ci, .slice A.ao M.d.ys.length A.co, .int .i64 M.d.ir, .int .u64 M.hd, .bool M.hl, .bool M.wt] 30)).alloc (.cells #[.int .u64 0, .slice none 0 0, .int .i64 0, .slice none 0 0, .slice none 0 0, .int .u64 0, .int .u64 0, .bool false, .slice none 0 0, .slice none 0 0, .int .i64 0, .int .u64 0, .bool false, .bool false] 30)) := ((Below.refl _ _).alloc (Nat.le_refl _) _).alloc (by simp) _
  obtain ⟨ra, rb⟩ := rows2 (w := w) (o1 := .cells #[.int .u64 M.pc, .slice A.ax M.x.length A.cx, .int .i64 M.pr, .slice A.ac M.cs.length A.cc, .slice A.ar M.ram.length A.cr, .int .u64 M.d.t, .int .u64 M.d.cm, .bool M.d.so, .slice A.ai M.d.xs.length A.ci, .slice A.ao M.d.ys.length A.co, .int .i64 M.d.ir, .int .u64 M.hd, .bool M.hl, .bool M.wt] 30) (o2 := .cells #[.int .u64 0, .slice none 0 0, .int .i64 0, .slice none 0 0, .slice none 0 0, .int .u64 0, .int .u64 0, .bool false, .slice none 0 0, .slice none 0 0, .int .i64 0, .int .u64 0, .bool false, .bool false] 30) (Below.refl _ _)
  obtain ⟨Q, hQ⟩ : ∃ Q : World → Prop, Q = fun W => Below (w.heap.size + 1 + 1) ((w.alloc (.cells #[.int .u64 M.pc, .slice A.ax M.x.length A.cx, .int .i64 M.pr, .slice A.ac M.cs.length A.cc, .slice A.ar M.ram.length A.cr, .int .u64 M.d.t, .int .u64 M.d.cm, .bool M.d.so, .slice A.ai M.d.xs.length A.ci, .slice A.ao M.d.ys.length A.co, .int .i64 M.d.ir, .int .u64 M.hd, .bool M.hl, .bool M.wt] 30)).alloc (.cells #[.int .u64 0, .slice none 0 0, .int .i64 0, .slice none 0 0, .slice none 0 0, .int .u64 0, .int .u64 0, .bool false, .slice none 0 0, .slice none 0 0, .int .i64 0, .int .u64 0, .bool false, .bool false] 30)) W := ⟨_, rfl⟩
  have PB : Hid (∀ W W', Q W → Below W.heap.size W W' → Q W') := by rw [hQ]; exact fun W W' h hb => h.trans (hb.mono (by have := h.size; simp only [World.size_alloc] at this; omega))
  have PU : Hid (∀ W g, Q W → w.heap.size + 1 + 1 ≤ g → ∀ x0 x1 x2 x3 x4 x5 x6 x7 x8 x9 x10 x11 x12 x13, Q (put14 W g x0 x1 x2 x3 x4 x5 x6 x7 x8 x9 x10 x11 x12 x13)) := by rw [hQ]; exact fun W g h hg => below_put14 h hg
  have PE : Hid (∀ W, Q W → Below w.heap.size w W) := by rw [hQ]; exact fun W h => B0.trans (h.mono (by omega))
  have PZ : Hid (∀ W, Q W → w.heap.size + 1 + 1 ≤ W.heap.size) := by rw [hQ]; exact fun W h => by have := h.size; simp only [World.size_alloc] at this; omega
  have PA : Hid (∀ W, Q W → W.heap[w.heap.size]? = some (.cells #[.int .u64 M.pc, .slice A.ax M.x.length A.cx, .int .i64 M.pr, .slice A.ac M.cs.length A.cc, .slice A.ar M.ram.length A.cr, .int .u64 M.d.t, .int .u64 M.d.cm, .bool M.d.so, .slice A.ai M.d.xs.length A.ci, .slice A.ao M.d.ys.length A.co, .int .i64 M.d.ir, .int .u64 M.hd, .bool M.hl, .bool M.wt] 30 (0, 0))) := by rw [hQ]; exact fun W h => (h.block _ (by omega)).trans ra
  have PR : Hid (∀ W, Q W → W.heap[w.heap.size + 1]? = some (.cells #[.int .u64 0, .slice none 0 0, .int .i64 0, .slice none 0 0, .slice none 0 0, .int .u64 0, .int .u64 0, .bool false, .slice none 0 0, .slice none 0 0, .int .i64 0, .int .u64 0, .bool false, .bool false] 30 (0, 0))) := by rw [hQ]; exact fun W h => (h.block _ (by omega)).trans rb
  have PK : Hid (∀ W W' L B E, Q W → KeepL L W W' → Fam B E W L → w.heap.size + 1 + 1 ≤ B → Q W') := by rw [hQ]; exact fun W W' L B E h k f hB => h.trans ((k.keep f).below hB (by have := h.size; simp only [World.size_alloc] at this; omega))
  have q0 : Q ((w.alloc (.cells #[.int .u64 M.pc, .slice A.ax M.x.length A.cx, .int .i64 M.pr, .slice A.ac M.cs.length A.cc, .slice A.ar M.ram.length A.cr, .int .u64 M.d.t, .int .u64 M.d.cm, .bool M.d.so, .slice A.ai M.d.xs.length A.ci, .slice A.ao M.d.ys.length A.co, .int .i64 M.d.ir, .int .u64 M.hd, .bool M.hl, .bool M.wt] 30)).alloc (.cells #[.int .u64 0, .slice none 0 0, .int .i64 0, .slice none 0 0, .slice none 0 0, .int .u64 0, .int .u64 0, .bool false, .slice none 0 0, .slice none 0 0, .int .i64 0, .int .u64 0, .bool false, .bool false] 30)) := by rw [hQ]; exact Below.refl _ _
  have KS : Hid (∀ w', Q w' → (w'.cell? ⟨w.heap.size, 0, none⟩ = some (.int .u64 M.pc) ∧ w'.cell? ⟨w.heap.size, 1, none⟩ = some (.slice A.ax M.x.length A.cx) ∧ w'.cell? ⟨w.heap.size, 2, none⟩ = some (.int .i64 M.pr) ∧ w'.cell? ⟨w.heap.size, 3, none⟩ = some (.slice A.ac M.cs.length A.cc) ∧ w'.cell? ⟨w.heap.size, 4, none⟩ = some (.slice A.ar M.ram.length A.cr) ∧ w'.cell? ⟨w.heap.size, 5, none⟩ = some (.int .u64 M.d.t) ∧ w'.cell? ⟨w.heap.size, 6, none⟩ = some (.int .u64 M.d.cm) ∧ w'.cell? ⟨w.heap.size, 7, none⟩ = some (.bool M.d.so) ∧ w'.cell? ⟨w.heap.size, 8, none⟩ = some (.slice A.ai M.d.xs.length A.ci) ∧ w'.cell? ⟨w.heap.size, 9, none⟩ = some (.slice A.ao M.d.ys.length A.co) ∧ w'.cell? ⟨w.heap.size, 10, none⟩ = some (.int .i64 M.d.ir) ∧ w'.cell? ⟨w.heap.size, 11, none⟩ = some (.int .u64 M.hd) ∧ w'.cell? ⟨w.heap.size, 12, none⟩ = some (.bool M.hl) ∧ w'.cell? ⟨w.heap.size, 13, none⟩ = some (.bool M.wt)) ∧ Q w') := fun w' h => ⟨cells14 (PA.out w' h), h⟩
  have HCL : Hid (∀ W, Q W → Calls Try.prog 22 #[.slice A.ar M.ram.length A.cr] W fun e W' => ∃ (ka : Option Addr) (kc : Nat), e = .returned (.slice ka M.ram.length kc) ∧ Fam W.heap.size W'.heap.size W' [bRow ka M.ram.length kc M.ram] ∧ Below W.heap.size W W') := fun W h => (clone_any _ _ _ M.ram W rfl hl.ram (hs.ram.below (PE.out W h))).mono fun e W' ⟨ka, kc, h1, h2, h3⟩ => ⟨ka, kc, h1, (Fam.nil W.heap.size W.heap.size W').snoc (bRow ka M.ram.length kc M.ram) _ _ h2 (Nat.le_refl _) (Nat.le_refl _) (Nat.le_refl _) h3.size, h3⟩
  have HAP : Hid (∀ (ka : Option Addr) (kc B : Nat) (W : World), Q W → Fam B W.heap.size W [bRow ka M.ram.length kc M.ram] → B ≤ W.heap.size → Calls Try.prog 32 #[.agg #[.int .u64 M.pc, .slice A.ax M.x.length A.cx, .int .i64 M.pr, .slice A.ac M.cs.length A.cc, .slice A.ar M.ram.length A.cr, .int .u64 M.d.t, .int .u64 M.d.cm, .bool M.d.so, .slice A.ai M.d.xs.length A.ci, .slice A.ao M.d.ys.length A.co, .int .i64 M.d.ir, .int .u64 M.hd, .bool M.hl, .bool M.wt], .slice ka M.ram.length kc] W fun e W' => ∃ C : MA, e = .returned (.agg #[.int .u64 M.pc, .slice C.ax M.x.length C.cx, .int .i64 M.pr, .slice C.ac M.cs.length C.cc, .slice C.ar M.ram.length C.cr, .int .u64 M.d.t, .int .u64 M.d.cm, .bool M.d.so, .slice C.ai M.d.xs.length C.ci, .slice C.ao M.d.ys.length C.co, .int .i64 M.d.ir, .int .u64 M.hd, .bool M.hl, .bool M.wt]) ∧ Fam B W'.heap.size W' (mvF M C) ∧ (∀ q ∈ mvF M C, ∀ k, q.v.ownBlock = some k → W.heap.size ≤ k ∨ (Value.slice ka M.ram.length kc).ownBlock = some k) ∧ Below W.heap.size W W') := fun ka kc B W h hf hB => (apart_any M A M.ram ka M.ram.length kc B W hl (hs.below (PE.out W h)) hf hB rfl).mono fun e W' ⟨C, _, _, h1, h2, h3, h4⟩ => ⟨C, h1, h2, h3, h4⟩
  have HLN : Hid (∀ (C : MA) (b B E : Nat) (w' : World), M.cs.length = 22 → w'.heap[b]? = some (.cells #[.int .u64 M.pc, .slice C.ax M.x.length C.cx, .int .i64 M.pr, .slice C.ac M.cs.length C.cc, .slice C.ar M.ram.length C.cr, .int .u64 M.d.t, .int .u64 M.d.cm, .bool M.d.so, .slice C.ai M.d.xs.length C.ci, .slice C.ao M.d.ys.length C.co, .int .i64 M.d.ir, .int .u64 M.hd, .bool M.hl, .bool M.wt] 30 (0, 0)) → Fam B E w' (mvF M C) → (∀ q ∈ mvF M C, q.v.ownBlock ≠ some b) → Calls Try.prog 23 #[.pointer (some ⟨b, 0, none⟩)] w' fun e w'' => e = .returned (.tuple #[]) ∧ w''.heap[b]? = some (.cells #[.int .u64 M.pc, .slice C.ax M.x.length C.cx, .int .i64 M.pr, .slice C.ac M.cs.length C.cc, .slice C.ar M.ram.length C.cr, .int .u64 M.d.t, .int .u64 M.d.cm, .bool M.d.so, .slice C.ai M.d.xs.length C.ci, .slice C.ao M.d.ys.length C.co, .int .i64 M.d.ir, .int .u64 M.hd, .bool M.hl, .bool M.wt] 30 (0, 0)) ∧ Fam B E w'' (mvF (lineD M) C) ∧ KeepL (mvF M C) w' w'') := fun C b B E w' h22 hr hf hb => by
    have h2 := tellLines_any M C b B E w' h22 hl hr hf hb
    rw [mvc_lineD] at h2
    exact h2
  have HK : Hid (∀ (C : MA) (w' : World), MSl w' (lineD M) C → Calls Try.prog 13 #[.agg #[.int .u64 M.pc, .slice C.ax M.x.length C.cx, .int .i64 M.pr, .slice C.ac M.cs.length C.cc, .slice C.ar M.ram.length C.cr, .int .u64 M.d.t, .int .u64 M.d.cm, .bool M.d.so, .slice C.ai M.d.xs.length C.ci, .slice C.ao M.d.ys.length C.co, .int .i64 M.d.ir, .int .u64 M.hd, .bool M.hl, .bool M.wt]] w' fun e w'' => e = .returned (.bool (machB (lineD M))) ∧ Below w'.heap.size w' w'') := fun C w' h => by
    have h2 := implMachineOk_any (lineD M) C w' hl.lineD h (lineD_U hU)
    rw [lineD_len] at h2
    exact h2
  obtain ⟨V, hV⟩ : ∃ V, V = linedM M := ⟨_, rfl⟩
  rw [← hV]
  have HMV : Hid (∀ C : MA, mvc (lineD M) C = #[.int .u64 M.pc, .slice C.ax M.x.length C.cx, .int .i64 M.pr, .slice C.ac M.cs.length C.cc, .slice C.ar M.ram.length C.cr, .int .u64 M.d.t, .int .u64 M.d.cm, .bool M.d.so, .slice C.ai M.d.xs.length C.ci, .slice C.ao M.d.ys.length C.co, .int .i64 M.d.ir, .int .u64 M.hd, .bool M.hl, .bool M.wt]) := fun C => (mvc_lineD M C).trans rfl
  clear hQ ra rb hl hs hU
  by_cases h22 : M.cs.length = 22
  · have F0 : Hid (V = if machB (lineD M) = true then lineD M else zeroM) := by show _ = _; rw [hV, linedM_impl, decide_eq_true h22]; rfl
    have HLN2 := dhid (fun C b B E w' => HLN.out C b B E w' h22)
    clear HLN hV
    generalize M.cs.length = nc at *
    subst h22
    go_enter Try.func12, Try.ntmps12
    obtain ⟨-, -, -, a3, -, -, -, -, -, -, -, -, -, -⟩ := cells14 (PA.out _ q0)
    go_wp2_with fail
    go_cut [3] from 4 (fun y wc => ∃ (r : Nat) (C : MA), y = .pointer (some ⟨r, 0, none⟩) ∧ Hid (wc.heap[r]? = some (.cells #[.int .u64 M.pc, .slice C.ax M.x.length C.cx, .int .i64 M.pr, .slice C.ac 22 C.cc, .slice C.ar M.ram.length C.cr, .int .u64 M.d.t, .int .u64 M.d.cm, .bool M.d.so, .slice C.ai M.d.xs.length C.ci, .slice C.ao M.d.ys.length C.co, .int .i64 M.d.ir, .int .u64 M.hd, .bool M.hl, .bool M.wt] 30 (0, 0)) ∧ Fam (w.heap.size + 1 + 1) wc.heap.size wc (mvF M C) ∧ (∀ q ∈ mvF M C, q.v.ownBlock ≠ some r) ∧ w.heap.size + 1 + 1 ≤ r ∧ Q wc))
    case first =>
      obtain ⟨w3, hw3⟩ : ∃ W, W = ((w.alloc (.cells #[.int .u64 M.pc, .slice A.ax M.x.length A.cx, .int .i64 M.pr, .slice A.ac 22 A.cc, .slice A.ar M.ram.length A.cr, .int .u64 M.d.t, .int .u64 M.d.cm, .bool M.d.so, .slice A.ai M.d.xs.length A.ci, .slice A.ao M.d.ys.length A.co, .int .i64 M.d.ir, .int .u64 M.hd, .bool M.hl, .bool M.wt] 30)).alloc (.cells #[.int .u64 0, .slice none 0 0, .int .i64 0, .slice none 0 0, .slice none 0 0, .int .u64 0, .int .u64 0, .bool false, .slice none 0 0, .slice none 0 0, .int .i64 0, .int .u64 0, .bool false, .bool false] 30)).drew := ⟨_, rfl⟩
      have p0 := PB.out _ _ q0 (Below.refl _ _).drew
      rw [← hw3] at p0
      have hz3 := PZ.out _ p0
      refine wp_region_held_drew (S := (fun w' => (w'.cell? ⟨w.heap.size, 0, none⟩ = some (.int .u64 M.pc) ∧ w'.cell? ⟨w.heap.size, 1, none⟩ = some (.slice A.ax M.x.length A.cx) ∧ w'.cell? ⟨w.heap.size, 2, none⟩ = some (.int .i64 M.pr) ∧ w'.cell? ⟨w.heap.size, 3, none⟩ = some (.slice A.ac 22 A.cc) ∧ w'.cell? ⟨w.heap.size, 4, none⟩ = some (.slice A.ar M.ram.length A.cr) ∧ w'.cell? ⟨w.heap.size, 5, none⟩ = some (.int .u64 M.d.t) ∧ w'.cell? ⟨w.heap.size, 6, none⟩ = some (.int .u64 M.d.cm) ∧ w'.cell? ⟨w.heap.size, 7, none⟩ = some (.bool M.d.so) ∧ w'.cell? ⟨w.heap.size, 8, none⟩ = some (.slice A.ai M.d.xs.length A.ci) ∧ w'.cell? ⟨w.heap.size, 9, none⟩ = some (.slice A.ao M.d.ys.length A.co) ∧ w'.cell? ⟨w.heap.size, 10, none⟩ = some (.int .i64 M.d.ir) ∧ w'.cell? ⟨w.heap.size, 11, none⟩ = some (.int .u64 M.hd) ∧ w'.cell? ⟨w.heap.size, 12, none⟩ = some (.bool M.hl) ∧ w'.cell? ⟨w.heap.size, 13, none⟩ = some (.bool M.wt)) ∧ Q w')) (by kernel_rfl) (KS.out _ (by rw [← hw3]; exact p0)) (fun hHeld => ?_)
      rw [← hw3] at hHeld ⊢
      clear hw3
      refine tkL 0 9 (.agg #[.int .u64 M.pc, .slice A.ax M.x.length A.cx, .int .i64 M.pr, .slice A.ac 22 A.cc, .slice A.ar M.ram.length A.cr, .int .u64 M.d.t, .int .u64 M.d.cm, .bool M.d.so, .slice A.ai M.d.xs.length A.ci, .slice A.ao M.d.ys.length A.co, .int .i64 M.d.ir, .int .u64 M.hd, .bool M.hl, .bool M.wt]) ?_
      refine tkL 1 10 (.pointer (some ⟨w.heap.size, 4, none⟩)) ?_
      refine tkL 2 11 (.slice A.ar M.ram.length A.cr) ?_
      refine wpAnyH_ready (rs := [3, 5]) (by kernel_rfl) (by simp) ?_
      refine AllReadyH.cons (o := { dst := some 12, op := _, type := _, pos := _, after := _, guard := _ }) rfl (fun K hK => ?_) (AllReadyH.cons (o := { dst := some 3, op := _, type := _, pos := _, after := _, guard := _ }) rfl (fun K hK => ?_) AllReadyH.nil)
      · go_simp
        refine (HCL.out _ p0).mono ?_
        rintro e w1 ⟨ka, kc, rfl, fr, hb1⟩
        have q1 := PB.out _ _ p0 hb1
        refine hK.out _ _ (KS.out _ q1) (fun hHeld => ?_)
        clear hK
        refine wpAnyH_ready (rs := [4, 5]) (by kernel_rfl) (by simp) ?_
        refine AllReadyH.cons (o := { dst := some 13, op := _, type := _, pos := _, after := _, guard := _ }) rfl (fun K hK => ?_) (AllReadyH.cons (o := { dst := some 3, op := _, type := _, pos := _, after := _, guard := _ }) rfl (fun K hK => ?_) AllReadyH.nil)
        · go_simp
          refine (HAP.out _ _ _ _ q1 fr hb1.size).mono ?_
          rintro e w2 ⟨C, rfl, fc, nc, hb2⟩
          have q2 := PB.out _ _ q1 hb2
          refine hK.out _ _ (KS.out _ q2) (fun hHeld => ?_)
          clear hK
          refine rdy 5 3 (fun K hK => ?_)
          go_simp
          obtain ⟨wa, hwa⟩ : ∃ W, W = w2.alloc (.cells #[.int .u64 0, .slice none 0 0, .int .i64 0, .slice none 0 0, .slice none 0 0, .int .u64 0, .int .u64 0, .bool false, .slice none 0 0, .slice none 0 0, .int .i64 0, .int .u64 0, .bool false, .bool false] 30) := ⟨_, rfl⟩
          rw [← hwa]
          have hba : Below w2.heap.size w2 wa := by rw [hwa]; exact (Below.refl _ _).alloc (Nat.le_refl _) _
          have hra : wa.heap[w2.heap.size]? = some (.cells #[.int .u64 0, .slice none 0 0, .int .i64 0, .slice none 0 0, .slice none 0 0, .int .u64 0, .int .u64 0, .bool false, .slice none 0 0, .slice none 0 0, .int .i64 0, .int .u64 0, .bool false, .bool false] 30) := by rw [hwa]; exact heap_alloc_new _ _
          have hza : wa.heap.size = w2.heap.size + 1 := by rw [hwa]; exact World.size_alloc _ _
          clear hwa
          have qa := PB.out _ _ q2 hba
          refine hK.out _ _ (KS.out _ qa) (fun hHeld => ?_)
          clear hK
          have hrow := hra
          obtain ⟨g0, g1, g2, g3, g4, g5, g6, g7, g8, g9, g10, g11, g12, g13⟩ := cells14 hrow
          obtain ⟨z0, z1, z2, z3, z4, z5, z6, z7, z8, z9, z10, z11, z12, z13⟩ := froz14 hrow
          have hbd : w.heap.size + 1 + 1 ≤ w2.heap.size := PZ.out _ q2
          have hnw1 : ¬ w2.heap.size = w.heap.size := by omega
          have hnw2 : ¬ w.heap.size = w2.heap.size := by omega
          have hqe := PU.out _ w2.heap.size qa hbd (.int .u64 M.pc) (.slice C.ax M.x.length C.cx) (.int .i64 M.pr) (.slice C.ac 22 C.cc) (.slice C.ar M.ram.length C.cr) (.int .u64 M.d.t) (.int .u64 M.d.cm) (.bool M.d.so) (.slice C.ai M.d.xs.length C.ci) (.slice C.ao M.d.ys.length C.co) (.int .i64 M.d.ir) (.int .u64 M.hd) (.bool M.hl) (.bool M.wt)
          refine wpAnyH_ready (rs := [6]) (by kernel_rfl) (by simp) ?_
          refine AllReadyH.cons (o := { dst := none, op := _, type := _, pos := _, after := _, guard := _ }) rfl (fun K hK => ?_) AllReadyH.nil
          go_simp
          refine hK.out _ _ (KS.out _ hqe) (fun hHeld => ?_)
          clear hK
          refine wpAnyH_done (by kernel_rfl) ?_ _
          go_wp2_with fail
          go_meet
          exact ⟨w2.heap.size, C, rfl, row_put14 hrow (.int .u64 M.pc) (.slice C.ax M.x.length C.cx) (.int .i64 M.pr) (.slice C.ac 22 C.cc) (.slice C.ar M.ram.length C.cr) (.int .u64 M.d.t) (.int .u64 M.d.cm) (.bool M.d.so) (.slice C.ai M.d.xs.length C.ci) (.slice C.ao M.d.ys.length C.co) (.int .i64 M.d.ir) (.int .u64 M.hd) (.bool M.hl) (.bool M.wt), (fam_put14X (fc.below hba) w2.heap.size (fun q hq e => by have := fc.hi q hq _ e; omega) (.int .u64 M.pc) (.slice C.ax M.x.length C.cx) (.int .i64 M.pr) (.slice C.ac 22 C.cc) (.slice C.ar M.ram.length C.cr) (.int .u64 M.d.t) (.int .u64 M.d.cm) (.bool M.d.so) (.slice C.ai M.d.xs.length C.ci) (.slice C.ao M.d.ys.length C.co) (.int .i64 M.d.ir) (.int .u64 M.hd) (.bool M.hl) (.bool M.wt)).low (by omega) (by simp only [size_set]; omega), (fun q hq e => by have := fc.hi q hq _ e; omega), hbd, hqe⟩
        · go_simp
          obtain ⟨wa, hwa⟩ : ∃ W, W = w1.alloc (.cells #[.int .u64 0, .slice none 0 0, .int .i64 0, .slice none 0 0, .slice none 0 0, .int .u64 0, .int .u64 0, .bool false, .slice none 0 0, .slice none 0 0, .int .i64 0, .int .u64 0, .bool false, .bool false] 30) := ⟨_, rfl⟩
          rw [← hwa]
          have hba : Below w1.heap.size w1 wa := by rw [hwa]; exact (Below.refl _ _).alloc (Nat.le_refl _) _
          have hra : wa.heap[w1.heap.size]? = some (.cells #[.int .u64 0, .slice none 0 0, .int .i64 0, .slice none 0 0, .slice none 0 0, .int .u64 0, .int .u64 0, .bool false, .slice none 0 0, .slice none 0 0, .int .i64 0, .int .u64 0, .bool false, .bool false] 30) := by rw [hwa]; exact heap_alloc_new _ _
          have hza : wa.heap.size = w1.heap.size + 1 := by rw [hwa]; exact World.size_alloc _ _
          clear hwa
          have qa := PB.out _ _ q1 hba
          refine hK.out _ _ (KS.out _ qa) (fun hHeld => ?_)
          clear hK
          refine rdy 4 13 (fun K hK => ?_)
          go_simp
          refine (HAP.out _ _ _ _ qa ((fr.below hba).low (Nat.le_refl _) hba.size) (by have := hb1.size; omega)).mono ?_
          rintro e w2 ⟨C, rfl, fc, nc, hb2⟩
          have q2 := PB.out _ _ qa hb2
          refine hK.out _ _ (KS.out _ q2) (fun hHeld => ?_)
          clear hK
          have hrow := dstays hb2 hra
          obtain ⟨g0, g1, g2, g3, g4, g5, g6, g7, g8, g9, g10, g11, g12, g13⟩ := cells14 hrow
          obtain ⟨z0, z1, z2, z3, z4, z5, z6, z7, z8, z9, z10, z11, z12, z13⟩ := froz14 hrow
          have hbd : w.heap.size + 1 + 1 ≤ w1.heap.size := PZ.out _ q1
          have hnw1 : ¬ w1.heap.size = w.heap.size := by omega
          have hnw2 : ¬ w.heap.size = w1.heap.size := by omega
          have hqe := PU.out _ w1.heap.size q2 hbd (.int .u64 M.pc) (.slice C.ax M.x.length C.cx) (.int .i64 M.pr) (.slice C.ac 22 C.cc) (.slice C.ar M.ram.length C.cr) (.int .u64 M.d.t) (.int .u64 M.d.cm) (.bool M.d.so) (.slice C.ai M.d.xs.length C.ci) (.slice C.ao M.d.ys.length C.co) (.int .i64 M.d.ir) (.int .u64 M.hd) (.bool M.hl) (.bool M.wt)
          refine wpAnyH_ready (rs := [6]) (by kernel_rfl) (by simp) ?_
          refine AllReadyH.cons (o := { dst := none, op := _, type := _, pos := _, after := _, guard := _ }) rfl (fun K hK => ?_) AllReadyH.nil
          go_simp
          refine hK.out _ _ (KS.out _ hqe) (fun hHeld => ?_)
          clear hK
          refine wpAnyH_done (by kernel_rfl) ?_ _
          go_wp2_with fail
          go_meet
          exact ⟨w1.heap.size, C, rfl, row_put14 hrow (.int .u64 M.pc) (.slice C.ax M.x.length C.cx) (.int .i64 M.pr) (.slice C.ac 22 C.cc) (.slice C.ar M.ram.length C.cr) (.int .u64 M.d.t) (.int .u64 M.d.cm) (.bool M.d.so) (.slice C.ai M.d.xs.length C.ci) (.slice C.ao M.d.ys.length C.co) (.int .i64 M.d.ir) (.int .u64 M.hd) (.bool M.hl) (.bool M.wt), (fam_put14X fc w1.heap.size (fun q hq e => (nc q hq _ e).elim (fun h => by omega) (fun h => by have := fr.hi _ (List.mem_singleton.2 rfl) _ h; omega)) (.int .u64 M.pc) (.slice C.ax M.x.length C.cx) (.int .i64 M.pr) (.slice C.ac 22 C.cc) (.slice C.ar M.ram.length C.cr) (.int .u64 M.d.t) (.int .u64 M.d.cm) (.bool M.d.so) (.slice C.ai M.d.xs.length C.ci) (.slice C.ao M.d.ys.length C.co) (.int .i64 M.d.ir) (.int .u64 M.hd) (.bool M.hl) (.bool M.wt)).low (by omega) (by simp only [size_set]; omega), (fun q hq e => (nc q hq _ e).elim (fun h => by omega) (fun h => by have := fr.hi _ (List.mem_singleton.2 rfl) _ h; omega)), hbd, hqe⟩
      · go_simp
        obtain ⟨wa, hwa⟩ : ∃ W, W = w3.alloc (.cells #[.int .u64 0, .slice none 0 0, .int .i64 0, .slice none 0 0, .slice none 0 0, .int .u64 0, .int .u64 0, .bool false, .slice none 0 0, .slice none 0 0, .int .i64 0, .int .u64 0, .bool false, .bool false] 30) := ⟨_, rfl⟩
        rw [← hwa]
        have hba : Below w3.heap.size w3 wa := by rw [hwa]; exact (Below.refl _ _).alloc (Nat.le_refl _) _
        have hra : wa.heap[w3.heap.size]? = some (.cells #[.int .u64 0, .slice none 0 0, .int .i64 0, .slice none 0 0, .slice none 0 0, .int .u64 0, .int .u64 0, .bool false, .slice none 0 0, .slice none 0 0, .int .i64 0, .int .u64 0, .bool false, .bool false] 30) := by rw [hwa]; exact heap_alloc_new _ _
        have hza : wa.heap.size = w3.heap.size + 1 := by rw [hwa]; exact World.size_alloc _ _
        clear hwa
        have qa := PB.out _ _ p0 hba
        refine hK.out _ _ (KS.out _ qa) (fun hHeld => ?_)
        clear hK
        refine rdy 3 12 (fun K hK => ?_)
        go_simp
        refine (HCL.out _ qa).mono ?_
        rintro e w1 ⟨ka, kc, rfl, fr, hb1⟩
        have q1 := PB.out _ _ qa hb1
        refine hK.out _ _ (KS.out _ q1) (fun hHeld => ?_)
        clear hK
        refine rdy 4 13 (fun K hK => ?_)
        go_simp
        refine (HAP.out _ _ _ _ q1 fr hb1.size).mono ?_
        rintro e w2 ⟨C, rfl, fc, nc, hb2⟩
        have q2 := PB.out _ _ q1 hb2
        refine hK.out _ _ (KS.out _ q2) (fun hHeld => ?_)
        clear hK
        have hrow := dstays hb2 (dstays hb1 hra)
        obtain ⟨g0, g1, g2, g3, g4, g5, g6, g7, g8, g9, g10, g11, g12, g13⟩ := cells14 hrow
        obtain ⟨z0, z1, z2, z3, z4, z5, z6, z7, z8, z9, z10, z11, z12, z13⟩ := froz14 hrow
        have hbd : w.heap.size + 1 + 1 ≤ w3.heap.size := PZ.out _ p0
        have hnw1 : ¬ w3.heap.size = w.heap.size := by omega
        have hnw2 : ¬ w.heap.size = w3.heap.size := by omega
        have hqe := PU.out _ w3.heap.size q2 hbd (.int .u64 M.pc) (.slice C.ax M.x.length C.cx) (.int .i64 M.pr) (.slice C.ac 22 C.cc) (.slice C.ar M.ram.length C.cr) (.int .u64 M.d.t) (.int .u64 M.d.cm) (.bool M.d.so) (.slice C.ai M.d.xs.length C.ci) (.slice C.ao M.d.ys.length C.co) (.int .i64 M.d.ir) (.int .u64 M.hd) (.bool M.hl) (.bool M.wt)
        refine wpAnyH_ready (rs := [6]) (by kernel_rfl) (by simp) ?_
        refine AllReadyH.cons (o := { dst := none, op := _, type := _, pos := _, after := _, guard := _ }) rfl (fun K hK => ?_) AllReadyH.nil
        go_simp
        refine hK.out _ _ (KS.out _ hqe) (fun hHeld => ?_)
        clear hK
        refine wpAnyH_done (by kernel_rfl) ?_ _
        go_wp2_with fail
        go_meet
        exact ⟨w3.heap.size, C, rfl, row_put14 hrow (.int .u64 M.pc) (.slice C.ax M.x.length C.cx) (.int .i64 M.pr) (.slice C.ac 22 C.cc) (.slice C.ar M.ram.length C.cr) (.int .u64 M.d.t) (.int .u64 M.d.cm) (.bool M.d.so) (.slice C.ai M.d.xs.length C.ci) (.slice C.ao M.d.ys.length C.co) (.int .i64 M.d.ir) (.int .u64 M.hd) (.bool M.hl) (.bool M.wt), (fam_put14X fc w3.heap.size (fun q hq e => by have := ((fc.own q hq).lt _ e).1; omega) (.int .u64 M.pc) (.slice C.ax M.x.length C.cx) (.int .i64 M.pr) (.slice C.ac 22 C.cc) (.slice C.ar M.ram.length C.cr) (.int .u64 M.d.t) (.int .u64 M.d.cm) (.bool M.d.so) (.slice C.ai M.d.xs.length C.ci) (.slice C.ao M.d.ys.length C.co) (.int .i64 M.d.ir) (.int .u64 M.hd) (.bool M.hl) (.bool M.wt)).low (by omega) (by simp only [size_set]; omega), (fun q hq e => by have := ((fc.own q hq).lt _ e).1; omega), hbd, hqe⟩
    case rest =>
      obtain ⟨r, C, rfl, LI⟩ := hcut
      obtain ⟨row, fam, ne, hr, qc⟩ := LI.out
      clear LI a3
      go_wp2_with fail
      refine (HLN2.out C r _ _ _ row fam ne).mono ?_
      rintro e w3 ⟨rfl, row3, fm3, kp3⟩
      have q3 : Q w3 := PK.out _ _ _ _ _ qc kp3 fam (Nat.le_refl _)
      have kz3 := dhid kp3
      clear kp3
      obtain ⟨a0, a1, a2, a3, a4, a5, a6, a7, a8, a9, a10, a11, a12, a13⟩ := cells14 row3
      go_wp2_with fail
      refine (HK.out C _ fm3.msl).mono ?_
      rintro e w4 ⟨rfl, hb4⟩
      have R4 := dhid (dstays hb4 row3)
      have FM4 := dhid (fm3.below hb4)
      have q4 := PB.out _ _ q3 hb4
      have Z4 := dhid (Nat.le_trans (KeepL.size kz3.out) hb4.size)
      have nd1 : ¬ r = w.heap.size + 1 := by omega
      have nd2 : ¬ w.heap.size + 1 = r := by omega
      clear a0 a1 a2 a3 a4 a5 a6 a7 a8 a9 a10 a11 a12 a13
      obtain ⟨a0, a1, a2, a3, a4, a5, a6, a7, a8, a9, a10, a11, a12, a13⟩ := cells14 R4.out
      obtain ⟨s0, s1, s2, s3, s4, s5, s6, s7, s8, s9, s10, s11, s12, s13⟩ := cells14 (PR.out _ q4)
      obtain ⟨y0, y1, y2, y3, y4, y5, y6, y7, y8, y9, y10, y11, y12, y13⟩ := froz14 (PR.out _ q4)
      clear hb4 row row3 fam fm3 ne
      cases hmk : machB (lineD M) with
      | false =>
        have F : Hid (V = zeroM) := by show _ = _; rw [F0.out, hmk]; rfl
        clear F0
        go_wp2_with fail
        exact bodyPost_ret (results_cell_row Try.results12 _ _ _ _ _ _ _ rfl (row_put14 (PR.out _ q4) (.int .u64 0) (.slice none 0 0) (.int .i64 0) (.slice none 0 0) (.slice none 0 0) (.int .u64 0) (.int .u64 0) (.bool false) (.slice none 0 0) (.slice none 0 0) (.int .i64 0) (.int .u64 0) (.bool false) (.bool false)) Try.underlying30 rfl mac_size) rfl ⟨zeroA, by rw [F.out]; rfl, by rw [F.out]; exact fam_zeroM _ _ _, below_put14 (PE.out _ q4) (by omega) (.int .u64 0) (.slice none 0 0) (.int .i64 0) (.slice none 0 0) (.slice none 0 0) (.int .u64 0) (.int .u64 0) (.bool false) (.slice none 0 0) (.slice none 0 0) (.int .i64 0) (.int .u64 0) (.bool false) (.bool false)⟩
      | true =>
        have F : Hid (V = lineD M) := by show _ = _; rw [F0.out, hmk]; rfl
        clear F0
        go_wp2_with fail
        exact bodyPost_ret (results_cell_row Try.results12 _ _ _ _ _ _ _ rfl (row_put14 (PR.out _ q4) (.int .u64 M.pc) (.slice C.ax M.x.length C.cx) (.int .i64 M.pr) (.slice C.ac 22 C.cc) (.slice C.ar M.ram.length C.cr) (.int .u64 M.d.t) (.int .u64 M.d.cm) (.bool M.d.so) (.slice C.ai M.d.xs.length C.ci) (.slice C.ao M.d.ys.length C.co) (.int .i64 M.d.ir) (.int .u64 M.hd) (.bool M.hl) (.bool M.wt)) Try.underlying30 rfl mac_size) rfl ⟨C, by rw [F.out, HMV.out], by rw [F.out]; exact (FM4.out.put14 (w.heap.size + 1) (.inl (by omega)) (.int .u64 M.pc) (.slice C.ax M.x.length C.cx) (.int .i64 M.pr) (.slice C.ac 22 C.cc) (.slice C.ar M.ram.length C.cr) (.int .u64 M.d.t) (.int .u64 M.d.cm) (.bool M.d.so) (.slice C.ai M.d.xs.length C.ci) (.slice C.ao M.d.ys.length C.co) (.int .i64 M.d.ir) (.int .u64 M.hd) (.bool M.hl) (.bool M.wt)).low (by omega) (by have := Z4.out; simp only [size_set]; omega), below_put14 (PE.out _ q4) (by omega) (.int .u64 M.pc) (.slice C.ax M.x.length C.cx) (.int .i64 M.pr) (.slice C.ac 22 C.cc) (.slice C.ar M.ram.length C.cr) (.int .u64 M.d.t) (.int .u64 M.d.cm) (.bool M.d.so) (.slice C.ai M.d.xs.length C.ci) (.slice C.ao M.d.ys.length C.co) (.int .i64 M.d.ir) (.int .u64 M.hd) (.bool M.hl) (.bool M.wt)⟩
  · have F : Hid (V = zeroM) := by show _ = _; rw [hV, linedM_impl, decide_eq_false h22]; rfl
    clear HCL HAP HLN HK hV HMV
    have d22 : ¬ (((M.cs.length : Nat) : Int) = 22) := by omega
    generalize M.cs.length = nc at *
    go_enter Try.func12, Try.ntmps12
    obtain ⟨-, -, -, a3, -, -, -, -, -, -, -, -, -, -⟩ := cells14 (PA.out _ q0)
    go_wp2_with fail
    exact bodyPost_ret (results_cell_row Try.results12 _ _ _ _ _ _ _ rfl (PR.out _ q0) Try.underlying30 rfl mac_size) rfl ⟨zeroA, by rw [F.out]; rfl, by rw [F.out]; exact fam_zeroM _ _ _, PE.out _ q0⟩

theorem linedM_len {M : MV} (hl : MLen M) : MLen (linedM M) := by
  unfold linedM
  split
  · exact hl.line
  · exact ⟨by simp [zeroM], by simp [zeroM], by simp [zeroM], by simp [zeroM, zeroD], by simp [zeroM, zeroD]⟩

end Go.Proofs.Ytcdjfiljlahaeaa
