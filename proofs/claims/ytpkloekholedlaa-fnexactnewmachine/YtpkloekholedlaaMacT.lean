/- The model's Lined. By tools/genMacT.py. -/
import Derived.Test.YtpkloekholedlaaMacS
import Derived.Test.YtpkloekholedlaaMacL
import Derived.Test.YtpkloekholedlaaMacN
namespace Go.Proofs.Ytpkloekholedlaa
open Go.RowKit
set_option linter.unusedVariables false

theorem lineM_len (M : MV) : (lineM M).cs.length = M.cs.length := by simp [lineM]

theorem MLen.line {M : MV} (h : MLen M) : MLen (lineM M) := ⟨h.x, by rw [lineM_len]; exact h.cs, h.ram, h.xs, h.ys⟩

/-- What Lined answers. -/
def linedM (M : MV) : MV := if (decide (M.cs.length = 22) && okD M.d.xs.length M.d.ys.length M.d.ir && machB (lineM M)) = true then lineM M else zeroM

theorem fam_zeroM (B E : Nat) (w : World) : Fam B E w (mvF zeroM zeroA) := by
  refine ⟨fun r hr => ?_, fun r hr k e => ?_, ?_⟩
  · simp only [mvF, List.mem_cons, List.not_mem_nil, or_false] at hr
    rcases hr with rfl | rfl | rfl | rfl | rfl <;> exact ⟨rfl, .inl ⟨rfl, rfl⟩⟩
  · simp only [mvF, List.mem_cons, List.not_mem_nil, or_false] at hr
    rcases hr with rfl | rfl | rfl | rfl | rfl <;> cases e
  · simp only [mvF, List.pairwise_cons, List.mem_cons, List.not_mem_nil, or_false]
    refine ⟨fun s _ k e => ?_, fun s _ k e => ?_, fun s _ k e => ?_, fun s _ k e => ?_, fun s h => h.elim, List.Pairwise.nil⟩ <;> cases e

set_option maxRecDepth 100000 in
set_option maxHeartbeats 6400000 in
theorem specLined_any (M : MV) (A : MA) (w : World) (hl : MLen M) (hs : MSl w M A) :
    Calls Try.prog 16 #[.agg #[.int .u64 M.pc, .slice A.ax M.x.length A.cx, .int .i64 M.pr, .slice A.ac M.cs.length A.cc, .slice A.ar M.ram.length A.cr, .int .u64 M.d.t, .int .u64 M.d.cm, .bool M.d.so, .slice A.ai M.d.xs.length A.ci, .slice A.ao M.d.ys.length A.co, .int .i64 M.d.ir, .int .u64 M.hd, .bool M.hl, .bool M.wt]] w fun e w' => ∃ C : MA, e = .returned (.agg (mvc (linedM M) C)) ∧ Fam w.heap.size w'.heap.size w' (mvF (linedM M) C) ∧ Below w.heap.size w w' := by
  have HD : Hid (∀ w', Below w.heap.size w w' → Calls Try.prog 44 #[.agg #[.int .u64 M.d.t, .int .u64 M.d.cm, .bool M.d.so, .slice A.ai M.d.xs.length A.ci, .slice A.ao M.d.ys.length A.co, .int .i64 M.d.ir]] w' fun e w'' => e = .returned (.bool (okD M.d.xs.length M.d.ys.length M.d.ir)) ∧ Below w'.heap.size w' w'') := fun w' hb => specDevOk_any _ _ _ _ _ _ _ _ _ _ w' hl.xs hl.ys
  have HC : Hid (∀ w', Below w.heap.size w w' → Calls Try.prog 45 #[.agg #[.int .u64 M.pc, .slice A.ax M.x.length A.cx, .int .i64 M.pr, .slice A.ac M.cs.length A.cc, .slice A.ar M.ram.length A.cr, .int .u64 M.d.t, .int .u64 M.d.cm, .bool M.d.so, .slice A.ai M.d.xs.length A.ci, .slice A.ao M.d.ys.length A.co, .int .i64 M.d.ir, .int .u64 M.hd, .bool M.hl, .bool M.wt]] w' fun e w'' => ∃ C : MA, e = .returned (.agg #[.int .u64 M.pc, .slice C.ax M.x.length C.cx, .int .i64 M.pr, .slice C.ac M.cs.length C.cc, .slice C.ar M.ram.length C.cr, .int .u64 M.d.t, .int .u64 M.d.cm, .bool M.d.so, .slice C.ai M.d.xs.length C.ci, .slice C.ao M.d.ys.length C.co, .int .i64 M.d.ir, .int .u64 M.hd, .bool M.hl, .bool M.wt]) ∧ Fam w'.heap.size w''.heap.size w'' (mvF M C) ∧ Below w'.heap.size w' w'') := fun w' hb => l9Copy_any M A w' hl (hs.below hb)
  have HK : Hid (∀ (C : MA) (w' : World), MSl w' (lineM M) C → Calls Try.prog 18 #[.agg #[.int .u64 M.pc, .slice C.ax M.x.length C.cx, .int .i64 M.pr, .slice C.ac M.cs.length C.cc, .slice C.ar M.ram.length C.cr, .int .u64 M.d.t, .int .u64 M.d.cm, .bool M.d.so, .slice C.ai M.d.xs.length C.ci, .slice C.ao M.d.ys.length C.co, .int .i64 M.d.ir, .int .u64 M.hd, .bool M.hl, .bool M.wt]] w' fun e w'' => e = .returned (.bool (machB (lineM M))) ∧ Below w'.heap.size w' w'') := fun C w' h => by
    have h2 := specMachineOk_any (lineM M) C w' hl.line h
    rw [lineM_len] at h2
    exact h2
  have HLN : Hid (∀ (C : MA) (b B E : Nat) (w' : World), M.cs.length = 22 → w'.heap[b]? = some (.cells #[.int .u64 M.pc, .slice C.ax M.x.length C.cx, .int .i64 M.pr, .slice C.ac M.cs.length C.cc, .slice C.ar M.ram.length C.cr, .int .u64 M.d.t, .int .u64 M.d.cm, .bool M.d.so, .slice C.ai M.d.xs.length C.ci, .slice C.ao M.d.ys.length C.co, .int .i64 M.d.ir, .int .u64 M.hd, .bool M.hl, .bool M.wt] 30 (0, 0)) → Fam B E w' (mvF M C) → (∀ q ∈ mvF M C, q.v.ownBlock ≠ some b) → Calls Try.prog 32 #[.pointer (some ⟨b, 0, none⟩)] w' fun e w'' => e = .returned (.tuple #[]) ∧ w''.heap[b]? = some (.cells #[.int .u64 M.pc, .slice C.ax M.x.length C.cx, .int .i64 M.pr, .slice C.ac M.cs.length C.cc, .slice C.ar M.ram.length C.cr, .int .u64 M.d.t, .int .u64 M.d.cm, .bool M.d.so, .slice C.ai M.d.xs.length C.ci, .slice C.ao M.d.ys.length C.co, .int .i64 M.d.ir, .int .u64 M.hd, .bool M.hl, .bool M.wt] 30 (0, 0)) ∧ Fam B E w'' (mvF (lineM M) C) ∧ KeepL (mvF M C) w' w'') := fun C b B E w' h22 hr hf hb => by
    have h2 := l9Line_any M C b B E w' h22 hl hr hf hb
    rw [mvc_line] at h2
    exact h2
  clear hl hs
  obtain ⟨V, hV⟩ : ∃ V, V = linedM M := ⟨_, rfl⟩
  rw [← hV]
  obtain ⟨ra, rb⟩ := rows2 (w := w) (o1 := .cells #[.int .u64 M.pc, .slice A.ax M.x.length A.cx, .int .i64 M.pr, .slice A.ac M.cs.length A.cc, .slice A.ar M.ram.length A.cr, .int .u64 M.d.t, .int .u64 M.d.cm, .bool M.d.so, .slice A.ai M.d.xs.length A.ci, .slice A.ao M.d.ys.length A.co, .int .i64 M.d.ir, .int .u64 M.hd, .bool M.hl, .bool M.wt] 30) (o2 := .cells #[.int .u64 0, .slice none 0 0, .int .i64 0, .slice none 0 0, .slice none 0 0, .int .u64 0, .int .u64 0, .bool false, .slice none 0 0, .slice none 0 0, .int .i64 0, .int .u64 0, .bool false, .bool false] 30) (Below.refl _ _)
  have B0 : Hid (Below w.heap.size w ((w.alloc (.cells #[.int .u64 M.pc, .slice A.ax M.x.length A.cx, .int .i64 M.pr, .slice A.ac M.cs.length A.cc, .slice A.ar M.ram.length A.cr, .int .u64 M.d.t, .int .u64 M.d.cm, .bool M.d.so, .slice A.ai M.d.xs.length A.ci, .slice A.ao M.d.ys.length A.co, .int .i64 M.d.ir, .int .u64 M.hd, .bool M.hl, .bool M.wt] 30)).alloc (.cells #[.int .u64 0, .slice none 0 0, .int .i64 0, .slice none 0 0, .slice none 0 0, .int .u64 0, .int .u64 0, .bool false, .slice none 0 0, .slice none 0 0, .int .i64 0, .int .u64 0, .bool false, .bool false] 30))) := ((Below.refl _ _).alloc (Nat.le_refl _) _).alloc (by simp) _
  have RA := dhid ra
  have RB := dhid rb
  clear ra rb
  by_cases h22 : M.cs.length = 22
  · cases hok : okD M.d.xs.length M.d.ys.length M.d.ir with
    | false =>
      have F : Hid (V = zeroM) := by show _ = _; rw [hV]; unfold linedM; rw [hok, Bool.and_false, Bool.false_and]; rfl
      rw [hok] at HD
      clear hok HC HK HLN hV
      generalize M.cs.length = nc at *
      subst h22
      go_enter Try.func16, Try.ntmps16
      go_wp2_with fail
      refine (HD.out _ B0.out).mono ?_
      rintro e w1 ⟨rfl, hb1⟩
      have RES := dhid (dstays hb1 RB.out)
      have BB := dhid (below_trans B0.out hb1)
      obtain ⟨s0, s1, s2, s3, s4, s5, s6, s7, s8, s9, s10, s11, s12, s13⟩ := cells14 RES.out
      obtain ⟨y0, y1, y2, y3, y4, y5, y6, y7, y8, y9, y10, y11, y12, y13⟩ := froz14 RES.out
      clear hb1 RA RB B0
      go_wp2_with fail
      exact bodyPost_ret (results_cell_row Try.results16 _ _ _ _ _ _ _ rfl (row_put14 RES.out (.int .u64 0) (.slice none 0 0) (.int .i64 0) (.slice none 0 0) (.slice none 0 0) (.int .u64 0) (.int .u64 0) (.bool false) (.slice none 0 0) (.slice none 0 0) (.int .i64 0) (.int .u64 0) (.bool false) (.bool false)) Try.underlying30 rfl mac_size) rfl ⟨zeroA, by rw [F.out]; rfl, by rw [F.out]; exact fam_zeroM _ _ _, below_put14 BB.out (by omega) (.int .u64 0) (.slice none 0 0) (.int .i64 0) (.slice none 0 0) (.slice none 0 0) (.int .u64 0) (.int .u64 0) (.bool false) (.slice none 0 0) (.slice none 0 0) (.int .i64 0) (.int .u64 0) (.bool false) (.bool false)⟩
    | true =>
      rw [hok] at HD
      have F0 : Hid (V = if machB (lineM M) = true then lineM M else zeroM) := by show _ = _; rw [hV]; unfold linedM; rw [hok, decide_eq_true h22]; rfl
      clear hok hV
      have H22 : Hid (M.cs.length = 22) := h22
      have HLN2 : Hid (∀ (C : MA) (b B E : Nat) (w' : World), w'.heap[b]? = some (.cells #[.int .u64 M.pc, .slice C.ax M.x.length C.cx, .int .i64 M.pr, .slice C.ac M.cs.length C.cc, .slice C.ar M.ram.length C.cr, .int .u64 M.d.t, .int .u64 M.d.cm, .bool M.d.so, .slice C.ai M.d.xs.length C.ci, .slice C.ao M.d.ys.length C.co, .int .i64 M.d.ir, .int .u64 M.hd, .bool M.hl, .bool M.wt] 30 (0, 0)) → Fam B E w' (mvF M C) → (∀ q ∈ mvF M C, q.v.ownBlock ≠ some b) → Calls Try.prog 32 #[.pointer (some ⟨b, 0, none⟩)] w' fun e w'' => e = .returned (.tuple #[]) ∧ w''.heap[b]? = some (.cells #[.int .u64 M.pc, .slice C.ax M.x.length C.cx, .int .i64 M.pr, .slice C.ac M.cs.length C.cc, .slice C.ar M.ram.length C.cr, .int .u64 M.d.t, .int .u64 M.d.cm, .bool M.d.so, .slice C.ai M.d.xs.length C.ci, .slice C.ao M.d.ys.length C.co, .int .i64 M.d.ir, .int .u64 M.hd, .bool M.hl, .bool M.wt] 30 (0, 0)) ∧ Fam B E w'' (mvF (lineM M) C) ∧ KeepL (mvF M C) w' w'') := fun C b B E w' hr hf hb => HLN.out C b B E w' h22 hr hf hb
      have HMV : Hid (∀ C : MA, mvc M C = #[.int .u64 M.pc, .slice C.ax M.x.length C.cx, .int .i64 M.pr, .slice C.ac M.cs.length C.cc, .slice C.ar M.ram.length C.cr, .int .u64 M.d.t, .int .u64 M.d.cm, .bool M.d.so, .slice C.ai M.d.xs.length C.ci, .slice C.ao M.d.ys.length C.co, .int .i64 M.d.ir, .int .u64 M.hd, .bool M.hl, .bool M.wt]) := fun C => rfl
      clear HLN H22
      generalize M.cs.length = nc at *
      subst h22
      go_enter Try.func16, Try.ntmps16
      go_wp2_with fail
      refine (HD.out _ B0.out).mono ?_
      rintro e w1 ⟨rfl, hb1⟩
      have RA1 := dhid (dstays hb1 RA.out)
      have RB1 := dhid (dstays hb1 RB.out)
      have B1 := dhid (below_trans B0.out hb1)
      clear hb1 RA RB B0
      obtain ⟨a0, a1, a2, a3, a4, a5, a6, a7, a8, a9, a10, a11, a12, a13⟩ := cells14 RA1.out
      go_wp2_with fail
      refine (HC.out _ B1.out).mono ?_
      rintro e w2 ⟨C, rfl, fm2, hb2⟩
      have FM2 := dhid (fm2.below ((Below.refl _ _).alloc (Nat.le_refl _) (.cells #[.int .u64 M.pc, .slice C.ax M.x.length C.cx, .int .i64 M.pr, .slice C.ac 22 C.cc, .slice C.ar M.ram.length C.cr, .int .u64 M.d.t, .int .u64 M.d.cm, .bool M.d.so, .slice C.ai M.d.xs.length C.ci, .slice C.ao M.d.ys.length C.co, .int .i64 M.d.ir, .int .u64 M.hd, .bool M.hl, .bool M.wt] 30)))
      have NB : Hid (∀ q ∈ mvF M C, q.v.ownBlock ≠ some w2.heap.size) := fun q hq e => by have := fm2.hi q hq _ e; omega
      have RB2 := dhid (row_al8 (dstays hb2 RB1.out) (.cells #[.int .u64 M.pc, .slice C.ax M.x.length C.cx, .int .i64 M.pr, .slice C.ac 22 C.cc, .slice C.ar M.ram.length C.cr, .int .u64 M.d.t, .int .u64 M.d.cm, .bool M.d.so, .slice C.ai M.d.xs.length C.ci, .slice C.ao M.d.ys.length C.co, .int .i64 M.d.ir, .int .u64 M.hd, .bool M.hl, .bool M.wt] 30))
      have B2 := dhid ((below_trans B1.out hb2).alloc (below_trans B1.out hb2).size (.cells #[.int .u64 M.pc, .slice C.ax M.x.length C.cx, .int .i64 M.pr, .slice C.ac 22 C.cc, .slice C.ar M.ram.length C.cr, .int .u64 M.d.t, .int .u64 M.d.cm, .bool M.d.so, .slice C.ai M.d.xs.length C.ci, .slice C.ao M.d.ys.length C.co, .int .i64 M.d.ir, .int .u64 M.hd, .bool M.hl, .bool M.wt] 30))
      have Z2 := dhid (show w.heap.size + 1 < w1.heap.size ∧ w1.heap.size ≤ w2.heap.size from ⟨(Array.getElem?_eq_some_iff.1 RB1.out).1, hb2.size⟩)
      have R2 := dhid (heap_alloc_new w2 (.cells #[.int .u64 M.pc, .slice C.ax M.x.length C.cx, .int .i64 M.pr, .slice C.ac 22 C.cc, .slice C.ar M.ram.length C.cr, .int .u64 M.d.t, .int .u64 M.d.cm, .bool M.d.so, .slice C.ai M.d.xs.length C.ci, .slice C.ao M.d.ys.length C.co, .int .i64 M.d.ir, .int .u64 M.hd, .bool M.hl, .bool M.wt] 30))
      clear fm2 hb2 RA1 RB1 B1
      clear a0 a1 a2 a3 a4 a5 a6 a7 a8 a9 a10 a11 a12 a13
      go_wp2_with fail
      refine (HLN2.out C w2.heap.size _ _ _ R2.out FM2.out NB.out).mono ?_
      rintro e w3 ⟨rfl, row3, fm3, kp3⟩
      have kpb : Below w.heap.size w w3 := (Keep.below (kp3.keep FM2.out) (by have := Z2.out; omega) (by have := B2.out.size; omega) : Below w.heap.size _ w3) |> fun h => B2.out.trans h
      have B3 := dhid kpb
      have R3 := dhid row3
      have FM3 := dhid fm3
      have RB3 := dhid ((kp3.block (w.heap.size + 1) (Array.getElem?_eq_some_iff.1 RB2.out).1 (fun q hq e => by have h1 := ((FM2.out.own q hq).lt _ e).1; have := Z2.out; omega)).trans RB2.out)
      clear kp3 row3 fm3 kpb RB2 B2 FM2 NB R2
      obtain ⟨a0, a1, a2, a3, a4, a5, a6, a7, a8, a9, a10, a11, a12, a13⟩ := cells14 R3.out
      go_wp2_with fail
      refine (HK.out C _ FM3.out.msl).mono ?_
      rintro e w4 ⟨rfl, hb4⟩
      have R4 := dhid (dstays hb4 R3.out)
      have RES := dhid (dstays hb4 RB3.out)
      have FM4 := dhid (FM3.out.below hb4)
      have BB := dhid (below_trans B3.out hb4)
      have Z4 := dhid (show w2.heap.size < w4.heap.size from (Array.getElem?_eq_some_iff.1 R4.out).1)
      clear hb4 R3 RB3 FM3 B3
      clear a0 a1 a2 a3 a4 a5 a6 a7 a8 a9 a10 a11 a12 a13
      obtain ⟨a0, a1, a2, a3, a4, a5, a6, a7, a8, a9, a10, a11, a12, a13⟩ := cells14 R4.out
      obtain ⟨s0, s1, s2, s3, s4, s5, s6, s7, s8, s9, s10, s11, s12, s13⟩ := cells14 RES.out
      obtain ⟨y0, y1, y2, y3, y4, y5, y6, y7, y8, y9, y10, y11, y12, y13⟩ := froz14 RES.out
      have nd1 : ¬ w2.heap.size = w.heap.size + 1 := by have := Z2.out; omega
      have nd2 : ¬ w.heap.size + 1 = w2.heap.size := by have := Z2.out; omega
      cases hmk : machB (lineM M) with
      | false =>
        have F : Hid (V = zeroM) := by show _ = _; rw [F0.out, hmk]; rfl
        clear F0
        go_wp2_with fail
        exact bodyPost_ret (results_cell_row Try.results16 _ _ _ _ _ _ _ rfl (row_put14 RES.out (.int .u64 0) (.slice none 0 0) (.int .i64 0) (.slice none 0 0) (.slice none 0 0) (.int .u64 0) (.int .u64 0) (.bool false) (.slice none 0 0) (.slice none 0 0) (.int .i64 0) (.int .u64 0) (.bool false) (.bool false)) Try.underlying30 rfl mac_size) rfl ⟨zeroA, by rw [F.out]; rfl, by rw [F.out]; exact fam_zeroM _ _ _, below_put14 BB.out (by omega) (.int .u64 0) (.slice none 0 0) (.int .i64 0) (.slice none 0 0) (.slice none 0 0) (.int .u64 0) (.int .u64 0) (.bool false) (.slice none 0 0) (.slice none 0 0) (.int .i64 0) (.int .u64 0) (.bool false) (.bool false)⟩
      | true =>
        have F : Hid (V = lineM M) := by show _ = _; rw [F0.out, hmk]; rfl
        clear F0
        go_wp2_with fail
        exact bodyPost_ret (results_cell_row Try.results16 _ _ _ _ _ _ _ rfl (row_put14 RES.out (.int .u64 M.pc) (.slice C.ax M.x.length C.cx) (.int .i64 M.pr) (.slice C.ac 22 C.cc) (.slice C.ar M.ram.length C.cr) (.int .u64 M.d.t) (.int .u64 M.d.cm) (.bool M.d.so) (.slice C.ai M.d.xs.length C.ci) (.slice C.ao M.d.ys.length C.co) (.int .i64 M.d.ir) (.int .u64 M.hd) (.bool M.hl) (.bool M.wt)) Try.underlying30 rfl mac_size) rfl ⟨C, by rw [F.out, mvc_line, HMV.out], by rw [F.out]; exact (FM4.out.put14 (w.heap.size + 1) (.inl Z2.out.1) (.int .u64 M.pc) (.slice C.ax M.x.length C.cx) (.int .i64 M.pr) (.slice C.ac 22 C.cc) (.slice C.ar M.ram.length C.cr) (.int .u64 M.d.t) (.int .u64 M.d.cm) (.bool M.d.so) (.slice C.ai M.d.xs.length C.ci) (.slice C.ao M.d.ys.length C.co) (.int .i64 M.d.ir) (.int .u64 M.hd) (.bool M.hl) (.bool M.wt)).low (by have := Z2.out; omega) (by have := Z4.out; simp only [size_set]; omega), below_put14 BB.out (by omega) (.int .u64 M.pc) (.slice C.ax M.x.length C.cx) (.int .i64 M.pr) (.slice C.ac 22 C.cc) (.slice C.ar M.ram.length C.cr) (.int .u64 M.d.t) (.int .u64 M.d.cm) (.bool M.d.so) (.slice C.ai M.d.xs.length C.ci) (.slice C.ao M.d.ys.length C.co) (.int .i64 M.d.ir) (.int .u64 M.hd) (.bool M.hl) (.bool M.wt)⟩
  · have d22 : ¬ (((M.cs.length : Nat) : Int) = 22) := by omega
    have F : Hid (V = zeroM) := by show _ = _; rw [hV]; unfold linedM; rw [decide_eq_false h22]; rfl
    clear HC HK HLN HD hV
    generalize M.cs.length = nc at *
    go_enter Try.func16, Try.ntmps16
    go_wp2_with fail
    exact bodyPost_ret (results_cell_row Try.results16 _ _ _ _ _ _ _ rfl RB.out Try.underlying30 rfl mac_size) rfl ⟨zeroA, by rw [F.out]; rfl, by rw [F.out]; exact fam_zeroM _ _ _, B0.out⟩

end Go.Proofs.Ytpkloekholedlaa
