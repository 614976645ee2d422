/- Own lemmas. -/
import Derived.Test.YtjbipemgfmdlaaaGreatDoorQ05
import Derived.Test.YtjbipemgfmdlaaaGreatDoorQ15
import Derived.Deep.RegionWith
namespace Go.Proofs.YtjbipemgfmdlaaaGreatDoor
open Go.RowKit
set_option linter.unusedVariables false

set_option maxRecDepth 100000 in
set_option maxHeartbeats 6400000 in
theorem tellLines_x (pc : Int) (ax : Option Addr) (nx cx : Nat) (pr : Int) (g cc : Nat) (ar : Option Addr) (nr cr : Nat) (t cm : Int) (so : Bool) (ai : Option Addr) (ni ci : Nat) (ao : Option Addr) (no co : Nat) (ir hd : Int) (hl wt : Bool) (b : Nat) (y ln : Int) (w : World) (hrow : w.heap[b]? = some (.cells #[.int .u64 pc, .slice ax nx cx, .int .i64 pr, .slice (some ⟨g, 0, none⟩) 22 cc, .slice ar nr cr, .int .u64 t, .int .u64 cm, .bool so, .slice ai ni ci, .slice ao no co, .int .i64 ir, .int .u64 hd, .bool hl, .bool wt] 29 (0, 0))) (hcell : w.cell? ⟨g, 9, none⟩ = some (.int .u64 y)) (hfz : w.frozen? ⟨g, 9, none⟩ = false) (hg : g < w.heap.size)
    (hN : ∀ w', Below w.heap.size w w' → Calls Tryz.prog 47 #[.agg #[.int .u64 t, .int .u64 cm, .bool so, .slice ai ni ci, .slice ao no co, .int .i64 ir]] w' fun e w'' => e = .returned (.int .u64 ln) ∧ Below w'.heap.size w' w'') :
    Calls Tryz.prog 80 #[.pointer (some ⟨b, 0, none⟩)] w fun e w' => e = .returned (.tuple #[]) ∧ ∃ w1, Below w.heap.size w w1 ∧ w' = w1.setCell ⟨g, 9, none⟩ (.int .u64 (bits .or .u64 (bits .andNot .u64 y 2184) ln)) := by
  have HN : Hid (Calls Tryz.prog 47 #[.agg #[.int .u64 t, .int .u64 cm, .bool so, .slice ai ni ci, .slice ao no co, .int .i64 ir]] w.drew fun e w'' => e = .returned (.int .u64 ln) ∧ Below w.drew.heap.size w.drew w'') := hN w.drew (Below.refl _ _).drew
  have HROW := dhid hrow
  have HG := dhid hg
  have HC := dhid (And.intro hcell hfz)
  obtain ⟨p0, p1, p2, p3, p4, p5, p6, p7, p8, p9, p10, p11, p12, p13⟩ := cells14 hrow
  clear hN hrow hg
  go_enter Tryz.func80, Tryz.ntmps80
  go_wp2_with fail
  go_region_with (first | (go_at_call 47; with_reducible refine HN.out.mono ?_; rintro e w1 ⟨rfl, hb1⟩; have B1 := dhid (below_trans (Below.refl w.heap.size w).drew hb1); clear hb1; obtain ⟨q0, q1, q2, q3, q4, q5, q6, q7, q8, q9, q10, q11, q12, q13⟩ := cells14 (dstays B1.out HROW.out); have hc1 := (B1.out.cell (p := ⟨g, 9, none⟩) HG.out).trans HC.out.1; have hf1 : w1.frozen? ⟨g, 9, none⟩ = false := (by have h1 := HC.out.2; have h2 := B1.out.block g HG.out; unfold World.frozen? at h1 ⊢; dsimp only at h1 ⊢; rw [h2]; exact h1)))
  all_goals go_wp2_with fail
  all_goals refine bodyPost_end (results_none rfl _ _ _) rfl ?_
  all_goals exact ⟨rfl, w1, B1.out, rfl⟩

def lineD (M : MV) : MV := ⟨M.pc, M.x, M.pr, M.cs.set 9 (bits .or .u64 (bits .andNot .u64 (M.cs.getD 9 0) 2184) (linesD M.d)), M.ram, M.d, M.hd, M.hl, M.wt⟩

theorem mvc_lineD (M : MV) (A : MA) : mvc (lineD M) A = mvc M A := by
  simp [mvc, lineD]

theorem lineD_len (M : MV) : (lineD M).cs.length = M.cs.length := by simp [lineD]

theorem lineD_eq {M : MV} (h : okD M.d.xs.length M.d.ys.length M.d.ir = true) : lineD M = lineM M := by
  have : linesD M.d = linesV M.d := by unfold linesD; rw [h]; rfl
  unfold lineD lineM
  rw [this]

theorem tellLines_any (M : MV) (A : MA) (b B E : Nat) (w : World) (h22 : M.cs.length = 22) (hl : MLen M) (hrow : w.heap[b]? = some (.cells (mvc M A) 29 (0, 0))) (hf : Fam B E w (mvF M A)) (hb : ∀ q ∈ mvF M A, q.v.ownBlock ≠ some b) :
    Calls Tryz.prog 80 #[.pointer (some ⟨b, 0, none⟩)] w fun e w' => e = .returned (.tuple #[]) ∧ w'.heap[b]? = some (.cells (mvc (lineD M) A) 29 (0, 0)) ∧ Fam B E w' (mvF (lineD M) A) ∧ KeepL (mvF M A) w w' := by
  have hmem : wRow A.ac M.cs.length A.cc M.cs ∈ mvF M A := by simp [mvF]
  have ho := hf.own _ hmem
  have hsl := hf.msl
  obtain ⟨g, off, hac, hg, hc⟩ := hsl.cs 9 (by omega)
  have hoff : off = 0 := by
    rcases ho.2 with ⟨e, _⟩ | ⟨g', cap, cur, e, _⟩
    · have e2 : Value.slice A.ac M.cs.length A.cc = .slice none 0 0 := e
      injection e2 with e3
      rw [hac] at e3
      cases e3
    · have e2 : Value.slice A.ac M.cs.length A.cc = .slice (some ⟨g', 0, none⟩) M.cs.length cap := e
      injection e2 with e3
      rw [hac] at e3
      injection e3 with e4
      injection e4
  subst hoff
  rw [Nat.zero_add] at hc
  have hblk : (wRow A.ac M.cs.length A.cc M.cs).v.ownBlock = some g := by show (Value.slice A.ac M.cs.length A.cc).ownBlock = _; rw [hac]; rfl
  have hgb : g ≠ b := fun e => hb _ hmem (by rw [hblk, e])
  have hfz : w.frozen? ⟨g, 9, none⟩ = false := by
    rcases ho.2 with ⟨e, _⟩ | ⟨g', cap, cur, e, h1, h2, _⟩
    · have e2 : Value.slice A.ac M.cs.length A.cc = .slice none 0 0 := e
      rw [hac] at e2
      cases e2
    · have e2 : Value.slice A.ac M.cs.length A.cc = .slice (some ⟨g', 0, none⟩) M.cs.length cap := e
      rw [hac] at e2
      injection e2 with e3
      injection e3 with e4
      injection e4 with e5
      subst e5
      exact froz h2 9
  have hr2 := hrow
  unfold mvc at hr2
  rw [hac, h22] at hr2
  refine (tellLines_x _ _ _ _ _ g _ _ _ _ _ _ _ _ _ _ _ _ _ _ _ _ _ b (M.cs.getD 9 0) (linesD M.d) w hr2 hc hfz hg (fun w' hw => lines_any M.d _ _ _ _ w' hl.xs hl.ys)).mono ?_
  rintro e w' ⟨rfl, w1, hb1, rfl⟩
  have hf1 := hf.below hb1
  have ho1 := hf1.own _ hmem
  refine ⟨rfl, ?_, ?_⟩
  · rw [mvc_lineD]
    exact row_far (dstays hb1 hrow) ⟨g, 9, none⟩ _ (fun e => hgb e.symm)
  · have hgr : w1.grownBy (w1.setCell ⟨g, 9, none⟩ (.int .u64 (bits .or .u64 (bits .andNot .u64 (M.cs.getD 9 0) 2184) (linesD M.d)))) (wRow A.ac M.cs.length A.cc M.cs).v.ownBlock := by rw [hblk]; exact grown_one _ _ _ _
    have hst : (w1.setCell ⟨g, 9, none⟩ (.int .u64 (bits .or .u64 (bits .andNot .u64 (M.cs.getD 9 0) 2184) (linesD M.d)))).ownsRow B 24 1 (.slice A.ac M.cs.length A.cc) M.cs.length ((lineD M).cs.map (Value.int .u64)) := by
      have h2 : w1.ownsRow B 24 1 (.slice A.ac M.cs.length A.cc) M.cs.length (M.cs.map (Value.int .u64)) := ho1
      rw [hac] at h2 ⊢
      have h3 := (h2.stored 9 (.int .u64 (bits .or .u64 (bits .andNot .u64 (M.cs.getD 9 0) 2184) (linesD M.d)))).1
      rw [map_set_u64] at h3
      exact h3
    have hm := Fam.markL (L1 := [wRow A.ax M.x.length A.cx M.x]) (L2 := [bRow A.ar M.ram.length A.cr M.ram, bRow A.ai M.d.xs.length A.ci M.d.xs, bRow A.ao M.d.ys.length A.co M.d.ys]) (r := wRow A.ac M.cs.length A.cc M.cs) hf1 hgr _ hst
    refine ⟨?_, (KeepL.of_below hb1).trans hm.2⟩
    have hlen : (lineD M).cs.length = M.cs.length := by simp [lineD]
    unfold mvF
    rw [hlen]
    exact hm.1

end Go.Proofs.YtjbipemgfmdlaaaGreatDoor
