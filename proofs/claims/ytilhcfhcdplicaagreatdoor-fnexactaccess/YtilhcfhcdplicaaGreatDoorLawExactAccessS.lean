/- The walk of laws.FnExactAccess: it returns true at every argument, and writes nothing that was there. By tools/genLawEM.py. -/
import Derived.Test.YtilhcfhcdplicaaGreatDoorK04
import Derived.Test.YtilhcfhcdplicaaGreatDoorK33
import Derived.Deep.RegionHeld3
namespace Go.Proofs.YtilhcfhcdplicaaGreatDoor.fnExactAccess
open Go.RowKit
set_option linter.unusedVariables false

theorem _root_.Go.Proofs.YtilhcfhcdplicaaGreatDoor.Fam.good {B E : Nat} {w : World} {M : MV} {A : MA} (h : Fam B E w (mvF M A)) : Goodly M.ram.length A.ar A.cr := own_good (h.own (bRow A.ar M.ram.length A.cr M.ram) (by simp [mvF]))

theorem letM_len {M : MV} (h : MLen M) (pa : Int) : MLen (letM M pa) := by
  unfold letM
  split
  · exact ⟨h.x, h.cs, h.ram, h.xs, h.ys⟩
  · exact h

theorem memM_len {M : MV} (h : MLen M) (R : List Int) (hR : R.length = M.ram.length) : MLen (memM M R) := ⟨h.x, h.cs, by show R.length ≤ _; rw [hR]; exact h.ram, h.xs, h.ys⟩

theorem devM_len {M : MV} (h : MLen M) (D : DV) (h1 : D.xs.length ≤ 1048576) (h2 : D.ys.length ≤ 1048576) : MLen (devM M D) := ⟨h.x, h.cs, h.ram, h1, h2⟩

theorem atM_len {M : MV} (h : MLen M) (h2 : M.d.ys.length ≤ 4096) (pa size kind x : Int) : MLen (atM M pa size kind x).2.1 := by
  have hd := ldV_ok M.d (sel pa size) h.xs h.ys
  have hs := stV_len M.d x h.xs h2 (sel pa size)
  unfold atM
  split
  · split
    · exact letM_len (memM_len h _ (put_len _ _ _ _)) pa
    · exact h
  · split
    · split
      · exact (devM_len h _ hd.1 hd.2).line
      · exact h
    · split
      · split
        · exact letM_len (devM_len h _ hs.1 hs.2).line pa
        · exact h
      · exact h

theorem accessM_len {M : MV} (h : MLen M) (addr size kind x : Int) : MLen (accessM M addr size kind x).2.1 := by
  unfold accessM
  split
  · rename_i hg
    have hm : machB M = true := by unfold goodA at hg; simp only [Bool.and_eq_true] at hg; exact hg.1.1.1
    have h2 := (okD_bd (mach_parts hm).2.2.2.2.1).2.1
    unfold accV
    split
    · exact h
    · unfold accW
      have h1 := memM_len h (markB M.ram (walkV M.ram M.ram.length M.cs (effV M.cs M.pr kind) addr kind)) (mark_len _ _)
      split
      · exact h1
      · split
        · exact h1
        · exact atM_len h1 h2 _ _ _ _
  · exact ⟨by simp [zeroM], by simp [zeroM], by simp [zeroM], by simp [zeroM, zeroD], by simp [zeroM, zeroD]⟩

set_option maxRecDepth 100000 in
set_option maxHeartbeats 6400000 in
theorem walk (M : MV) (A : MA) (addr size kind x : Int) (w : World) (hin : MIn w M A) (wx0 : (Lit.int .u64 addr).wf = true) (wx1 : (Lit.int .i64 size).wf = true) (wx2 : (Lit.int .i64 kind).wf = true) (wx3 : (Lit.int .u64 x).wf = true) (hT : Tab w) :
    Calls Tryz.prog 7 #[.agg #[.int .u64 M.pc, .slice A.ax M.x.length A.cx, .int .i64 M.pr, .slice A.ac M.cs.length A.cc, .slice A.ar M.ram.length A.cr, .int .u64 M.d.t, .int .u64 M.d.cm, .bool M.d.so, .slice A.ai M.d.xs.length A.ci, .slice A.ao M.d.ys.length A.co, .int .i64 M.d.ir, .int .u64 M.hd, .bool M.hl, .bool M.wt], .int .u64 addr, .int .i64 size, .int .i64 kind, .int .u64 x] w fun e w' => e = .returned (.bool true) ∧ Below w.heap.size w w' := by
  have hA : U addr := by have h := u64_bd wx0; exact ⟨h.1, by have := h.2; omega⟩
  have hX : U x := by have h := u64_bd wx3; exact ⟨h.1, by have := h.2; omega⟩
  have hH : U M.hd := by have h := u64_bd hin.hd; exact ⟨h.1, by have := h.2; omega⟩
  clear wx0 wx1 wx2 wx3
  have HSZ : Hid (∀ w, Calls Tryz.prog 27 #[.agg #[.int .u64 M.pc, .slice A.ax M.x.length A.cx, .int .i64 M.pr, .slice A.ac M.cs.length A.cc, .slice A.ar M.ram.length A.cr, .int .u64 M.d.t, .int .u64 M.d.cm, .bool M.d.so, .slice A.ai M.d.xs.length A.ci, .slice A.ao M.d.ys.length A.co, .int .i64 M.d.ir, .int .u64 M.hd, .bool M.hl, .bool M.wt], .int .i64 1048576] w fun e w' => e = .returned (.int .i64 (szM M.x.length M.cs.length M.ram.length M.d.xs.length M.d.ys.length 1048576)) ∧ Below w.heap.size w w') := fun w => szMachine_any _ _ _ _ _ _ _ _ _ _ _ _ _ _ _ _ _ _ _ _ _ _ _ _ 1048576 w (by omega) (by omega) hin.lx hin.lcs hin.lram hin.lxs hin.lys
  by_cases hsm : M.x.length + M.cs.length + M.ram.length + M.d.xs.length + M.d.ys.length ≤ 1048576
  · have hl : MLen M := ⟨by omega, by omega, by omega, by omega, by omega⟩
    have hsz : szM M.x.length M.cs.length M.ram.length M.d.xs.length M.d.ys.length 1048576 = 1048576 - M.x.length - M.cs.length - M.ram.length - M.d.xs.length - M.d.ys.length := by unfold szM; rw [if_pos (by omega)]
    rw [hsz] at HSZ
    have d0 : decide ((1048576 : Int) - (M.x.length : Int) - (M.cs.length : Int) - (M.ram.length : Int) - (M.d.xs.length : Int) - (M.d.ys.length : Int) < 0) = false := by simp; omega
    have HTD : Hid (∀ w', Below w.heap.size w w' → Calls Tryz.prog 28 #[.agg #[.int .u64 M.pc, .slice A.ax M.x.length A.cx, .int .i64 M.pr, .slice A.ac M.cs.length A.cc, .slice A.ar M.ram.length A.cr, .int .u64 M.d.t, .int .u64 M.d.cm, .bool M.d.so, .slice A.ai M.d.xs.length A.ci, .slice A.ao M.d.ys.length A.co, .int .i64 M.d.ir, .int .u64 M.hd, .bool M.hl, .bool M.wt]] w' fun e w'' => ∃ C : MA, e = .returned (.agg #[.int .u64 M.pc, .slice C.ax M.x.length C.cx, .int .i64 M.pr, .slice C.ac M.cs.length C.cc, .slice C.ar M.ram.length C.cr, .int .u64 M.d.t, .int .u64 M.d.cm, .bool M.d.so, .slice C.ai M.d.xs.length C.ci, .slice C.ao M.d.ys.length C.co, .int .i64 M.d.ir, .int .u64 M.hd, .bool M.hl, .bool M.wt]) ∧ Fam w'.heap.size w''.heap.size w'' (mvF M C) ∧ Below w'.heap.size w' w'') := fun w' hb => (toMachine_any M A w' hl (hin.sl.below hb)).mono fun e w'' ⟨gx, gc, gr, gi, go, h1, h2, h3⟩ => ⟨_, h1, h2, h3⟩
    have HS : Hid (∀ (C : MA) (w' : World), Below w.heap.size w w' → MSl w' M C → Calls Tryz.prog 12 #[.agg #[.int .u64 M.pc, .slice C.ax M.x.length C.cx, .int .i64 M.pr, .slice C.ac M.cs.length C.cc, .slice C.ar M.ram.length C.cr, .int .u64 M.d.t, .int .u64 M.d.cm, .bool M.d.so, .slice C.ai M.d.xs.length C.ci, .slice C.ao M.d.ys.length C.co, .int .i64 M.d.ir, .int .u64 M.hd, .bool M.hl, .bool M.wt], .int .u64 addr, .int .i64 size, .int .i64 kind, .int .u64 x] w' fun e w'' => ∃ K : MA, e = .returned (.tuple #[.int .u64 (accessM M addr size kind x).1, .agg (mvc (accessM M addr size kind x).2.1 K), .int .i64 (accessM M addr size kind x).2.2]) ∧ Fam w'.heap.size w''.heap.size w'' (mvF (accessM M addr size kind x).2.1 K) ∧ Below w'.heap.size w' w'') := fun C w' hbw k => specAccess_any M C addr size kind x w' hl k hin.mw hA hX
    have HI : Hid (∀ (C : MA) (w' : World), Below w.heap.size w w' → MSl w' M C → Goodly M.ram.length C.ar C.cr → Calls Tryz.prog 11 #[.agg #[.int .u64 M.pc, .slice C.ax M.x.length C.cx, .int .i64 M.pr, .slice C.ac M.cs.length C.cc, .slice C.ar M.ram.length C.cr, .int .u64 M.d.t, .int .u64 M.d.cm, .bool M.d.so, .slice C.ai M.d.xs.length C.ci, .slice C.ao M.d.ys.length C.co, .int .i64 M.d.ir, .int .u64 M.hd, .bool M.hl, .bool M.wt], .int .u64 addr, .int .i64 size, .int .i64 kind, .int .u64 x] w' fun e w'' => ∃ K : MA, e = .returned (.tuple #[.int .u64 (accessM M addr size kind x).1, .agg (mvc (accessM M addr size kind x).2.1 K), .int .i64 (accessM M addr size kind x).2.2]) ∧ Fam w'.heap.size w''.heap.size w'' (mvF (accessM M addr size kind x).2.1 K) ∧ Below w'.heap.size w' w'') := fun C w' hbw k => fun gd => implAccess_any M C addr size kind x w' hl k hin.mw hH hA hX (hT.below hbw) (fun _ => gd)
    have hrl : MLen (accessM M addr size kind x).2.1 := accessM_len hl addr size kind x
    generalize accessM M addr size kind x = RR at *
    obtain ⟨ry, R, rc⟩ := RR
    dsimp only at HS HI hrl
    dsimp only [mvc] at HS HI
    have tx : (ry != ry) = false := by simp
    have tc : (rc != rc) = false := by simp
    clear hin hsz hsm hT hA hX hH

    go_enter Tryz.func7, Tryz.ntmps7
    go_wp2_with fail
    refine (HSZ.out _).mono ?_
    rintro e w0 ⟨rfl, hb0⟩
    have hx0 : Below w.heap.size w w0 := below_trans ((Below.refl _ _).alloc (Nat.le_refl _) _) hb0
    have B0 : Below w.heap.size w w0 := hx0
    have m0 : w.heap.size + 1 ≤ w0.heap.size := by have h := hb0.size; rw [World.size_alloc] at h; exact h
    have rD0 : w0.heap[w.heap.size]? = some (.cells #[.int .u64 M.pc, .slice A.ax M.x.length A.cx, .int .i64 M.pr, .slice A.ac M.cs.length A.cc, .slice A.ar M.ram.length A.cr, .int .u64 M.d.t, .int .u64 M.d.cm, .bool M.d.so, .slice A.ai M.d.xs.length A.ci, .slice A.ao M.d.ys.length A.co, .int .i64 M.d.ir, .int .u64 M.hd, .bool M.hl, .bool M.wt] 52 (0, 0)) := dstays hb0 (heap_alloc_new _ _)
    obtain ⟨cD0, cD1, cD2, cD3, cD4, cD5, cD6, cD7, cD8, cD9, cD10, cD11, cD12, cD13⟩ := cells14 rD0
    go_wp2_with fail
    refine (HTD.out _ B0).mono ?_
    rintro e w1 ⟨CA, rfl, fA1, hb1⟩
    have hx1 : Below w0.heap.size w0 w1 := hb1
    have m1 : w0.heap.size ≤ w1.heap.size := hb1.size
    have B1 : Below w.heap.size w w1 := below_trans B0 hx1
    have rD1 := dstays hx1 rD0
    clear cD0 cD1 cD2 cD3 cD4 cD5 cD6 cD7 cD8 cD9 cD10 cD11 cD12 cD13
    go_wp2_with fail
    refine (HS.out _ _ B1 fA1.msl).mono ?_
    rintro e w2 ⟨CW, rfl, fW2, hb2⟩
    have hx2 : Below w1.heap.size w1 w2 := hb2
    have m2 : w1.heap.size ≤ w2.heap.size := hb2.size
    have B2 : Below w.heap.size w w2 := below_trans B1 hx2
    have rD2 := dstays hx2 rD1
    have fA2 := fA1.below hx2
    have cD0 := fun o => (cells14 (row_al8 rD2 o)).1
    have cD1 := fun o => (cells14 (row_al8 rD2 o)).2.1
    have cD2 := fun o => (cells14 (row_al8 rD2 o)).2.2.1
    have cD3 := fun o => (cells14 (row_al8 rD2 o)).2.2.2.1
    have cD4 := fun o => (cells14 (row_al8 rD2 o)).2.2.2.2.1
    have cD5 := fun o => (cells14 (row_al8 rD2 o)).2.2.2.2.2.1
    have cD6 := fun o => (cells14 (row_al8 rD2 o)).2.2.2.2.2.2.1
    have cD7 := fun o => (cells14 (row_al8 rD2 o)).2.2.2.2.2.2.2.1
    have cD8 := fun o => (cells14 (row_al8 rD2 o)).2.2.2.2.2.2.2.2.1
    have cD9 := fun o => (cells14 (row_al8 rD2 o)).2.2.2.2.2.2.2.2.2.1
    have cD10 := fun o => (cells14 (row_al8 rD2 o)).2.2.2.2.2.2.2.2.2.2.1
    have cD11 := fun o => (cells14 (row_al8 rD2 o)).2.2.2.2.2.2.2.2.2.2.2.1
    have cD12 := fun o => (cells14 (row_al8 rD2 o)).2.2.2.2.2.2.2.2.2.2.2.2.1
    have cD13 := fun o => (cells14 (row_al8 rD2 o)).2.2.2.2.2.2.2.2.2.2.2.2.2
    go_wp2_with fail
    refine (HTD.out _ (B2.alloc B2.size _)).mono ?_
    rintro e w3 ⟨CX, rfl, fX3, hb3⟩
    have hx3 : Below w2.heap.size w2 w3 := below_trans ((Below.refl _ _).alloc (Nat.le_refl _) _) hb3
    have m3 : w2.heap.size + 1 ≤ w3.heap.size := by have h := hb3.size; rw [World.size_alloc] at h; exact h
    have B3 : Below w.heap.size w w3 := below_trans B2 hx3
    have rD3 := dstays hx3 rD2
    have rW3 : w3.heap[w2.heap.size]? = some (.cells #[.int .u64 R.pc, .slice CW.ax R.x.length CW.cx, .int .i64 R.pr, .slice CW.ac R.cs.length CW.cc, .slice CW.ar R.ram.length CW.cr, .int .u64 R.d.t, .int .u64 R.d.cm, .bool R.d.so, .slice CW.ai R.d.xs.length CW.ci, .slice CW.ao R.d.ys.length CW.co, .int .i64 R.d.ir, .int .u64 R.hd, .bool R.hl, .bool R.wt] 29 (0, 0)) := dstays hb3 (heap_alloc_new _ _)
    have fW3 := fW2.below hx3
    rw [World.size_alloc] at fX3
    clear cD0 cD1 cD2 cD3 cD4 cD5 cD6 cD7 cD8 cD9 cD10 cD11 cD12 cD13
    go_wp2_with fail
    refine (HI.out _ _ (B3.alloc B3.size _) (fX3.below ((Below.refl _ _).alloc (Nat.le_refl _) _)).msl fX3.good).mono ?_
    rintro e w4 ⟨CQ, rfl, fQ4, hb4⟩
    have hx4 : Below w3.heap.size w3 w4 := below_trans ((Below.refl _ _).alloc (Nat.le_refl _) _) hb4
    have m4 : w3.heap.size + 1 ≤ w4.heap.size := by have h := hb4.size; rw [World.size_alloc] at h; exact h
    have B4 : Below w.heap.size w w4 := below_trans B3 hx4
    have rD4 := dstays hx4 rD3
    have rW4 := dstays hx4 rW3
    have rX4 : w4.heap[w3.heap.size]? = some (.cells #[.int .u64 M.pc, .slice CX.ax M.x.length CX.cx, .int .i64 M.pr, .slice CX.ac M.cs.length CX.cc, .slice CX.ar M.ram.length CX.cr, .int .u64 M.d.t, .int .u64 M.d.cm, .bool M.d.so, .slice CX.ai M.d.xs.length CX.ci, .slice CX.ao M.d.ys.length CX.co, .int .i64 M.d.ir, .int .u64 M.hd, .bool M.hl, .bool M.wt] 29 (0, 0)) := dstays hb4 (heap_alloc_new _ _)
    have fW4 := fW3.below hx4
    have fX4 := fX3.below hx4
    rw [World.size_alloc] at fQ4
    have cW0 := fun o => (cells14 (row_al8 rW4 o)).1
    have cW1 := fun o => (cells14 (row_al8 rW4 o)).2.1
    have cW2 := fun o => (cells14 (row_al8 rW4 o)).2.2.1
    have cW3 := fun o => (cells14 (row_al8 rW4 o)).2.2.2.1
    have cW4 := fun o => (cells14 (row_al8 rW4 o)).2.2.2.2.1
    have cW5 := fun o => (cells14 (row_al8 rW4 o)).2.2.2.2.2.1
    have cW6 := fun o => (cells14 (row_al8 rW4 o)).2.2.2.2.2.2.1
    have cW7 := fun o => (cells14 (row_al8 rW4 o)).2.2.2.2.2.2.2.1
    have cW8 := fun o => (cells14 (row_al8 rW4 o)).2.2.2.2.2.2.2.2.1
    have cW9 := fun o => (cells14 (row_al8 rW4 o)).2.2.2.2.2.2.2.2.2.1
    have cW10 := fun o => (cells14 (row_al8 rW4 o)).2.2.2.2.2.2.2.2.2.2.1
    have cW11 := fun o => (cells14 (row_al8 rW4 o)).2.2.2.2.2.2.2.2.2.2.2.1
    have cW12 := fun o => (cells14 (row_al8 rW4 o)).2.2.2.2.2.2.2.2.2.2.2.2.1
    have cW13 := fun o => (cells14 (row_al8 rW4 o)).2.2.2.2.2.2.2.2.2.2.2.2.2
    go_wp2_with fail
    refine (eqMachine_same R _ _ _ hrl (fQ4.below ((Below.refl _ _).alloc (Nat.le_refl _) _)).msl (fW4.below ((Below.refl _ _).alloc (Nat.le_refl _) _)).msl).mono ?_
    rintro e w5 ⟨rfl, hb5⟩
    have hx5 : Below w4.heap.size w4 w5 := below_trans ((Below.refl _ _).alloc (Nat.le_refl _) _) hb5
    have m5 : w4.heap.size + 1 ≤ w5.heap.size := by have h := hb5.size; rw [World.size_alloc] at h; exact h
    have B5 : Below w.heap.size w w5 := below_trans B4 hx5
    have rD5 := dstays hx5 rD4
    have rW5 := dstays hx5 rW4
    have rX5 := dstays hx5 rX4
    have rQ5 : w5.heap[w4.heap.size]? = some (.cells #[.int .u64 R.pc, .slice CQ.ax R.x.length CQ.cx, .int .i64 R.pr, .slice CQ.ac R.cs.length CQ.cc, .slice CQ.ar R.ram.length CQ.cr, .int .u64 R.d.t, .int .u64 R.d.cm, .bool R.d.so, .slice CQ.ai R.d.xs.length CQ.ci, .slice CQ.ao R.d.ys.length CQ.co, .int .i64 R.d.ir, .int .u64 R.hd, .bool R.hl, .bool R.wt] 29 (0, 0)) := dstays hb5 (heap_alloc_new _ _)
    have fW5 := fW4.below hx5
    have fX5 := fX4.below hx5
    have fQ5 := fQ4.below hx5
    clear cW0 cW1 cW2 cW3 cW4 cW5 cW6 cW7 cW8 cW9 cW10 cW11 cW12 cW13
    as_aux_lemma =>
      obtain ⟨cX0, cX1, cX2, cX3, cX4, cX5, cX6, cX7, cX8, cX9, cX10, cX11, cX12, cX13⟩ := cells14 rX5
      obtain ⟨cD0, cD1, cD2, cD3, cD4, cD5, cD6, cD7, cD8, cD9, cD10, cD11, cD12, cD13⟩ := cells14 rD5
      have PW : Hid (∀ w', Below w5.heap.size w5 w' → (w'.cell? ⟨w3.heap.size, 0, none⟩ = some (.int .u64 M.pc) ∧ w'.cell? ⟨w3.heap.size, 1, none⟩ = some (.slice CX.ax M.x.length CX.cx) ∧ w'.cell? ⟨w3.heap.size, 2, none⟩ = some (.int .i64 M.pr) ∧ w'.cell? ⟨w3.heap.size, 3, none⟩ = some (.slice CX.ac M.cs.length CX.cc) ∧ w'.cell? ⟨w3.heap.size, 4, none⟩ = some (.slice CX.ar M.ram.length CX.cr) ∧ w'.cell? ⟨w3.heap.size, 5, none⟩ = some (.int .u64 M.d.t) ∧ w'.cell? ⟨w3.heap.size, 6, none⟩ = some (.int .u64 M.d.cm) ∧ w'.cell? ⟨w3.heap.size, 7, none⟩ = some (.bool M.d.so) ∧ w'.cell? ⟨w3.heap.size, 8, none⟩ = some (.slice CX.ai M.d.xs.length CX.ci) ∧ w'.cell? ⟨w3.heap.size, 9, none⟩ = some (.slice CX.ao M.d.ys.length CX.co) ∧ w'.cell? ⟨w3.heap.size, 10, none⟩ = some (.int .i64 M.d.ir) ∧ w'.cell? ⟨w3.heap.size, 11, none⟩ = some (.int .u64 M.hd) ∧ w'.cell? ⟨w3.heap.size, 12, none⟩ = some (.bool M.hl) ∧ w'.cell? ⟨w3.heap.size, 13, none⟩ = some (.bool M.wt)) ∧ (w'.cell? ⟨w.heap.size, 0, none⟩ = some (.int .u64 M.pc) ∧ w'.cell? ⟨w.heap.size, 1, none⟩ = some (.slice A.ax M.x.length A.cx) ∧ w'.cell? ⟨w.heap.size, 2, none⟩ = some (.int .i64 M.pr) ∧ w'.cell? ⟨w.heap.size, 3, none⟩ = some (.slice A.ac M.cs.length A.cc) ∧ w'.cell? ⟨w.heap.size, 4, none⟩ = some (.slice A.ar M.ram.length A.cr) ∧ w'.cell? ⟨w.heap.size, 5, none⟩ = some (.int .u64 M.d.t) ∧ w'.cell? ⟨w.heap.size, 6, none⟩ = some (.int .u64 M.d.cm) ∧ w'.cell? ⟨w.heap.size, 7, none⟩ = some (.bool M.d.so) ∧ w'.cell? ⟨w.heap.size, 8, none⟩ = some (.slice A.ai M.d.xs.length A.ci) ∧ w'.cell? ⟨w.heap.size, 9, none⟩ = some (.slice A.ao M.d.ys.length A.co) ∧ w'.cell? ⟨w.heap.size, 10, none⟩ = some (.int .i64 M.d.ir) ∧ w'.cell? ⟨w.heap.size, 11, none⟩ = some (.int .u64 M.hd) ∧ w'.cell? ⟨w.heap.size, 12, none⟩ = some (.bool M.hl) ∧ w'.cell? ⟨w.heap.size, 13, none⟩ = some (.bool M.wt)) ∧ Below w5.heap.size w5 w') := fun w' hb => ⟨cells14 (dstays hb rX5), cells14 (dstays hb rD5), hb⟩
      have PD : Hid (∀ w', Below w5.heap.size w5 w' → Below w5.heap.size w5 w'.drew) := fun w' hb => hb.drew
      have HTZ : Hid (∀ w', Below w5.heap.size w5 w' → Calls Tryz.prog 28 #[.agg #[.int .u64 M.pc, .slice A.ax M.x.length A.cx, .int .i64 M.pr, .slice A.ac M.cs.length A.cc, .slice A.ar M.ram.length A.cr, .int .u64 M.d.t, .int .u64 M.d.cm, .bool M.d.so, .slice A.ai M.d.xs.length A.ci, .slice A.ao M.d.ys.length A.co, .int .i64 M.d.ir, .int .u64 M.hd, .bool M.hl, .bool M.wt]] w' fun e w'' => ∃ C : MA, e = .returned (.agg #[.int .u64 M.pc, .slice C.ax M.x.length C.cx, .int .i64 M.pr, .slice C.ac M.cs.length C.cc, .slice C.ar M.ram.length C.cr, .int .u64 M.d.t, .int .u64 M.d.cm, .bool M.d.so, .slice C.ai M.d.xs.length C.ci, .slice C.ao M.d.ys.length C.co, .int .i64 M.d.ir, .int .u64 M.hd, .bool M.hl, .bool M.wt]) ∧ Hid (Fam w'.heap.size w''.heap.size w'' (mvF M C)) ∧ Below w5.heap.size w5 w'') := fun w' hb => (HTD.out w' (below_trans B5 hb)).mono fun e w'' ⟨C, h1, h2, h3⟩ => ⟨C, h1, h2, below_trans hb h3⟩
      have HEZ : Hid (∀ (C : MA) (B E : Nat) w', Below w5.heap.size w5 w' → Fam B E w' (mvF M C) → Calls Tryz.prog 29 #[.agg #[.int .u64 M.pc, .slice CX.ax M.x.length CX.cx, .int .i64 M.pr, .slice CX.ac M.cs.length CX.cc, .slice CX.ar M.ram.length CX.cr, .int .u64 M.d.t, .int .u64 M.d.cm, .bool M.d.so, .slice CX.ai M.d.xs.length CX.ci, .slice CX.ao M.d.ys.length CX.co, .int .i64 M.d.ir, .int .u64 M.hd, .bool M.hl, .bool M.wt], .agg #[.int .u64 M.pc, .slice C.ax M.x.length C.cx, .int .i64 M.pr, .slice C.ac M.cs.length C.cc, .slice C.ar M.ram.length C.cr, .int .u64 M.d.t, .int .u64 M.d.cm, .bool M.d.so, .slice C.ai M.d.xs.length C.ci, .slice C.ao M.d.ys.length C.co, .int .i64 M.d.ir, .int .u64 M.hd, .bool M.hl, .bool M.wt]] w' fun e w'' => e = .returned (.bool true) ∧ Below w5.heap.size w5 w'') := fun C B E w' hb hf => (eqMachine_same M _ _ w' hl (fX5.below hb).msl hf.msl).mono fun e w'' h => ⟨h.1, below_trans hb h.2⟩
      go_wp2_with fail
      go_region_held3 (fun w' => (w'.cell? ⟨w3.heap.size, 0, none⟩ = some (.int .u64 M.pc) ∧ w'.cell? ⟨w3.heap.size, 1, none⟩ = some (.slice CX.ax M.x.length CX.cx) ∧ w'.cell? ⟨w3.heap.size, 2, none⟩ = some (.int .i64 M.pr) ∧ w'.cell? ⟨w3.heap.size, 3, none⟩ = some (.slice CX.ac M.cs.length CX.cc) ∧ w'.cell? ⟨w3.heap.size, 4, none⟩ = some (.slice CX.ar M.ram.length CX.cr) ∧ w'.cell? ⟨w3.heap.size, 5, none⟩ = some (.int .u64 M.d.t) ∧ w'.cell? ⟨w3.heap.size, 6, none⟩ = some (.int .u64 M.d.cm) ∧ w'.cell? ⟨w3.heap.size, 7, none⟩ = some (.bool M.d.so) ∧ w'.cell? ⟨w3.heap.size, 8, none⟩ = some (.slice CX.ai M.d.xs.length CX.ci) ∧ w'.cell? ⟨w3.heap.size, 9, none⟩ = some (.slice CX.ao M.d.ys.length CX.co) ∧ w'.cell? ⟨w3.heap.size, 10, none⟩ = some (.int .i64 M.d.ir) ∧ w'.cell? ⟨w3.heap.size, 11, none⟩ = some (.int .u64 M.hd) ∧ w'.cell? ⟨w3.heap.size, 12, none⟩ = some (.bool M.hl) ∧ w'.cell? ⟨w3.heap.size, 13, none⟩ = some (.bool M.wt)) ∧ (w'.cell? ⟨w.heap.size, 0, none⟩ = some (.int .u64 M.pc) ∧ w'.cell? ⟨w.heap.size, 1, none⟩ = some (.slice A.ax M.x.length A.cx) ∧ w'.cell? ⟨w.heap.size, 2, none⟩ = some (.int .i64 M.pr) ∧ w'.cell? ⟨w.heap.size, 3, none⟩ = some (.slice A.ac M.cs.length A.cc) ∧ w'.cell? ⟨w.heap.size, 4, none⟩ = some (.slice A.ar M.ram.length A.cr) ∧ w'.cell? ⟨w.heap.size, 5, none⟩ = some (.int .u64 M.d.t) ∧ w'.cell? ⟨w.heap.size, 6, none⟩ = some (.int .u64 M.d.cm) ∧ w'.cell? ⟨w.heap.size, 7, none⟩ = some (.bool M.d.so) ∧ w'.cell? ⟨w.heap.size, 8, none⟩ = some (.slice A.ai M.d.xs.length A.ci) ∧ w'.cell? ⟨w.heap.size, 9, none⟩ = some (.slice A.ao M.d.ys.length A.co) ∧ w'.cell? ⟨w.heap.size, 10, none⟩ = some (.int .i64 M.d.ir) ∧ w'.cell? ⟨w.heap.size, 11, none⟩ = some (.int .u64 M.hd) ∧ w'.cell? ⟨w.heap.size, 12, none⟩ = some (.bool M.hl) ∧ w'.cell? ⟨w.heap.size, 13, none⟩ = some (.bool M.wt)) ∧ Below w5.heap.size w5 w') (first | exact PW.out _ (PD.out _ (by assumption)) | exact PW.out _ (by assumption) | exact PW.out _ (Below.refl _ _).drew) (first | (go_at_call 28; with_reducible refine (HTZ.out _ ?_).mono ?_; (first | assumption | (exact And.right (And.right (by assumption)))); rintro e w8 ⟨CZ, rfl, fz, hb8⟩) | (go_at_call 29; with_reducible refine (HEZ.out _ _ _ _ ?_ fz.out).mono ?_; (first | assumption | (exact And.right (And.right (by assumption)))); rintro e wz ⟨rfl, hbz⟩))
      obtain ⟨w6, hw6⟩ : ∃ w', w' = wz := ⟨_, rfl⟩
      rw [← hw6] at hbz ⊢
      clear hw6 PW PD HTZ HEZ
      have hb6 := hbz
      have hx6 : Below w5.heap.size w5 w6 := hb6
      have m6 : w5.heap.size ≤ w6.heap.size := hb6.size
      have B6 : Below w.heap.size w w6 := below_trans B5 hx6
      have rD6 := dstays hx6 rD5
      have rW6 := dstays hx6 rW5
      have rX6 := dstays hx6 rX5
      have rQ6 := dstays hx6 rQ5
      have fW6 := fW5.below hx6
      have fX6 := fX5.below hx6
      have fQ6 := fQ5.below hx6
      clear cX0 cX1 cX2 cX3 cX4 cX5 cX6 cX7 cX8 cX9 cX10 cX11 cX12 cX13 cD0 cD1 cD2 cD3 cD4 cD5 cD6 cD7 cD8 cD9 cD10 cD11 cD12 cD13
      as_aux_lemma =>
        obtain ⟨cX0, cX1, cX2, cX3, cX4, cX5, cX6, cX7, cX8, cX9, cX10, cX11, cX12, cX13⟩ := cells14 rX6
        go_wp2_with fail
        refine (markMachine_any M _ 1 _ _ _ hl (by omega) (by omega) (by omega) fX6).mono ?_
        rintro e w7 ⟨rfl, fX7, kl7⟩
        have kp7 := kl7.keep fX6
        have B7 : Below w.heap.size w w7 := B6.trans (kp7.below (by omega) (by omega))
        have m7 : w6.heap.size ≤ w7.heap.size := kp7.size
        have rD7 := (kp7.block _ (Array.getElem?_eq_some_iff.1 rD6).1 (by omega)).trans rD6
        have rW7 := (kp7.block _ (Array.getElem?_eq_some_iff.1 rW6).1 (by omega)).trans rW6
        have rX7 := (kp7.block _ (Array.getElem?_eq_some_iff.1 rX6).1 (by omega)).trans rX6
        have rQ7 := (kp7.block _ (Array.getElem?_eq_some_iff.1 rQ6).1 (by omega)).trans rQ6
        have fW7 := fW6.keep kp7 (by omega)
        have fQ7 := fQ6.keep kp7 (by omega)
        have hneg : decide ((1 : Int) + (M.x.length : Int) + (M.cs.length : Int) + (M.ram.length : Int) + (M.d.xs.length : Int) + (M.d.ys.length : Int) < 0) = false := by simp; omega
        clear cX0 cX1 cX2 cX3 cX4 cX5 cX6 cX7 cX8 cX9 cX10 cX11 cX12 cX13
        obtain ⟨cQ0, cQ1, cQ2, cQ3, cQ4, cQ5, cQ6, cQ7, cQ8, cQ9, cQ10, cQ11, cQ12, cQ13⟩ := cells14 rQ7
        obtain ⟨cW0, cW1, cW2, cW3, cW4, cW5, cW6, cW7, cW8, cW9, cW10, cW11, cW12, cW13⟩ := cells14 rW7
        go_wp2_with fail
        refine (eqMachine_same R _ _ _ hrl fQ7.msl fW7.msl).mono ?_
        rintro e w8 ⟨rfl, hb8⟩
        have hx8 : Below w7.heap.size w7 w8 := hb8
        have m8 : w7.heap.size ≤ w8.heap.size := hb8.size
        have B8 : Below w.heap.size w w8 := below_trans B7 hx8
        have rD8 := dstays hx8 rD7
        have rW8 := dstays hx8 rW7
        have rX8 := dstays hx8 rX7
        have rQ8 := dstays hx8 rQ7
        have fW8 := fW7.below hx8
        have fQ8 := fQ7.below hx8
        clear cQ0 cQ1 cQ2 cQ3 cQ4 cQ5 cQ6 cQ7 cQ8 cQ9 cQ10 cQ11 cQ12 cQ13 cW0 cW1 cW2 cW3 cW4 cW5 cW6 cW7 cW8 cW9 cW10 cW11 cW12 cW13
        as_aux_lemma =>
          obtain ⟨cQ0, cQ1, cQ2, cQ3, cQ4, cQ5, cQ6, cQ7, cQ8, cQ9, cQ10, cQ11, cQ12, cQ13⟩ := cells14 rQ8
          go_wp2_with fail
          refine (markMachine_any R _ 1 _ _ _ hrl (by omega) (by omega) (by omega) fQ8).mono ?_
          rintro e w9 ⟨rfl, fQ9, kl9⟩
          have kp9 := kl9.keep fQ8
          have B9 : Below w.heap.size w w9 := B8.trans (kp9.below (by omega) (by omega))
          have m9 : w8.heap.size ≤ w9.heap.size := kp9.size
          have rD9 := (kp9.block _ (Array.getElem?_eq_some_iff.1 rD8).1 (by omega)).trans rD8
          have rW9 := (kp9.block _ (Array.getElem?_eq_some_iff.1 rW8).1 (by omega)).trans rW8
          have rX9 := (kp9.block _ (Array.getElem?_eq_some_iff.1 rX8).1 (by omega)).trans rX8
          have rQ9 := (kp9.block _ (Array.getElem?_eq_some_iff.1 rQ8).1 (by omega)).trans rQ8
          have fW9 := fW8.keep kp9 (by omega)
          have hneg2 : ¬ ((1 : Int) + (R.x.length : Int) + (R.cs.length : Int) + (R.ram.length : Int) + (R.d.xs.length : Int) + (R.d.ys.length : Int) < 0) := by omega
          have hne2 : ((1 : Int) + (R.x.length : Int) + (R.cs.length : Int) + (R.ram.length : Int) + (R.d.xs.length : Int) + (R.d.ys.length : Int) != 1 + (R.x.length : Int) + (R.cs.length : Int) + (R.ram.length : Int) + (R.d.xs.length : Int) + (R.d.ys.length : Int)) = false := by simp
          clear cQ0 cQ1 cQ2 cQ3 cQ4 cQ5 cQ6 cQ7 cQ8 cQ9 cQ10 cQ11 cQ12 cQ13
          obtain ⟨cQ0, cQ1, cQ2, cQ3, cQ4, cQ5, cQ6, cQ7, cQ8, cQ9, cQ10, cQ11, cQ12, cQ13⟩ := cells14 rQ9
          go_wp2_with fail
          refine (heldMachine_any R _ 1 _ hrl (by omega) (by omega) fQ9.rsl.1 fQ9.rsl.2.1 fQ9.rsl.2.2.1 fQ9.rsl.2.2.2.1 fQ9.rsl.2.2.2.2).mono ?_
          rintro e w10 ⟨rfl, hb10⟩
          have hx10 : Below w9.heap.size w9 w10 := hb10
          have m10 : w9.heap.size ≤ w10.heap.size := hb10.size
          have B10 : Below w.heap.size w w10 := below_trans B9 hx10
          have rD10 := dstays hx10 rD9
          have rW10 := dstays hx10 rW9
          have rX10 := dstays hx10 rX9
          have rQ10 := dstays hx10 rQ9
          have fW10 := fW9.below hx10
          have fQ10 := fQ9.below hx10
          clear cQ0 cQ1 cQ2 cQ3 cQ4 cQ5 cQ6 cQ7 cQ8 cQ9 cQ10 cQ11 cQ12 cQ13
          as_aux_lemma =>
            obtain ⟨cD0, cD1, cD2, cD3, cD4, cD5, cD6, cD7, cD8, cD9, cD10, cD11, cD12, cD13⟩ := cells14 rD10
            go_wp2_with fail
            refine (HTD.out _ B10).mono ?_
            rintro e w11 ⟨CP, rfl, fP11, hb11⟩
            have hx11 : Below w10.heap.size w10 w11 := hb11
            have m11 : w10.heap.size ≤ w11.heap.size := hb11.size
            have B11 : Below w.heap.size w w11 := below_trans B10 hx11
            have rD11 := dstays hx11 rD10
            have rW11 := dstays hx11 rW10
            have rX11 := dstays hx11 rX10
            have rQ11 := dstays hx11 rQ10
            have fW11 := fW10.below hx11
            have fQ11 := fQ10.below hx11
            clear cD0 cD1 cD2 cD3 cD4 cD5 cD6 cD7 cD8 cD9 cD10 cD11 cD12 cD13
            go_wp2_with fail
            refine (HI.out _ _ B11 fP11.msl fP11.good).mono ?_
            rintro e w12 ⟨CK, rfl, fK12, hb12⟩
            have hx12 : Below w11.heap.size w11 w12 := hb12
            have m12 : w11.heap.size ≤ w12.heap.size := hb12.size
            have B12 : Below w.heap.size w w12 := below_trans B11 hx12
            have rD12 := dstays hx12 rD11
            have rW12 := dstays hx12 rW11
            have rX12 := dstays hx12 rX11
            have rQ12 := dstays hx12 rQ11
            have fW12 := fW11.below hx12
            have fQ12 := fQ11.below hx12
            have fP12 := fP11.below hx12
            have cW0 := fun o => (cells14 (row_al8 rW12 o)).1
            have cW1 := fun o => (cells14 (row_al8 rW12 o)).2.1
            have cW2 := fun o => (cells14 (row_al8 rW12 o)).2.2.1
            have cW3 := fun o => (cells14 (row_al8 rW12 o)).2.2.2.1
            have cW4 := fun o => (cells14 (row_al8 rW12 o)).2.2.2.2.1
            have cW5 := fun o => (cells14 (row_al8 rW12 o)).2.2.2.2.2.1
            have cW6 := fun o => (cells14 (row_al8 rW12 o)).2.2.2.2.2.2.1
            have cW7 := fun o => (cells14 (row_al8 rW12 o)).2.2.2.2.2.2.2.1
            have cW8 := fun o => (cells14 (row_al8 rW12 o)).2.2.2.2.2.2.2.2.1
            have cW9 := fun o => (cells14 (row_al8 rW12 o)).2.2.2.2.2.2.2.2.2.1
            have cW10 := fun o => (cells14 (row_al8 rW12 o)).2.2.2.2.2.2.2.2.2.2.1
            have cW11 := fun o => (cells14 (row_al8 rW12 o)).2.2.2.2.2.2.2.2.2.2.2.1
            have cW12 := fun o => (cells14 (row_al8 rW12 o)).2.2.2.2.2.2.2.2.2.2.2.2.1
            have cW13 := fun o => (cells14 (row_al8 rW12 o)).2.2.2.2.2.2.2.2.2.2.2.2.2
            go_wp2_with fail
            refine (eqMachine_same R _ _ _ hrl (fK12.below ((Below.refl _ _).alloc (Nat.le_refl _) _)).msl (fW12.below ((Below.refl _ _).alloc (Nat.le_refl _) _)).msl).mono ?_
            rintro e w13 ⟨rfl, hb13⟩
            have hx13 : Below w12.heap.size w12 w13 := below_trans ((Below.refl _ _).alloc (Nat.le_refl _) _) hb13
            have m13 : w12.heap.size + 1 ≤ w13.heap.size := by have h := hb13.size; rw [World.size_alloc] at h; exact h
            have B13 : Below w.heap.size w w13 := below_trans B12 hx13
            have rD13 := dstays hx13 rD12
            have rW13 := dstays hx13 rW12
            have rX13 := dstays hx13 rX12
            have rQ13 := dstays hx13 rQ12
            have rK13 : w13.heap[w12.heap.size]? = some (.cells #[.int .u64 R.pc, .slice CK.ax R.x.length CK.cx, .int .i64 R.pr, .slice CK.ac R.cs.length CK.cc, .slice CK.ar R.ram.length CK.cr, .int .u64 R.d.t, .int .u64 R.d.cm, .bool R.d.so, .slice CK.ai R.d.xs.length CK.ci, .slice CK.ao R.d.ys.length CK.co, .int .i64 R.d.ir, .int .u64 R.hd, .bool R.hl, .bool R.wt] 29 (0, 0)) := dstays hb13 (heap_alloc_new _ _)
            have fW13 := fW12.below hx13
            have fQ13 := fQ12.below hx13
            have fK13 := fK12.below hx13
            clear cW0 cW1 cW2 cW3 cW4 cW5 cW6 cW7 cW8 cW9 cW10 cW11 cW12 cW13
            obtain ⟨cQ0, cQ1, cQ2, cQ3, cQ4, cQ5, cQ6, cQ7, cQ8, cQ9, cQ10, cQ11, cQ12, cQ13⟩ := cells14 rQ13
            go_wp2_with fail
            refine (heldMachine_any R _ 1 _ hrl (by omega) (by omega) fQ13.rsl.1 fQ13.rsl.2.1 fQ13.rsl.2.2.1 fQ13.rsl.2.2.2.1 fQ13.rsl.2.2.2.2).mono ?_
            rintro e w14 ⟨rfl, hb14⟩
            have hx14 : Below w13.heap.size w13 w14 := hb14
            have m14 : w13.heap.size ≤ w14.heap.size := hb14.size
            have B14 : Below w.heap.size w w14 := below_trans B13 hx14
            have rD14 := dstays hx14 rD13
            have rW14 := dstays hx14 rW13
            have rX14 := dstays hx14 rX13
            have rQ14 := dstays hx14 rQ13
            have rK14 := dstays hx14 rK13
            have fQ14 := fQ13.below hx14
            clear cQ0 cQ1 cQ2 cQ3 cQ4 cQ5 cQ6 cQ7 cQ8 cQ9 cQ10 cQ11 cQ12 cQ13
            go_wp2_with fail
            go_ret
            exact ⟨rfl, B14⟩
  · have hsz : szM M.x.length M.cs.length M.ram.length M.d.xs.length M.d.ys.length 1048576 = -1 := by unfold szM; rw [if_neg (by omega)]
    rw [hsz] at HSZ
    clear hin hsz hsm hT hA hX hH
    go_enter Tryz.func7, Tryz.ntmps7
    go_wp2_with fail
    refine (HSZ.out _).mono ?_
    rintro e w0 ⟨rfl, hb0⟩
    go_wp2_with fail
    go_ret
    exact ⟨rfl, below_trans ((Below.refl _ _).alloc (Nat.le_refl _) _) hb0⟩

end Go.Proofs.YtilhcfhcdplicaaGreatDoor.fnExactAccess
