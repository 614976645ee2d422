/- The walk of laws.FnExactTold: it returns true at every argument, and writes nothing that was there. By tools/genLawEM.py. -/
import Derived.Test.YtcdjfiljlahaeaaMacV
import Derived.Test.YtcdjfiljlahaeaaToldC
import Derived.Deep.RegionHeld3
namespace Go.Proofs.Ytcdjfiljlahaeaa.fnExactTold
open Go.RowKit
set_option linter.unusedVariables false

set_option maxRecDepth 100000 in
set_option maxHeartbeats 6400000 in
theorem walk (M : MV) (A : MA) (w : World) (hin : MIn w M A) :
    Calls Try.prog 4 #[.agg #[.int .u64 M.pc, .slice A.ax M.x.length A.cx, .int .i64 M.pr, .slice A.ac M.cs.length A.cc, .slice A.ar M.ram.length A.cr, .int .u64 M.d.t, .int .u64 M.d.cm, .bool M.d.so, .slice A.ai M.d.xs.length A.ci, .slice A.ao M.d.ys.length A.co, .int .i64 M.d.ir, .int .u64 M.hd, .bool M.hl, .bool M.wt]] w fun e w' => e = .returned (.bool true) ∧ Below w.heap.size w w' := by
  have HSZ : Hid (∀ w, Calls Try.prog 15 #[.agg #[.int .u64 M.pc, .slice A.ax M.x.length A.cx, .int .i64 M.pr, .slice A.ac M.cs.length A.cc, .slice A.ar M.ram.length A.cr, .int .u64 M.d.t, .int .u64 M.d.cm, .bool M.d.so, .slice A.ai M.d.xs.length A.ci, .slice A.ao M.d.ys.length A.co, .int .i64 M.d.ir, .int .u64 M.hd, .bool M.hl, .bool M.wt], .int .i64 1048576] w fun e w' => e = .returned (.int .i64 (szM M.x.length M.cs.length M.ram.length M.d.xs.length M.d.ys.length 1048576)) ∧ Below w.heap.size w w') := fun w => szMachine_any _ _ _ _ _ _ _ _ _ _ _ _ _ _ _ _ _ _ _ _ _ _ _ _ 1048576 w (by omega) (by omega) hin.lx hin.lcs hin.lram hin.lxs hin.lys
  by_cases hsm : M.x.length + M.cs.length + M.ram.length + M.d.xs.length + M.d.ys.length ≤ 1048576
  · have hl : MLen M := ⟨by omega, by omega, by omega, by omega, by omega⟩
    have hsz : szM M.x.length M.cs.length M.ram.length M.d.xs.length M.d.ys.length 1048576 = 1048576 - M.x.length - M.cs.length - M.ram.length - M.d.xs.length - M.d.ys.length := by unfold szM; rw [if_pos (by omega)]
    rw [hsz] at HSZ
    have d0 : decide ((1048576 : Int) - (M.x.length : Int) - (M.cs.length : Int) - (M.ram.length : Int) - (M.d.xs.length : Int) - (M.d.ys.length : Int) < 0) = false := by simp; omega
    have HTD : Hid (∀ w', Below w.heap.size w w' → Calls Try.prog 17 #[.agg #[.int .u64 M.pc, .slice A.ax M.x.length A.cx, .int .i64 M.pr, .slice A.ac M.cs.length A.cc, .slice A.ar M.ram.length A.cr, .int .u64 M.d.t, .int .u64 M.d.cm, .bool M.d.so, .slice A.ai M.d.xs.length A.ci, .slice A.ao M.d.ys.length A.co, .int .i64 M.d.ir, .int .u64 M.hd, .bool M.hl, .bool M.wt]] w' fun e w'' => ∃ C : MA, e = .returned (.agg #[.int .u64 M.pc, .slice C.ax M.x.length C.cx, .int .i64 M.pr, .slice C.ac M.cs.length C.cc, .slice C.ar M.ram.length C.cr, .int .u64 M.d.t, .int .u64 M.d.cm, .bool M.d.so, .slice C.ai M.d.xs.length C.ci, .slice C.ao M.d.ys.length C.co, .int .i64 M.d.ir, .int .u64 M.hd, .bool M.hl, .bool M.wt]) ∧ Fam w'.heap.size w''.heap.size w'' (mvF M C) ∧ Below w'.heap.size w' w'') := fun w' hb => (toMachine_any M A w' hl (hin.sl.below hb)).mono fun e w'' ⟨gx, gc, gr, gi, go, h1, h2, h3⟩ => ⟨_, h1, h2, h3⟩
    have HS : Hid (∀ (C : MA) (w' : World), Below w.heap.size w w' → MSl w' M C → Calls Try.prog 16 #[.agg #[.int .u64 M.pc, .slice C.ax M.x.length C.cx, .int .i64 M.pr, .slice C.ac M.cs.length C.cc, .slice C.ar M.ram.length C.cr, .int .u64 M.d.t, .int .u64 M.d.cm, .bool M.d.so, .slice C.ai M.d.xs.length C.ci, .slice C.ao M.d.ys.length C.co, .int .i64 M.d.ir, .int .u64 M.hd, .bool M.hl, .bool M.wt]] w' fun e w'' => e = .returned (.tuple #[.int .i64 (tellM M).1, .int .u64 (tellM M).2.1, .int .u64 (tellM M).2.2]) ∧ Below w'.heap.size w' w'') := fun C w' hbw k => specTold_any M C w' hl k (fun j => word_bd9 hin.wcs j)
    have HI : Hid (∀ (C : MA) (w' : World), Below w.heap.size w w' → MSl w' M C → Calls Try.prog 18 #[.agg #[.int .u64 M.pc, .slice C.ax M.x.length C.cx, .int .i64 M.pr, .slice C.ac M.cs.length C.cc, .slice C.ar M.ram.length C.cr, .int .u64 M.d.t, .int .u64 M.d.cm, .bool M.d.so, .slice C.ai M.d.xs.length C.ci, .slice C.ao M.d.ys.length C.co, .int .i64 M.d.ir, .int .u64 M.hd, .bool M.hl, .bool M.wt]] w' fun e w'' => e = .returned (.tuple #[.int .i64 (tellM M).1, .int .u64 (tellM M).2.1, .int .u64 (tellM M).2.2]) ∧ Below w'.heap.size w' w'') := fun C w' hbw k => implTold_any M C w' hl k (fun j => word_bd9 hin.wcs j)
    generalize tellM M = RR at *
    obtain ⟨r0, r1, r2⟩ := RR
    dsimp only at HS HI
    have t0 : (r0 != r0) = false := by simp
    have t1 : (r1 != r1) = false := by simp
    have t2 : (r2 != r2) = false := by simp
    clear hin hsz hsm

    go_enter Try.func4, Try.ntmps4
    go_wp2_with fail
    refine (HSZ.out _).mono ?_
    rintro e w0 ⟨rfl, hb0⟩
    have hx0 : Below w.heap.size w w0 := below_trans ((Below.refl _ _).alloc (Nat.le_refl _) _) hb0
    have B0 : Below w.heap.size w w0 := hx0
    have m0 : w.heap.size + 1 ≤ w0.heap.size := by have h := hb0.size; rw [World.size_alloc] at h; exact h
    have rD0 : w0.heap[w.heap.size]? = some (.cells #[.int .u64 M.pc, .slice A.ax M.x.length A.cx, .int .i64 M.pr, .slice A.ac M.cs.length A.cc, .slice A.ar M.ram.length A.cr, .int .u64 M.d.t, .int .u64 M.d.cm, .bool M.d.so, .slice A.ai M.d.xs.length A.ci, .slice A.ao M.d.ys.length A.co, .int .i64 M.d.ir, .int .u64 M.hd, .bool M.hl, .bool M.wt] 39 (0, 0)) := dstays hb0 (heap_alloc_new _ _)
    obtain ⟨cD0, cD1, cD2, cD3, cD4, cD5, cD6, cD7, cD8, cD9, cD10, cD11, cD12, cD13⟩ := cells14 rD0
    go_wp2_with fail
    refine (HTD.out _ B0).mono ?_
    rintro e w1 ⟨CA, rfl, fA1, hb1⟩
    have hx1 : Below w0.heap.size w0 w1 := hb1
    have m1 : w0.heap.size ≤ w1.heap.size := hb1.size
    have B1 : Below w.heap.size w w1 := below_trans B0 hx1
    have rD1 := dstays hx1 rD0
    clear cD0 cD1 cD2 cD3 cD4 cD5 cD6 cD7 cD8 cD9 cD10 cD11 cD12 cD13
    go_wp2_with fail
    refine (HS.out _ _ B1 fA1.msl).mono ?_
    rintro e w2 ⟨rfl, hb2⟩
    have hx2 : Below w1.heap.size w1 w2 := hb2
    have m2 : w1.heap.size ≤ w2.heap.size := hb2.size
    have B2 : Below w.heap.size w w2 := below_trans B1 hx2
    have rD2 := dstays hx2 rD1
    have fA2 := fA1.below hx2
    obtain ⟨cD0, cD1, cD2, cD3, cD4, cD5, cD6, cD7, cD8, cD9, cD10, cD11, cD12, cD13⟩ := cells14 rD2
    go_wp2_with fail
    refine (HTD.out _ B2).mono ?_
    rintro e w3 ⟨CX, rfl, fX3, hb3⟩
    have hx3 : Below w2.heap.size w2 w3 := hb3
    have m3 : w2.heap.size ≤ w3.heap.size := hb3.size
    have B3 : Below w.heap.size w w3 := below_trans B2 hx3
    have rD3 := dstays hx3 rD2
    clear cD0 cD1 cD2 cD3 cD4 cD5 cD6 cD7 cD8 cD9 cD10 cD11 cD12 cD13
    go_wp2_with fail
    refine (HI.out _ _ (B3.alloc B3.size _) (fX3.below ((Below.refl _ _).alloc (Nat.le_refl _) _)).msl).mono ?_
    rintro e w4 ⟨rfl, hb4⟩
    have hx4 : Below w3.heap.size w3 w4 := below_trans ((Below.refl _ _).alloc (Nat.le_refl _) _) hb4
    have m4 : w3.heap.size + 1 ≤ w4.heap.size := by have h := hb4.size; rw [World.size_alloc] at h; exact h
    have B4 : Below w.heap.size w w4 := below_trans B3 hx4
    have rD4 := dstays hx4 rD3
    have rX4 : w4.heap[w3.heap.size]? = some (.cells #[.int .u64 M.pc, .slice CX.ax M.x.length CX.cx, .int .i64 M.pr, .slice CX.ac M.cs.length CX.cc, .slice CX.ar M.ram.length CX.cr, .int .u64 M.d.t, .int .u64 M.d.cm, .bool M.d.so, .slice CX.ai M.d.xs.length CX.ci, .slice CX.ao M.d.ys.length CX.co, .int .i64 M.d.ir, .int .u64 M.hd, .bool M.hl, .bool M.wt] 30 (0, 0)) := dstays hb4 (heap_alloc_new _ _)
    have fX4 := fX3.below hx4
    obtain ⟨cX0, cX1, cX2, cX3, cX4, cX5, cX6, cX7, cX8, cX9, cX10, cX11, cX12, cX13⟩ := cells14 rX4
    obtain ⟨cD0, cD1, cD2, cD3, cD4, cD5, cD6, cD7, cD8, cD9, cD10, cD11, cD12, cD13⟩ := cells14 rD4
    have PW : Hid (∀ w', Below w4.heap.size w4 w' → (w'.cell? ⟨w3.heap.size, 0, none⟩ = some (.int .u64 M.pc) ∧ w'.cell? ⟨w3.heap.size, 1, none⟩ = some (.slice CX.ax M.x.length CX.cx) ∧ w'.cell? ⟨w3.heap.size, 2, none⟩ = some (.int .i64 M.pr) ∧ w'.cell? ⟨w3.heap.size, 3, none⟩ = some (.slice CX.ac M.cs.length CX.cc) ∧ w'.cell? ⟨w3.heap.size, 4, none⟩ = some (.slice CX.ar M.ram.length CX.cr) ∧ w'.cell? ⟨w3.heap.size, 5, none⟩ = some (.int .u64 M.d.t) ∧ w'.cell? ⟨w3.heap.size, 6, none⟩ = some (.int .u64 M.d.cm) ∧ w'.cell? ⟨w3.heap.size, 7, none⟩ = some (.bool M.d.so) ∧ w'.cell? ⟨w3.heap.size, 8, none⟩ = some (.slice CX.ai M.d.xs.length CX.ci) ∧ w'.cell? ⟨w3.heap.size, 9, none⟩ = some (.slice CX.ao M.d.ys.length CX.co) ∧ w'.cell? ⟨w3.heap.size, 10, none⟩ = some (.int .i64 M.d.ir) ∧ w'.cell? ⟨w3.heap.size, 11, none⟩ = some (.int .u64 M.hd) ∧ w'.cell? ⟨w3.heap.size, 12, none⟩ = some (.bool M.hl) ∧ w'.cell? ⟨w3.heap.size, 13, none⟩ = some (.bool M.wt)) ∧ (w'.cell? ⟨w.heap.size, 0, none⟩ = some (.int .u64 M.pc) ∧ w'.cell? ⟨w.heap.size, 1, none⟩ = some (.slice A.ax M.x.length A.cx) ∧ w'.cell? ⟨w.heap.size, 2, none⟩ = some (.int .i64 M.pr) ∧ w'.cell? ⟨w.heap.size, 3, none⟩ = some (.slice A.ac M.cs.length A.cc) ∧ w'.cell? ⟨w.heap.size, 4, none⟩ = some (.slice A.ar M.ram.length A.cr) ∧ w'.cell? ⟨w.heap.size, 5, none⟩ = some (.int .u64 M.d.t) ∧ w'.cell? ⟨w.heap.size, 6, none⟩ = some (.int .u64 M.d.cm) ∧ w'.cell? ⟨w.heap.size, 7, none⟩ = some (.bool M.d.so) ∧ w'.cell? ⟨w.heap.size, 8, none⟩ = some (.slice A.ai M.d.xs.length A.ci) ∧ w'.cell? ⟨w.heap.size, 9, none⟩ = some (.slice A.ao M.d.ys.length A.co) ∧ w'.cell? ⟨w.heap.size, 10, none⟩ = some (.int .i64 M.d.ir) ∧ w'.cell? ⟨w.heap.size, 11, none⟩ = some (.int .u64 M.hd) ∧ w'.cell? ⟨w.heap.size, 12, none⟩ = some (.bool M.hl) ∧ w'.cell? ⟨w.heap.size, 13, none⟩ = some (.bool M.wt)) ∧ Below w4.heap.size w4 w') := fun w' hb => ⟨cells14 (dstays hb rX4), cells14 (dstays hb rD4), hb⟩
    have PD : Hid (∀ w', Below w4.heap.size w4 w' → Below w4.heap.size w4 w'.drew) := fun w' hb => hb.drew
    have HTZ : Hid (∀ w', Below w4.heap.size w4 w' → Calls Try.prog 17 #[.agg #[.int .u64 M.pc, .slice A.ax M.x.length A.cx, .int .i64 M.pr, .slice A.ac M.cs.length A.cc, .slice A.ar M.ram.length A.cr, .int .u64 M.d.t, .int .u64 M.d.cm, .bool M.d.so, .slice A.ai M.d.xs.length A.ci, .slice A.ao M.d.ys.length A.co, .int .i64 M.d.ir, .int .u64 M.hd, .bool M.hl, .bool M.wt]] w' fun e w'' => ∃ C : MA, e = .returned (.agg #[.int .u64 M.pc, .slice C.ax M.x.length C.cx, .int .i64 M.pr, .slice C.ac M.cs.length C.cc, .slice C.ar M.ram.length C.cr, .int .u64 M.d.t, .int .u64 M.d.cm, .bool M.d.so, .slice C.ai M.d.xs.length C.ci, .slice C.ao M.d.ys.length C.co, .int .i64 M.d.ir, .int .u64 M.hd, .bool M.hl, .bool M.wt]) ∧ Hid (Fam w'.heap.size w''.heap.size w'' (mvF M C)) ∧ Below w4.heap.size w4 w'') := fun w' hb => (HTD.out w' (below_trans B4 hb)).mono fun e w'' ⟨C, h1, h2, h3⟩ => ⟨C, h1, h2, below_trans hb h3⟩
    have HEZ : Hid (∀ (C : MA) (B E : Nat) w', Below w4.heap.size w4 w' → Fam B E w' (mvF M C) → Calls Try.prog 19 #[.agg #[.int .u64 M.pc, .slice CX.ax M.x.length CX.cx, .int .i64 M.pr, .slice CX.ac M.cs.length CX.cc, .slice CX.ar M.ram.length CX.cr, .int .u64 M.d.t, .int .u64 M.d.cm, .bool M.d.so, .slice CX.ai M.d.xs.length CX.ci, .slice CX.ao M.d.ys.length CX.co, .int .i64 M.d.ir, .int .u64 M.hd, .bool M.hl, .bool M.wt], .agg #[.int .u64 M.pc, .slice C.ax M.x.length C.cx, .int .i64 M.pr, .slice C.ac M.cs.length C.cc, .slice C.ar M.ram.length C.cr, .int .u64 M.d.t, .int .u64 M.d.cm, .bool M.d.so, .slice C.ai M.d.xs.length C.ci, .slice C.ao M.d.ys.length C.co, .int .i64 M.d.ir, .int .u64 M.hd, .bool M.hl, .bool M.wt]] w' fun e w'' => e = .returned (.bool true) ∧ Below w4.heap.size w4 w'') := fun C B E w' hb hf => (eqMachine_same M _ _ w' hl (fX4.below hb).msl hf.msl).mono fun e w'' h => ⟨h.1, below_trans hb h.2⟩
    go_wp2_with fail
    go_region_held3 (fun w' => (w'.cell? ⟨w3.heap.size, 0, none⟩ = some (.int .u64 M.pc) ∧ w'.cell? ⟨w3.heap.size, 1, none⟩ = some (.slice CX.ax M.x.length CX.cx) ∧ w'.cell? ⟨w3.heap.size, 2, none⟩ = some (.int .i64 M.pr) ∧ w'.cell? ⟨w3.heap.size, 3, none⟩ = some (.slice CX.ac M.cs.length CX.cc) ∧ w'.cell? ⟨w3.heap.size, 4, none⟩ = some (.slice CX.ar M.ram.length CX.cr) ∧ w'.cell? ⟨w3.heap.size, 5, none⟩ = some (.int .u64 M.d.t) ∧ w'.cell? ⟨w3.heap.size, 6, none⟩ = some (.int .u64 M.d.cm) ∧ w'.cell? ⟨w3.heap.size, 7, none⟩ = some (.bool M.d.so) ∧ w'.cell? ⟨w3.heap.size, 8, none⟩ = some (.slice CX.ai M.d.xs.length CX.ci) ∧ w'.cell? ⟨w3.heap.size, 9, none⟩ = some (.slice CX.ao M.d.ys.length CX.co) ∧ w'.cell? ⟨w3.heap.size, 10, none⟩ = some (.int .i64 M.d.ir) ∧ w'.cell? ⟨w3.heap.size, 11, none⟩ = some (.int .u64 M.hd) ∧ w'.cell? ⟨w3.heap.size, 12, none⟩ = some (.bool M.hl) ∧ w'.cell? ⟨w3.heap.size, 13, none⟩ = some (.bool M.wt)) ∧ (w'.cell? ⟨w.heap.size, 0, none⟩ = some (.int .u64 M.pc) ∧ w'.cell? ⟨w.heap.size, 1, none⟩ = some (.slice A.ax M.x.length A.cx) ∧ w'.cell? ⟨w.heap.size, 2, none⟩ = some (.int .i64 M.pr) ∧ w'.cell? ⟨w.heap.size, 3, none⟩ = some (.slice A.ac M.cs.length A.cc) ∧ w'.cell? ⟨w.heap.size, 4, none⟩ = some (.slice A.ar M.ram.length A.cr) ∧ w'.cell? ⟨w.heap.size, 5, none⟩ = some (.int .u64 M.d.t) ∧ w'.cell? ⟨w.heap.size, 6, none⟩ = some (.int .u64 M.d.cm) ∧ w'.cell? ⟨w.heap.size, 7, none⟩ = some (.bool M.d.so) ∧ w'.cell? ⟨w.heap.size, 8, none⟩ = some (.slice A.ai M.d.xs.length A.ci) ∧ w'.cell? ⟨w.heap.size, 9, none⟩ = some (.slice A.ao M.d.ys.length A.co) ∧ w'.cell? ⟨w.heap.size, 10, none⟩ = some (.int .i64 M.d.ir) ∧ w'.cell? ⟨w.heap.size, 11, none⟩ = some (.int .u64 M.hd) ∧ w'.cell? ⟨w.heap.size, 12, none⟩ = some (.bool M.hl) ∧ w'.cell? ⟨w.heap.size, 13, none⟩ = some (.bool M.wt)) ∧ Below w4.heap.size w4 w') (first | exact PW.out _ (PD.out _ (by assumption)) | exact PW.out _ (by assumption) | exact PW.out _ (Below.refl _ _).drew) (first | (go_at_call 17; with_reducible refine (HTZ.out _ ?_).mono ?_; (first | assumption | (exact And.right (And.right (by assumption)))); rintro e w8 ⟨CZ, rfl, fz, hb8⟩) | (go_at_call 19; with_reducible refine (HEZ.out _ _ _ _ ?_ fz.out).mono ?_; (first | assumption | (exact And.right (And.right (by assumption)))); rintro e wz ⟨rfl, hbz⟩))
    obtain ⟨w5, hw5⟩ : ∃ w', w' = wz := ⟨_, rfl⟩
    rw [← hw5] at hbz ⊢
    clear hw5 PW PD HTZ HEZ
    have hb5 := hbz
    have hx5 : Below w4.heap.size w4 w5 := hb5
    have m5 : w4.heap.size ≤ w5.heap.size := hb5.size
    have B5 : Below w.heap.size w w5 := below_trans B4 hx5
    have rD5 := dstays hx5 rD4
    have rX5 := dstays hx5 rX4
    have fX5 := fX4.below hx5
    clear cX0 cX1 cX2 cX3 cX4 cX5 cX6 cX7 cX8 cX9 cX10 cX11 cX12 cX13 cD0 cD1 cD2 cD3 cD4 cD5 cD6 cD7 cD8 cD9 cD10 cD11 cD12 cD13
    go_wp2_with fail
    go_ret
    exact ⟨rfl, B5⟩
  · have hsz : szM M.x.length M.cs.length M.ram.length M.d.xs.length M.d.ys.length 1048576 = -1 := by unfold szM; rw [if_neg (by omega)]
    rw [hsz] at HSZ
    clear hin hsz hsm
    go_enter Try.func4, Try.ntmps4
    go_wp2_with fail
    refine (HSZ.out _).mono ?_
    rintro e w0 ⟨rfl, hb0⟩
    go_wp2_with fail
    go_ret
    exact ⟨rfl, below_trans ((Below.refl _ _).alloc (Nat.le_refl _) _) hb0⟩

end Go.Proofs.Ytcdjfiljlahaeaa.fnExactTold
