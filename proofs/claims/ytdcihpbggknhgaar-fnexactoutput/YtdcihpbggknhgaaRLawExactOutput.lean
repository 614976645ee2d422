/- The walk of laws.FnExactOutput: it returns true at every argument, and writes nothing that was there. By tools/genLawEM.py. -/
import Derived.Test.YtdcihpbggknhgaaRMacV
import Derived.Test.YtdcihpbggknhgaaROutC
import Derived.Deep.RegionHeld3
namespace Go.Proofs.YtdcihpbggknhgaaR.fnExactOutput
open Go.RowKit
set_option linter.unusedVariables false

set_option maxRecDepth 100000 in
set_option maxHeartbeats 6400000 in
theorem walk (M : MV) (A : MA) (w : World) (hin : MIn w M A) :
    Calls Try.prog 4 #[.agg #[.int .u64 M.pc, .slice A.ax M.x.length A.cx, .int .i64 M.pr, .slice A.ac M.cs.length A.cc, .slice A.ar M.ram.length A.cr, .int .u64 M.d.t, .int .u64 M.d.cm, .bool M.d.so, .slice A.ai M.d.xs.length A.ci, .slice A.ao M.d.ys.length A.co, .int .i64 M.d.ir, .int .u64 M.hd, .bool M.hl, .bool M.wt]] w fun e w' => e = .returned (.bool true) ∧ Below w.heap.size w w' := by
  have HSZ : Hid (∀ w, Calls Try.prog 5 #[.agg #[.int .u64 M.pc, .slice A.ax M.x.length A.cx, .int .i64 M.pr, .slice A.ac M.cs.length A.cc, .slice A.ar M.ram.length A.cr, .int .u64 M.d.t, .int .u64 M.d.cm, .bool M.d.so, .slice A.ai M.d.xs.length A.ci, .slice A.ao M.d.ys.length A.co, .int .i64 M.d.ir, .int .u64 M.hd, .bool M.hl, .bool M.wt], .int .i64 1048576] w fun e w' => e = .returned (.int .i64 (szM M.x.length M.cs.length M.ram.length M.d.xs.length M.d.ys.length 1048576)) ∧ Below w.heap.size w w') := fun w => szMachine_any _ _ _ _ _ _ _ _ _ _ _ _ _ _ _ _ _ _ _ _ _ _ _ _ 1048576 w (by omega) (by omega) hin.lx hin.lcs hin.lram hin.lxs hin.lys
  by_cases hsm : M.x.length + M.cs.length + M.ram.length + M.d.xs.length + M.d.ys.length ≤ 1048576
  · have hl : MLen M := ⟨by omega, by omega, by omega, by omega, by omega⟩
    have hsz : szM M.x.length M.cs.length M.ram.length M.d.xs.length M.d.ys.length 1048576 = 1048576 - M.x.length - M.cs.length - M.ram.length - M.d.xs.length - M.d.ys.length := by unfold szM; rw [if_pos (by omega)]
    rw [hsz] at HSZ
    have d0 : decide ((1048576 : Int) - (M.x.length : Int) - (M.cs.length : Int) - (M.ram.length : Int) - (M.d.xs.length : Int) - (M.d.ys.length : Int) < 0) = false := by simp; omega
    have HTD : Hid (∀ w', Below w.heap.size w w' → Calls Try.prog 7 #[.agg #[.int .u64 M.pc, .slice A.ax M.x.length A.cx, .int .i64 M.pr, .slice A.ac M.cs.length A.cc, .slice A.ar M.ram.length A.cr, .int .u64 M.d.t, .int .u64 M.d.cm, .bool M.d.so, .slice A.ai M.d.xs.length A.ci, .slice A.ao M.d.ys.length A.co, .int .i64 M.d.ir, .int .u64 M.hd, .bool M.hl, .bool M.wt]] w' fun e w'' => ∃ C : MA, e = .returned (.agg #[.int .u64 M.pc, .slice C.ax M.x.length C.cx, .int .i64 M.pr, .slice C.ac M.cs.length C.cc, .slice C.ar M.ram.length C.cr, .int .u64 M.d.t, .int .u64 M.d.cm, .bool M.d.so, .slice C.ai M.d.xs.length C.ci, .slice C.ao M.d.ys.length C.co, .int .i64 M.d.ir, .int .u64 M.hd, .bool M.hl, .bool M.wt]) ∧ Fam w'.heap.size w''.heap.size w'' (mvF M C) ∧ Below w'.heap.size w' w'') := fun w' hb => (toMachine_any M A w' hl (hin.sl.below hb)).mono fun e w'' ⟨gx, gc, gr, gi, go, h1, h2, h3⟩ => ⟨_, h1, h2, h3⟩
    have HS : Hid (∀ (C : MA) (w' : World), Below w.heap.size w w' → MSl w' M C → Calls Try.prog 10 #[.agg #[.int .u64 M.pc, .slice C.ax M.x.length C.cx, .int .i64 M.pr, .slice C.ac M.cs.length C.cc, .slice C.ar M.ram.length C.cr, .int .u64 M.d.t, .int .u64 M.d.cm, .bool M.d.so, .slice C.ai M.d.xs.length C.ci, .slice C.ao M.d.ys.length C.co, .int .i64 M.d.ir, .int .u64 M.hd, .bool M.hl, .bool M.wt]] w' fun e w'' => ∃ (a : Option Addr) (c : Nat), e = .returned (.slice a (outM M).length c) ∧ Fam w'.heap.size w''.heap.size w'' [bRow a (outM M).length c (outM M)] ∧ Below w'.heap.size w' w'') := fun C w' hbw k => (specOutput_any M C w' hl k).mono fun e w'' ⟨a, c, h1, h2, h3⟩ => ⟨a, c, h1, fam1 (q := bRow a _ c _) h2 h3, h3⟩
    have HI : Hid (∀ (C : MA) (w' : World), Below w.heap.size w w' → MSl w' M C → Calls Try.prog 11 #[.agg #[.int .u64 M.pc, .slice C.ax M.x.length C.cx, .int .i64 M.pr, .slice C.ac M.cs.length C.cc, .slice C.ar M.ram.length C.cr, .int .u64 M.d.t, .int .u64 M.d.cm, .bool M.d.so, .slice C.ai M.d.xs.length C.ci, .slice C.ao M.d.ys.length C.co, .int .i64 M.d.ir, .int .u64 M.hd, .bool M.hl, .bool M.wt]] w' fun e w'' => ∃ (a : Option Addr) (c : Nat), e = .returned (.slice a (outM M).length c) ∧ Fam w'.heap.size w''.heap.size w'' [bRow a (outM M).length c (outM M)] ∧ Below w'.heap.size w' w'') := fun C w' hbw k => (implOutput_any M C w' hl k (fun j => word_bd9 hin.wcs j)).mono fun e w'' ⟨a, c, h1, h2, h3⟩ => ⟨a, c, h1, fam1 (q := bRow a _ c _) h2 h3, h3⟩
    have hO := outM_len hl
    generalize outM M = O at *
    have HEB : Hid (∀ (a b : Option Addr) (ca cb : Nat) (w' : World), Sl .u8 w' a O → Sl .u8 w' b O → Calls Try.prog 12 #[.slice a O.length ca, .slice b O.length cb] w' fun e w'' => e = .returned (.bool true) ∧ Below w'.heap.size w' w'') := fun a b ca cb w' h1 h2 => (eqByteS_any a b _ _ ca cb O O w' rfl rfl hO hO h1 h2).mono fun e w'' h => ⟨by rw [h.1]; simp, h.2⟩
    have HMB : Hid (∀ (a : Option Addr) (c B E : Nat) (w' : World), Fam B E w' [bRow a O.length c O] → Calls Try.prog 14 #[.slice a O.length c, .int .i64 1] w' fun e w'' => e = .returned (.int .i64 (1 + (O.length : Int))) ∧ Fam B E w'' [bRow a O.length c (marks 1 O.length)] ∧ Keep B E w' w'') := fun a c B E w' hf => (markByteS_any a _ c B 1 O w' hO (by omega) (by omega) (hf.own (bRow a _ c O) (by simp))).mono fun e w'' h => ⟨h.1, Fam.mark (L1 := []) (L2 := []) (r := bRow a _ c O) hf h.2.2 _ h.2.1⟩
    have HHB : Hid (∀ (a : Option Addr) (c : Nat) (w' : World), Sl .u8 w' a (marks 1 O.length) → Calls Try.prog 15 #[.slice a O.length c, .int .i64 1] w' fun e w'' => e = .returned (.int .i64 (1 + (O.length : Int))) ∧ Below w'.heap.size w' w'') := fun a c w' h => (heldByteS_any a _ c 1 w' hO (by omega) (by omega) h).mono fun e w'' h => ⟨h.1, by rw [h.2]; exact Below.refl _ _⟩
    clear hin hsz hsm

    go_enter Try.func4, Try.ntmps4
    go_wp2_with fail
    refine (HSZ.out _).mono ?_
    rintro e w0 ⟨rfl, hb0⟩
    have hx0 : Below w.heap.size w w0 := below_trans ((Below.refl _ _).alloc (Nat.le_refl _) _) hb0
    have B0 : Below w.heap.size w w0 := hx0
    have m0 : w.heap.size + 1 ≤ w0.heap.size := by have h := hb0.size; rw [World.size_alloc] at h; exact h
    have rD0 : w0.heap[w.heap.size]? = some (.cells #[.int .u64 M.pc, .slice A.ax M.x.length A.cx, .int .i64 M.pr, .slice A.ac M.cs.length A.cc, .slice A.ar M.ram.length A.cr, .int .u64 M.d.t, .int .u64 M.d.cm, .bool M.d.so, .slice A.ai M.d.xs.length A.ci, .slice A.ao M.d.ys.length A.co, .int .i64 M.d.ir, .int .u64 M.hd, .bool M.hl, .bool M.wt] 28 (0, 0)) := dstays hb0 (heap_alloc_new _ _)
    obtain ⟨cD0, cD1, cD2, cD3, cD4, cD5, cD6, cD7, cD8, cD9, cD10, cD11, cD12, cD13⟩ := cells14 rD0
    go_wp2_with fail
    refine (HTD.out _ B0).mono ?_
    rintro e w1 ⟨CA, rfl, fA1, hb1⟩
    have hx1 : Below w0.heap.size w0 w1 := hb1
    have m1 : w0.heap.size ≤ w1.heap.size := hb1.size
    have B1 : Below w.heap.size w w1 := below_trans B0 hx1
    have rD1 := dstays hx1 rD0
    clear cD0 cD1 cD2 cD3 cD4 cD5 cD6 cD7 cD8 cD9 cD10 cD11 cD12 cD13
    go_wp2_with fail
    refine (HS.out _ _ B1 fA1.msl).mono ?_
    rintro e w2 ⟨aW, cW, rfl, fW2, hb2⟩
    have hx2 : Below w1.heap.size w1 w2 := hb2
    have m2 : w1.heap.size ≤ w2.heap.size := hb2.size
    have B2 : Below w.heap.size w w2 := below_trans B1 hx2
    have rD2 := dstays hx2 rD1
    have fA2 := fA1.below hx2
    obtain ⟨cD0, cD1, cD2, cD3, cD4, cD5, cD6, cD7, cD8, cD9, cD10, cD11, cD12, cD13⟩ := cells14 rD2
    go_wp2_with fail
    refine (HTD.out _ B2).mono ?_
    rintro e w3 ⟨CX, rfl, fX3, hb3⟩
    have hx3 : Below w2.heap.size w2 w3 := hb3
    have m3 : w2.heap.size ≤ w3.heap.size := hb3.size
    have B3 : Below w.heap.size w w3 := below_trans B2 hx3
    have rD3 := dstays hx3 rD2
    have fW3 := fW2.below hx3
    clear cD0 cD1 cD2 cD3 cD4 cD5 cD6 cD7 cD8 cD9 cD10 cD11 cD12 cD13
    go_wp2_with fail
    refine (HI.out _ _ (B3.alloc B3.size _) (fX3.below ((Below.refl _ _).alloc (Nat.le_refl _) _)).msl).mono ?_
    rintro e w4 ⟨aQ, cQ, rfl, fQ4, hb4⟩
    have hx4 : Below w3.heap.size w3 w4 := below_trans ((Below.refl _ _).alloc (Nat.le_refl _) _) hb4
    have m4 : w3.heap.size + 1 ≤ w4.heap.size := by have h := hb4.size; rw [World.size_alloc] at h; exact h
    have B4 : Below w.heap.size w w4 := below_trans B3 hx4
    have rD4 := dstays hx4 rD3
    have rX4 : w4.heap[w3.heap.size]? = some (.cells #[.int .u64 M.pc, .slice CX.ax M.x.length CX.cx, .int .i64 M.pr, .slice CX.ac M.cs.length CX.cc, .slice CX.ar M.ram.length CX.cr, .int .u64 M.d.t, .int .u64 M.d.cm, .bool M.d.so, .slice CX.ai M.d.xs.length CX.ci, .slice CX.ao M.d.ys.length CX.co, .int .i64 M.d.ir, .int .u64 M.hd, .bool M.hl, .bool M.wt] 33 (0, 0)) := dstays hb4 (heap_alloc_new _ _)
    have fW4 := fW3.below hx4
    have fX4 := fX3.below hx4
    rw [World.size_alloc] at fQ4
    go_wp2_with fail
    refine (HEB.out _ _ _ _ _ (fam1_sl fQ4) (fam1_sl fW4)).mono ?_
    rintro e w5 ⟨rfl, hb5⟩
    have hx5 : Below w4.heap.size w4 w5 := hb5
    have m5 : w4.heap.size ≤ w5.heap.size := hb5.size
    have B5 : Below w.heap.size w w5 := below_trans B4 hx5
    have rD5 := dstays hx5 rD4
    have rX5 := dstays hx5 rX4
    have fW5 := fW4.below hx5
    have fX5 := fX4.below hx5
    have fQ5 := fQ4.below hx5
    obtain ⟨cX0, cX1, cX2, cX3, cX4, cX5, cX6, cX7, cX8, cX9, cX10, cX11, cX12, cX13⟩ := cells14 rX5
    obtain ⟨cD0, cD1, cD2, cD3, cD4, cD5, cD6, cD7, cD8, cD9, cD10, cD11, cD12, cD13⟩ := cells14 rD5
    have PW : Hid (∀ w', Below w5.heap.size w5 w' → (w'.cell? ⟨w3.heap.size, 0, none⟩ = some (.int .u64 M.pc) ∧ w'.cell? ⟨w3.heap.size, 1, none⟩ = some (.slice CX.ax M.x.length CX.cx) ∧ w'.cell? ⟨w3.heap.size, 2, none⟩ = some (.int .i64 M.pr) ∧ w'.cell? ⟨w3.heap.size, 3, none⟩ = some (.slice CX.ac M.cs.length CX.cc) ∧ w'.cell? ⟨w3.heap.size, 4, none⟩ = some (.slice CX.ar M.ram.length CX.cr) ∧ w'.cell? ⟨w3.heap.size, 5, none⟩ = some (.int .u64 M.d.t) ∧ w'.cell? ⟨w3.heap.size, 6, none⟩ = some (.int .u64 M.d.cm) ∧ w'.cell? ⟨w3.heap.size, 7, none⟩ = some (.bool M.d.so) ∧ w'.cell? ⟨w3.heap.size, 8, none⟩ = some (.slice CX.ai M.d.xs.length CX.ci) ∧ w'.cell? ⟨w3.heap.size, 9, none⟩ = some (.slice CX.ao M.d.ys.length CX.co) ∧ w'.cell? ⟨w3.heap.size, 10, none⟩ = some (.int .i64 M.d.ir) ∧ w'.cell? ⟨w3.heap.size, 11, none⟩ = some (.int .u64 M.hd) ∧ w'.cell? ⟨w3.heap.size, 12, none⟩ = some (.bool M.hl) ∧ w'.cell? ⟨w3.heap.size, 13, none⟩ = some (.bool M.wt)) ∧ (w'.cell? ⟨w.heap.size, 0, none⟩ = some (.int .u64 M.pc) ∧ w'.cell? ⟨w.heap.size, 1, none⟩ = some (.slice A.ax M.x.length A.cx) ∧ w'.cell? ⟨w.heap.size, 2, none⟩ = some (.int .i64 M.pr) ∧ w'.cell? ⟨w.heap.size, 3, none⟩ = some (.slice A.ac M.cs.length A.cc) ∧ w'.cell? ⟨w.heap.size, 4, none⟩ = some (.slice A.ar M.ram.length A.cr) ∧ w'.cell? ⟨w.heap.size, 5, none⟩ = some (.int .u64 M.d.t) ∧ w'.cell? ⟨w.heap.size, 6, none⟩ = some (.int .u64 M.d.cm) ∧ w'.cell? ⟨w.heap.size, 7, none⟩ = some (.bool M.d.so) ∧ w'.cell? ⟨w.heap.size, 8, none⟩ = some (.slice A.ai M.d.xs.length A.ci) ∧ w'.cell? ⟨w.heap.size, 9, none⟩ = some (.slice A.ao M.d.ys.length A.co) ∧ w'.cell? ⟨w.heap.size, 10, none⟩ = some (.int .i64 M.d.ir) ∧ w'.cell? ⟨w.heap.size, 11, none⟩ = some (.int .u64 M.hd) ∧ w'.cell? ⟨w.heap.size, 12, none⟩ = some (.bool M.hl) ∧ w'.cell? ⟨w.heap.size, 13, none⟩ = some (.bool M.wt)) ∧ Below w5.heap.size w5 w') := fun w' hb => ⟨cells14 (dstays hb rX5), cells14 (dstays hb rD5), hb⟩
    have PD : Hid (∀ w', Below w5.heap.size w5 w' → Below w5.heap.size w5 w'.drew) := fun w' hb => hb.drew
    have HTZ : Hid (∀ w', Below w5.heap.size w5 w' → Calls Try.prog 7 #[.agg #[.int .u64 M.pc, .slice A.ax M.x.length A.cx, .int .i64 M.pr, .slice A.ac M.cs.length A.cc, .slice A.ar M.ram.length A.cr, .int .u64 M.d.t, .int .u64 M.d.cm, .bool M.d.so, .slice A.ai M.d.xs.length A.ci, .slice A.ao M.d.ys.length A.co, .int .i64 M.d.ir, .int .u64 M.hd, .bool M.hl, .bool M.wt]] w' fun e w'' => ∃ C : MA, e = .returned (.agg #[.int .u64 M.pc, .slice C.ax M.x.length C.cx, .int .i64 M.pr, .slice C.ac M.cs.length C.cc, .slice C.ar M.ram.length C.cr, .int .u64 M.d.t, .int .u64 M.d.cm, .bool M.d.so, .slice C.ai M.d.xs.length C.ci, .slice C.ao M.d.ys.length C.co, .int .i64 M.d.ir, .int .u64 M.hd, .bool M.hl, .bool M.wt]) ∧ Hid (Fam w'.heap.size w''.heap.size w'' (mvF M C)) ∧ Below w5.heap.size w5 w'') := fun w' hb => (HTD.out w' (below_trans B5 hb)).mono fun e w'' ⟨C, h1, h2, h3⟩ => ⟨C, h1, h2, below_trans hb h3⟩
    have HEZ : Hid (∀ (C : MA) (B E : Nat) w', Below w5.heap.size w5 w' → Fam B E w' (mvF M C) → Calls Try.prog 9 #[.agg #[.int .u64 M.pc, .slice CX.ax M.x.length CX.cx, .int .i64 M.pr, .slice CX.ac M.cs.length CX.cc, .slice CX.ar M.ram.length CX.cr, .int .u64 M.d.t, .int .u64 M.d.cm, .bool M.d.so, .slice CX.ai M.d.xs.length CX.ci, .slice CX.ao M.d.ys.length CX.co, .int .i64 M.d.ir, .int .u64 M.hd, .bool M.hl, .bool M.wt], .agg #[.int .u64 M.pc, .slice C.ax M.x.length C.cx, .int .i64 M.pr, .slice C.ac M.cs.length C.cc, .slice C.ar M.ram.length C.cr, .int .u64 M.d.t, .int .u64 M.d.cm, .bool M.d.so, .slice C.ai M.d.xs.length C.ci, .slice C.ao M.d.ys.length C.co, .int .i64 M.d.ir, .int .u64 M.hd, .bool M.hl, .bool M.wt]] w' fun e w'' => e = .returned (.bool true) ∧ Below w5.heap.size w5 w'') := fun C B E w' hb hf => (eqMachine_same M _ _ w' hl (fX5.below hb).msl hf.msl).mono fun e w'' h => ⟨h.1, below_trans hb h.2⟩
    go_wp2_with fail
    go_region_held3 (fun w' => (w'.cell? ⟨w3.heap.size, 0, none⟩ = some (.int .u64 M.pc) ∧ w'.cell? ⟨w3.heap.size, 1, none⟩ = some (.slice CX.ax M.x.length CX.cx) ∧ w'.cell? ⟨w3.heap.size, 2, none⟩ = some (.int .i64 M.pr) ∧ w'.cell? ⟨w3.heap.size, 3, none⟩ = some (.slice CX.ac M.cs.length CX.cc) ∧ w'.cell? ⟨w3.heap.size, 4, none⟩ = some (.slice CX.ar M.ram.length CX.cr) ∧ w'.cell? ⟨w3.heap.size, 5, none⟩ = some (.int .u64 M.d.t) ∧ w'.cell? ⟨w3.heap.size, 6, none⟩ = some (.int .u64 M.d.cm) ∧ w'.cell? ⟨w3.heap.size, 7, none⟩ = some (.bool M.d.so) ∧ w'.cell? ⟨w3.heap.size, 8, none⟩ = some (.slice CX.ai M.d.xs.length CX.ci) ∧ w'.cell? ⟨w3.heap.size, 9, none⟩ = some (.slice CX.ao M.d.ys.length CX.co) ∧ w'.cell? ⟨w3.heap.size, 10, none⟩ = some (.int .i64 M.d.ir) ∧ w'.cell? ⟨w3.heap.size, 11, none⟩ = some (.int .u64 M.hd) ∧ w'.cell? ⟨w3.heap.size, 12, none⟩ = some (.bool M.hl) ∧ w'.cell? ⟨w3.heap.size, 13, none⟩ = some (.bool M.wt)) ∧ (w'.cell? ⟨w.heap.size, 0, none⟩ = some (.int .u64 M.pc) ∧ w'.cell? ⟨w.heap.size, 1, none⟩ = some (.slice A.ax M.x.length A.cx) ∧ w'.cell? ⟨w.heap.size, 2, none⟩ = some (.int .i64 M.pr) ∧ w'.cell? ⟨w.heap.size, 3, none⟩ = some (.slice A.ac M.cs.length A.cc) ∧ w'.cell? ⟨w.heap.size, 4, none⟩ = some (.slice A.ar M.ram.length A.cr) ∧ w'.cell? ⟨w.heap.size, 5, none⟩ = some (.int .u64 M.d.t) ∧ w'.cell? ⟨w.heap.size, 6, none⟩ = some (.int .u64 M.d.cm) ∧ w'.cell? ⟨w.heap.size, 7, none⟩ = some (.bool M.d.so) ∧ w'.cell? ⟨w.heap.size, 8, none⟩ = some (.slice A.ai M.d.xs.length A.ci) ∧ w'.cell? ⟨w.heap.size, 9, none⟩ = some (.slice A.ao M.d.ys.length A.co) ∧ w'.cell? ⟨w.heap.size, 10, none⟩ = some (.int .i64 M.d.ir) ∧ w'.cell? ⟨w.heap.size, 11, none⟩ = some (.int .u64 M.hd) ∧ w'.cell? ⟨w.heap.size, 12, none⟩ = some (.bool M.hl) ∧ w'.cell? ⟨w.heap.size, 13, none⟩ = some (.bool M.wt)) ∧ Below w5.heap.size w5 w') (first | exact PW.out _ (PD.out _ (by assumption)) | exact PW.out _ (by assumption) | exact PW.out _ (Below.refl _ _).drew) (first | (go_at_call 7; with_reducible refine (HTZ.out _ ?_).mono ?_; (first | assumption | (exact And.right (And.right (by assumption)))); rintro e w8 ⟨CZ, rfl, fz, hb8⟩) | (go_at_call 9; with_reducible refine (HEZ.out _ _ _ _ ?_ fz.out).mono ?_; (first | assumption | (exact And.right (And.right (by assumption)))); rintro e wz ⟨rfl, hbz⟩))
    obtain ⟨w6, hw6⟩ : ∃ w', w' = wz := ⟨_, rfl⟩
    rw [← hw6] at hbz ⊢
    clear hw6 PW PD HTZ HEZ
    have hb6 := hbz
    have hx6 : Below w5.heap.size w5 w6 := hb6
    have m6 : w5.heap.size ≤ w6.heap.size := hb6.size
    have B6 : Below w.heap.size w w6 := below_trans B5 hx6
    have rD6 := dstays hx6 rD5
    have rX6 := dstays hx6 rX5
    have fW6 := fW5.below hx6
    have fX6 := fX5.below hx6
    have fQ6 := fQ5.below hx6
    clear cX0 cX1 cX2 cX3 cX4 cX5 cX6 cX7 cX8 cX9 cX10 cX11 cX12 cX13 cD0 cD1 cD2 cD3 cD4 cD5 cD6 cD7 cD8 cD9 cD10 cD11 cD12 cD13
    as_aux_lemma =>
      obtain ⟨cX0, cX1, cX2, cX3, cX4, cX5, cX6, cX7, cX8, cX9, cX10, cX11, cX12, cX13⟩ := cells14 rX6
      go_wp2_with fail
      refine (markMachine_any M _ 1 _ _ _ hl (by omega) (by omega) (by omega) fX6).mono ?_
      rintro e w7 ⟨rfl, fX7, kl7⟩
      have kp7 := kl7.keep fX6
      have B7 : Below w.heap.size w w7 := B6.trans (kp7.below (by omega) (by omega))
      have m7 : w6.heap.size ≤ w7.heap.size := kp7.size
      have rD7 := (kp7.block _ (Array.getElem?_eq_some_iff.1 rD6).1 (by omega)).trans rD6
      have rX7 := (kp7.block _ (Array.getElem?_eq_some_iff.1 rX6).1 (by omega)).trans rX6
      have fW7 := fW6.keep kp7 (by omega)
      have fQ7 := fQ6.keep kp7 (by omega)
      have hneg : decide ((1 : Int) + (M.x.length : Int) + (M.cs.length : Int) + (M.ram.length : Int) + (M.d.xs.length : Int) + (M.d.ys.length : Int) < 0) = false := by simp; omega
      clear cX0 cX1 cX2 cX3 cX4 cX5 cX6 cX7 cX8 cX9 cX10 cX11 cX12 cX13
      go_wp2_with fail
      refine (HEB.out _ _ _ _ _ (fam1_sl fQ7) (fam1_sl fW7)).mono ?_
      rintro e w8 ⟨rfl, hb8⟩
      have hx8 : Below w7.heap.size w7 w8 := hb8
      have m8 : w7.heap.size ≤ w8.heap.size := hb8.size
      have B8 : Below w.heap.size w w8 := below_trans B7 hx8
      have rD8 := dstays hx8 rD7
      have rX8 := dstays hx8 rX7
      have fW8 := fW7.below hx8
      have fQ8 := fQ7.below hx8
      as_aux_lemma =>
        go_wp2_with fail
        refine (HMB.out _ _ _ _ _ fQ8).mono ?_
        rintro e w9 ⟨rfl, fQ9, kp9⟩
        have B9 : Below w.heap.size w w9 := B8.trans (kp9.below (by omega) (by omega))
        have m9 : w8.heap.size ≤ w9.heap.size := kp9.size
        have rD9 := (kp9.block _ (Array.getElem?_eq_some_iff.1 rD8).1 (by omega)).trans rD8
        have rX9 := (kp9.block _ (Array.getElem?_eq_some_iff.1 rX8).1 (by omega)).trans rX8
        have fW9 := fW8.keep kp9 (by omega)
        have hneg2 : ¬ ((1 : Int) + (O.length : Int) < 0) := by omega
        have hne2 : ((1 : Int) + (O.length : Int) != 1 + (O.length : Int)) = false := by simp
        go_wp2_with fail
        refine (HHB.out _ _ _ (fam1_sl fQ9)).mono ?_
        rintro e w10 ⟨rfl, hb10⟩
        have hx10 : Below w9.heap.size w9 w10 := hb10
        have m10 : w9.heap.size ≤ w10.heap.size := hb10.size
        have B10 : Below w.heap.size w w10 := below_trans B9 hx10
        have rD10 := dstays hx10 rD9
        have rX10 := dstays hx10 rX9
        have fW10 := fW9.below hx10
        have fQ10 := fQ9.below hx10
        obtain ⟨cD0, cD1, cD2, cD3, cD4, cD5, cD6, cD7, cD8, cD9, cD10, cD11, cD12, cD13⟩ := cells14 rD10
        go_wp2_with fail
        refine (HTD.out _ B10).mono ?_
        rintro e w11 ⟨CP, rfl, fP11, hb11⟩
        have hx11 : Below w10.heap.size w10 w11 := hb11
        have m11 : w10.heap.size ≤ w11.heap.size := hb11.size
        have B11 : Below w.heap.size w w11 := below_trans B10 hx11
        have rD11 := dstays hx11 rD10
        have rX11 := dstays hx11 rX10
        have fW11 := fW10.below hx11
        have fQ11 := fQ10.below hx11
        clear cD0 cD1 cD2 cD3 cD4 cD5 cD6 cD7 cD8 cD9 cD10 cD11 cD12 cD13
        go_wp2_with fail
        refine (HI.out _ _ B11 fP11.msl).mono ?_
        rintro e w12 ⟨aK, cK, rfl, fK12, hb12⟩
        have hx12 : Below w11.heap.size w11 w12 := hb12
        have m12 : w11.heap.size ≤ w12.heap.size := hb12.size
        have B12 : Below w.heap.size w w12 := below_trans B11 hx12
        have rD12 := dstays hx12 rD11
        have rX12 := dstays hx12 rX11
        have fW12 := fW11.below hx12
        have fQ12 := fQ11.below hx12
        have fP12 := fP11.below hx12
        go_wp2_with fail
        refine (HEB.out _ _ _ _ _ (fam1_sl fK12) (fam1_sl fW12)).mono ?_
        rintro e w13 ⟨rfl, hb13⟩
        have hx13 : Below w12.heap.size w12 w13 := hb13
        have m13 : w12.heap.size ≤ w13.heap.size := hb13.size
        have B13 : Below w.heap.size w w13 := below_trans B12 hx13
        have rD13 := dstays hx13 rD12
        have rX13 := dstays hx13 rX12
        have fW13 := fW12.below hx13
        have fQ13 := fQ12.below hx13
        have fK13 := fK12.below hx13
        go_wp2_with fail
        refine (HHB.out _ _ _ (fam1_sl fQ13)).mono ?_
        rintro e w14 ⟨rfl, hb14⟩
        have hx14 : Below w13.heap.size w13 w14 := hb14
        have m14 : w13.heap.size ≤ w14.heap.size := hb14.size
        have B14 : Below w.heap.size w w14 := below_trans B13 hx14
        have rD14 := dstays hx14 rD13
        have rX14 := dstays hx14 rX13
        have fQ14 := fQ13.below hx14
        go_wp2_with fail
        go_ret
        exact ⟨rfl, B14⟩
  · have hsz : szM M.x.length M.cs.length M.ram.length M.d.xs.length M.d.ys.length 1048576 = -1 := by unfold szM; rw [if_neg (by omega)]
    rw [hsz] at HSZ
    clear hin hsz hsm
    go_enter Try.func4, Try.ntmps4
    go_wp2_with fail
    refine (HSZ.out _).mono ?_
    rintro e w0 ⟨rfl, hb0⟩
    go_wp2_with fail
    go_ret
    exact ⟨rfl, below_trans ((Below.refl _ _).alloc (Nat.le_refl _) _) hb0⟩

end Go.Proofs.YtdcihpbggknhgaaR.fnExactOutput
