/- The walk of laws.FnExactSame: it returns true at every argument, and writes nothing that was there. By tools/genLawSame.py. -/
import Derived.Test.YtdcihpbggknhgaaRMacV
import Derived.Test.YtdcihpbggknhgaaRSamC
import Derived.Deep.RegionHeld3
namespace Go.Proofs.YtdcihpbggknhgaaR.fnExactSame
open Go.RowKit
set_option linter.unusedVariables false

set_option maxRecDepth 100000 in
set_option maxHeartbeats 6400000 in
theorem walk (M : MV) (A : MA) (N : MV) (K : MA) (w : World) (hin : MIn w M A) (hjn : MIn w N K) :
    Calls Try.prog 3 #[.agg #[.int .u64 M.pc, .slice A.ax M.x.length A.cx, .int .i64 M.pr, .slice A.ac M.cs.length A.cc, .slice A.ar M.ram.length A.cr, .int .u64 M.d.t, .int .u64 M.d.cm, .bool M.d.so, .slice A.ai M.d.xs.length A.ci, .slice A.ao M.d.ys.length A.co, .int .i64 M.d.ir, .int .u64 M.hd, .bool M.hl, .bool M.wt], .agg #[.int .u64 N.pc, .slice K.ax N.x.length K.cx, .int .i64 N.pr, .slice K.ac N.cs.length K.cc, .slice K.ar N.ram.length K.cr, .int .u64 N.d.t, .int .u64 N.d.cm, .bool N.d.so, .slice K.ai N.d.xs.length K.ci, .slice K.ao N.d.ys.length K.co, .int .i64 N.d.ir, .int .u64 N.hd, .bool N.hl, .bool N.wt]] w fun e w' => e = .returned (.bool true) ∧ Below w.heap.size w w' := by
  have HSZ : Hid (∀ w, Calls Try.prog 5 #[.agg #[.int .u64 M.pc, .slice A.ax M.x.length A.cx, .int .i64 M.pr, .slice A.ac M.cs.length A.cc, .slice A.ar M.ram.length A.cr, .int .u64 M.d.t, .int .u64 M.d.cm, .bool M.d.so, .slice A.ai M.d.xs.length A.ci, .slice A.ao M.d.ys.length A.co, .int .i64 M.d.ir, .int .u64 M.hd, .bool M.hl, .bool M.wt], .int .i64 1048576] w fun e w' => e = .returned (.int .i64 (szM M.x.length M.cs.length M.ram.length M.d.xs.length M.d.ys.length 1048576)) ∧ Below w.heap.size w w') := fun w => szMachine_any _ _ _ _ _ _ _ _ _ _ _ _ _ _ _ _ _ _ _ _ _ _ _ _ 1048576 w (by omega) (by omega) hin.lx hin.lcs hin.lram hin.lxs hin.lys
  by_cases hsm : M.x.length + M.cs.length + M.ram.length + M.d.xs.length + M.d.ys.length ≤ 1048576
  · have hsz : szM M.x.length M.cs.length M.ram.length M.d.xs.length M.d.ys.length 1048576 = 1048576 - (M.x.length : Int) - (M.cs.length : Int) - (M.ram.length : Int) - (M.d.xs.length : Int) - (M.d.ys.length : Int) := by unfold szM; rw [if_pos (by omega)]
    rw [hsz] at HSZ
    have d0 : decide ((1048576 : Int) - (M.x.length : Int) - (M.cs.length : Int) - (M.ram.length : Int) - (M.d.xs.length : Int) - (M.d.ys.length : Int) < 0) = false := by simp; omega
    have HSN : Hid (∀ w, Calls Try.prog 5 #[.agg #[.int .u64 N.pc, .slice K.ax N.x.length K.cx, .int .i64 N.pr, .slice K.ac N.cs.length K.cc, .slice K.ar N.ram.length K.cr, .int .u64 N.d.t, .int .u64 N.d.cm, .bool N.d.so, .slice K.ai N.d.xs.length K.ci, .slice K.ao N.d.ys.length K.co, .int .i64 N.d.ir, .int .u64 N.hd, .bool N.hl, .bool N.wt], .int .i64 (1048576 - (M.x.length : Int) - (M.cs.length : Int) - (M.ram.length : Int) - (M.d.xs.length : Int) - (M.d.ys.length : Int))] w fun e w' => e = .returned (.int .i64 (szM N.x.length N.cs.length N.ram.length N.d.xs.length N.d.ys.length (1048576 - (M.x.length : Int) - (M.cs.length : Int) - (M.ram.length : Int) - (M.d.xs.length : Int) - (M.d.ys.length : Int)))) ∧ Below w.heap.size w w') := fun w => szMachine_any _ _ _ _ _ _ _ _ _ _ _ _ _ _ _ _ _ _ _ _ _ _ _ _ _ w (by omega) (by omega) hjn.lx hjn.lcs hjn.lram hjn.lxs hjn.lys
    by_cases hsn : N.x.length + N.cs.length + N.ram.length + N.d.xs.length + N.d.ys.length ≤ 1048576 - (M.x.length + M.cs.length + M.ram.length + M.d.xs.length + M.d.ys.length)
    · have hsy : szM N.x.length N.cs.length N.ram.length N.d.xs.length N.d.ys.length (1048576 - (M.x.length : Int) - (M.cs.length : Int) - (M.ram.length : Int) - (M.d.xs.length : Int) - (M.d.ys.length : Int)) = 1048576 - (M.x.length : Int) - (M.cs.length : Int) - (M.ram.length : Int) - (M.d.xs.length : Int) - (M.d.ys.length : Int) - (N.x.length : Int) - (N.cs.length : Int) - (N.ram.length : Int) - (N.d.xs.length : Int) - (N.d.ys.length : Int) := by unfold szM; rw [if_pos (by omega)]
      rw [hsy] at HSN
      have d1 : decide ((1048576 : Int) - (M.x.length : Int) - (M.cs.length : Int) - (M.ram.length : Int) - (M.d.xs.length : Int) - (M.d.ys.length : Int) - (N.x.length : Int) - (N.cs.length : Int) - (N.ram.length : Int) - (N.d.xs.length : Int) - (N.d.ys.length : Int) < 0) = false := by simp; omega
      have hl : MLen M := ⟨by omega, by omega, by omega, by omega, by omega⟩
      have hk : MLen N := ⟨by omega, by omega, by omega, by omega, by omega⟩
      have hM : Bx M := ⟨hin.wram, hin.wxs, hin.wys⟩
      have hN : Bx N := ⟨hjn.wram, hjn.wxs, hjn.wys⟩
      have HTM : Hid (∀ w', Below w.heap.size w w' → Calls Try.prog 7 #[.agg #[.int .u64 M.pc, .slice A.ax M.x.length A.cx, .int .i64 M.pr, .slice A.ac M.cs.length A.cc, .slice A.ar M.ram.length A.cr, .int .u64 M.d.t, .int .u64 M.d.cm, .bool M.d.so, .slice A.ai M.d.xs.length A.ci, .slice A.ao M.d.ys.length A.co, .int .i64 M.d.ir, .int .u64 M.hd, .bool M.hl, .bool M.wt]] w' fun e w'' => ∃ C : MA, e = .returned (.agg #[.int .u64 M.pc, .slice C.ax M.x.length C.cx, .int .i64 M.pr, .slice C.ac M.cs.length C.cc, .slice C.ar M.ram.length C.cr, .int .u64 M.d.t, .int .u64 M.d.cm, .bool M.d.so, .slice C.ai M.d.xs.length C.ci, .slice C.ao M.d.ys.length C.co, .int .i64 M.d.ir, .int .u64 M.hd, .bool M.hl, .bool M.wt]) ∧ Fam w'.heap.size w''.heap.size w'' (mvF M C) ∧ Below w'.heap.size w' w'') := fun w' hb => (toMachine_any M A w' hl (hin.sl.below hb)).mono fun e w'' ⟨gx, gc, gr, gi, go, h1, h2, h3⟩ => ⟨_, h1, h2, h3⟩
      have HTN : Hid (∀ w', Below w.heap.size w w' → Calls Try.prog 7 #[.agg #[.int .u64 N.pc, .slice K.ax N.x.length K.cx, .int .i64 N.pr, .slice K.ac N.cs.length K.cc, .slice K.ar N.ram.length K.cr, .int .u64 N.d.t, .int .u64 N.d.cm, .bool N.d.so, .slice K.ai N.d.xs.length K.ci, .slice K.ao N.d.ys.length K.co, .int .i64 N.d.ir, .int .u64 N.hd, .bool N.hl, .bool N.wt]] w' fun e w'' => ∃ C : MA, e = .returned (.agg #[.int .u64 N.pc, .slice C.ax N.x.length C.cx, .int .i64 N.pr, .slice C.ac N.cs.length C.cc, .slice C.ar N.ram.length C.cr, .int .u64 N.d.t, .int .u64 N.d.cm, .bool N.d.so, .slice C.ai N.d.xs.length C.ci, .slice C.ao N.d.ys.length C.co, .int .i64 N.d.ir, .int .u64 N.hd, .bool N.hl, .bool N.wt]) ∧ Fam w'.heap.size w''.heap.size w'' (mvF N C) ∧ Below w'.heap.size w' w'') := fun w' hb => (toMachine_any N K w' hk (hjn.sl.below hb)).mono fun e w'' ⟨gx, gc, gr, gi, go, h1, h2, h3⟩ => ⟨_, h1, h2, h3⟩
      have HS : Hid (∀ (C Q : MA) (w' : World), Below w.heap.size w w' → MSl w' M C → MSl w' N Q → Calls Try.prog 6 #[.agg #[.int .u64 M.pc, .slice C.ax M.x.length C.cx, .int .i64 M.pr, .slice C.ac M.cs.length C.cc, .slice C.ar M.ram.length C.cr, .int .u64 M.d.t, .int .u64 M.d.cm, .bool M.d.so, .slice C.ai M.d.xs.length C.ci, .slice C.ao M.d.ys.length C.co, .int .i64 M.d.ir, .int .u64 M.hd, .bool M.hl, .bool M.wt], .agg #[.int .u64 N.pc, .slice Q.ax N.x.length Q.cx, .int .i64 N.pr, .slice Q.ac N.cs.length Q.cc, .slice Q.ar N.ram.length Q.cr, .int .u64 N.d.t, .int .u64 N.d.cm, .bool N.d.so, .slice Q.ai N.d.xs.length Q.ci, .slice Q.ao N.d.ys.length Q.co, .int .i64 N.d.ir, .int .u64 N.hd, .bool N.hl, .bool N.wt]] w' fun e w'' => e = .returned (.bool (sameM M N)) ∧ Below w'.heap.size w' w'') := fun C Q w' hbw k1 k2 => specSame_any M N C Q w' hl hk k1 k2
      have HI : Hid (∀ (C Q : MA) (w' : World), Below w.heap.size w w' → MSl w' M C → MSl w' N Q → Calls Try.prog 8 #[.agg #[.int .u64 M.pc, .slice C.ax M.x.length C.cx, .int .i64 M.pr, .slice C.ac M.cs.length C.cc, .slice C.ar M.ram.length C.cr, .int .u64 M.d.t, .int .u64 M.d.cm, .bool M.d.so, .slice C.ai M.d.xs.length C.ci, .slice C.ao M.d.ys.length C.co, .int .i64 M.d.ir, .int .u64 M.hd, .bool M.hl, .bool M.wt], .agg #[.int .u64 N.pc, .slice Q.ax N.x.length Q.cx, .int .i64 N.pr, .slice Q.ac N.cs.length Q.cc, .slice Q.ar N.ram.length Q.cr, .int .u64 N.d.t, .int .u64 N.d.cm, .bool N.d.so, .slice Q.ai N.d.xs.length Q.ci, .slice Q.ao N.d.ys.length Q.co, .int .i64 N.d.ir, .int .u64 N.hd, .bool N.hl, .bool N.wt]] w' fun e w'' => e = .returned (.bool (sameM M N)) ∧ Below w'.heap.size w' w'') := fun C Q w' hbw k1 k2 => implSame_any M N C Q w' hl hk hM hN hin.wcs hjn.wcs k1 k2
      generalize sameM M N = V at *
      have tv : (V != V) = false := by simp
      clear hin hjn hsz hsm hsy hsn hM hN
      go_enter Try.func3, Try.ntmps3
      go_wp2_with fail
      refine (HSZ.out _).mono ?_
      rintro e w0 ⟨rfl, hb0⟩
      have hx0 : Below w.heap.size w w0 := below_trans (((Below.refl _ _).alloc (Nat.le_refl _) _).alloc (by simp) _) hb0
      have B0 : Below w.heap.size w w0 := hx0
      have m0 : w.heap.size + 1 + 1 ≤ w0.heap.size := by have h := hb0.size; rw [World.size_alloc, World.size_alloc] at h; exact h
      obtain ⟨rD0, rE0⟩ := rows2 hb0
      obtain ⟨cE0, cE1, cE2, cE3, cE4, cE5, cE6, cE7, cE8, cE9, cE10, cE11, cE12, cE13⟩ := cells14 rE0
      go_wp2_with fail
      refine (HSN.out _).mono ?_
      rintro e w1 ⟨rfl, hb1⟩
      have hx1 : Below w0.heap.size w0 w1 := hb1
      have m1 : w0.heap.size ≤ w1.heap.size := hb1.size
      have B1 : Below w.heap.size w w1 := below_trans B0 hx1
      have rD1 := dstays hx1 rD0
      have rE1 := dstays hx1 rE0
      clear cE0 cE1 cE2 cE3 cE4 cE5 cE6 cE7 cE8 cE9 cE10 cE11 cE12 cE13
      obtain ⟨cD0, cD1, cD2, cD3, cD4, cD5, cD6, cD7, cD8, cD9, cD10, cD11, cD12, cD13⟩ := cells14 rD1
      obtain ⟨cE0, cE1, cE2, cE3, cE4, cE5, cE6, cE7, cE8, cE9, cE10, cE11, cE12, cE13⟩ := cells14 rE1
      have PW : Hid (∀ w', Below w1.heap.size w1 w' → (w'.cell? ⟨w.heap.size, 0, none⟩ = some (.int .u64 M.pc) ∧ w'.cell? ⟨w.heap.size, 1, none⟩ = some (.slice A.ax M.x.length A.cx) ∧ w'.cell? ⟨w.heap.size, 2, none⟩ = some (.int .i64 M.pr) ∧ w'.cell? ⟨w.heap.size, 3, none⟩ = some (.slice A.ac M.cs.length A.cc) ∧ w'.cell? ⟨w.heap.size, 4, none⟩ = some (.slice A.ar M.ram.length A.cr) ∧ w'.cell? ⟨w.heap.size, 5, none⟩ = some (.int .u64 M.d.t) ∧ w'.cell? ⟨w.heap.size, 6, none⟩ = some (.int .u64 M.d.cm) ∧ w'.cell? ⟨w.heap.size, 7, none⟩ = some (.bool M.d.so) ∧ w'.cell? ⟨w.heap.size, 8, none⟩ = some (.slice A.ai M.d.xs.length A.ci) ∧ w'.cell? ⟨w.heap.size, 9, none⟩ = some (.slice A.ao M.d.ys.length A.co) ∧ w'.cell? ⟨w.heap.size, 10, none⟩ = some (.int .i64 M.d.ir) ∧ w'.cell? ⟨w.heap.size, 11, none⟩ = some (.int .u64 M.hd) ∧ w'.cell? ⟨w.heap.size, 12, none⟩ = some (.bool M.hl) ∧ w'.cell? ⟨w.heap.size, 13, none⟩ = some (.bool M.wt)) ∧ (w'.cell? ⟨w.heap.size + 1, 0, none⟩ = some (.int .u64 N.pc) ∧ w'.cell? ⟨w.heap.size + 1, 1, none⟩ = some (.slice K.ax N.x.length K.cx) ∧ w'.cell? ⟨w.heap.size + 1, 2, none⟩ = some (.int .i64 N.pr) ∧ w'.cell? ⟨w.heap.size + 1, 3, none⟩ = some (.slice K.ac N.cs.length K.cc) ∧ w'.cell? ⟨w.heap.size + 1, 4, none⟩ = some (.slice K.ar N.ram.length K.cr) ∧ w'.cell? ⟨w.heap.size + 1, 5, none⟩ = some (.int .u64 N.d.t) ∧ w'.cell? ⟨w.heap.size + 1, 6, none⟩ = some (.int .u64 N.d.cm) ∧ w'.cell? ⟨w.heap.size + 1, 7, none⟩ = some (.bool N.d.so) ∧ w'.cell? ⟨w.heap.size + 1, 8, none⟩ = some (.slice K.ai N.d.xs.length K.ci) ∧ w'.cell? ⟨w.heap.size + 1, 9, none⟩ = some (.slice K.ao N.d.ys.length K.co) ∧ w'.cell? ⟨w.heap.size + 1, 10, none⟩ = some (.int .i64 N.d.ir) ∧ w'.cell? ⟨w.heap.size + 1, 11, none⟩ = some (.int .u64 N.hd) ∧ w'.cell? ⟨w.heap.size + 1, 12, none⟩ = some (.bool N.hl) ∧ w'.cell? ⟨w.heap.size + 1, 13, none⟩ = some (.bool N.wt)) ∧ Below w1.heap.size w1 w') := fun w' hb => ⟨cells14 (dstays hb rD1), cells14 (dstays hb rE1), hb⟩
      have PD : Hid (∀ w', Below w1.heap.size w1 w' → Below w1.heap.size w1 w'.drew) := fun w' hb => hb.drew
      have HT1 : Hid (∀ w', Below w1.heap.size w1 w' → Calls Try.prog 7 #[.agg #[.int .u64 M.pc, .slice A.ax M.x.length A.cx, .int .i64 M.pr, .slice A.ac M.cs.length A.cc, .slice A.ar M.ram.length A.cr, .int .u64 M.d.t, .int .u64 M.d.cm, .bool M.d.so, .slice A.ai M.d.xs.length A.ci, .slice A.ao M.d.ys.length A.co, .int .i64 M.d.ir, .int .u64 M.hd, .bool M.hl, .bool M.wt]] w' fun e w'' => ∃ C : MA, e = .returned (.agg #[.int .u64 M.pc, .slice C.ax M.x.length C.cx, .int .i64 M.pr, .slice C.ac M.cs.length C.cc, .slice C.ar M.ram.length C.cr, .int .u64 M.d.t, .int .u64 M.d.cm, .bool M.d.so, .slice C.ai M.d.xs.length C.ci, .slice C.ao M.d.ys.length C.co, .int .i64 M.d.ir, .int .u64 M.hd, .bool M.hl, .bool M.wt]) ∧ Hid (Fam w'.heap.size w''.heap.size w'' (mvF M C)) ∧ Below w1.heap.size w1 w'') := fun w' hb => (HTM.out w' (below_trans B1 hb)).mono fun e w'' ⟨C, h1, h2, h3⟩ => ⟨C, h1, h2, below_trans hb h3⟩
      have HT2 : Hid (∀ (C : MA) (B E : Nat) w', Below w1.heap.size w1 w' → Fam B E w' (mvF M C) → Calls Try.prog 7 #[.agg #[.int .u64 N.pc, .slice K.ax N.x.length K.cx, .int .i64 N.pr, .slice K.ac N.cs.length K.cc, .slice K.ar N.ram.length K.cr, .int .u64 N.d.t, .int .u64 N.d.cm, .bool N.d.so, .slice K.ai N.d.xs.length K.ci, .slice K.ao N.d.ys.length K.co, .int .i64 N.d.ir, .int .u64 N.hd, .bool N.hl, .bool N.wt]] w' fun e w'' => ∃ Q : MA, e = .returned (.agg #[.int .u64 N.pc, .slice Q.ax N.x.length Q.cx, .int .i64 N.pr, .slice Q.ac N.cs.length Q.cc, .slice Q.ar N.ram.length Q.cr, .int .u64 N.d.t, .int .u64 N.d.cm, .bool N.d.so, .slice Q.ai N.d.xs.length Q.ci, .slice Q.ao N.d.ys.length Q.co, .int .i64 N.d.ir, .int .u64 N.hd, .bool N.hl, .bool N.wt]) ∧ Hid (Fam w'.heap.size w''.heap.size w'' (mvF N Q)) ∧ Hid (Fam B E w'' (mvF M C)) ∧ Below w1.heap.size w1 w'') := fun C B E w' hb hf => (HTN.out w' (below_trans B1 hb)).mono fun e w'' ⟨Q, h1, h2, h3⟩ => ⟨Q, h1, h2, hf.below h3, below_trans hb h3⟩
      have HT3 : Hid (∀ (C Q : MA) (B E B2 E2 : Nat) w', Below w1.heap.size w1 w' → Fam B E w' (mvF M C) → Fam B2 E2 w' (mvF N Q) → Calls Try.prog 6 #[.agg #[.int .u64 M.pc, .slice C.ax M.x.length C.cx, .int .i64 M.pr, .slice C.ac M.cs.length C.cc, .slice C.ar M.ram.length C.cr, .int .u64 M.d.t, .int .u64 M.d.cm, .bool M.d.so, .slice C.ai M.d.xs.length C.ci, .slice C.ao M.d.ys.length C.co, .int .i64 M.d.ir, .int .u64 M.hd, .bool M.hl, .bool M.wt], .agg #[.int .u64 N.pc, .slice Q.ax N.x.length Q.cx, .int .i64 N.pr, .slice Q.ac N.cs.length Q.cc, .slice Q.ar N.ram.length Q.cr, .int .u64 N.d.t, .int .u64 N.d.cm, .bool N.d.so, .slice Q.ai N.d.xs.length Q.ci, .slice Q.ao N.d.ys.length Q.co, .int .i64 N.d.ir, .int .u64 N.hd, .bool N.hl, .bool N.wt]] w' fun e w'' => e = .returned (.bool V) ∧ Below w1.heap.size w1 w'') := fun C Q B E B2 E2 w' hb hf hq => (HS.out C Q w' (below_trans B1 hb) hf.msl hq.msl).mono fun e w'' h => ⟨h.1, below_trans hb h.2⟩
      go_wp2_with fail
      go_region_held3 (fun w' => (w'.cell? ⟨w.heap.size, 0, none⟩ = some (.int .u64 M.pc) ∧ w'.cell? ⟨w.heap.size, 1, none⟩ = some (.slice A.ax M.x.length A.cx) ∧ w'.cell? ⟨w.heap.size, 2, none⟩ = some (.int .i64 M.pr) ∧ w'.cell? ⟨w.heap.size, 3, none⟩ = some (.slice A.ac M.cs.length A.cc) ∧ w'.cell? ⟨w.heap.size, 4, none⟩ = some (.slice A.ar M.ram.length A.cr) ∧ w'.cell? ⟨w.heap.size, 5, none⟩ = some (.int .u64 M.d.t) ∧ w'.cell? ⟨w.heap.size, 6, none⟩ = some (.int .u64 M.d.cm) ∧ w'.cell? ⟨w.heap.size, 7, none⟩ = some (.bool M.d.so) ∧ w'.cell? ⟨w.heap.size, 8, none⟩ = some (.slice A.ai M.d.xs.length A.ci) ∧ w'.cell? ⟨w.heap.size, 9, none⟩ = some (.slice A.ao M.d.ys.length A.co) ∧ w'.cell? ⟨w.heap.size, 10, none⟩ = some (.int .i64 M.d.ir) ∧ w'.cell? ⟨w.heap.size, 11, none⟩ = some (.int .u64 M.hd) ∧ w'.cell? ⟨w.heap.size, 12, none⟩ = some (.bool M.hl) ∧ w'.cell? ⟨w.heap.size, 13, none⟩ = some (.bool M.wt)) ∧ (w'.cell? ⟨w.heap.size + 1, 0, none⟩ = some (.int .u64 N.pc) ∧ w'.cell? ⟨w.heap.size + 1, 1, none⟩ = some (.slice K.ax N.x.length K.cx) ∧ w'.cell? ⟨w.heap.size + 1, 2, none⟩ = some (.int .i64 N.pr) ∧ w'.cell? ⟨w.heap.size + 1, 3, none⟩ = some (.slice K.ac N.cs.length K.cc) ∧ w'.cell? ⟨w.heap.size + 1, 4, none⟩ = some (.slice K.ar N.ram.length K.cr) ∧ w'.cell? ⟨w.heap.size + 1, 5, none⟩ = some (.int .u64 N.d.t) ∧ w'.cell? ⟨w.heap.size + 1, 6, none⟩ = some (.int .u64 N.d.cm) ∧ w'.cell? ⟨w.heap.size + 1, 7, none⟩ = some (.bool N.d.so) ∧ w'.cell? ⟨w.heap.size + 1, 8, none⟩ = some (.slice K.ai N.d.xs.length K.ci) ∧ w'.cell? ⟨w.heap.size + 1, 9, none⟩ = some (.slice K.ao N.d.ys.length K.co) ∧ w'.cell? ⟨w.heap.size + 1, 10, none⟩ = some (.int .i64 N.d.ir) ∧ w'.cell? ⟨w.heap.size + 1, 11, none⟩ = some (.int .u64 N.hd) ∧ w'.cell? ⟨w.heap.size + 1, 12, none⟩ = some (.bool N.hl) ∧ w'.cell? ⟨w.heap.size + 1, 13, none⟩ = some (.bool N.wt)) ∧ Below w1.heap.size w1 w') (first | exact PW.out _ (PD.out _ (by assumption)) | exact PW.out _ (by assumption) | exact PW.out _ (Below.refl _ _).drew) (first | (go_at_call 7; first | (with_reducible refine (HT1.out _ ?_).mono ?_; (first | assumption | (exact And.right (And.right (by assumption)))); rintro e w6 ⟨CW, rfl, fw, hb6⟩) | (with_reducible refine (HT2.out _ _ _ _ ?_ fw.out).mono ?_; (first | assumption | (exact And.right (And.right (by assumption)))); rintro e w7 ⟨CV, rfl, fv, fw, hb7⟩)) | (go_at_call 6; with_reducible refine (HT3.out _ _ _ _ _ _ _ ?_ fw.out fv.out).mono ?_; (first | assumption | (exact And.right (And.right (by assumption)))); rintro e wz ⟨rfl, hbz⟩))
      obtain ⟨w2, hw2⟩ : ∃ w', w' = wz := ⟨_, rfl⟩
      rw [← hw2] at hbz ⊢
      clear hw2 PW PD HT1 HT2 HT3
      have hb2 := hbz
      have hx2 : Below w1.heap.size w1 w2 := hb2
      have m2 : w1.heap.size ≤ w2.heap.size := hb2.size
      have B2 : Below w.heap.size w w2 := below_trans B1 hx2
      have rD2 := dstays hx2 rD1
      have rE2 := dstays hx2 rE1
      clear cD0 cD1 cD2 cD3 cD4 cD5 cD6 cD7 cD8 cD9 cD10 cD11 cD12 cD13 cE0 cE1 cE2 cE3 cE4 cE5 cE6 cE7 cE8 cE9 cE10 cE11 cE12 cE13
      obtain ⟨cD0, cD1, cD2, cD3, cD4, cD5, cD6, cD7, cD8, cD9, cD10, cD11, cD12, cD13⟩ := cells14 rD2
      go_wp2_with fail
      refine (HTM.out _ B2).mono ?_
      rintro e w3 ⟨CX, rfl, fX3, hb3⟩
      have hx3 : Below w2.heap.size w2 w3 := hb3
      have m3 : w2.heap.size ≤ w3.heap.size := hb3.size
      have B3 : Below w.heap.size w w3 := below_trans B2 hx3
      have rD3 := dstays hx3 rD2
      have rE3 := dstays hx3 rE2
      clear cD0 cD1 cD2 cD3 cD4 cD5 cD6 cD7 cD8 cD9 cD10 cD11 cD12 cD13
      have cE0 := fun o => (cells14 (row_al8 rE3 o)).1
      have cE1 := fun o => (cells14 (row_al8 rE3 o)).2.1
      have cE2 := fun o => (cells14 (row_al8 rE3 o)).2.2.1
      have cE3 := fun o => (cells14 (row_al8 rE3 o)).2.2.2.1
      have cE4 := fun o => (cells14 (row_al8 rE3 o)).2.2.2.2.1
      have cE5 := fun o => (cells14 (row_al8 rE3 o)).2.2.2.2.2.1
      have cE6 := fun o => (cells14 (row_al8 rE3 o)).2.2.2.2.2.2.1
      have cE7 := fun o => (cells14 (row_al8 rE3 o)).2.2.2.2.2.2.2.1
      have cE8 := fun o => (cells14 (row_al8 rE3 o)).2.2.2.2.2.2.2.2.1
      have cE9 := fun o => (cells14 (row_al8 rE3 o)).2.2.2.2.2.2.2.2.2.1
      have cE10 := fun o => (cells14 (row_al8 rE3 o)).2.2.2.2.2.2.2.2.2.2.1
      have cE11 := fun o => (cells14 (row_al8 rE3 o)).2.2.2.2.2.2.2.2.2.2.2.1
      have cE12 := fun o => (cells14 (row_al8 rE3 o)).2.2.2.2.2.2.2.2.2.2.2.2.1
      have cE13 := fun o => (cells14 (row_al8 rE3 o)).2.2.2.2.2.2.2.2.2.2.2.2.2
      go_wp2_with fail
      refine (HTN.out _ (B3.alloc B3.size _)).mono ?_
      rintro e w4 ⟨CY, rfl, fY4, hb4⟩
      have hx4 : Below w3.heap.size w3 w4 := below_trans ((Below.refl _ _).alloc (Nat.le_refl _) _) hb4
      have m4 : w3.heap.size + 1 ≤ w4.heap.size := by have h := hb4.size; rw [World.size_alloc] at h; exact h
      have B4 : Below w.heap.size w w4 := below_trans B3 hx4
      have rD4 := dstays hx4 rD3
      have rE4 := dstays hx4 rE3
      have rX4 : w4.heap[w3.heap.size]? = some (.cells #[.int .u64 M.pc, .slice CX.ax M.x.length CX.cx, .int .i64 M.pr, .slice CX.ac M.cs.length CX.cc, .slice CX.ar M.ram.length CX.cr, .int .u64 M.d.t, .int .u64 M.d.cm, .bool M.d.so, .slice CX.ai M.d.xs.length CX.ci, .slice CX.ao M.d.ys.length CX.co, .int .i64 M.d.ir, .int .u64 M.hd, .bool M.hl, .bool M.wt] 33 (0, 0)) := dstays hb4 (heap_alloc_new _ _)
      have fX4 := fX3.below hx4
      rw [World.size_alloc] at fY4
      clear cE0 cE1 cE2 cE3 cE4 cE5 cE6 cE7 cE8 cE9 cE10 cE11 cE12 cE13
      have cX0 := fun o => (cells14 (row_al8 rX4 o)).1
      have cX1 := fun o => (cells14 (row_al8 rX4 o)).2.1
      have cX2 := fun o => (cells14 (row_al8 rX4 o)).2.2.1
      have cX3 := fun o => (cells14 (row_al8 rX4 o)).2.2.2.1
      have cX4 := fun o => (cells14 (row_al8 rX4 o)).2.2.2.2.1
      have cX5 := fun o => (cells14 (row_al8 rX4 o)).2.2.2.2.2.1
      have cX6 := fun o => (cells14 (row_al8 rX4 o)).2.2.2.2.2.2.1
      have cX7 := fun o => (cells14 (row_al8 rX4 o)).2.2.2.2.2.2.2.1
      have cX8 := fun o => (cells14 (row_al8 rX4 o)).2.2.2.2.2.2.2.2.1
      have cX9 := fun o => (cells14 (row_al8 rX4 o)).2.2.2.2.2.2.2.2.2.1
      have cX10 := fun o => (cells14 (row_al8 rX4 o)).2.2.2.2.2.2.2.2.2.2.1
      have cX11 := fun o => (cells14 (row_al8 rX4 o)).2.2.2.2.2.2.2.2.2.2.2.1
      have cX12 := fun o => (cells14 (row_al8 rX4 o)).2.2.2.2.2.2.2.2.2.2.2.2.1
      have cX13 := fun o => (cells14 (row_al8 rX4 o)).2.2.2.2.2.2.2.2.2.2.2.2.2
      go_wp2_with fail
      refine (HI.out _ _ _ (B4.alloc B4.size _) (fX4.below ((Below.refl _ _).alloc (Nat.le_refl _) _)).msl (fY4.below ((Below.refl _ _).alloc (Nat.le_refl _) _)).msl).mono ?_
      rintro e w5 ⟨rfl, hb5⟩
      have hx5 : Below w4.heap.size w4 w5 := below_trans ((Below.refl _ _).alloc (Nat.le_refl _) _) hb5
      have m5 : w4.heap.size + 1 ≤ w5.heap.size := by have h := hb5.size; rw [World.size_alloc] at h; exact h
      have B5 : Below w.heap.size w w5 := below_trans B4 hx5
      have rD5 := dstays hx5 rD4
      have rE5 := dstays hx5 rE4
      have rX5 := dstays hx5 rX4
      have rY5 : w5.heap[w4.heap.size]? = some (.cells #[.int .u64 N.pc, .slice CY.ax N.x.length CY.cx, .int .i64 N.pr, .slice CY.ac N.cs.length CY.cc, .slice CY.ar N.ram.length CY.cr, .int .u64 N.d.t, .int .u64 N.d.cm, .bool N.d.so, .slice CY.ai N.d.xs.length CY.ci, .slice CY.ao N.d.ys.length CY.co, .int .i64 N.d.ir, .int .u64 N.hd, .bool N.hl, .bool N.wt] 33 (0, 0)) := dstays hb5 (heap_alloc_new _ _)
      have fX5 := fX4.below hx5
      have fY5 := fY4.below hx5
      clear cX0 cX1 cX2 cX3 cX4 cX5 cX6 cX7 cX8 cX9 cX10 cX11 cX12 cX13
      obtain ⟨cX0, cX1, cX2, cX3, cX4, cX5, cX6, cX7, cX8, cX9, cX10, cX11, cX12, cX13⟩ := cells14 rX5
      obtain ⟨cD0, cD1, cD2, cD3, cD4, cD5, cD6, cD7, cD8, cD9, cD10, cD11, cD12, cD13⟩ := cells14 rD5
      have PW : Hid (∀ w', Below w5.heap.size w5 w' → (w'.cell? ⟨w3.heap.size, 0, none⟩ = some (.int .u64 M.pc) ∧ w'.cell? ⟨w3.heap.size, 1, none⟩ = some (.slice CX.ax M.x.length CX.cx) ∧ w'.cell? ⟨w3.heap.size, 2, none⟩ = some (.int .i64 M.pr) ∧ w'.cell? ⟨w3.heap.size, 3, none⟩ = some (.slice CX.ac M.cs.length CX.cc) ∧ w'.cell? ⟨w3.heap.size, 4, none⟩ = some (.slice CX.ar M.ram.length CX.cr) ∧ w'.cell? ⟨w3.heap.size, 5, none⟩ = some (.int .u64 M.d.t) ∧ w'.cell? ⟨w3.heap.size, 6, none⟩ = some (.int .u64 M.d.cm) ∧ w'.cell? ⟨w3.heap.size, 7, none⟩ = some (.bool M.d.so) ∧ w'.cell? ⟨w3.heap.size, 8, none⟩ = some (.slice CX.ai M.d.xs.length CX.ci) ∧ w'.cell? ⟨w3.heap.size, 9, none⟩ = some (.slice CX.ao M.d.ys.length CX.co) ∧ w'.cell? ⟨w3.heap.size, 10, none⟩ = some (.int .i64 M.d.ir) ∧ w'.cell? ⟨w3.heap.size, 11, none⟩ = some (.int .u64 M.hd) ∧ w'.cell? ⟨w3.heap.size, 12, none⟩ = some (.bool M.hl) ∧ w'.cell? ⟨w3.heap.size, 13, none⟩ = some (.bool M.wt)) ∧ (w'.cell? ⟨w.heap.size, 0, none⟩ = some (.int .u64 M.pc) ∧ w'.cell? ⟨w.heap.size, 1, none⟩ = some (.slice A.ax M.x.length A.cx) ∧ w'.cell? ⟨w.heap.size, 2, none⟩ = some (.int .i64 M.pr) ∧ w'.cell? ⟨w.heap.size, 3, none⟩ = some (.slice A.ac M.cs.length A.cc) ∧ w'.cell? ⟨w.heap.size, 4, none⟩ = some (.slice A.ar M.ram.length A.cr) ∧ w'.cell? ⟨w.heap.size, 5, none⟩ = some (.int .u64 M.d.t) ∧ w'.cell? ⟨w.heap.size, 6, none⟩ = some (.int .u64 M.d.cm) ∧ w'.cell? ⟨w.heap.size, 7, none⟩ = some (.bool M.d.so) ∧ w'.cell? ⟨w.heap.size, 8, none⟩ = some (.slice A.ai M.d.xs.length A.ci) ∧ w'.cell? ⟨w.heap.size, 9, none⟩ = some (.slice A.ao M.d.ys.length A.co) ∧ w'.cell? ⟨w.heap.size, 10, none⟩ = some (.int .i64 M.d.ir) ∧ w'.cell? ⟨w.heap.size, 11, none⟩ = some (.int .u64 M.hd) ∧ w'.cell? ⟨w.heap.size, 12, none⟩ = some (.bool M.hl) ∧ w'.cell? ⟨w.heap.size, 13, none⟩ = some (.bool M.wt)) ∧ Below w5.heap.size w5 w') := fun w' hb => ⟨cells14 (dstays hb rX5), cells14 (dstays hb rD5), hb⟩
      have PD : Hid (∀ w', Below w5.heap.size w5 w' → Below w5.heap.size w5 w'.drew) := fun w' hb => hb.drew
      have HTZ : Hid (∀ w', Below w5.heap.size w5 w' → Calls Try.prog 7 #[.agg #[.int .u64 M.pc, .slice A.ax M.x.length A.cx, .int .i64 M.pr, .slice A.ac M.cs.length A.cc, .slice A.ar M.ram.length A.cr, .int .u64 M.d.t, .int .u64 M.d.cm, .bool M.d.so, .slice A.ai M.d.xs.length A.ci, .slice A.ao M.d.ys.length A.co, .int .i64 M.d.ir, .int .u64 M.hd, .bool M.hl, .bool M.wt]] w' fun e w'' => ∃ C : MA, e = .returned (.agg #[.int .u64 M.pc, .slice C.ax M.x.length C.cx, .int .i64 M.pr, .slice C.ac M.cs.length C.cc, .slice C.ar M.ram.length C.cr, .int .u64 M.d.t, .int .u64 M.d.cm, .bool M.d.so, .slice C.ai M.d.xs.length C.ci, .slice C.ao M.d.ys.length C.co, .int .i64 M.d.ir, .int .u64 M.hd, .bool M.hl, .bool M.wt]) ∧ Hid (Fam w'.heap.size w''.heap.size w'' (mvF M C)) ∧ Below w5.heap.size w5 w'') := fun w' hb => (HTM.out w' (below_trans B5 hb)).mono fun e w'' ⟨C, h1, h2, h3⟩ => ⟨C, h1, h2, below_trans hb h3⟩
      have HEZ : Hid (∀ (C : MA) (B E : Nat) w', Below w5.heap.size w5 w' → Fam B E w' (mvF M C) → Calls Try.prog 9 #[.agg #[.int .u64 M.pc, .slice CX.ax M.x.length CX.cx, .int .i64 M.pr, .slice CX.ac M.cs.length CX.cc, .slice CX.ar M.ram.length CX.cr, .int .u64 M.d.t, .int .u64 M.d.cm, .bool M.d.so, .slice CX.ai M.d.xs.length CX.ci, .slice CX.ao M.d.ys.length CX.co, .int .i64 M.d.ir, .int .u64 M.hd, .bool M.hl, .bool M.wt], .agg #[.int .u64 M.pc, .slice C.ax M.x.length C.cx, .int .i64 M.pr, .slice C.ac M.cs.length C.cc, .slice C.ar M.ram.length C.cr, .int .u64 M.d.t, .int .u64 M.d.cm, .bool M.d.so, .slice C.ai M.d.xs.length C.ci, .slice C.ao M.d.ys.length C.co, .int .i64 M.d.ir, .int .u64 M.hd, .bool M.hl, .bool M.wt]] w' fun e w'' => e = .returned (.bool true) ∧ Below w5.heap.size w5 w'') := fun C B E w' hb hf => (eqMachine_same M _ _ w' hl (fX5.below hb).msl hf.msl).mono fun e w'' h => ⟨h.1, below_trans hb h.2⟩
      go_wp2_with fail
      go_region_held3 (fun w' => (w'.cell? ⟨w3.heap.size, 0, none⟩ = some (.int .u64 M.pc) ∧ w'.cell? ⟨w3.heap.size, 1, none⟩ = some (.slice CX.ax M.x.length CX.cx) ∧ w'.cell? ⟨w3.heap.size, 2, none⟩ = some (.int .i64 M.pr) ∧ w'.cell? ⟨w3.heap.size, 3, none⟩ = some (.slice CX.ac M.cs.length CX.cc) ∧ w'.cell? ⟨w3.heap.size, 4, none⟩ = some (.slice CX.ar M.ram.length CX.cr) ∧ w'.cell? ⟨w3.heap.size, 5, none⟩ = some (.int .u64 M.d.t) ∧ w'.cell? ⟨w3.heap.size, 6, none⟩ = some (.int .u64 M.d.cm) ∧ w'.cell? ⟨w3.heap.size, 7, none⟩ = some (.bool M.d.so) ∧ w'.cell? ⟨w3.heap.size, 8, none⟩ = some (.slice CX.ai M.d.xs.length CX.ci) ∧ w'.cell? ⟨w3.heap.size, 9, none⟩ = some (.slice CX.ao M.d.ys.length CX.co) ∧ w'.cell? ⟨w3.heap.size, 10, none⟩ = some (.int .i64 M.d.ir) ∧ w'.cell? ⟨w3.heap.size, 11, none⟩ = some (.int .u64 M.hd) ∧ w'.cell? ⟨w3.heap.size, 12, none⟩ = some (.bool M.hl) ∧ w'.cell? ⟨w3.heap.size, 13, none⟩ = some (.bool M.wt)) ∧ (w'.cell? ⟨w.heap.size, 0, none⟩ = some (.int .u64 M.pc) ∧ w'.cell? ⟨w.heap.size, 1, none⟩ = some (.slice A.ax M.x.length A.cx) ∧ w'.cell? ⟨w.heap.size, 2, none⟩ = some (.int .i64 M.pr) ∧ w'.cell? ⟨w.heap.size, 3, none⟩ = some (.slice A.ac M.cs.length A.cc) ∧ w'.cell? ⟨w.heap.size, 4, none⟩ = some (.slice A.ar M.ram.length A.cr) ∧ w'.cell? ⟨w.heap.size, 5, none⟩ = some (.int .u64 M.d.t) ∧ w'.cell? ⟨w.heap.size, 6, none⟩ = some (.int .u64 M.d.cm) ∧ w'.cell? ⟨w.heap.size, 7, none⟩ = some (.bool M.d.so) ∧ w'.cell? ⟨w.heap.size, 8, none⟩ = some (.slice A.ai M.d.xs.length A.ci) ∧ w'.cell? ⟨w.heap.size, 9, none⟩ = some (.slice A.ao M.d.ys.length A.co) ∧ w'.cell? ⟨w.heap.size, 10, none⟩ = some (.int .i64 M.d.ir) ∧ w'.cell? ⟨w.heap.size, 11, none⟩ = some (.int .u64 M.hd) ∧ w'.cell? ⟨w.heap.size, 12, none⟩ = some (.bool M.hl) ∧ w'.cell? ⟨w.heap.size, 13, none⟩ = some (.bool M.wt)) ∧ Below w5.heap.size w5 w') (first | exact PW.out _ (PD.out _ (by assumption)) | exact PW.out _ (by assumption) | exact PW.out _ (Below.refl _ _).drew) (first | (go_at_call 7; with_reducible refine (HTZ.out _ ?_).mono ?_; (first | assumption | (exact And.right (And.right (by assumption)))); rintro e w8 ⟨CZ, rfl, fz, hb8⟩) | (go_at_call 9; with_reducible refine (HEZ.out _ _ _ _ ?_ fz.out).mono ?_; (first | assumption | (exact And.right (And.right (by assumption)))); rintro e wz ⟨rfl, hbz⟩))
      obtain ⟨w6, hw6⟩ : ∃ w', w' = wz := ⟨_, rfl⟩
      rw [← hw6] at hbz ⊢
      clear hw6 PW PD HTZ HEZ
      have hb6 := hbz
      have hx6 : Below w5.heap.size w5 w6 := hb6
      have m6 : w5.heap.size ≤ w6.heap.size := hb6.size
      have B6 : Below w.heap.size w w6 := below_trans B5 hx6
      have rD6 := dstays hx6 rD5
      have rE6 := dstays hx6 rE5
      have rX6 := dstays hx6 rX5
      have rY6 := dstays hx6 rY5
      have fX6 := fX5.below hx6
      have fY6 := fY5.below hx6
      clear cX0 cX1 cX2 cX3 cX4 cX5 cX6 cX7 cX8 cX9 cX10 cX11 cX12 cX13 cD0 cD1 cD2 cD3 cD4 cD5 cD6 cD7 cD8 cD9 cD10 cD11 cD12 cD13
      as_aux_lemma =>
        obtain ⟨cY0, cY1, cY2, cY3, cY4, cY5, cY6, cY7, cY8, cY9, cY10, cY11, cY12, cY13⟩ := cells14 rY6
        obtain ⟨cE0, cE1, cE2, cE3, cE4, cE5, cE6, cE7, cE8, cE9, cE10, cE11, cE12, cE13⟩ := cells14 rE6
        have PW : Hid (∀ w', Below w6.heap.size w6 w' → (w'.cell? ⟨w4.heap.size, 0, none⟩ = some (.int .u64 N.pc) ∧ w'.cell? ⟨w4.heap.size, 1, none⟩ = some (.slice CY.ax N.x.length CY.cx) ∧ w'.cell? ⟨w4.heap.size, 2, none⟩ = some (.int .i64 N.pr) ∧ w'.cell? ⟨w4.heap.size, 3, none⟩ = some (.slice CY.ac N.cs.length CY.cc) ∧ w'.cell? ⟨w4.heap.size, 4, none⟩ = some (.slice CY.ar N.ram.length CY.cr) ∧ w'.cell? ⟨w4.heap.size, 5, none⟩ = some (.int .u64 N.d.t) ∧ w'.cell? ⟨w4.heap.size, 6, none⟩ = some (.int .u64 N.d.cm) ∧ w'.cell? ⟨w4.heap.size, 7, none⟩ = some (.bool N.d.so) ∧ w'.cell? ⟨w4.heap.size, 8, none⟩ = some (.slice CY.ai N.d.xs.length CY.ci) ∧ w'.cell? ⟨w4.heap.size, 9, none⟩ = some (.slice CY.ao N.d.ys.length CY.co) ∧ w'.cell? ⟨w4.heap.size, 10, none⟩ = some (.int .i64 N.d.ir) ∧ w'.cell? ⟨w4.heap.size, 11, none⟩ = some (.int .u64 N.hd) ∧ w'.cell? ⟨w4.heap.size, 12, none⟩ = some (.bool N.hl) ∧ w'.cell? ⟨w4.heap.size, 13, none⟩ = some (.bool N.wt)) ∧ (w'.cell? ⟨w.heap.size + 1, 0, none⟩ = some (.int .u64 N.pc) ∧ w'.cell? ⟨w.heap.size + 1, 1, none⟩ = some (.slice K.ax N.x.length K.cx) ∧ w'.cell? ⟨w.heap.size + 1, 2, none⟩ = some (.int .i64 N.pr) ∧ w'.cell? ⟨w.heap.size + 1, 3, none⟩ = some (.slice K.ac N.cs.length K.cc) ∧ w'.cell? ⟨w.heap.size + 1, 4, none⟩ = some (.slice K.ar N.ram.length K.cr) ∧ w'.cell? ⟨w.heap.size + 1, 5, none⟩ = some (.int .u64 N.d.t) ∧ w'.cell? ⟨w.heap.size + 1, 6, none⟩ = some (.int .u64 N.d.cm) ∧ w'.cell? ⟨w.heap.size + 1, 7, none⟩ = some (.bool N.d.so) ∧ w'.cell? ⟨w.heap.size + 1, 8, none⟩ = some (.slice K.ai N.d.xs.length K.ci) ∧ w'.cell? ⟨w.heap.size + 1, 9, none⟩ = some (.slice K.ao N.d.ys.length K.co) ∧ w'.cell? ⟨w.heap.size + 1, 10, none⟩ = some (.int .i64 N.d.ir) ∧ w'.cell? ⟨w.heap.size + 1, 11, none⟩ = some (.int .u64 N.hd) ∧ w'.cell? ⟨w.heap.size + 1, 12, none⟩ = some (.bool N.hl) ∧ w'.cell? ⟨w.heap.size + 1, 13, none⟩ = some (.bool N.wt)) ∧ Below w6.heap.size w6 w') := fun w' hb => ⟨cells14 (dstays hb rY6), cells14 (dstays hb rE6), hb⟩
        have PD : Hid (∀ w', Below w6.heap.size w6 w' → Below w6.heap.size w6 w'.drew) := fun w' hb => hb.drew
        have HTZ : Hid (∀ w', Below w6.heap.size w6 w' → Calls Try.prog 7 #[.agg #[.int .u64 N.pc, .slice K.ax N.x.length K.cx, .int .i64 N.pr, .slice K.ac N.cs.length K.cc, .slice K.ar N.ram.length K.cr, .int .u64 N.d.t, .int .u64 N.d.cm, .bool N.d.so, .slice K.ai N.d.xs.length K.ci, .slice K.ao N.d.ys.length K.co, .int .i64 N.d.ir, .int .u64 N.hd, .bool N.hl, .bool N.wt]] w' fun e w'' => ∃ C : MA, e = .returned (.agg #[.int .u64 N.pc, .slice C.ax N.x.length C.cx, .int .i64 N.pr, .slice C.ac N.cs.length C.cc, .slice C.ar N.ram.length C.cr, .int .u64 N.d.t, .int .u64 N.d.cm, .bool N.d.so, .slice C.ai N.d.xs.length C.ci, .slice C.ao N.d.ys.length C.co, .int .i64 N.d.ir, .int .u64 N.hd, .bool N.hl, .bool N.wt]) ∧ Hid (Fam w'.heap.size w''.heap.size w'' (mvF N C)) ∧ Below w6.heap.size w6 w'') := fun w' hb => (HTN.out w' (below_trans B6 hb)).mono fun e w'' ⟨C, h1, h2, h3⟩ => ⟨C, h1, h2, below_trans hb h3⟩
        have HEZ : Hid (∀ (C : MA) (B E : Nat) w', Below w6.heap.size w6 w' → Fam B E w' (mvF N C) → Calls Try.prog 9 #[.agg #[.int .u64 N.pc, .slice CY.ax N.x.length CY.cx, .int .i64 N.pr, .slice CY.ac N.cs.length CY.cc, .slice CY.ar N.ram.length CY.cr, .int .u64 N.d.t, .int .u64 N.d.cm, .bool N.d.so, .slice CY.ai N.d.xs.length CY.ci, .slice CY.ao N.d.ys.length CY.co, .int .i64 N.d.ir, .int .u64 N.hd, .bool N.hl, .bool N.wt], .agg #[.int .u64 N.pc, .slice C.ax N.x.length C.cx, .int .i64 N.pr, .slice C.ac N.cs.length C.cc, .slice C.ar N.ram.length C.cr, .int .u64 N.d.t, .int .u64 N.d.cm, .bool N.d.so, .slice C.ai N.d.xs.length C.ci, .slice C.ao N.d.ys.length C.co, .int .i64 N.d.ir, .int .u64 N.hd, .bool N.hl, .bool N.wt]] w' fun e w'' => e = .returned (.bool true) ∧ Below w6.heap.size w6 w'') := fun C B E w' hb hf => (eqMachine_same N _ _ w' hk (fY6.below hb).msl hf.msl).mono fun e w'' h => ⟨h.1, below_trans hb h.2⟩
        go_wp2_with fail
        go_region_held3 (fun w' => (w'.cell? ⟨w4.heap.size, 0, none⟩ = some (.int .u64 N.pc) ∧ w'.cell? ⟨w4.heap.size, 1, none⟩ = some (.slice CY.ax N.x.length CY.cx) ∧ w'.cell? ⟨w4.heap.size, 2, none⟩ = some (.int .i64 N.pr) ∧ w'.cell? ⟨w4.heap.size, 3, none⟩ = some (.slice CY.ac N.cs.length CY.cc) ∧ w'.cell? ⟨w4.heap.size, 4, none⟩ = some (.slice CY.ar N.ram.length CY.cr) ∧ w'.cell? ⟨w4.heap.size, 5, none⟩ = some (.int .u64 N.d.t) ∧ w'.cell? ⟨w4.heap.size, 6, none⟩ = some (.int .u64 N.d.cm) ∧ w'.cell? ⟨w4.heap.size, 7, none⟩ = some (.bool N.d.so) ∧ w'.cell? ⟨w4.heap.size, 8, none⟩ = some (.slice CY.ai N.d.xs.length CY.ci) ∧ w'.cell? ⟨w4.heap.size, 9, none⟩ = some (.slice CY.ao N.d.ys.length CY.co) ∧ w'.cell? ⟨w4.heap.size, 10, none⟩ = some (.int .i64 N.d.ir) ∧ w'.cell? ⟨w4.heap.size, 11, none⟩ = some (.int .u64 N.hd) ∧ w'.cell? ⟨w4.heap.size, 12, none⟩ = some (.bool N.hl) ∧ w'.cell? ⟨w4.heap.size, 13, none⟩ = some (.bool N.wt)) ∧ (w'.cell? ⟨w.heap.size + 1, 0, none⟩ = some (.int .u64 N.pc) ∧ w'.cell? ⟨w.heap.size + 1, 1, none⟩ = some (.slice K.ax N.x.length K.cx) ∧ w'.cell? ⟨w.heap.size + 1, 2, none⟩ = some (.int .i64 N.pr) ∧ w'.cell? ⟨w.heap.size + 1, 3, none⟩ = some (.slice K.ac N.cs.length K.cc) ∧ w'.cell? ⟨w.heap.size + 1, 4, none⟩ = some (.slice K.ar N.ram.length K.cr) ∧ w'.cell? ⟨w.heap.size + 1, 5, none⟩ = some (.int .u64 N.d.t) ∧ w'.cell? ⟨w.heap.size + 1, 6, none⟩ = some (.int .u64 N.d.cm) ∧ w'.cell? ⟨w.heap.size + 1, 7, none⟩ = some (.bool N.d.so) ∧ w'.cell? ⟨w.heap.size + 1, 8, none⟩ = some (.slice K.ai N.d.xs.length K.ci) ∧ w'.cell? ⟨w.heap.size + 1, 9, none⟩ = some (.slice K.ao N.d.ys.length K.co) ∧ w'.cell? ⟨w.heap.size + 1, 10, none⟩ = some (.int .i64 N.d.ir) ∧ w'.cell? ⟨w.heap.size + 1, 11, none⟩ = some (.int .u64 N.hd) ∧ w'.cell? ⟨w.heap.size + 1, 12, none⟩ = some (.bool N.hl) ∧ w'.cell? ⟨w.heap.size + 1, 13, none⟩ = some (.bool N.wt)) ∧ Below w6.heap.size w6 w') (first | exact PW.out _ (PD.out _ (by assumption)) | exact PW.out _ (by assumption) | exact PW.out _ (Below.refl _ _).drew) (first | (go_at_call 7; with_reducible refine (HTZ.out _ ?_).mono ?_; (first | assumption | (exact And.right (And.right (by assumption)))); rintro e w8 ⟨CZ, rfl, fz, hb8⟩) | (go_at_call 9; with_reducible refine (HEZ.out _ _ _ _ ?_ fz.out).mono ?_; (first | assumption | (exact And.right (And.right (by assumption)))); rintro e wz ⟨rfl, hbz⟩))
        obtain ⟨w7, hw7⟩ : ∃ w', w' = wz := ⟨_, rfl⟩
        rw [← hw7] at hbz ⊢
        clear hw7 PW PD HTZ HEZ
        have hb7 := hbz
        have hx7 : Below w6.heap.size w6 w7 := hb7
        have m7 : w6.heap.size ≤ w7.heap.size := hb7.size
        have B7 : Below w.heap.size w w7 := below_trans B6 hx7
        have rD7 := dstays hx7 rD6
        have rE7 := dstays hx7 rE6
        have rX7 := dstays hx7 rX6
        have rY7 := dstays hx7 rY6
        have fX7 := fX6.below hx7
        have fY7 := fY6.below hx7
        clear cY0 cY1 cY2 cY3 cY4 cY5 cY6 cY7 cY8 cY9 cY10 cY11 cY12 cY13 cE0 cE1 cE2 cE3 cE4 cE5 cE6 cE7 cE8 cE9 cE10 cE11 cE12 cE13
        go_wp2_with fail
        go_ret
        exact ⟨rfl, B7⟩
    · have hsy : szM N.x.length N.cs.length N.ram.length N.d.xs.length N.d.ys.length (1048576 - (M.x.length : Int) - (M.cs.length : Int) - (M.ram.length : Int) - (M.d.xs.length : Int) - (M.d.ys.length : Int)) = -1 := by unfold szM; rw [if_neg (by omega)]
      rw [hsy] at HSN
      clear hin hjn hsz hsm hsy hsn
      go_enter Try.func3, Try.ntmps3
      go_wp2_with fail
      refine (HSZ.out _).mono ?_
      rintro e w0 ⟨rfl, hb0⟩
      have hx0 : Below w.heap.size w w0 := below_trans (((Below.refl _ _).alloc (Nat.le_refl _) _).alloc (by simp) _) hb0
      have B0 : Below w.heap.size w w0 := hx0
      have m0 : w.heap.size + 1 + 1 ≤ w0.heap.size := by have h := hb0.size; rw [World.size_alloc, World.size_alloc] at h; exact h
      obtain ⟨rD0, rE0⟩ := rows2 hb0
      obtain ⟨cE0, cE1, cE2, cE3, cE4, cE5, cE6, cE7, cE8, cE9, cE10, cE11, cE12, cE13⟩ := cells14 rE0
      go_wp2_with fail
      refine (HSN.out _).mono ?_
      rintro e w1 ⟨rfl, hb1⟩
      have hx1 : Below w0.heap.size w0 w1 := hb1
      have m1 : w0.heap.size ≤ w1.heap.size := hb1.size
      have B1 : Below w.heap.size w w1 := below_trans B0 hx1
      have rD1 := dstays hx1 rD0
      have rE1 := dstays hx1 rE0
      clear cE0 cE1 cE2 cE3 cE4 cE5 cE6 cE7 cE8 cE9 cE10 cE11 cE12 cE13
      go_wp2_with fail
      go_ret
      exact ⟨rfl, B1⟩
  · have hsz : szM M.x.length M.cs.length M.ram.length M.d.xs.length M.d.ys.length 1048576 = -1 := by unfold szM; rw [if_neg (by omega)]
    rw [hsz] at HSZ
    clear hin hjn hsz hsm
    go_enter Try.func3, Try.ntmps3
    go_wp2_with fail
    refine (HSZ.out _).mono ?_
    rintro e w0 ⟨rfl, hb0⟩
    go_wp2_with fail
    go_ret
    exact ⟨rfl, below_trans (((Below.refl _ _).alloc (Nat.le_refl _) _).alloc (by simp) _) hb0⟩

end Go.Proofs.YtdcihpbggknhgaaR.fnExactSame
