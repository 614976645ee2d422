/- Own lemmas. -/
import Derived.Test.YtmigfnlfjgkgkaaK01
import Derived.Test.YtmigfnlfjgkgkaaK18
import Derived.Test.YtmigfnlfjgkgkaaK19
namespace Go.Proofs.Ytmigfnlfjgkgkaa
open Go.RowKit
set_option linter.unusedVariables false

set_option maxRecDepth 100000 in
set_option maxHeartbeats 6400000 in
theorem likeMachine_same (M : MV) (A C : MA) (w : World) (hl : MLen M) (ha : MSl w M A) (hc : MSl w M C) :
    Calls Try.prog 9 #[.agg #[.int .u64 M.pc, .slice A.ax M.x.length A.cx, .int .i64 M.pr, .slice A.ac M.cs.length A.cc, .slice A.ar M.ram.length A.cr, .int .u64 M.d.t, .int .u64 M.d.cm, .bool M.d.so, .slice A.ai M.d.xs.length A.ci, .slice A.ao M.d.ys.length A.co, .int .i64 M.d.ir, .int .u64 M.hd, .bool M.hl, .bool M.wt], .agg #[.int .u64 M.pc, .slice C.ax M.x.length C.cx, .int .i64 M.pr, .slice C.ac M.cs.length C.cc, .slice C.ar M.ram.length C.cr, .int .u64 M.d.t, .int .u64 M.d.cm, .bool M.d.so, .slice C.ai M.d.xs.length C.ci, .slice C.ao M.d.ys.length C.co, .int .i64 M.d.ir, .int .u64 M.hd, .bool M.hl, .bool M.wt]] w fun e w' => e = .returned (.bool true) ∧ Below w.heap.size w w' := by
  obtain ⟨ra, rb⟩ := rows2 (w := w) (o1 := .cells #[.int .u64 M.pc, .slice A.ax M.x.length A.cx, .int .i64 M.pr, .slice A.ac M.cs.length A.cc, .slice A.ar M.ram.length A.cr, .int .u64 M.d.t, .int .u64 M.d.cm, .bool M.d.so, .slice A.ai M.d.xs.length A.ci, .slice A.ao M.d.ys.length A.co, .int .i64 M.d.ir, .int .u64 M.hd, .bool M.hl, .bool M.wt] 29) (o2 := .cells #[.int .u64 M.pc, .slice C.ax M.x.length C.cx, .int .i64 M.pr, .slice C.ac M.cs.length C.cc, .slice C.ar M.ram.length C.cr, .int .u64 M.d.t, .int .u64 M.d.cm, .bool M.d.so, .slice C.ai M.d.xs.length C.ci, .slice C.ao M.d.ys.length C.co, .int .i64 M.d.ir, .int .u64 M.hd, .bool M.hl, .bool M.wt] 29) (Below.refl _ _)
  have RA := dhid ra
  have RB := dhid rb
  have B0 : Hid (Below w.heap.size w ((w.alloc (.cells #[.int .u64 M.pc, .slice A.ax M.x.length A.cx, .int .i64 M.pr, .slice A.ac M.cs.length A.cc, .slice A.ar M.ram.length A.cr, .int .u64 M.d.t, .int .u64 M.d.cm, .bool M.d.so, .slice A.ai M.d.xs.length A.ci, .slice A.ao M.d.ys.length A.co, .int .i64 M.d.ir, .int .u64 M.hd, .bool M.hl, .bool M.wt] 29)).alloc (.cells #[.int .u64 M.pc, .slice C.ax M.x.length C.cx, .int .i64 M.pr, .slice C.ac M.cs.length C.cc, .slice C.ar M.ram.length C.cr, .int .u64 M.d.t, .int .u64 M.d.cm, .bool M.d.so, .slice C.ai M.d.xs.length C.ci, .slice C.ao M.d.ys.length C.co, .int .i64 M.d.ir, .int .u64 M.hd, .bool M.hl, .bool M.wt] 29))) := ((Below.refl _ _).alloc (Nat.le_refl _) _).alloc (by simp) _
  clear ra rb
  have HX : Hid (∀ w', Below w.heap.size w w' → Calls Try.prog 27 #[.slice A.ax M.x.length A.cx, .slice C.ax M.x.length C.cx] w' fun e w'' => e = .returned (.bool true) ∧ Below w'.heap.size w' w'') := fun w' hb => (likeWords_any _ _ _ _ _ _ _ _ w' rfl rfl hl.x hl.x (ha.x.below hb) (hc.x.below hb)).mono fun e w'' h => ⟨by rw [h.1]; simp, h.2⟩
  have HS : Hid (∀ w', Below w.heap.size w w' → Calls Try.prog 27 #[.slice A.ac M.cs.length A.cc, .slice C.ac M.cs.length C.cc] w' fun e w'' => e = .returned (.bool true) ∧ Below w'.heap.size w' w'') := fun w' hb => (likeWords_any _ _ _ _ _ _ _ _ w' rfl rfl hl.cs hl.cs (ha.cs.below hb) (hc.cs.below hb)).mono fun e w'' h => ⟨by rw [h.1]; simp, h.2⟩
  have HD : Hid (∀ w', Below w.heap.size w w' → Calls Try.prog 28 #[.agg #[.int .u64 M.d.t, .int .u64 M.d.cm, .bool M.d.so, .slice A.ai M.d.xs.length A.ci, .slice A.ao M.d.ys.length A.co, .int .i64 M.d.ir], .agg #[.int .u64 M.d.t, .int .u64 M.d.cm, .bool M.d.so, .slice C.ai M.d.xs.length C.ci, .slice C.ao M.d.ys.length C.co, .int .i64 M.d.ir]] w' fun e w'' => e = .returned (.bool true) ∧ Below w'.heap.size w' w'') := fun w' hb => likeDev_same M.d _ _ _ _ _ _ _ _ w' (ha.xs.below hb) (ha.ys.below hb) (hc.xs.below hb) (hc.ys.below hb)
  have CA : Hid (∀ w', Below w.heap.size w w' → (convert 22 9 (.slice A.ar M.ram.length A.cr)).run Try.prog w' = .ok (.string (strOfNums M.ram)) w') := fun w' hb => conv_sl _ _ _ _ _ rfl (ha.ram.below hb)
  have CC : Hid (∀ w', Below w.heap.size w w' → (convert 22 9 (.slice C.ar M.ram.length C.cr)).run Try.prog w' = .ok (.string (strOfNums M.ram)) w') := fun w' hb => conv_sl _ _ _ _ _ rfl (hc.ram.below hb)
  clear ha hc hl
  obtain ⟨pc, x, pr, cs, ram, d, hd, hh, wt⟩ := M
  dsimp only at *
  generalize strOfNums ram = sr at *
  generalize x.length = nx at *
  generalize cs.length = nc at *
  generalize ram.length = nr at *
  generalize d.xs.length = n1 at *
  generalize d.ys.length = n2 at *
  obtain ⟨a0, a1, a2, a3, a4, a5, a6, a7, a8, a9, a10, a11, a12, a13⟩ := cells14 RA.out
  obtain ⟨b0, b1, b2, b3, b4, b5, b6, b7, b8, b9, b10, b11, b12, b13⟩ := cells14 RB.out
  go_enter Try.func9, Try.ntmps9
  go_wp2_with fail
  refine (HX.out _ B0.out).mono ?_
  rintro e w1 ⟨rfl, hb1⟩
  have RA1 := dhid (dstays hb1 RA.out)
  have RB1 := dhid (dstays hb1 RB.out)
  have B1 := dhid (below_trans B0.out hb1)
  clear hb1 RA RB B0 HX a0 a1 a2 a3 a4 a5 a6 a7 a8 a9 a10 a11 a12 a13 b0 b1 b2 b3 b4 b5 b6 b7 b8 b9 b10 b11 b12 b13
  obtain ⟨a0, a1, a2, a3, a4, a5, a6, a7, a8, a9, a10, a11, a12, a13⟩ := cells14 RA1.out
  obtain ⟨b0, b1, b2, b3, b4, b5, b6, b7, b8, b9, b10, b11, b12, b13⟩ := cells14 RB1.out
  go_wp2_with fail
  refine (HS.out _ B1.out).mono ?_
  rintro e w2 ⟨rfl, hb2⟩
  have RA2 := dhid (dstays hb2 RA1.out)
  have RB2 := dhid (dstays hb2 RB1.out)
  have B2 := dhid (below_trans B1.out hb2)
  clear hb2 RA1 RB1 B1 HS a0 a1 a2 a3 a4 a5 a6 a7 a8 a9 a10 a11 a12 a13 b0 b1 b2 b3 b4 b5 b6 b7 b8 b9 b10 b11 b12 b13
  obtain ⟨a0, a1, a2, a3, a4, a5, a6, a7, a8, a9, a10, a11, a12, a13⟩ := cells14 RA2.out
  obtain ⟨b0, b1, b2, b3, b4, b5, b6, b7, b8, b9, b10, b11, b12, b13⟩ := cells14 RB2.out
  have cva := CA.out _ B2.out
  have cvc := CC.out _ B2.out
  clear CA CC
  go_wp2_with fail
  refine (HD.out _ B2.out).mono ?_
  rintro e w3 ⟨rfl, hb3⟩
  have RA3 := dhid (dstays hb3 RA2.out)
  have RB3 := dhid (dstays hb3 RB2.out)
  have B3 := dhid (below_trans B2.out hb3)
  clear hb3 RA2 RB2 B2 HD cva cvc a0 a1 a2 a3 a4 a5 a6 a7 a8 a9 a10 a11 a12 a13 b0 b1 b2 b3 b4 b5 b6 b7 b8 b9 b10 b11 b12 b13
  obtain ⟨a0, a1, a2, a3, a4, a5, a6, a7, a8, a9, a10, a11, a12, a13⟩ := cells14 RA3.out
  obtain ⟨b0, b1, b2, b3, b4, b5, b6, b7, b8, b9, b10, b11, b12, b13⟩ := cells14 RB3.out
  go_wp2_with fail
  go_ret
  exact ⟨rfl, B3.out⟩

end Go.Proofs.Ytmigfnlfjgkgkaa
