/- Own lemmas. -/
import Derived.Test.YtilhcfhcdplicaaGreatDoorK03
namespace Go.Proofs.YtilhcfhcdplicaaGreatDoor
open Go.RowKit
set_option linter.unusedVariables false

structure Mx (w : World) (s r b : Nat) (TS T : TypeId) (ss rs cs : Array Value) (L : List FRow) (wr : World) : Prop where
  src : wr.heap[s]? = some (.cells ss TS (0, 0))
  res : wr.heap[r]? = some (.cells rs T (0, 0))
  row : wr.heap[b]? = some (.cells cs T (0, 0))
  fam : Fam (b + 1) wr.heap.size wr L
  below : Below w.heap.size w wr
  h1 : w.heap.size ≤ s
  h2 : s < r
  h3 : r < b

theorem Mx.put {w wr : World} {s r b : Nat} {TS T : TypeId} {ss rs cs : Array Value} {L : List FRow} (h : Mx w s r b TS T ss rs cs L wr) (i : Nat) (v : Value) : Mx w s r b TS T ss rs (cs.setIfInBounds i v) L (wr.setCell ⟨b, i, none⟩ v) := by
  have h1 := h.h1
  have h2 := h.h2
  have h3 := h.h3
  exact ⟨row_far h.src ⟨b, i, none⟩ v (by dsimp only; omega), row_far h.res ⟨b, i, none⟩ v (by dsimp only; omega), row_set h.row i v, (h.fam.set ⟨b, i, none⟩ v (.inl (by dsimp only; omega))).low (Nat.le_refl _) (by rw [size_set]; exact Nat.le_refl _), h.below.setCell (p := ⟨b, i, none⟩) (by dsimp only; omega) v, h1, h2, h3⟩

theorem Mx.call {w wr wx : World} {s r b : Nat} {TS T : TypeId} {ss rs cs : Array Value} {L : List FRow} (h : Mx w s r b TS T ss rs cs L wr) (hb : Below wr.heap.size wr wx) : Mx w s r b TS T ss rs cs L wx :=
  ⟨dstays hb h.src, dstays hb h.res, dstays hb h.row, (h.fam.below hb).low (Nat.le_refl _) hb.size, below_trans h.below hb, h.h1, h.h2, h.h3⟩

theorem Mx.add {w wr wx : World} {s r b : Nat} {TS T : TypeId} {ss rs cs : Array Value} {L : List FRow} (h : Mx w s r b TS T ss rs cs L wr) (q : FRow) (ho : wx.ownsRow wr.heap.size q.t 1 q.v q.n q.xs) (hb : Below wr.heap.size wr wx) : Mx w s r b TS T ss rs cs (L ++ [q]) wx := by
  have h4 : b < wr.heap.size := (Array.getElem?_eq_some_iff.1 h.row).1
  exact ⟨dstays hb h.src, dstays hb h.res, dstays hb h.row, (h.fam.below hb).snoc q _ wx.heap.size ho (Nat.le_refl _) (by omega) (Nat.le_refl _) hb.size, below_trans h.below hb, h.h1, h.h2, h.h3⟩

theorem Mx.add2 {w wr wx : World} {s r b : Nat} {TS T : TypeId} {ss rs cs : Array Value} {L : List FRow} (h : Mx w s r b TS T ss rs cs L wr) (q1 q2 : FRow) (hf : Fam wr.heap.size wx.heap.size wx [q1, q2]) (hb : Below wr.heap.size wr wx) : Mx w s r b TS T ss rs cs (L ++ [q1, q2]) wx := by
  have h4 : b < wr.heap.size := (Array.getElem?_eq_some_iff.1 h.row).1
  have hF := h.fam.below hb
  have hs := hb.size
  refine ⟨dstays hb h.src, dstays hb h.res, dstays hb h.row, ⟨fun q hq => ?_, fun q hq k e => ?_, List.pairwise_append.2 ⟨hF.ne, hf.ne, fun q hq t ht k e e2 => ?_⟩⟩, below_trans h.below hb, h.h1, h.h2, h.h3⟩
  · rcases List.mem_append.1 hq with hq | hq
    · exact hF.own q hq
    · exact own_low (hf.own q hq) (by omega)
  · rcases List.mem_append.1 hq with hq | hq
    · have := hF.hi q hq k e
      omega
    · exact hf.hi q hq k e
  · have := hF.hi q hq k e
    have := ((hf.own t ht).lt k e2).1
    omega

theorem toUint64S_g (a : Option Addr) (n c : Nat) (zs : List Int) (w' : World) (h1 : zs.length = n) (h2 : n ≤ 1048576) (h3 : Sl .u64 w' a zs) :
    Calls Tryz.prog 71 #[.slice a n c] w' fun e w'' => ∃ g, e = .returned (.slice (some ⟨g, 0, none⟩) n n) ∧ w''.ownsRow w'.heap.size 24 1 (.slice (some ⟨g, 0, none⟩) n n) n (zs.map (Value.int .u64)) ∧ Below w'.heap.size w' w'' :=
  (toUint64S_any a n c zs w' h1 h2 h3).mono fun e w'' h => ⟨_, h.1, h.2.1, h.2.2⟩

structure MLen (M : MV) : Prop where
  x : M.x.length ≤ 1048576
  cs : M.cs.length ≤ 1048576
  ram : M.ram.length ≤ 1048576
  xs : M.d.xs.length ≤ 1048576
  ys : M.d.ys.length ≤ 1048576

set_option maxRecDepth 100000 in
set_option maxHeartbeats 3200000 in
theorem toMachine_any (M : MV) (A : MA) (w : World) (hl : MLen M) (hs : MSl w M A) :
    Calls Tryz.prog 28 #[.agg #[.int .u64 M.pc, .slice A.ax M.x.length A.cx, .int .i64 M.pr, .slice A.ac M.cs.length A.cc, .slice A.ar M.ram.length A.cr, .int .u64 M.d.t, .int .u64 M.d.cm, .bool M.d.so, .slice A.ai M.d.xs.length A.ci, .slice A.ao M.d.ys.length A.co, .int .i64 M.d.ir, .int .u64 M.hd, .bool M.hl, .bool M.wt]] w fun e w' => ∃ gx gc gr gi go : Nat, e = .returned (.agg (mvc M ⟨some ⟨gx, 0, none⟩, M.x.length, some ⟨gc, 0, none⟩, M.cs.length, some ⟨gr, 0, none⟩, M.ram.length, some ⟨gi, 0, none⟩, M.d.xs.length, some ⟨go, 0, none⟩, M.d.ys.length⟩)) ∧ Fam w.heap.size w'.heap.size w' (mvF M ⟨some ⟨gx, 0, none⟩, M.x.length, some ⟨gc, 0, none⟩, M.cs.length, some ⟨gr, 0, none⟩, M.ram.length, some ⟨gi, 0, none⟩, M.d.xs.length, some ⟨go, 0, none⟩, M.d.ys.length⟩) ∧ Below w.heap.size w w' := by
  have H1 : Hid (∀ w', Below w.heap.size w w' → Calls Tryz.prog 71 #[.slice A.ax M.x.length A.cx] w' fun e w'' => ∃ g, e = .returned (.slice (some ⟨g, 0, none⟩) M.x.length M.x.length) ∧ w''.ownsRow w'.heap.size 24 1 (.slice (some ⟨g, 0, none⟩) M.x.length M.x.length) M.x.length (M.x.map (Value.int .u64)) ∧ Below w'.heap.size w' w'') := fun w' hb => toUint64S_g _ _ _ _ w' rfl hl.x (hs.x.below hb)
  have H2 : Hid (∀ w', Below w.heap.size w w' → Calls Tryz.prog 71 #[.slice A.ac M.cs.length A.cc] w' fun e w'' => ∃ g, e = .returned (.slice (some ⟨g, 0, none⟩) M.cs.length M.cs.length) ∧ w''.ownsRow w'.heap.size 24 1 (.slice (some ⟨g, 0, none⟩) M.cs.length M.cs.length) M.cs.length (M.cs.map (Value.int .u64)) ∧ Below w'.heap.size w' w'') := fun w' hb => toUint64S_g _ _ _ _ w' rfl hl.cs (hs.cs.below hb)
  have H3 : Hid (∀ w', Below w.heap.size w w' → Calls Tryz.prog 72 #[.slice A.ar M.ram.length A.cr] w' fun e w'' => ∃ g, e = .returned (.slice (some ⟨g, 0, none⟩) M.ram.length M.ram.length) ∧ w''.ownsRow w'.heap.size 5 1 (.slice (some ⟨g, 0, none⟩) M.ram.length M.ram.length) M.ram.length (M.ram.map (Value.int .u8)) ∧ Below w'.heap.size w' w'') := fun w' hb => toByteS_g _ _ _ _ w' rfl hl.ram (hs.ram.below hb)
  have H4 : Hid (∀ w', Below w.heap.size w w' → Calls Tryz.prog 73 #[.agg #[.int .u64 M.d.t, .int .u64 M.d.cm, .bool M.d.so, .slice A.ai M.d.xs.length A.ci, .slice A.ao M.d.ys.length A.co, .int .i64 M.d.ir]] w' fun e w'' => ∃ g1 g2 : Nat, e = .returned (.agg #[.int .u64 M.d.t, .int .u64 M.d.cm, .bool M.d.so, .slice (some ⟨g1, 0, none⟩) M.d.xs.length M.d.xs.length, .slice (some ⟨g2, 0, none⟩) M.d.ys.length M.d.ys.length, .int .i64 M.d.ir]) ∧ Fam w'.heap.size w''.heap.size w'' (devF (some ⟨g1, 0, none⟩) M.d.xs.length M.d.xs.length M.d.xs (some ⟨g2, 0, none⟩) M.d.ys.length M.d.ys.length M.d.ys) ∧ Below w'.heap.size w' w'') := fun w' hb => toDev_any _ _ _ _ _ _ _ _ _ _ M.d.xs M.d.ys w' rfl rfl hl.xs hl.ys (hs.xs.below hb) (hs.ys.below hb)
  have hB3 : ∀ o1 o2 o3, Below w.heap.size w (((w.alloc o1).alloc o2).alloc o3) := fun o1 o2 o3 => (((Below.refl _ _).alloc (Nat.le_refl _) o1).alloc (by simp) o2).alloc (by simp; omega) o3
  clear hl hs
  go_enter Tryz.func28, Tryz.ntmps28
  go_wp2_with fail
  obtain ⟨r0, r1, r2⟩ := rows3 (w := w) (o1 := .cells #[.int .u64 M.pc, .slice A.ax M.x.length A.cx, .int .i64 M.pr, .slice A.ac M.cs.length A.cc, .slice A.ar M.ram.length A.cr, .int .u64 M.d.t, .int .u64 M.d.cm, .bool M.d.so, .slice A.ai M.d.xs.length A.ci, .slice A.ao M.d.ys.length A.co, .int .i64 M.d.ir, .int .u64 M.hd, .bool M.hl, .bool M.wt] 52) (o2 := .cells #[.int .u64 0, .slice none 0 0, .int .i64 0, .slice none 0 0, .slice none 0 0, .int .u64 0, .int .u64 0, .bool false, .slice none 0 0, .slice none 0 0, .int .i64 0, .int .u64 0, .bool false, .bool false] 29) (o3 := .cells #[.int .u64 M.pc, .slice none 0 0, .int .i64 0, .slice none 0 0, .slice none 0 0, .int .u64 0, .int .u64 0, .bool false, .slice none 0 0, .slice none 0 0, .int .i64 0, .int .u64 0, .bool false, .bool false] 29) (Below.refl _ _)
  have M0 : Hid (Mx w w.heap.size (w.heap.size + 1) (w.heap.size + 1 + 1) 52 29 #[.int .u64 M.pc, .slice A.ax M.x.length A.cx, .int .i64 M.pr, .slice A.ac M.cs.length A.cc, .slice A.ar M.ram.length A.cr, .int .u64 M.d.t, .int .u64 M.d.cm, .bool M.d.so, .slice A.ai M.d.xs.length A.ci, .slice A.ao M.d.ys.length A.co, .int .i64 M.d.ir, .int .u64 M.hd, .bool M.hl, .bool M.wt] #[.int .u64 0, .slice none 0 0, .int .i64 0, .slice none 0 0, .slice none 0 0, .int .u64 0, .int .u64 0, .bool false, .slice none 0 0, .slice none 0 0, .int .i64 0, .int .u64 0, .bool false, .bool false] #[.int .u64 M.pc, .slice none 0 0, .int .i64 0, .slice none 0 0, .slice none 0 0, .int .u64 0, .int .u64 0, .bool false, .slice none 0 0, .slice none 0 0, .int .i64 0, .int .u64 0, .bool false, .bool false] [] (((w.alloc (.cells #[.int .u64 M.pc, .slice A.ax M.x.length A.cx, .int .i64 M.pr, .slice A.ac M.cs.length A.cc, .slice A.ar M.ram.length A.cr, .int .u64 M.d.t, .int .u64 M.d.cm, .bool M.d.so, .slice A.ai M.d.xs.length A.ci, .slice A.ao M.d.ys.length A.co, .int .i64 M.d.ir, .int .u64 M.hd, .bool M.hl, .bool M.wt] 52)).alloc (.cells #[.int .u64 0, .slice none 0 0, .int .i64 0, .slice none 0 0, .slice none 0 0, .int .u64 0, .int .u64 0, .bool false, .slice none 0 0, .slice none 0 0, .int .i64 0, .int .u64 0, .bool false, .bool false] 29)).alloc (.cells #[.int .u64 M.pc, .slice none 0 0, .int .i64 0, .slice none 0 0, .slice none 0 0, .int .u64 0, .int .u64 0, .bool false, .slice none 0 0, .slice none 0 0, .int .i64 0, .int .u64 0, .bool false, .bool false] 29))) := ⟨r0, r1, r2, Fam.nil _ _ _, hB3 _ _ _, Nat.le_refl _, by omega, by omega⟩
  clear r0 r1 r2
  generalize ((w.alloc (.cells #[.int .u64 M.pc, .slice A.ax M.x.length A.cx, .int .i64 M.pr, .slice A.ac M.cs.length A.cc, .slice A.ar M.ram.length A.cr, .int .u64 M.d.t, .int .u64 M.d.cm, .bool M.d.so, .slice A.ai M.d.xs.length A.ci, .slice A.ao M.d.ys.length A.co, .int .i64 M.d.ir, .int .u64 M.hd, .bool M.hl, .bool M.wt] 52)).alloc (.cells #[.int .u64 0, .slice none 0 0, .int .i64 0, .slice none 0 0, .slice none 0 0, .int .u64 0, .int .u64 0, .bool false, .slice none 0 0, .slice none 0 0, .int .i64 0, .int .u64 0, .bool false, .bool false] 29)).alloc (.cells #[.int .u64 M.pc, .slice none 0 0, .int .i64 0, .slice none 0 0, .slice none 0 0, .int .u64 0, .int .u64 0, .bool false, .slice none 0 0, .slice none 0 0, .int .i64 0, .int .u64 0, .bool false, .bool false] 29) = W0 at *
  refine (H1.out _ M0.out.below).mono ?_
  rintro e w1 ⟨gx, rfl, ow1, hb1⟩
  have M1 := dhid (M0.out.add (wRow (some ⟨gx, 0, none⟩) M.x.length M.x.length M.x) ow1 hb1)
  clear ow1 hb1 M0
  obtain ⟨s0, s1, s2, s3, s4, s5, s6, s7, s8, s9, s10, s11, s12, s13⟩ := cells14 M1.out.src
  obtain ⟨p0, p1, p2, p3, p4, p5, p6, p7, p8, p9, p10, p11, p12, p13⟩ := cells14 M1.out.row
  obtain ⟨f0, f1, f2, f3, f4, f5, f6, f7, f8, f9, f10, f11, f12, f13⟩ := froz14 M1.out.row
  go_wp2_with fail
  have M2 : Hid (Mx w w.heap.size (w.heap.size + 1) (w.heap.size + 1 + 1) 52 29 #[.int .u64 M.pc, .slice A.ax M.x.length A.cx, .int .i64 M.pr, .slice A.ac M.cs.length A.cc, .slice A.ar M.ram.length A.cr, .int .u64 M.d.t, .int .u64 M.d.cm, .bool M.d.so, .slice A.ai M.d.xs.length A.ci, .slice A.ao M.d.ys.length A.co, .int .i64 M.d.ir, .int .u64 M.hd, .bool M.hl, .bool M.wt] #[.int .u64 0, .slice none 0 0, .int .i64 0, .slice none 0 0, .slice none 0 0, .int .u64 0, .int .u64 0, .bool false, .slice none 0 0, .slice none 0 0, .int .i64 0, .int .u64 0, .bool false, .bool false] #[.int .u64 M.pc, .slice (some ⟨gx, 0, none⟩) M.x.length M.x.length, .int .i64 M.pr, .slice none 0 0, .slice none 0 0, .int .u64 0, .int .u64 0, .bool false, .slice none 0 0, .slice none 0 0, .int .i64 0, .int .u64 0, .bool false, .bool false] [wRow (some ⟨gx, 0, none⟩) M.x.length M.x.length M.x] ((w1.setCell ⟨(w.heap.size + 1 + 1), 1, none⟩ (.slice (some ⟨gx, 0, none⟩) M.x.length M.x.length)).setCell ⟨(w.heap.size + 1 + 1), 2, none⟩ (.int .i64 M.pr))) := (M1.out.put 1 _).put 2 _
  clear s0 p0 f0 s1 p1 f1 s2 p2 f2 s3 p3 f3 s4 p4 f4 s5 p5 f5 s6 p6 f6 s7 p7 f7 s8 p8 f8 s9 p9 f9 s10 p10 f10 s11 p11 f11 s12 p12 f12 s13 p13 f13
  clear M1
  generalize (w1.setCell ⟨w.heap.size + 1 + 1, 1, none⟩ (.slice (some ⟨gx, 0, none⟩) M.x.length M.x.length)).setCell ⟨w.heap.size + 1 + 1, 2, none⟩ (.int .i64 M.pr) = W1 at *
  refine (H2.out _ M2.out.below).mono ?_
  rintro e w2 ⟨gc, rfl, ow2, hb2⟩
  have M3 := dhid (M2.out.add (wRow (some ⟨gc, 0, none⟩) M.cs.length M.cs.length M.cs) ow2 hb2)
  clear ow2 hb2 M2
  obtain ⟨s0, s1, s2, s3, s4, s5, s6, s7, s8, s9, s10, s11, s12, s13⟩ := cells14 M3.out.src
  obtain ⟨p0, p1, p2, p3, p4, p5, p6, p7, p8, p9, p10, p11, p12, p13⟩ := cells14 M3.out.row
  obtain ⟨f0, f1, f2, f3, f4, f5, f6, f7, f8, f9, f10, f11, f12, f13⟩ := froz14 M3.out.row
  go_wp2_with fail
  have M4 : Hid (Mx w w.heap.size (w.heap.size + 1) (w.heap.size + 1 + 1) 52 29 #[.int .u64 M.pc, .slice A.ax M.x.length A.cx, .int .i64 M.pr, .slice A.ac M.cs.length A.cc, .slice A.ar M.ram.length A.cr, .int .u64 M.d.t, .int .u64 M.d.cm, .bool M.d.so, .slice A.ai M.d.xs.length A.ci, .slice A.ao M.d.ys.length A.co, .int .i64 M.d.ir, .int .u64 M.hd, .bool M.hl, .bool M.wt] #[.int .u64 0, .slice none 0 0, .int .i64 0, .slice none 0 0, .slice none 0 0, .int .u64 0, .int .u64 0, .bool false, .slice none 0 0, .slice none 0 0, .int .i64 0, .int .u64 0, .bool false, .bool false] #[.int .u64 M.pc, .slice (some ⟨gx, 0, none⟩) M.x.length M.x.length, .int .i64 M.pr, .slice (some ⟨gc, 0, none⟩) M.cs.length M.cs.length, .slice none 0 0, .int .u64 0, .int .u64 0, .bool false, .slice none 0 0, .slice none 0 0, .int .i64 0, .int .u64 0, .bool false, .bool false] [wRow (some ⟨gx, 0, none⟩) M.x.length M.x.length M.x, wRow (some ⟨gc, 0, none⟩) M.cs.length M.cs.length M.cs] (w2.setCell ⟨(w.heap.size + 1 + 1), 3, none⟩ (.slice (some ⟨gc, 0, none⟩) M.cs.length M.cs.length))) := M3.out.put 3 _
  clear s0 p0 f0 s1 p1 f1 s2 p2 f2 s3 p3 f3 s4 p4 f4 s5 p5 f5 s6 p6 f6 s7 p7 f7 s8 p8 f8 s9 p9 f9 s10 p10 f10 s11 p11 f11 s12 p12 f12 s13 p13 f13
  clear M3
  generalize w2.setCell ⟨w.heap.size + 1 + 1, 3, none⟩ (.slice (some ⟨gc, 0, none⟩) M.cs.length M.cs.length) = W2 at *
  refine (H3.out _ M4.out.below).mono ?_
  rintro e w3 ⟨gr, rfl, ow3, hb3⟩
  have M5 := dhid (M4.out.add (bRow (some ⟨gr, 0, none⟩) M.ram.length M.ram.length M.ram) ow3 hb3)
  clear ow3 hb3 M4
  obtain ⟨s0, s1, s2, s3, s4, s5, s6, s7, s8, s9, s10, s11, s12, s13⟩ := cells14 M5.out.src
  obtain ⟨p0, p1, p2, p3, p4, p5, p6, p7, p8, p9, p10, p11, p12, p13⟩ := cells14 M5.out.row
  obtain ⟨f0, f1, f2, f3, f4, f5, f6, f7, f8, f9, f10, f11, f12, f13⟩ := froz14 M5.out.row
  go_wp2_with fail
  have M6 : Hid (Mx w w.heap.size (w.heap.size + 1) (w.heap.size + 1 + 1) 52 29 #[.int .u64 M.pc, .slice A.ax M.x.length A.cx, .int .i64 M.pr, .slice A.ac M.cs.length A.cc, .slice A.ar M.ram.length A.cr, .int .u64 M.d.t, .int .u64 M.d.cm, .bool M.d.so, .slice A.ai M.d.xs.length A.ci, .slice A.ao M.d.ys.length A.co, .int .i64 M.d.ir, .int .u64 M.hd, .bool M.hl, .bool M.wt] #[.int .u64 0, .slice none 0 0, .int .i64 0, .slice none 0 0, .slice none 0 0, .int .u64 0, .int .u64 0, .bool false, .slice none 0 0, .slice none 0 0, .int .i64 0, .int .u64 0, .bool false, .bool false] #[.int .u64 M.pc, .slice (some ⟨gx, 0, none⟩) M.x.length M.x.length, .int .i64 M.pr, .slice (some ⟨gc, 0, none⟩) M.cs.length M.cs.length, .slice (some ⟨gr, 0, none⟩) M.ram.length M.ram.length, .int .u64 0, .int .u64 0, .bool false, .slice none 0 0, .slice none 0 0, .int .i64 0, .int .u64 0, .bool false, .bool false] [wRow (some ⟨gx, 0, none⟩) M.x.length M.x.length M.x, wRow (some ⟨gc, 0, none⟩) M.cs.length M.cs.length M.cs, bRow (some ⟨gr, 0, none⟩) M.ram.length M.ram.length M.ram] (w3.setCell ⟨(w.heap.size + 1 + 1), 4, none⟩ (.slice (some ⟨gr, 0, none⟩) M.ram.length M.ram.length))) := M5.out.put 4 _
  clear s0 p0 f0 s1 p1 f1 s2 p2 f2 s3 p3 f3 s4 p4 f4 s5 p5 f5 s6 p6 f6 s7 p7 f7 s8 p8 f8 s9 p9 f9 s10 p10 f10 s11 p11 f11 s12 p12 f12 s13 p13 f13
  clear M5
  generalize w3.setCell ⟨w.heap.size + 1 + 1, 4, none⟩ (.slice (some ⟨gr, 0, none⟩) M.ram.length M.ram.length) = W3 at *
  refine (H4.out _ M6.out.below).mono ?_
  rintro e w4 ⟨gi, go, rfl, fm4, hb4⟩
  have M7 := dhid (M6.out.add2 (bRow (some ⟨gi, 0, none⟩) M.d.xs.length M.d.xs.length M.d.xs) (bRow (some ⟨go, 0, none⟩) M.d.ys.length M.d.ys.length M.d.ys) fm4 hb4)
  clear fm4 hb4 M6
  obtain ⟨s0, s1, s2, s3, s4, s5, s6, s7, s8, s9, s10, s11, s12, s13⟩ := cells14 M7.out.src
  obtain ⟨p0, p1, p2, p3, p4, p5, p6, p7, p8, p9, p10, p11, p12, p13⟩ := cells14 M7.out.row
  obtain ⟨f0, f1, f2, f3, f4, f5, f6, f7, f8, f9, f10, f11, f12, f13⟩ := froz14 M7.out.row
  obtain ⟨r0, r1, r2, r3, r4, r5, r6, r7, r8, r9, r10, r11, r12, r13⟩ := cells14 M7.out.res
  obtain ⟨y0, y1, y2, y3, y4, y5, y6, y7, y8, y9, y10, y11, y12, y13⟩ := froz14 M7.out.res
  go_wp2_with fail
  have M8 := (((((((((M7.out.put 5 (.int .u64 M.d.t)).put 6 (.int .u64 M.d.cm)).put 7 (.bool M.d.so)).put 8 (.slice (some ⟨gi, 0, none⟩) M.d.xs.length M.d.xs.length)).put 9 (.slice (some ⟨go, 0, none⟩) M.d.ys.length M.d.ys.length)).put 10 (.int .i64 M.d.ir)).put 11 (.int .u64 M.hd)).put 12 (.bool M.hl)).put 13 (.bool M.wt))
  have T1 := row_put14 M8.res (.int .u64 M.pc) (.slice (some ⟨gx, 0, none⟩) M.x.length M.x.length) (.int .i64 M.pr) (.slice (some ⟨gc, 0, none⟩) M.cs.length M.cs.length) (.slice (some ⟨gr, 0, none⟩) M.ram.length M.ram.length) (.int .u64 M.d.t) (.int .u64 M.d.cm) (.bool M.d.so) (.slice (some ⟨gi, 0, none⟩) M.d.xs.length M.d.xs.length) (.slice (some ⟨go, 0, none⟩) M.d.ys.length M.d.ys.length) (.int .i64 M.d.ir) (.int .u64 M.hd) (.bool M.hl) (.bool M.wt)
  exact bodyPost_ret (results_cell_row Tryz.results28 _ _ _ _ _ _ _ rfl T1 Tryz.underlying29 rfl mac_size) rfl ⟨gx, gc, gr, gi, go, rfl, (M8.fam.put14 (w.heap.size + 1) (.inl (by omega)) (.int .u64 M.pc) (.slice (some ⟨gx, 0, none⟩) M.x.length M.x.length) (.int .i64 M.pr) (.slice (some ⟨gc, 0, none⟩) M.cs.length M.cs.length) (.slice (some ⟨gr, 0, none⟩) M.ram.length M.ram.length) (.int .u64 M.d.t) (.int .u64 M.d.cm) (.bool M.d.so) (.slice (some ⟨gi, 0, none⟩) M.d.xs.length M.d.xs.length) (.slice (some ⟨go, 0, none⟩) M.d.ys.length M.d.ys.length) (.int .i64 M.d.ir) (.int .u64 M.hd) (.bool M.hl) (.bool M.wt)).low (by omega) (by simp only [size_set]; exact Nat.le_refl _), below_put14 M8.below (by omega) (.int .u64 M.pc) (.slice (some ⟨gx, 0, none⟩) M.x.length M.x.length) (.int .i64 M.pr) (.slice (some ⟨gc, 0, none⟩) M.cs.length M.cs.length) (.slice (some ⟨gr, 0, none⟩) M.ram.length M.ram.length) (.int .u64 M.d.t) (.int .u64 M.d.cm) (.bool M.d.so) (.slice (some ⟨gi, 0, none⟩) M.d.xs.length M.d.xs.length) (.slice (some ⟨go, 0, none⟩) M.d.ys.length M.d.ys.length) (.int .i64 M.d.ir) (.int .u64 M.hd) (.bool M.hl) (.bool M.wt)⟩

theorem szUint64S_any (a : Option Addr) (n c : Nat) (l : Int) (w : World) (h0 : -1 ≤ l) (h1 : l ≤ 1048576) (hn : n ≤ 9223372036854775807) :
    Calls Tryz.prog 68 #[.slice a n c, .int .i64 l] w fun e w' => e = .returned (.int .i64 (if (n : Int) ≤ l then l - n else -1)) ∧ w' = w := by
  by_cases h : (n : Int) ≤ l
  · have d : decide (l - (n : Int) < 0) = false := by simp; omega
    rw [if_pos h]
    clear h
    go_enter Tryz.func68, Tryz.ntmps68
    go_wp2_with fail
    go_ret
    exact ⟨rfl, rfl⟩
  · have d : decide (l - (n : Int) < 0) = true := by simp; omega
    rw [if_neg h]
    clear h
    go_enter Tryz.func68, Tryz.ntmps68
    go_wp2_with fail
    go_ret
    exact ⟨rfl, rfl⟩

def szM (nx nc nr ni no : Nat) (l : Int) : Int := if (nx : Int) + nc + nr + ni + no ≤ l then l - nx - nc - nr - ni - no else -1

set_option maxRecDepth 100000 in
set_option maxHeartbeats 3200000 in
theorem szMachine_any (pc : Int) (ax : Option Addr) (nx cx : Nat) (pr : Int) (ac : Option Addr) (nc cc : Nat) (ar : Option Addr) (nr cr : Nat) (t cm : Int) (so : Bool) (ai : Option Addr) (ni ci : Nat) (ao : Option Addr) (no co : Nat) (ir hd : Int) (hl wt : Bool) (l : Int) (w : World) (h0 : 0 ≤ l) (h1 : l ≤ 1048576) (hx : nx ≤ 9223372036854775807) (hc : nc ≤ 9223372036854775807) (hr : nr ≤ 9223372036854775807) (hi : ni ≤ 9223372036854775807) (ho : no ≤ 9223372036854775807) :
    Calls Tryz.prog 27 #[.agg #[.int .u64 pc, .slice ax nx cx, .int .i64 pr, .slice ac nc cc, .slice ar nr cr, .int .u64 t, .int .u64 cm, .bool so, .slice ai ni ci, .slice ao no co, .int .i64 ir, .int .u64 hd, .bool hl, .bool wt], .int .i64 l] w fun e w' => e = .returned (.int .i64 (szM nx nc nr ni no l)) ∧ Below w.heap.size w w' := by
  have hB : ∀ o, Below w.heap.size w (w.alloc o) := fun o => (Below.refl _ _).alloc (Nat.le_refl _) o
  by_cases k0 : (nx : Int) ≤ l
  · have H0 : Hid (∀ w, Calls Tryz.prog 68 #[.slice ax nx cx, .int .i64 (l)] w fun e w' => e = .returned (.int .i64 (l - nx)) ∧ w' = w) := fun w => by
      have := szUint64S_any ax nx cx (l) w (by omega) (by omega) hx
      rw [if_pos k0] at this
      exact this
    have d0 : decide (l - (nx : Int) < 0) = false := by simp; omega
    by_cases k1 : (nc : Int) ≤ l - nx
    · have H1 : Hid (∀ w, Calls Tryz.prog 68 #[.slice ac nc cc, .int .i64 (l - nx)] w fun e w' => e = .returned (.int .i64 (l - nx - nc)) ∧ w' = w) := fun w => by
        have := szUint64S_any ac nc cc (l - nx) w (by omega) (by omega) hc
        rw [if_pos k1] at this
        exact this
      have d1 : decide (l - nx - (nc : Int) < 0) = false := by simp; omega
      by_cases k2 : (nr : Int) ≤ l - nx - nc
      · have H2 : Hid (∀ w, Calls Tryz.prog 69 #[.slice ar nr cr, .int .i64 (l - nx - nc)] w fun e w' => e = .returned (.int .i64 (l - nx - nc - nr)) ∧ w' = w) := fun w => by
          have := szByteS_any ar nr cr (l - nx - nc) w (by omega) (by omega) hr
          rw [if_pos k2] at this
          exact this
        have d2 : decide (l - nx - nc - (nr : Int) < 0) = false := by simp; omega
        have H3 : Hid (∀ w, Calls Tryz.prog 70 #[.agg #[.int .u64 t, .int .u64 cm, .bool so, .slice ai ni ci, .slice ao no co, .int .i64 ir], .int .i64 (l - nx - nc - nr)] w fun e w' => e = .returned (.int .i64 (szD ni no (l - nx - nc - nr))) ∧ Below w.heap.size w w') := fun w => szDev_any t cm so ai ni ci ao no co ir (l - nx - nc - nr) w (by omega) (by omega) hi ho
        by_cases k3 : (ni : Int) + no ≤ l - nx - nc - nr
        · have e3 : szD ni no (l - nx - nc - nr) = l - nx - nc - nr - ni - no := by unfold szD; rw [if_pos k3]
          have d3 : decide (l - nx - nc - nr - (ni : Int) - (no : Int) < 0) = false := by simp; omega
          have F : Hid (szM nx nc nr ni no l = l - nx - nc - nr - ni - no) := by show _ = _; unfold szM; rw [if_pos (by omega)]
          rw [e3] at H3
          clear e3
          clear h0 h1 hx hc hr hi ho k0 k1 k2 k3
          generalize szM nx nc nr ni no l = V at *
          generalize l - nx - nc - nr - (ni : Int) - (no : Int) = l4 at *
          generalize l - (nx : Int) - (nc : Int) - (nr : Int) = l3 at *
          generalize l - (nx : Int) - (nc : Int) = l2 at *
          generalize l - (nx : Int) = l1 at *
          go_enter Tryz.func27, Tryz.ntmps27
          go_wp2_with fail
          refine (H0.out _).mono ?_
          rintro e v0 ⟨rfl, hv0⟩
          subst hv0
          go_wp2_with fail
          refine (H1.out _).mono ?_
          rintro e v1 ⟨rfl, hv1⟩
          subst hv1
          go_wp2_with fail
          refine (H2.out _).mono ?_
          rintro e v2 ⟨rfl, hv2⟩
          subst hv2
          go_wp2_with fail
          refine (H3.out _).mono ?_
          rintro e w3 ⟨rfl, hb3⟩
          go_wp2_with fail
          go_ret
          exact ⟨by rw [F.out]; rfl, below_trans (hB _) hb3⟩
        · have e3 : szD ni no (l - nx - nc - nr) = -1 := by unfold szD; rw [if_neg k3]
          have F : Hid (szM nx nc nr ni no l = -1) := by show _ = _; unfold szM; rw [if_neg (by omega)]
          rw [e3] at H3
          clear e3
          clear h0 h1 hx hc hr hi ho k0 k1 k2 k3
          generalize szM nx nc nr ni no l = V at *
          generalize l - (nx : Int) - (nc : Int) - (nr : Int) = l3 at *
          generalize l - (nx : Int) - (nc : Int) = l2 at *
          generalize l - (nx : Int) = l1 at *
          go_enter Tryz.func27, Tryz.ntmps27
          go_wp2_with fail
          refine (H0.out _).mono ?_
          rintro e v0 ⟨rfl, hv0⟩
          subst hv0
          go_wp2_with fail
          refine (H1.out _).mono ?_
          rintro e v1 ⟨rfl, hv1⟩
          subst hv1
          go_wp2_with fail
          refine (H2.out _).mono ?_
          rintro e v2 ⟨rfl, hv2⟩
          subst hv2
          go_wp2_with fail
          refine (H3.out _).mono ?_
          rintro e w3 ⟨rfl, hb3⟩
          go_wp2_with fail
          go_ret
          exact ⟨by rw [F.out]; rfl, below_trans (hB _) hb3⟩
      · have H2 : Hid (∀ w, Calls Tryz.prog 69 #[.slice ar nr cr, .int .i64 (l - nx - nc)] w fun e w' => e = .returned (.int .i64 (-1)) ∧ w' = w) := fun w => by
          have := szByteS_any ar nr cr (l - nx - nc) w (by omega) (by omega) hr
          rw [if_neg k2] at this
          exact this
        have F : Hid (szM nx nc nr ni no l = -1) := by show _ = _; unfold szM; rw [if_neg (by omega)]
        clear h0 h1 hx hc hr hi ho k0 k1 k2
        generalize szM nx nc nr ni no l = V at *
        generalize l - (nx : Int) - (nc : Int) = l2 at *
        generalize l - (nx : Int) = l1 at *
        go_enter Tryz.func27, Tryz.ntmps27
        go_wp2_with fail
        refine (H0.out _).mono ?_
        rintro e v0 ⟨rfl, hv0⟩
        subst hv0
        go_wp2_with fail
        refine (H1.out _).mono ?_
        rintro e v1 ⟨rfl, hv1⟩
        subst hv1
        go_wp2_with fail
        refine (H2.out _).mono ?_
        rintro e v2 ⟨rfl, hv2⟩
        subst hv2
        go_wp2_with fail
        go_ret
        exact ⟨by rw [F.out]; rfl, hB _⟩
    · have H1 : Hid (∀ w, Calls Tryz.prog 68 #[.slice ac nc cc, .int .i64 (l - nx)] w fun e w' => e = .returned (.int .i64 (-1)) ∧ w' = w) := fun w => by
        have := szUint64S_any ac nc cc (l - nx) w (by omega) (by omega) hc
        rw [if_neg k1] at this
        exact this
      have F : Hid (szM nx nc nr ni no l = -1) := by show _ = _; unfold szM; rw [if_neg (by omega)]
      clear h0 h1 hx hc hr hi ho k0 k1
      generalize szM nx nc nr ni no l = V at *
      generalize l - (nx : Int) = l1 at *
      go_enter Tryz.func27, Tryz.ntmps27
      go_wp2_with fail
      refine (H0.out _).mono ?_
      rintro e v0 ⟨rfl, hv0⟩
      subst hv0
      go_wp2_with fail
      refine (H1.out _).mono ?_
      rintro e v1 ⟨rfl, hv1⟩
      subst hv1
      go_wp2_with fail
      go_ret
      exact ⟨by rw [F.out]; rfl, hB _⟩
  · have H0 : Hid (∀ w, Calls Tryz.prog 68 #[.slice ax nx cx, .int .i64 (l)] w fun e w' => e = .returned (.int .i64 (-1)) ∧ w' = w) := fun w => by
      have := szUint64S_any ax nx cx (l) w (by omega) (by omega) hx
      rw [if_neg k0] at this
      exact this
    have F : Hid (szM nx nc nr ni no l = -1) := by show _ = _; unfold szM; rw [if_neg (by omega)]
    clear h0 h1 hx hc hr hi ho k0
    generalize szM nx nc nr ni no l = V at *
    go_enter Tryz.func27, Tryz.ntmps27
    go_wp2_with fail
    refine (H0.out _).mono ?_
    rintro e v0 ⟨rfl, hv0⟩
    subst hv0
    go_wp2_with fail
    go_ret
    exact ⟨by rw [F.out]; rfl, hB _⟩

set_option maxRecDepth 100000 in
set_option maxHeartbeats 3200000 in
theorem eqMachine_same (M : MV) (A C : MA) (w : World) (hl : MLen M) (hs : MSl w M A) (ht : MSl w M C) :
    Calls Tryz.prog 29 #[.agg #[.int .u64 M.pc, .slice A.ax M.x.length A.cx, .int .i64 M.pr, .slice A.ac M.cs.length A.cc, .slice A.ar M.ram.length A.cr, .int .u64 M.d.t, .int .u64 M.d.cm, .bool M.d.so, .slice A.ai M.d.xs.length A.ci, .slice A.ao M.d.ys.length A.co, .int .i64 M.d.ir, .int .u64 M.hd, .bool M.hl, .bool M.wt], .agg #[.int .u64 M.pc, .slice C.ax M.x.length C.cx, .int .i64 M.pr, .slice C.ac M.cs.length C.cc, .slice C.ar M.ram.length C.cr, .int .u64 M.d.t, .int .u64 M.d.cm, .bool M.d.so, .slice C.ai M.d.xs.length C.ci, .slice C.ao M.d.ys.length C.co, .int .i64 M.d.ir, .int .u64 M.hd, .bool M.hl, .bool M.wt]] w fun e w' => e = .returned (.bool true) ∧ Below w.heap.size w w' := by
  have H0 : Hid (∀ w', Below w.heap.size w w' → Calls Tryz.prog 74 #[.slice A.ax M.x.length A.cx, .slice C.ax M.x.length C.cx] w' fun e w'' => e = .returned (.bool true) ∧ Below w'.heap.size w' w'') := fun w' hb => by
    have h := eqUint64S_any A.ax C.ax M.x.length M.x.length A.cx C.cx M.x M.x w' rfl rfl hl.x hl.x (hs.x.below hb) (ht.x.below hb)
    rw [decide_eq_true rfl] at h
    exact h
  have H1 : Hid (∀ w', Below w.heap.size w w' → Calls Tryz.prog 74 #[.slice A.ac M.cs.length A.cc, .slice C.ac M.cs.length C.cc] w' fun e w'' => e = .returned (.bool true) ∧ Below w'.heap.size w' w'') := fun w' hb => by
    have h := eqUint64S_any A.ac C.ac M.cs.length M.cs.length A.cc C.cc M.cs M.cs w' rfl rfl hl.cs hl.cs (hs.cs.below hb) (ht.cs.below hb)
    rw [decide_eq_true rfl] at h
    exact h
  have H2 : Hid (∀ w', Below w.heap.size w w' → Calls Tryz.prog 75 #[.slice A.ar M.ram.length A.cr, .slice C.ar M.ram.length C.cr] w' fun e w'' => e = .returned (.bool true) ∧ Below w'.heap.size w' w'') := fun w' hb => by
    have h := eqByteS_any A.ar C.ar M.ram.length M.ram.length A.cr C.cr M.ram M.ram w' rfl rfl hl.ram hl.ram (hs.ram.below hb) (ht.ram.below hb)
    rw [decide_eq_true rfl] at h
    exact h
  have H3 : Hid (∀ w', Below w.heap.size w w' → Calls Tryz.prog 76 #[.agg #[.int .u64 M.d.t, .int .u64 M.d.cm, .bool M.d.so, .slice A.ai M.d.xs.length A.ci, .slice A.ao M.d.ys.length A.co, .int .i64 M.d.ir], .agg #[.int .u64 M.d.t, .int .u64 M.d.cm, .bool M.d.so, .slice C.ai M.d.xs.length C.ci, .slice C.ao M.d.ys.length C.co, .int .i64 M.d.ir]] w' fun e w'' => e = .returned (.bool true) ∧ Below w'.heap.size w' w'') := fun w' hb => eqDev_same M.d.t M.d.cm M.d.so A.ai C.ai _ A.ci C.ci A.ao C.ao _ A.co C.co M.d.ir M.d.xs M.d.ys w' rfl rfl hl.xs hl.ys (hs.xs.below hb) (hs.ys.below hb) (ht.xs.below hb) (ht.ys.below hb)
  clear hl hs ht
  obtain ⟨P, hP⟩ : ∃ P : World → Prop, P = fun W => W.heap[w.heap.size]? = some (.cells #[.int .u64 M.pc, .slice A.ax M.x.length A.cx, .int .i64 M.pr, .slice A.ac M.cs.length A.cc, .slice A.ar M.ram.length A.cr, .int .u64 M.d.t, .int .u64 M.d.cm, .bool M.d.so, .slice A.ai M.d.xs.length A.ci, .slice A.ao M.d.ys.length A.co, .int .i64 M.d.ir, .int .u64 M.hd, .bool M.hl, .bool M.wt] 29 (0, 0)) ∧ W.heap[w.heap.size + 1]? = some (.cells #[.int .u64 M.pc, .slice C.ax M.x.length C.cx, .int .i64 M.pr, .slice C.ac M.cs.length C.cc, .slice C.ar M.ram.length C.cr, .int .u64 M.d.t, .int .u64 M.d.cm, .bool M.d.so, .slice C.ai M.d.xs.length C.ci, .slice C.ao M.d.ys.length C.co, .int .i64 M.d.ir, .int .u64 M.hd, .bool M.hl, .bool M.wt] 29 (0, 0)) ∧ Below w.heap.size w W := ⟨_, rfl⟩
  have PB : Hid (∀ W W', P W → Below W.heap.size W W' → P W') := by rw [hP]; exact fun W W' h hb => ⟨dstays hb h.1, dstays hb h.2.1, below_trans h.2.2 hb⟩
  have PE : Hid (∀ W, P W → W.heap[w.heap.size]? = some (.cells #[.int .u64 M.pc, .slice A.ax M.x.length A.cx, .int .i64 M.pr, .slice A.ac M.cs.length A.cc, .slice A.ar M.ram.length A.cr, .int .u64 M.d.t, .int .u64 M.d.cm, .bool M.d.so, .slice A.ai M.d.xs.length A.ci, .slice A.ao M.d.ys.length A.co, .int .i64 M.d.ir, .int .u64 M.hd, .bool M.hl, .bool M.wt] 29 (0, 0)) ∧ W.heap[w.heap.size + 1]? = some (.cells #[.int .u64 M.pc, .slice C.ax M.x.length C.cx, .int .i64 M.pr, .slice C.ac M.cs.length C.cc, .slice C.ar M.ram.length C.cr, .int .u64 M.d.t, .int .u64 M.d.cm, .bool M.d.so, .slice C.ai M.d.xs.length C.ci, .slice C.ao M.d.ys.length C.co, .int .i64 M.d.ir, .int .u64 M.hd, .bool M.hl, .bool M.wt] 29 (0, 0)) ∧ Below w.heap.size w W) := by rw [hP]; exact fun W h => h
  obtain ⟨ra, rb⟩ := rows2 (w := w) (o1 := .cells #[.int .u64 M.pc, .slice A.ax M.x.length A.cx, .int .i64 M.pr, .slice A.ac M.cs.length A.cc, .slice A.ar M.ram.length A.cr, .int .u64 M.d.t, .int .u64 M.d.cm, .bool M.d.so, .slice A.ai M.d.xs.length A.ci, .slice A.ao M.d.ys.length A.co, .int .i64 M.d.ir, .int .u64 M.hd, .bool M.hl, .bool M.wt] 29) (o2 := .cells #[.int .u64 M.pc, .slice C.ax M.x.length C.cx, .int .i64 M.pr, .slice C.ac M.cs.length C.cc, .slice C.ar M.ram.length C.cr, .int .u64 M.d.t, .int .u64 M.d.cm, .bool M.d.so, .slice C.ai M.d.xs.length C.ci, .slice C.ao M.d.ys.length C.co, .int .i64 M.d.ir, .int .u64 M.hd, .bool M.hl, .bool M.wt] 29) (Below.refl _ _)
  have p0 : P ((w.alloc (.cells #[.int .u64 M.pc, .slice A.ax M.x.length A.cx, .int .i64 M.pr, .slice A.ac M.cs.length A.cc, .slice A.ar M.ram.length A.cr, .int .u64 M.d.t, .int .u64 M.d.cm, .bool M.d.so, .slice A.ai M.d.xs.length A.ci, .slice A.ao M.d.ys.length A.co, .int .i64 M.d.ir, .int .u64 M.hd, .bool M.hl, .bool M.wt] 29)).alloc (.cells #[.int .u64 M.pc, .slice C.ax M.x.length C.cx, .int .i64 M.pr, .slice C.ac M.cs.length C.cc, .slice C.ar M.ram.length C.cr, .int .u64 M.d.t, .int .u64 M.d.cm, .bool M.d.so, .slice C.ai M.d.xs.length C.ci, .slice C.ao M.d.ys.length C.co, .int .i64 M.d.ir, .int .u64 M.hd, .bool M.hl, .bool M.wt] 29)) := by rw [hP]; exact ⟨ra, rb, ((Below.refl _ _).alloc (Nat.le_refl _) _).alloc (by simp) _⟩
  clear hP ra rb
  go_enter Tryz.func29, Tryz.ntmps29
  go_wp2_with fail
  refine (H0.out _ (PE.out _ p0).2.2).mono ?_
  rintro e w1 ⟨rfl, hb1⟩
  have p1 := PB.out _ _ p0 hb1
  clear hb1 p0
  obtain ⟨a0, a1, a2, a3, a4, a5, a6, a7, a8, a9, a10, a11, a12, a13⟩ := cells14 (PE.out _ p1).1
  obtain ⟨b0, b1, b2, b3, b4, b5, b6, b7, b8, b9, b10, b11, b12, b13⟩ := cells14 (PE.out _ p1).2.1
  go_wp2_with fail
  clear a0 b0 a1 b1 a2 b2 a3 b3 a4 b4 a5 b5 a6 b6 a7 b7 a8 b8 a9 b9 a10 b10 a11 b11 a12 b12 a13 b13
  refine (H1.out _ (PE.out _ p1).2.2).mono ?_
  rintro e w2 ⟨rfl, hb2⟩
  have p2 := PB.out _ _ p1 hb2
  clear hb2 p1
  obtain ⟨a0, a1, a2, a3, a4, a5, a6, a7, a8, a9, a10, a11, a12, a13⟩ := cells14 (PE.out _ p2).1
  obtain ⟨b0, b1, b2, b3, b4, b5, b6, b7, b8, b9, b10, b11, b12, b13⟩ := cells14 (PE.out _ p2).2.1
  go_wp2_with fail
  clear a0 b0 a1 b1 a2 b2 a3 b3 a4 b4 a5 b5 a6 b6 a7 b7 a8 b8 a9 b9 a10 b10 a11 b11 a12 b12 a13 b13
  refine (H2.out _ (PE.out _ p2).2.2).mono ?_
  rintro e w3 ⟨rfl, hb3⟩
  have p3 := PB.out _ _ p2 hb3
  clear hb3 p2
  obtain ⟨a0, a1, a2, a3, a4, a5, a6, a7, a8, a9, a10, a11, a12, a13⟩ := cells14 (PE.out _ p3).1
  obtain ⟨b0, b1, b2, b3, b4, b5, b6, b7, b8, b9, b10, b11, b12, b13⟩ := cells14 (PE.out _ p3).2.1
  go_wp2_with fail
  clear a0 b0 a1 b1 a2 b2 a3 b3 a4 b4 a5 b5 a6 b6 a7 b7 a8 b8 a9 b9 a10 b10 a11 b11 a12 b12 a13 b13
  refine (H3.out _ (PE.out _ p3).2.2).mono ?_
  rintro e w4 ⟨rfl, hb4⟩
  have p4 := PB.out _ _ p3 hb4
  clear hb4 p3
  obtain ⟨a0, a1, a2, a3, a4, a5, a6, a7, a8, a9, a10, a11, a12, a13⟩ := cells14 (PE.out _ p4).1
  obtain ⟨b0, b1, b2, b3, b4, b5, b6, b7, b8, b9, b10, b11, b12, b13⟩ := cells14 (PE.out _ p4).2.1
  go_wp2_with fail
  go_ret
  exact ⟨rfl, (PE.out _ p4).2.2⟩

structure KeepL (L : List FRow) (w w' : World) : Prop where
  os : w'.os = w.os
  tape : w'.tape = w.tape
  output : w'.output = w.output
  size : w.heap.size ≤ w'.heap.size
  block : ∀ k, k < w.heap.size → (∀ q ∈ L, q.v.ownBlock ≠ some k) → w'.heap[k]? = w.heap[k]?

theorem KeepL.trans {L : List FRow} {a b c : World} (h : KeepL L a b) (k : KeepL L b c) : KeepL L a c :=
  ⟨k.os.trans h.os, k.tape.trans h.tape, k.output.trans h.output, Nat.le_trans h.size k.size, fun i hi ho => (k.block i (Nat.lt_of_lt_of_le hi h.size) ho).trans (h.block i hi ho)⟩

theorem KeepL.of_below {L : List FRow} {w w' : World} (h : Below w.heap.size w w') : KeepL L w w' := ⟨h.os, h.tape, h.output, h.size, fun k hk _ => h.block k hk⟩

theorem KeepL.of_grown {L : List FRow} {w w' : World} {q : FRow} (h : w.grownBy w' q.v.ownBlock) (hq : q ∈ L) : KeepL L w w' :=
  ⟨h.os, h.tape, h.output, h.size, fun k hk ho => h.block k hk (fun e => ho q hq e.symm)⟩

theorem KeepL.same {L L' : List FRow} {w w' : World} (h : KeepL L w w') (hs : ∀ q ∈ L, ∃ q' ∈ L', q'.v = q.v) : KeepL L' w w' :=
  ⟨h.os, h.tape, h.output, h.size, fun k hk ho => h.block k hk (fun q hq e => by obtain ⟨q', h1, h2⟩ := hs q hq; exact ho q' h1 (by rw [h2]; exact e))⟩

theorem KeepL.keep {L : List FRow} {B E : Nat} {w w' : World} (h : KeepL L w w') (hf : Fam B E w L) : Keep B E w w' :=
  ⟨h.os, h.tape, h.output, h.size, fun k hk ho => h.block k hk (fun q hq e => by have h1 := ((hf.own q hq).lt k e).1; have h2 := hf.hi q hq k e; omega)⟩

def rowsM (A : MA) (nx nc nr ni no : Nat) (x cs ram xs ys : List Int) : List FRow := [wRow A.ax nx A.cx x, wRow A.ac nc A.cc cs, bRow A.ar nr A.cr ram, bRow A.ai ni A.ci xs, bRow A.ao no A.co ys]

theorem rowsM_same (A : MA) (nx nc nr ni no : Nat) (x cs ram xs ys x' cs' ram' xs' ys' : List Int) : ∀ q ∈ rowsM A nx nc nr ni no x cs ram xs ys, ∃ q' ∈ rowsM A nx nc nr ni no x' cs' ram' xs' ys', q'.v = q.v := by
  intro q hq
  simp only [rowsM, List.mem_cons, List.not_mem_nil, or_false] at hq ⊢
  rcases hq with rfl | rfl | rfl | rfl | rfl
  · exact ⟨_, .inl rfl, rfl⟩
  · exact ⟨_, .inr (.inl rfl), rfl⟩
  · exact ⟨_, .inr (.inr (.inl rfl)), rfl⟩
  · exact ⟨_, .inr (.inr (.inr (.inl rfl))), rfl⟩
  · exact ⟨_, .inr (.inr (.inr (.inr rfl))), rfl⟩

theorem Fam.markL {B E : Nat} {w w' : World} {L1 L2 : List FRow} {r : FRow} (h : Fam B E w (L1 ++ r :: L2)) (hg : w.grownBy w' r.v.ownBlock) (xs : List Value) (ho : w'.ownsRow B r.t 1 r.v r.n xs) : Fam B E w' (L1 ++ ⟨r.t, r.v, r.n, xs⟩ :: L2) ∧ KeepL (L1 ++ r :: L2) w w' :=
  ⟨(h.mark hg xs ho).1, KeepL.of_grown hg (by simp)⟩

set_option maxRecDepth 100000 in
set_option maxHeartbeats 1600000 in
theorem markDevL (L : List FRow) (t cm : Int) (so : Bool) (a1 : Option Addr) (n1 c1 : Nat) (a2 : Option Addr) (n2 c2 : Nat) (ir k : Int) (xs ys : List Int) (B E : Nat) (w : World) (hn1 : n1 ≤ 1048576) (hn2 : n2 ≤ 1048576) (hk0 : 0 ≤ k) (hk1 : k ≤ 4294967296) (hE : E ≤ w.heap.size) (hf : Fam B E w (L ++ [bRow a1 n1 c1 xs, bRow a2 n2 c2 ys])) :
    Calls Tryz.prog 79 #[.agg #[.int .u64 t, .int .u64 cm, .bool so, .slice a1 n1 c1, .slice a2 n2 c2, .int .i64 ir], .int .i64 k] w fun e w' => e = .returned (.int .i64 (k + n1 + n2)) ∧ Fam B E w' (L ++ [bRow a1 n1 c1 (marks k n1), bRow a2 n2 c2 (marks (k + n1) n2)]) ∧ KeepL (L ++ [bRow a1 n1 c1 xs, bRow a2 n2 c2 ys]) w w' := by
  have hB : ∀ o, Below w.heap.size w (w.alloc o) := fun o => (Below.refl _ _).alloc (Nat.le_refl _) o
  have same1 : ∀ q ∈ L ++ [bRow a1 n1 c1 (marks k n1), bRow a2 n2 c2 ys], ∃ q' ∈ L ++ [bRow a1 n1 c1 xs, bRow a2 n2 c2 ys], q'.v = q.v := by
    intro q hq
    rcases List.mem_append.1 hq with h | h
    · exact ⟨q, List.mem_append_left _ h, rfl⟩
    · simp only [List.mem_cons, List.not_mem_nil, or_false] at h
      rcases h with rfl | rfl
      · exact ⟨_, List.mem_append_right _ (List.mem_cons_self ..), rfl⟩
      · exact ⟨_, List.mem_append_right _ (List.mem_cons_of_mem _ (List.mem_cons_self ..)), rfl⟩
  have HM1 : Hid (∀ o, Calls Tryz.prog 78 #[.slice a1 n1 c1, .int .i64 k] (w.alloc o) fun e w' => e = .returned (.int .i64 (k + n1)) ∧ (Fam B E w' (L ++ [bRow a1 n1 c1 (marks k n1), bRow a2 n2 c2 ys]) ∧ KeepL (L ++ [bRow a1 n1 c1 xs, bRow a2 n2 c2 ys]) (w.alloc o) w')) := fun o => by
    have hf' := hf.below (hB o)
    refine (markByteS_any a1 n1 c1 B k xs (w.alloc o) hn1 hk0 (by omega) (hf'.own (bRow a1 n1 c1 xs) (by simp))).mono fun e w' h => ⟨h.1, ?_⟩
    exact Fam.markL (L1 := L) (L2 := [bRow a2 n2 c2 ys]) (r := bRow a1 n1 c1 xs) hf' h.2.2 _ h.2.1
  have HM2 : Hid (∀ w', Fam B E w' (L ++ [bRow a1 n1 c1 (marks k n1), bRow a2 n2 c2 ys]) → Calls Tryz.prog 78 #[.slice a2 n2 c2, .int .i64 (k + n1)] w' fun e w'' => e = .returned (.int .i64 (k + n1 + n2)) ∧ (Fam B E w'' (L ++ [bRow a1 n1 c1 (marks k n1), bRow a2 n2 c2 (marks (k + n1) n2)]) ∧ KeepL (L ++ [bRow a1 n1 c1 xs, bRow a2 n2 c2 ys]) w' w'')) := fun w' hf' => by
    refine (markByteS_any a2 n2 c2 B (k + n1) ys w' hn2 (by omega) (by omega) (hf'.own (bRow a2 n2 c2 ys) (by simp))).mono fun e w'' h => ⟨h.1, ?_⟩
    have hg : Fam B E w' ((L ++ [bRow a1 n1 c1 (marks k n1)]) ++ bRow a2 n2 c2 ys :: []) := by rw [List.append_assoc]; exact hf'
    have h2 := Fam.markL (L1 := L ++ [bRow a1 n1 c1 (marks k n1)]) (L2 := []) (r := bRow a2 n2 c2 ys) hg h.2.2 _ h.2.1
    rw [List.append_assoc, List.append_assoc] at h2
    exact ⟨h2.1, h2.2.same same1⟩
  have HE : Hid (E ≤ w.heap.size) := hE
  have HF := dhid hf
  clear hf hk0 hk1 hn1 hn2 hE same1
  generalize k + (n1 : Int) + (n2 : Int) = k2 at *
  generalize k + (n1 : Int) = k1 at *
  go_enter Tryz.func79, Tryz.ntmps79
  go_wp2_with fail
  refine (HM1.out _).mono ?_
  rintro e w1 ⟨rfl, fm1, kp1⟩
  have r0 : w1.heap[w.heap.size]? = some (.cells #[.int .u64 t, .int .u64 cm, .bool so, .slice a1 n1 c1, .slice a2 n2 c2, .int .i64 ir] 27 (0, 0)) := (kp1.block w.heap.size (by simp) (fun q hq e => by have h1 := HF.out.hi q hq _ e; have := HE.out; omega)).trans (heap_alloc_new w _)
  obtain ⟨p0, p1, p2, p3, p4, p5⟩ := cells6 r0
  have FM1 := dhid fm1
  have KP1 := dhid ((KeepL.of_below (L := L ++ [bRow a1 n1 c1 xs, bRow a2 n2 c2 ys]) (hB _)).trans kp1)
  clear r0 fm1 kp1
  go_wp2_with fail
  refine (HM2.out _ FM1.out).mono ?_
  rintro e w2 ⟨rfl, fm2, kp2⟩
  have FM2 := dhid fm2
  have KP2 := dhid (KP1.out.trans kp2)
  clear fm2 kp2
  go_wp2_with fail
  go_ret
  exact ⟨rfl, FM2.out, KP2.out⟩

set_option maxRecDepth 100000 in
set_option maxHeartbeats 3200000 in
theorem markMachine_any (M : MV) (A : MA) (k : Int) (B E : Nat) (w : World) (hl : MLen M) (hk0 : 0 ≤ k) (hk1 : k ≤ 1073741824) (hE : E ≤ w.heap.size) (hf : Fam B E w (rowsM A M.x.length M.cs.length M.ram.length M.d.xs.length M.d.ys.length M.x M.cs M.ram M.d.xs M.d.ys)) :
    Calls Tryz.prog 30 #[.agg #[.int .u64 M.pc, .slice A.ax M.x.length A.cx, .int .i64 M.pr, .slice A.ac M.cs.length A.cc, .slice A.ar M.ram.length A.cr, .int .u64 M.d.t, .int .u64 M.d.cm, .bool M.d.so, .slice A.ai M.d.xs.length A.ci, .slice A.ao M.d.ys.length A.co, .int .i64 M.d.ir, .int .u64 M.hd, .bool M.hl, .bool M.wt], .int .i64 k] w fun e w' => e = .returned (.int .i64 (k + M.x.length + M.cs.length + M.ram.length + M.d.xs.length + M.d.ys.length)) ∧ Fam B E w' (rowsM A M.x.length M.cs.length M.ram.length M.d.xs.length M.d.ys.length (marksW k M.x.length) (marksW (k + M.x.length) M.cs.length) (marks (k + M.x.length + M.cs.length) M.ram.length) (marks (k + M.x.length + M.cs.length + M.ram.length) M.d.xs.length) (marks (k + M.x.length + M.cs.length + M.ram.length + M.d.xs.length) M.d.ys.length)) ∧ KeepL (rowsM A M.x.length M.cs.length M.ram.length M.d.xs.length M.d.ys.length M.x M.cs M.ram M.d.xs M.d.ys) w w' := by
  have HM0 : Hid (∀ w', Fam B E w' (rowsM A M.x.length M.cs.length M.ram.length M.d.xs.length M.d.ys.length M.x M.cs M.ram M.d.xs M.d.ys) → Calls Tryz.prog 77 #[.slice A.ax M.x.length A.cx, .int .i64 (k)] w' fun e w'' => e = .returned (.int .i64 (k + M.x.length)) ∧ (Fam B E w'' (rowsM A M.x.length M.cs.length M.ram.length M.d.xs.length M.d.ys.length (marksW k M.x.length) M.cs M.ram M.d.xs M.d.ys) ∧ KeepL (rowsM A M.x.length M.cs.length M.ram.length M.d.xs.length M.d.ys.length M.x M.cs M.ram M.d.xs M.d.ys) w' w'')) := fun w' hf' => by
    refine (markUint64S_any A.ax M.x.length A.cx B (k) M.x w' hl.x (by omega) (by have := hl.x; have := hl.cs; have := hl.ram; omega) (hf'.own (wRow A.ax M.x.length A.cx M.x) (by simp [rowsM]))).mono fun e w'' h => ⟨h.1, ?_⟩
    have h2 := Fam.markL (L1 := []) (L2 := [wRow A.ac M.cs.length A.cc M.cs, bRow A.ar M.ram.length A.cr M.ram, bRow A.ai M.d.xs.length A.ci M.d.xs, bRow A.ao M.d.ys.length A.co M.d.ys]) (r := wRow A.ax M.x.length A.cx M.x) hf' h.2.2 _ h.2.1
    exact ⟨h2.1, h2.2.same (rowsM_same A _ _ _ _ _ M.x M.cs M.ram M.d.xs M.d.ys M.x M.cs M.ram M.d.xs M.d.ys)⟩
  have HM1 : Hid (∀ w', Fam B E w' (rowsM A M.x.length M.cs.length M.ram.length M.d.xs.length M.d.ys.length (marksW k M.x.length) M.cs M.ram M.d.xs M.d.ys) → Calls Tryz.prog 77 #[.slice A.ac M.cs.length A.cc, .int .i64 (k + M.x.length)] w' fun e w'' => e = .returned (.int .i64 (k + M.x.length + M.cs.length)) ∧ (Fam B E w'' (rowsM A M.x.length M.cs.length M.ram.length M.d.xs.length M.d.ys.length (marksW k M.x.length) (marksW (k + M.x.length) M.cs.length) M.ram M.d.xs M.d.ys) ∧ KeepL (rowsM A M.x.length M.cs.length M.ram.length M.d.xs.length M.d.ys.length M.x M.cs M.ram M.d.xs M.d.ys) w' w'')) := fun w' hf' => by
    refine (markUint64S_any A.ac M.cs.length A.cc B (k + M.x.length) M.cs w' hl.cs (by omega) (by have := hl.x; have := hl.cs; have := hl.ram; omega) (hf'.own (wRow A.ac M.cs.length A.cc M.cs) (by simp [rowsM]))).mono fun e w'' h => ⟨h.1, ?_⟩
    have h2 := Fam.markL (L1 := [wRow A.ax M.x.length A.cx (marksW k M.x.length)]) (L2 := [bRow A.ar M.ram.length A.cr M.ram, bRow A.ai M.d.xs.length A.ci M.d.xs, bRow A.ao M.d.ys.length A.co M.d.ys]) (r := wRow A.ac M.cs.length A.cc M.cs) hf' h.2.2 _ h.2.1
    exact ⟨h2.1, h2.2.same (rowsM_same A _ _ _ _ _ (marksW k M.x.length) M.cs M.ram M.d.xs M.d.ys M.x M.cs M.ram M.d.xs M.d.ys)⟩
  have HM2 : Hid (∀ w', Fam B E w' (rowsM A M.x.length M.cs.length M.ram.length M.d.xs.length M.d.ys.length (marksW k M.x.length) (marksW (k + M.x.length) M.cs.length) M.ram M.d.xs M.d.ys) → Calls Tryz.prog 78 #[.slice A.ar M.ram.length A.cr, .int .i64 (k + M.x.length + M.cs.length)] w' fun e w'' => e = .returned (.int .i64 (k + M.x.length + M.cs.length + M.ram.length)) ∧ (Fam B E w'' (rowsM A M.x.length M.cs.length M.ram.length M.d.xs.length M.d.ys.length (marksW k M.x.length) (marksW (k + M.x.length) M.cs.length) (marks (k + M.x.length + M.cs.length) M.ram.length) M.d.xs M.d.ys) ∧ KeepL (rowsM A M.x.length M.cs.length M.ram.length M.d.xs.length M.d.ys.length M.x M.cs M.ram M.d.xs M.d.ys) w' w'')) := fun w' hf' => by
    refine (markByteS_any A.ar M.ram.length A.cr B (k + M.x.length + M.cs.length) M.ram w' hl.ram (by omega) (by have := hl.x; have := hl.cs; have := hl.ram; omega) (hf'.own (bRow A.ar M.ram.length A.cr M.ram) (by simp [rowsM]))).mono fun e w'' h => ⟨h.1, ?_⟩
    have h2 := Fam.markL (L1 := [wRow A.ax M.x.length A.cx (marksW k M.x.length), wRow A.ac M.cs.length A.cc (marksW (k + M.x.length) M.cs.length)]) (L2 := [bRow A.ai M.d.xs.length A.ci M.d.xs, bRow A.ao M.d.ys.length A.co M.d.ys]) (r := bRow A.ar M.ram.length A.cr M.ram) hf' h.2.2 _ h.2.1
    exact ⟨h2.1, h2.2.same (rowsM_same A _ _ _ _ _ (marksW k M.x.length) (marksW (k + M.x.length) M.cs.length) M.ram M.d.xs M.d.ys M.x M.cs M.ram M.d.xs M.d.ys)⟩
  have HM3 : Hid (∀ w', E ≤ w'.heap.size → Fam B E w' (rowsM A M.x.length M.cs.length M.ram.length M.d.xs.length M.d.ys.length (marksW k M.x.length) (marksW (k + M.x.length) M.cs.length) (marks (k + M.x.length + M.cs.length) M.ram.length) M.d.xs M.d.ys) → Calls Tryz.prog 79 #[.agg #[.int .u64 M.d.t, .int .u64 M.d.cm, .bool M.d.so, .slice A.ai M.d.xs.length A.ci, .slice A.ao M.d.ys.length A.co, .int .i64 M.d.ir], .int .i64 (k + M.x.length + M.cs.length + M.ram.length)] w' fun e w'' => e = .returned (.int .i64 (k + M.x.length + M.cs.length + M.ram.length + M.d.xs.length + M.d.ys.length)) ∧ (Fam B E w'' (rowsM A M.x.length M.cs.length M.ram.length M.d.xs.length M.d.ys.length (marksW k M.x.length) (marksW (k + M.x.length) M.cs.length) (marks (k + M.x.length + M.cs.length) M.ram.length) (marks (k + M.x.length + M.cs.length + M.ram.length) M.d.xs.length) (marks (k + M.x.length + M.cs.length + M.ram.length + M.d.xs.length) M.d.ys.length)) ∧ KeepL (rowsM A M.x.length M.cs.length M.ram.length M.d.xs.length M.d.ys.length M.x M.cs M.ram M.d.xs M.d.ys) w' w'')) := fun w' hE' hf' => by
    refine (markDevL [wRow A.ax M.x.length A.cx (marksW k M.x.length), wRow A.ac M.cs.length A.cc (marksW (k + M.x.length) M.cs.length), bRow A.ar M.ram.length A.cr (marks (k + M.x.length + M.cs.length) M.ram.length)] M.d.t M.d.cm M.d.so A.ai M.d.xs.length A.ci A.ao M.d.ys.length A.co M.d.ir (k + M.x.length + M.cs.length + M.ram.length) M.d.xs M.d.ys B E w' hl.xs hl.ys (by omega) (by have := hl.x; have := hl.cs; have := hl.ram; omega) hE' hf').mono fun e w'' h => ⟨h.1, h.2.1, ?_⟩
    exact h.2.2.same (rowsM_same A _ _ _ _ _ (marksW k M.x.length) (marksW (k + M.x.length) M.cs.length) (marks (k + M.x.length + M.cs.length) M.ram.length) M.d.xs M.d.ys M.x M.cs M.ram M.d.xs M.d.ys)
  have hB : ∀ o, Below w.heap.size w (w.alloc o) := fun o => (Below.refl _ _).alloc (Nat.le_refl _) o
  have HE : Hid (E ≤ w.heap.size) := hE
  have HF : Hid (∀ o, Fam B E (w.alloc o) (rowsM A M.x.length M.cs.length M.ram.length M.d.xs.length M.d.ys.length M.x M.cs M.ram M.d.xs M.d.ys)) := fun o => hf.below (hB o)
  have HK : Hid (∀ W W', KeepL (rowsM A M.x.length M.cs.length M.ram.length M.d.xs.length M.d.ys.length M.x M.cs M.ram M.d.xs M.d.ys) W W' → w.heap.size < W.heap.size → W'.heap[w.heap.size]? = W.heap[w.heap.size]?) := fun W W' hk hw => hk.block _ hw (fun q hq e => by have h1 := hf.hi q hq _ e; omega)
  clear hf hk0 hk1 hl hE
  generalize hL : rowsM A M.x.length M.cs.length M.ram.length M.d.xs.length M.d.ys.length M.x M.cs M.ram M.d.xs M.d.ys = L0 at *
  generalize rowsM A M.x.length M.cs.length M.ram.length M.d.xs.length M.d.ys.length (marksW k M.x.length) M.cs M.ram M.d.xs M.d.ys = L1 at *
  generalize rowsM A M.x.length M.cs.length M.ram.length M.d.xs.length M.d.ys.length (marksW k M.x.length) (marksW (k + M.x.length) M.cs.length) M.ram M.d.xs M.d.ys = L2 at *
  generalize rowsM A M.x.length M.cs.length M.ram.length M.d.xs.length M.d.ys.length (marksW k M.x.length) (marksW (k + M.x.length) M.cs.length) (marks (k + M.x.length + M.cs.length) M.ram.length) M.d.xs M.d.ys = L3 at *
  generalize rowsM A M.x.length M.cs.length M.ram.length M.d.xs.length M.d.ys.length (marksW k M.x.length) (marksW (k + M.x.length) M.cs.length) (marks (k + M.x.length + M.cs.length) M.ram.length) (marks (k + M.x.length + M.cs.length + M.ram.length) M.d.xs.length) (marks (k + M.x.length + M.cs.length + M.ram.length + M.d.xs.length) M.d.ys.length) = L5 at *
  clear hL
  generalize k + (M.x.length : Int) + (M.cs.length : Int) + (M.ram.length : Int) + (M.d.xs.length : Int) + (M.d.ys.length : Int) = k4 at *
  generalize k + (M.x.length : Int) + (M.cs.length : Int) + (M.ram.length : Int) = k3 at *
  generalize k + (M.x.length : Int) + (M.cs.length : Int) = k2 at *
  generalize k + (M.x.length : Int) = k1 at *
  go_enter Tryz.func30, Tryz.ntmps30
  go_wp2_with fail
  refine (HM0.out _ (HF.out _)).mono ?_
  rintro e w1 ⟨rfl, fm1, kp1⟩
  have R1 := dhid ((HK.out _ _ kp1 (by rw [World.size_alloc]; omega)).trans (heap_alloc_new w _))
  have KP1 := dhid ((KeepL.of_below (L := L0) (hB _)).trans kp1)
  have FM1 := dhid fm1
  clear fm1 kp1
  obtain ⟨a0, a1, a2, a3, a4, a5, a6, a7, a8, a9, a10, a11, a12, a13⟩ := cells14 R1.out
  go_wp2_with fail
  refine (HM1.out _ FM1.out).mono ?_
  rintro e w2 ⟨rfl, fm2, kp2⟩
  have R2 := dhid ((HK.out _ _ kp2 (Array.getElem?_eq_some_iff.1 R1.out).1).trans R1.out)
  have KP2 := dhid (KP1.out.trans kp2)
  have FM2 := dhid fm2
  clear fm2 kp2 a0 a1 a2 a3 a4 a5 a6 a7 a8 a9 a10 a11 a12 a13
  obtain ⟨a0, a1, a2, a3, a4, a5, a6, a7, a8, a9, a10, a11, a12, a13⟩ := cells14 R2.out
  go_wp2_with fail
  refine (HM2.out _ FM2.out).mono ?_
  rintro e w3 ⟨rfl, fm3, kp3⟩
  have R3 := dhid ((HK.out _ _ kp3 (Array.getElem?_eq_some_iff.1 R2.out).1).trans R2.out)
  have KP3 := dhid (KP2.out.trans kp3)
  have FM3 := dhid fm3
  clear fm3 kp3 a0 a1 a2 a3 a4 a5 a6 a7 a8 a9 a10 a11 a12 a13
  obtain ⟨a0, a1, a2, a3, a4, a5, a6, a7, a8, a9, a10, a11, a12, a13⟩ := cells14 R3.out
  go_wp2_with fail
  refine (HM3.out _ (Nat.le_trans HE.out KP3.out.size) FM3.out).mono ?_
  rintro e w4 ⟨rfl, fm4, kp4⟩
  have KP4 := dhid (KP3.out.trans kp4)
  have FM4 := dhid fm4
  clear fm4 kp4 a0 a1 a2 a3 a4 a5 a6 a7 a8 a9 a10 a11 a12 a13
  go_wp2_with fail
  go_ret
  exact ⟨rfl, FM4.out, KP4.out⟩

set_option maxRecDepth 100000 in
set_option maxHeartbeats 3200000 in
theorem heldMachine_any (M : MV) (A : MA) (k : Int) (w : World) (hl : MLen M) (hk0 : 0 ≤ k) (hk1 : k ≤ 1073741824) (hs0 : Sl .u64 w A.ax (marksW k M.x.length)) (hs1 : Sl .u64 w A.ac (marksW (k + M.x.length) M.cs.length)) (hs2 : Sl .u8 w A.ar (marks (k + M.x.length + M.cs.length) M.ram.length)) (hs3 : Sl .u8 w A.ai (marks (k + M.x.length + M.cs.length + M.ram.length) M.d.xs.length)) (hs4 : Sl .u8 w A.ao (marks (k + M.x.length + M.cs.length + M.ram.length + M.d.xs.length) M.d.ys.length)) :
    Calls Tryz.prog 31 #[.agg #[.int .u64 M.pc, .slice A.ax M.x.length A.cx, .int .i64 M.pr, .slice A.ac M.cs.length A.cc, .slice A.ar M.ram.length A.cr, .int .u64 M.d.t, .int .u64 M.d.cm, .bool M.d.so, .slice A.ai M.d.xs.length A.ci, .slice A.ao M.d.ys.length A.co, .int .i64 M.d.ir, .int .u64 M.hd, .bool M.hl, .bool M.wt], .int .i64 k] w fun e w' => e = .returned (.int .i64 (k + M.x.length + M.cs.length + M.ram.length + M.d.xs.length + M.d.ys.length)) ∧ Below w.heap.size w w' := by
  have hB : ∀ o, Below w.heap.size w (w.alloc o) := fun o => (Below.refl _ _).alloc (Nat.le_refl _) o
  have H0 : Hid (∀ o, Calls Tryz.prog 80 #[.slice A.ax M.x.length A.cx, .int .i64 (k)] (w.alloc o) fun e w' => e = .returned (.int .i64 (k + M.x.length)) ∧ w' = w.alloc o) := fun o => heldUint64S_any A.ax M.x.length A.cx (k) (w.alloc o) hl.x (by omega) (by have := hl.x; have := hl.cs; have := hl.ram; omega) (hs0.below (hB o))
  have d0 : decide (k + (M.x.length : Int) < 0) = false := by simp; omega
  have H1 : Hid (∀ o, Calls Tryz.prog 80 #[.slice A.ac M.cs.length A.cc, .int .i64 (k + M.x.length)] (w.alloc o) fun e w' => e = .returned (.int .i64 (k + M.x.length + M.cs.length)) ∧ w' = w.alloc o) := fun o => heldUint64S_any A.ac M.cs.length A.cc (k + M.x.length) (w.alloc o) hl.cs (by omega) (by have := hl.x; have := hl.cs; have := hl.ram; omega) (hs1.below (hB o))
  have d1 : decide (k + (M.x.length : Int) + (M.cs.length : Int) < 0) = false := by simp; omega
  have H2 : Hid (∀ o, Calls Tryz.prog 81 #[.slice A.ar M.ram.length A.cr, .int .i64 (k + M.x.length + M.cs.length)] (w.alloc o) fun e w' => e = .returned (.int .i64 (k + M.x.length + M.cs.length + M.ram.length)) ∧ w' = w.alloc o) := fun o => heldByteS_any A.ar M.ram.length A.cr (k + M.x.length + M.cs.length) (w.alloc o) hl.ram (by omega) (by have := hl.x; have := hl.cs; have := hl.ram; omega) (hs2.below (hB o))
  have d2 : decide (k + (M.x.length : Int) + (M.cs.length : Int) + (M.ram.length : Int) < 0) = false := by simp; omega
  have H3 : Hid (∀ o, Calls Tryz.prog 82 #[.agg #[.int .u64 M.d.t, .int .u64 M.d.cm, .bool M.d.so, .slice A.ai M.d.xs.length A.ci, .slice A.ao M.d.ys.length A.co, .int .i64 M.d.ir], .int .i64 (k + M.x.length + M.cs.length + M.ram.length)] (w.alloc o) fun e w' => e = .returned (.int .i64 (k + M.x.length + M.cs.length + M.ram.length + M.d.xs.length + M.d.ys.length)) ∧ Below (w.alloc o).heap.size (w.alloc o) w') := fun o => heldDev_any M.d.t M.d.cm M.d.so A.ai M.d.xs.length A.ci A.ao M.d.ys.length A.co M.d.ir (k + M.x.length + M.cs.length + M.ram.length) (w.alloc o) hl.xs hl.ys (by omega) (by have := hl.x; have := hl.cs; have := hl.ram; omega) (hs3.below (hB o)) (hs4.below (hB o))
  have d3 : decide (k + (M.x.length : Int) + (M.cs.length : Int) + (M.ram.length : Int) + (M.d.xs.length : Int) + (M.d.ys.length : Int) < 0) = false := by simp; omega
  clear hs0 hs1 hs2 hs3 hs4 hk0 hk1 hl
  generalize k + (M.x.length : Int) + (M.cs.length : Int) + (M.ram.length : Int) + (M.d.xs.length : Int) + (M.d.ys.length : Int) = k4 at *
  generalize k + (M.x.length : Int) + (M.cs.length : Int) + (M.ram.length : Int) = k3 at *
  generalize k + (M.x.length : Int) + (M.cs.length : Int) = k2 at *
  generalize k + (M.x.length : Int) = k1 at *
  go_enter Tryz.func31, Tryz.ntmps31
  go_wp2_with fail
  refine (H0.out _).mono ?_
  rintro e w1 ⟨rfl, hw1⟩
  subst hw1
  go_wp2_with fail
  refine (H1.out _).mono ?_
  rintro e w1 ⟨rfl, hw1⟩
  subst hw1
  go_wp2_with fail
  refine (H2.out _).mono ?_
  rintro e w1 ⟨rfl, hw1⟩
  subst hw1
  go_wp2_with fail
  refine (H3.out _).mono ?_
  rintro e w1 ⟨rfl, hb1⟩
  go_wp2_with fail
  go_ret
  exact ⟨rfl, below_trans (hB _) hb1⟩

structure MIn (w : World) (M : MV) (A : MA) : Prop where
  sl : MSl w M A
  wx : ∀ y ∈ M.x, (Lit.int .u64 y).wf = true
  wcs : ∀ y ∈ M.cs, (Lit.int .u64 y).wf = true
  wram : ∀ y ∈ M.ram, (Lit.int .u8 y).wf = true
  wxs : ∀ y ∈ M.d.xs, (Lit.int .u8 y).wf = true
  wys : ∀ y ∈ M.d.ys, (Lit.int .u8 y).wf = true
  lx : M.x.length ≤ 9223372036854775807
  lcs : M.cs.length ≤ 9223372036854775807
  lram : M.ram.length ≤ 9223372036854775807
  lxs : M.d.xs.length ≤ 9223372036854775807
  lys : M.d.ys.length ≤ 9223372036854775807
  pc : (Lit.int .u64 M.pc).wf = true
  pr : (Lit.int .i64 M.pr).wf = true
  t : (Lit.int .u64 M.d.t).wf = true
  cm : (Lit.int .u64 M.d.cm).wf = true
  ir : (Lit.int .i64 M.d.ir).wf = true
  hd : (Lit.int .u64 M.hd).wf = true

theorem word_bd9 {zs : List Int} (h : ∀ y ∈ zs, (Lit.int .u64 y).wf = true) (k : Nat) : 0 ≤ zs.getD k 0 ∧ zs.getD k 0 < 18446744073709551616 := by
  by_cases hk : k < zs.length
  · have h1 := u64_bd (h (zs.getD k 0) (by simp [List.getD, List.getElem?_eq_getElem hk]))
    exact ⟨h1.1, by have := h1.2; omega⟩
  · simp [List.getD, List.getElem?_eq_none (Nat.le_of_not_lt hk)]

theorem Fam.rsl {B E : Nat} {w : World} {A : MA} {nx nc nr ni no : Nat} {x cs ram xs ys : List Int} (h : Fam B E w (rowsM A nx nc nr ni no x cs ram xs ys)) : Sl .u64 w A.ax x ∧ Sl .u64 w A.ac cs ∧ Sl .u8 w A.ar ram ∧ Sl .u8 w A.ai xs ∧ Sl .u8 w A.ao ys :=
  ⟨own_sl' (h.own (wRow A.ax nx A.cx x) (by simp [rowsM])), own_sl' (h.own (wRow A.ac nc A.cc cs) (by simp [rowsM])), own_sl' (h.own (bRow A.ar nr A.cr ram) (by simp [rowsM])), own_sl' (h.own (bRow A.ai ni A.ci xs) (by simp [rowsM])), own_sl' (h.own (bRow A.ao no A.co ys) (by simp [rowsM]))⟩

end Go.Proofs.YtilhcfhcdplicaaGreatDoor
