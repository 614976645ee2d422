/- Own lemmas. -/
import Derived.Test.YtilhcfhcdplicaaGreatDoorK01
import Derived.Test.YtilhcfhcdplicaaGreatDoorK02
import Derived.Test.YtilhcfhcdplicaaGreatDoorK07
import Derived.Test.YtilhcfhcdplicaaGreatDoorK13
import Derived.Test.YtilhcfhcdplicaaGreatDoorK25
import Derived.Laws.BytesArg
namespace Go.Proofs.YtilhcfhcdplicaaGreatDoor
open Go.RowKit
set_option linter.unusedVariables false

theorem eql_nil64 (a : Option Addr) (n c : Nat) (w : World) : (binOp .eql 25 (.slice a n c) (.slice none 0 0)).run Tryz.prog w = .ok (.bool a.isNone) w := by
  simp only [binOp]
  simp [run_equal_slice_nil w 25 24 a n c Tryz.underlying25]

set_option maxRecDepth 100000 in
set_option maxHeartbeats 1600000 in
theorem clone64_any (a : Option Addr) (n c : Nat) (zs : List Int) (w : World) (hz : zs.length = n) (hn : n ≤ 1048576) (hsl : Sl .u64 w a zs) :
    Calls Tryz.prog 115 #[.slice a n c] w fun e w' => ∃ (a' : Option Addr) (c' : Nat), e = .returned (.slice a' n c') ∧ w'.ownsRow w.heap.size 24 1 (.slice a' n c') n (zs.map (Value.int .u64)) ∧ Below w.heap.size w w' := by
  cases a with
  | none =>
    have h0 : zs = [] := by
      cases zs with
      | nil => rfl
      | cons z zs => obtain ⟨b, off, e, _⟩ := hsl 0 (by simp); cases e
    subst h0
    simp only [List.length_nil] at hz
    subst hz
    clear hsl hn
    have hnil := eql_nil64 none 0 c
    simp only [Option.isNone] at hnil
    go_enter Tryz.func115, Tryz.ntmps115
    go_wp2_with fail
    go_ret
    exact ⟨none, 0, rfl, ⟨rfl, .inl ⟨rfl, rfl⟩⟩, Below.refl _ _⟩
  | some p =>
    have hE := own_empty64 w w.heap.size (Nat.le_refl _) (.cells #[] 24 (0, 0)) rfl
    have HS : Hid (Sl .u64 (w.alloc (.cells #[] 24 (0, 0))) (some p) zs) := hsl.below ((Below.refl _ _).alloc (Nat.le_refl _) _)
    have HX : Hid (zs.length = n ∧ n ≤ 1048576) := ⟨hz, hn⟩
    clear hsl hz hn
    have hnil := eql_nil64 (some p) n c
    simp only [Option.isNone] at hnil
    go_enter Tryz.func115, Tryz.ntmps115
    go_wp2_with (first
      | (at_builtin; refine wpList_app64 rfl (.tmp 5) (.tmp 6) rfl w.heap.size _ rfl hE (some p) n c zs rfl HX.out.1 HX.out.2 HS.out (by simp) ?_; intro b1 d1 w1 ow1 gr1; have B1 := dhid (app1 gr1 rfl); have OW := dhid ow1; clear ow1 gr1))
    go_ret
    exact ⟨b1, d1, rfl, OW.out, B1.out⟩

theorem My.addC {w wr wx : World} {r b : Nat} {T : TypeId} {rs cs : Array Value} {L : List FRow} (h : My w r b T rs cs L wr) (q : FRow) (ho : wx.ownsRow wr.heap.size q.t 1 q.v q.n q.xs) (hb : Below wr.heap.size wr wx) : My w r b T rs cs (L ++ [q]) wx := by
  have h4 := h.lt
  exact ⟨dstays hb h.row, dstays hb h.res, (h.fam.below hb).snoc q _ wx.heap.size ho (Nat.le_refl _) h4 (Nat.le_refl _) hb.size, below_trans h.below hb, h.hb, h.hr, h.ne⟩

theorem Fam.mid {B E B1 E1 : Nat} {w : World} {L1 L2 : List FRow} {q : FRow} (h : Fam B1 E1 w (L1 ++ L2)) (hq : Fam B E w [q]) (h1 : E ≤ B1) (h2 : B ≤ B1) (h3 : E ≤ E1) : Fam B E1 w (L1 ++ q :: L2) := by
  have hm : q ∈ [q] := List.mem_singleton.2 rfl
  have hne := List.pairwise_append.1 h.ne
  have lo : ∀ s ∈ L1 ++ L2, ∀ k, s.v.ownBlock = some k → B1 ≤ k := fun s hs k e => ((h.own s hs).lt k e).1
  have qh : ∀ k, q.v.ownBlock = some k → k < E := fun k e => hq.hi q hm k e
  refine ⟨fun s hs => ?_, fun s hs k e => ?_, List.pairwise_append.2 ⟨hne.1, List.pairwise_cons.2 ⟨fun s hs k e e2 => ?_, hne.2.1⟩, fun s hs t ht k e e2 => ?_⟩⟩
  · rcases List.mem_append.1 hs with hs | hs
    · exact own_low (h.own s (List.mem_append_left _ hs)) h2
    · rcases List.mem_cons.1 hs with rfl | hs
      · exact hq.own s hm
      · exact own_low (h.own s (List.mem_append_right _ hs)) h2
  · rcases List.mem_append.1 hs with hs | hs
    · exact h.hi s (List.mem_append_left _ hs) k e
    · rcases List.mem_cons.1 hs with rfl | hs
      · have := qh k e; omega
      · exact h.hi s (List.mem_append_right _ hs) k e
  · have := qh k e
    have := lo s (List.mem_append_right _ hs) k e2
    omega
  · rcases List.mem_cons.1 ht with rfl | ht
    · have := qh k e2
      have := lo s (List.mem_append_left _ hs) k e
      omega
    · exact hne.2.2 s hs t ht k e e2

def ramM (M : MV) (R : List Int) : MV := ⟨M.pc, M.x, M.pr, M.cs, R, M.d, M.hd, M.hl, M.wt⟩

set_option maxRecDepth 100000 in
set_option maxHeartbeats 3200000 in
theorem apart_any (M : MV) (A : MA) (R : List Int) (ar2 : Option Addr) (nr cr2 B : Nat) (w : World) (hl : MLen M) (hs : MSl w M A) (hR : Fam B w.heap.size w [bRow ar2 nr cr2 R]) (hB : B ≤ w.heap.size) (hnr : R.length = nr) :
    Calls Tryz.prog 61 #[.agg #[.int .u64 M.pc, .slice A.ax M.x.length A.cx, .int .i64 M.pr, .slice A.ac M.cs.length A.cc, .slice A.ar M.ram.length A.cr, .int .u64 M.d.t, .int .u64 M.d.cm, .bool M.d.so, .slice A.ai M.d.xs.length A.ci, .slice A.ao M.d.ys.length A.co, .int .i64 M.d.ir, .int .u64 M.hd, .bool M.hl, .bool M.wt], .slice ar2 nr cr2] w fun e w' => ∃ C : MA, C.ar = ar2 ∧ C.cr = cr2 ∧ e = .returned (.agg (mvc (ramM M R) C)) ∧ Fam B w'.heap.size w' (mvF (ramM M R) C) ∧ (∀ q ∈ mvF (ramM M R) C, ∀ k, q.v.ownBlock = some k → w.heap.size ≤ k ∨ (Value.slice ar2 nr cr2).ownBlock = some k) ∧ Below w.heap.size w w' := by
  have HX : Hid (∀ w', Below w.heap.size w w' → Calls Tryz.prog 115 #[.slice A.ax M.x.length A.cx] w' fun e w'' => ∃ (a' : Option Addr) (c' : Nat), e = .returned (.slice a' M.x.length c') ∧ w''.ownsRow w'.heap.size 24 1 (.slice a' M.x.length c') M.x.length (M.x.map (Value.int .u64)) ∧ Below w'.heap.size w' w'') := fun w' hb => clone64_any _ _ _ M.x w' rfl hl.x (hs.x.below hb)
  have HC : Hid (∀ w', Below w.heap.size w w' → Calls Tryz.prog 115 #[.slice A.ac M.cs.length A.cc] w' fun e w'' => ∃ (a' : Option Addr) (c' : Nat), e = .returned (.slice a' M.cs.length c') ∧ w''.ownsRow w'.heap.size 24 1 (.slice a' M.cs.length c') M.cs.length (M.cs.map (Value.int .u64)) ∧ Below w'.heap.size w' w'') := fun w' hb => clone64_any _ _ _ M.cs w' rfl hl.cs (hs.cs.below hb)
  have HD : Hid (∀ w', Below w.heap.size w w' → Calls Tryz.prog 116 #[.agg #[.int .u64 M.d.t, .int .u64 M.d.cm, .bool M.d.so, .slice A.ai M.d.xs.length A.ci, .slice A.ao M.d.ys.length A.co, .int .i64 M.d.ir]] w' fun e w'' => ∃ (b1 : Option Addr) (d1 : Nat) (b2 : Option Addr) (d2 : Nat), e = .returned (.agg #[.int .u64 M.d.t, .int .u64 M.d.cm, .bool M.d.so, .slice b1 M.d.xs.length d1, .slice b2 M.d.ys.length d2, .int .i64 M.d.ir]) ∧ Fam w'.heap.size w''.heap.size w'' (devF b1 M.d.xs.length d1 M.d.xs b2 M.d.ys.length d2 M.d.ys) ∧ Below w'.heap.size w' w'') := fun w' hb => copied_any _ _ _ _ _ _ _ _ _ _ M.d.xs M.d.ys w' rfl rfl hl.xs hl.ys (hs.xs.below hb) (hs.ys.below hb)
  have HR := dhid hR
  have HB := dhid hB
  have HN := dhid hnr
  clear hl hs hR hB hnr
  go_enter Tryz.func61, Tryz.ntmps61
  obtain ⟨r0, r1⟩ := rows2 (w := w) (o1 := .cells #[.int .u64 M.pc, .slice A.ax M.x.length A.cx, .int .i64 M.pr, .slice A.ac M.cs.length A.cc, .slice A.ar M.ram.length A.cr, .int .u64 M.d.t, .int .u64 M.d.cm, .bool M.d.so, .slice A.ai M.d.xs.length A.ci, .slice A.ao M.d.ys.length A.co, .int .i64 M.d.ir, .int .u64 M.hd, .bool M.hl, .bool M.wt] 29) (o2 := .cells #[.int .u64 0, .slice none 0 0, .int .i64 0, .slice none 0 0, .slice none 0 0, .int .u64 0, .int .u64 0, .bool false, .slice none 0 0, .slice none 0 0, .int .i64 0, .int .u64 0, .bool false, .bool false] 29) (Below.refl _ _)
  have M0 : Hid (My w (w.heap.size + 1) w.heap.size 29 #[.int .u64 0, .slice none 0 0, .int .i64 0, .slice none 0 0, .slice none 0 0, .int .u64 0, .int .u64 0, .bool false, .slice none 0 0, .slice none 0 0, .int .i64 0, .int .u64 0, .bool false, .bool false] #[.int .u64 M.pc, .slice A.ax M.x.length A.cx, .int .i64 M.pr, .slice A.ac M.cs.length A.cc, .slice A.ar M.ram.length A.cr, .int .u64 M.d.t, .int .u64 M.d.cm, .bool M.d.so, .slice A.ai M.d.xs.length A.ci, .slice A.ao M.d.ys.length A.co, .int .i64 M.d.ir, .int .u64 M.hd, .bool M.hl, .bool M.wt] [] ((w.alloc (.cells #[.int .u64 M.pc, .slice A.ax M.x.length A.cx, .int .i64 M.pr, .slice A.ac M.cs.length A.cc, .slice A.ar M.ram.length A.cr, .int .u64 M.d.t, .int .u64 M.d.cm, .bool M.d.so, .slice A.ai M.d.xs.length A.ci, .slice A.ao M.d.ys.length A.co, .int .i64 M.d.ir, .int .u64 M.hd, .bool M.hl, .bool M.wt] 29)).alloc (.cells #[.int .u64 0, .slice none 0 0, .int .i64 0, .slice none 0 0, .slice none 0 0, .int .u64 0, .int .u64 0, .bool false, .slice none 0 0, .slice none 0 0, .int .i64 0, .int .u64 0, .bool false, .bool false] 29))) := ⟨r0, r1, Fam.nil _ _ _, ((Below.refl _ _).alloc (Nat.le_refl _) _).alloc (by simp) _, by omega, by omega, by omega⟩
  clear r0 r1
  go_wp2_with fail
  refine (HX.out _ M0.out.below).mono ?_
  rintro e w1 ⟨kx, lx, rfl, ow1, hb1⟩
  have M1 := dhid (M0.out.addC (wRow kx M.x.length lx M.x) ow1 hb1)
  clear ow1 hb1
  obtain ⟨p0, p1, p2, p3, p4, p5, p6, p7, p8, p9, p10, p11, p12, p13⟩ := cells14 M1.out.row
  obtain ⟨f0, f1, f2, f3, f4, f5, f6, f7, f8, f9, f10, f11, f12, f13⟩ := froz14 M1.out.row
  have M2 : Hid (My w (w.heap.size + 1) w.heap.size 29 #[.int .u64 0, .slice none 0 0, .int .i64 0, .slice none 0 0, .slice none 0 0, .int .u64 0, .int .u64 0, .bool false, .slice none 0 0, .slice none 0 0, .int .i64 0, .int .u64 0, .bool false, .bool false] #[.int .u64 M.pc, .slice kx M.x.length lx, .int .i64 M.pr, .slice A.ac M.cs.length A.cc, .slice A.ar M.ram.length A.cr, .int .u64 M.d.t, .int .u64 M.d.cm, .bool M.d.so, .slice A.ai M.d.xs.length A.ci, .slice A.ao M.d.ys.length A.co, .int .i64 M.d.ir, .int .u64 M.hd, .bool M.hl, .bool M.wt] [wRow kx M.x.length lx M.x] (w1.setCell ⟨w.heap.size, 1, none⟩ (.slice kx M.x.length lx))) := M1.out.put 1 _
  have n3 := (cells14 M2.out.row).2.2.2.1
  go_wp2_with fail
  refine (HC.out _ M2.out.below).mono ?_
  rintro e w2 ⟨kc, lc, rfl, ow2, hb2⟩
  have M3 := dhid (M2.out.addC (wRow kc M.cs.length lc M.cs) ow2 hb2)
  clear ow2 hb2 n3
  clear p0 p1 p2 p3 p4 p5 p6 p7 p8 p9 p10 p11 p12 p13 f0 f1 f2 f3 f4 f5 f6 f7 f8 f9 f10 f11 f12 f13
  obtain ⟨p0, p1, p2, p3, p4, p5, p6, p7, p8, p9, p10, p11, p12, p13⟩ := cells14 M3.out.row
  obtain ⟨f0, f1, f2, f3, f4, f5, f6, f7, f8, f9, f10, f11, f12, f13⟩ := froz14 M3.out.row
  have M4 : Hid (My w (w.heap.size + 1) w.heap.size 29 #[.int .u64 0, .slice none 0 0, .int .i64 0, .slice none 0 0, .slice none 0 0, .int .u64 0, .int .u64 0, .bool false, .slice none 0 0, .slice none 0 0, .int .i64 0, .int .u64 0, .bool false, .bool false] #[.int .u64 M.pc, .slice kx M.x.length lx, .int .i64 M.pr, .slice kc M.cs.length lc, .slice A.ar M.ram.length A.cr, .int .u64 M.d.t, .int .u64 M.d.cm, .bool M.d.so, .slice A.ai M.d.xs.length A.ci, .slice A.ao M.d.ys.length A.co, .int .i64 M.d.ir, .int .u64 M.hd, .bool M.hl, .bool M.wt] [wRow kx M.x.length lx M.x, wRow kc M.cs.length lc M.cs] (w2.setCell ⟨w.heap.size, 3, none⟩ (.slice kc M.cs.length lc))) := M3.out.put 3 _
  have M5 : Hid (My w (w.heap.size + 1) w.heap.size 29 #[.int .u64 0, .slice none 0 0, .int .i64 0, .slice none 0 0, .slice none 0 0, .int .u64 0, .int .u64 0, .bool false, .slice none 0 0, .slice none 0 0, .int .i64 0, .int .u64 0, .bool false, .bool false] #[.int .u64 M.pc, .slice kx M.x.length lx, .int .i64 M.pr, .slice kc M.cs.length lc, .slice ar2 nr cr2, .int .u64 M.d.t, .int .u64 M.d.cm, .bool M.d.so, .slice A.ai M.d.xs.length A.ci, .slice A.ao M.d.ys.length A.co, .int .i64 M.d.ir, .int .u64 M.hd, .bool M.hl, .bool M.wt] [wRow kx M.x.length lx M.x, wRow kc M.cs.length lc M.cs] ((w2.setCell ⟨w.heap.size, 3, none⟩ (.slice kc M.cs.length lc)).setCell ⟨w.heap.size, 4, none⟩ (.slice ar2 nr cr2))) := M4.out.put 4 _
  obtain ⟨-, -, -, -, v4, -, -, -, -, -, -, -, -, -⟩ := cells14 M4.out.row
  obtain ⟨-, -, -, -, u4, -, -, -, -, -, -, -, -, -⟩ := froz14 M4.out.row
  obtain ⟨-, -, -, -, -, z5, z6, z7, z8, z9, z10, -, -, -⟩ := cells14 M5.out.row
  go_wp2_with fail
  refine (HD.out _ M5.out.below).mono ?_
  rintro e w4 ⟨ki, li, ko, lo, rfl, fm4, hb4⟩
  have M7 := dhid (M5.out.add2 (bRow ki M.d.xs.length li M.d.xs) (bRow ko M.d.ys.length lo M.d.ys) fm4 hb4)
  have BR := dhid (below_trans M5.out.below hb4)
  clear fm4 hb4 z5 z6 z7 z8 z9 z10 v4 u4
  clear p0 p1 p2 p3 p4 p5 p6 p7 p8 p9 p10 p11 p12 p13 f0 f1 f2 f3 f4 f5 f6 f7 f8 f9 f10 f11 f12 f13
  obtain ⟨p0, p1, p2, p3, p4, p5, p6, p7, p8, p9, p10, p11, p12, p13⟩ := cells14 M7.out.row
  obtain ⟨f0, f1, f2, f3, f4, f5, f6, f7, f8, f9, f10, f11, f12, f13⟩ := froz14 M7.out.row
  obtain ⟨r0, r1, r2, r3, r4, r5, r6, r7, r8, r9, r10, r11, r12, r13⟩ := cells14 M7.out.res
  obtain ⟨y0, y1, y2, y3, y4, y5, y6, y7, y8, y9, y10, y11, y12, y13⟩ := froz14 M7.out.res
  go_wp2_with fail
  have M8 := ((((((M7.out.put 5 (.int .u64 M.d.t)).put 6 (.int .u64 M.d.cm)).put 7 (.bool M.d.so)).put 8 (.slice ki M.d.xs.length li)).put 9 (.slice ko M.d.ys.length lo)).put 10 (.int .i64 M.d.ir))
  have T1 := row_put14 M8.res (.int .u64 M.pc) (.slice kx M.x.length lx) (.int .i64 M.pr) (.slice kc M.cs.length lc) (.slice ar2 nr cr2) (.int .u64 M.d.t) (.int .u64 M.d.cm) (.bool M.d.so) (.slice ki M.d.xs.length li) (.slice ko M.d.ys.length lo) (.int .i64 M.d.ir) (.int .u64 M.hd) (.bool M.hl) (.bool M.wt)
  have F1 := M8.fam.put14 (w.heap.size + 1) (.inl (by omega)) (.int .u64 M.pc) (.slice kx M.x.length lx) (.int .i64 M.pr) (.slice kc M.cs.length lc) (.slice ar2 nr cr2) (.int .u64 M.d.t) (.int .u64 M.d.cm) (.bool M.d.so) (.slice ki M.d.xs.length li) (.slice ko M.d.ys.length lo) (.int .i64 M.d.ir) (.int .u64 M.hd) (.bool M.hl) (.bool M.wt)
  have B1 := below_put14 M8.below (g := w.heap.size + 1) (by omega) (.int .u64 M.pc) (.slice kx M.x.length lx) (.int .i64 M.pr) (.slice kc M.cs.length lc) (.slice ar2 nr cr2) (.int .u64 M.d.t) (.int .u64 M.d.cm) (.bool M.d.so) (.slice ki M.d.xs.length li) (.slice ko M.d.ys.length lo) (.int .i64 M.d.ir) (.int .u64 M.hd) (.bool M.hl) (.bool M.wt)
  have hn := HN.out
  refine bodyPost_ret (results_cell_row Tryz.results61 _ _ _ _ _ _ _ rfl T1 Tryz.underlying29 rfl mac_size) rfl ⟨⟨kx, lx, kc, lc, ar2, cr2, ki, li, ko, lo⟩, rfl, rfl, by rw [← hn]; rfl, by rw [← hn] at HR; exact Fam.mid (L1 := [wRow kx M.x.length lx M.x, wRow kc M.cs.length lc M.cs]) (L2 := [bRow ki M.d.xs.length li M.d.xs, bRow ko M.d.ys.length lo M.d.ys]) (q := bRow ar2 R.length cr2 R) (F1.low (Nat.le_refl _) (by simp only [size_set]; exact Nat.le_refl _)) (HR.out.below B1) (by omega) (by have := HB.out; omega) (by simp only [size_set]; have := M7.out.lt; omega), fun q hq k e => ?_, B1⟩
  simp only [mvF, ramM, List.mem_cons, List.not_mem_nil, or_false] at hq
  rcases hq with rfl | rfl | rfl | rfl | rfl
  · exact .inl (by have := ((F1.own (wRow kx M.x.length lx M.x) (by simp)).lt k e).1; omega)
  · exact .inl (by have := ((F1.own (wRow kc M.cs.length lc M.cs) (by simp)).lt k e).1; omega)
  · exact .inr (by rw [← hn]; exact e)
  · exact .inl (by have := ((F1.own (bRow ki M.d.xs.length li M.d.xs) (by simp)).lt k e).1; omega)
  · exact .inl (by have := ((F1.own (bRow ko M.d.ys.length lo M.d.ys) (by simp)).lt k e).1; omega)

theorem bitQ (x : Int) (h : U x) (i : Nat) : bitAt x i = if bt x i = true then 1 else 0 := by
  unfold bitAt
  have hf := bt_fld x h i 1
  have e1 : bits .and .u64 (x / 2 ^ i) 1 = fld x i 1 := by
    have := bitsAt_eq x i 1 h.1 h.2 (by omega)
    rw [← this]
    rfl
  rw [e1]
  have hb := fld_bd x i 1
  have h0 := bt_fld x h i 1 0 (by omega)
  rw [Nat.zero_add] at h0
  simp only [Nat.lt_add_one, decide_true, Bool.true_and] at h0
  rw [← h0]
  have e2 : fld x i 1 = 0 ∨ fld x i 1 = 1 := by
    have : (2 : Int) ^ 1 = 2 := by decide
    omega
  rcases e2 with e | e
  · rw [e]; rfl
  · rw [e]; rfl

theorem bitQ1 (x : Int) (h : U x) (i : Nat) : (bitAt x i == 1) = bt x i := by
  rw [bitQ x h i]
  cases bt x i <;> rfl

theorem bitQ0 (x : Int) (h : U x) (i : Nat) : (bitAt x i == 0) = !bt x i := by
  rw [bitQ x h i]
  cases bt x i <;> rfl

theorem bt_zero (i : Nat) : bt 0 i = false := by
  unfold bt
  simp

theorem U_zero : U 0 := ⟨by omega, by omega⟩

theorem maskZ (e M : Int) (L : List Nat) (hM : ∀ i, i < 64 → bt M i = L.contains i) (hL : ∀ i ∈ L, i < 64) : (bits .and .u64 e M == 0) = L.all (fun i => !bt e i) := by
  rw [Bool.eq_iff_iff, beq_iff_eq, List.all_eq_true]
  constructor
  · intro h i hi
    have h1 := bt_and e M i
    rw [h, bt_zero, hM i (hL i hi)] at h1
    have : L.contains i = true := by simpa using hi
    rw [this, Bool.and_true] at h1
    rw [← h1]
    rfl
  · intro h
    refine bt_ext _ _ (U_bits _ _ _) U_zero fun i hi => ?_
    rw [bt_and, bt_zero, hM i hi]
    cases hc : L.contains i with
    | false => rw [Bool.and_false]
    | true =>
      have := h i (by simpa using hc)
      rw [Bool.and_true]
      simpa using this

theorem maskE (e M : Int) (L : List Nat) (hU : U M) (hM : ∀ i, i < 64 → bt M i = L.contains i) (hL : ∀ i ∈ L, i < 64) : (bits .and .u64 e M == M) = L.all (fun i => bt e i) := by
  rw [Bool.eq_iff_iff, beq_iff_eq, List.all_eq_true]
  constructor
  · intro h i hi
    have h1 := bt_and e M i
    rw [h, hM i (hL i hi)] at h1
    have : L.contains i = true := by simpa using hi
    rw [this, Bool.and_true] at h1
    exact h1.symm
  · intro h
    refine bt_ext _ _ (U_bits _ _ _) hU fun i hi => ?_
    rw [bt_and, hM i hi]
    cases hc : L.contains i with
    | false => rw [Bool.and_false]
    | true =>
      rw [h i (by simpa using hc)]
      rfl

theorem maskO (e M : Int) (L : List Nat) (he : U e) (hM : ∀ i, i < 64 → bt M i = L.contains i) (hL : ∀ i ∈ L, i < 64) : (bits .or .u64 e M == e) = L.all (fun i => bt e i) := by
  rw [Bool.eq_iff_iff, beq_iff_eq, List.all_eq_true]
  constructor
  · intro h i hi
    have h1 := bt_or e M i
    rw [h, hM i (hL i hi)] at h1
    have : L.contains i = true := by simpa using hi
    rw [this, Bool.or_true] at h1
    exact h1
  · intro h
    refine bt_ext _ _ (U_bits _ _ _) he fun i hi => ?_
    rw [bt_or, hM i hi]
    cases hc : L.contains i with
    | false => rw [Bool.or_false]
    | true => rw [h i (by simpa using hc)]; rfl

theorem m1 (e : Int) : (bits .and .u64 e 1 == 0) = !bt e 0 := by
  rw [maskZ e 1 [0] (by decide +kernel) (by decide)]; simp

theorem m2 (e : Int) : (bits .and .u64 e 2 == 0) = !bt e 1 := by
  rw [maskZ e 2 [1] (by decide +kernel) (by decide)]; simp

theorem m4 (e : Int) : (bits .and .u64 e 4 == 0) = !bt e 2 := by
  rw [maskZ e 4 [2] (by decide +kernel) (by decide)]; simp

theorem m8 (e : Int) : (bits .and .u64 e 8 == 0) = !bt e 3 := by
  rw [maskZ e 8 [3] (by decide +kernel) (by decide)]; simp

theorem m16 (e : Int) : (bits .and .u64 e 16 == 0) = !bt e 4 := by
  rw [maskZ e 16 [4] (by decide +kernel) (by decide)]; simp

theorem m10 (e : Int) : (bits .and .u64 e 10 == 0) = (!bt e 1 && !bt e 3) := by
  rw [maskZ e 10 [1, 3] (by decide +kernel) (by decide)]; simp

theorem m208 (e : Int) : (bits .and .u64 e 208 == 0) = (!bt e 4 && (!bt e 6 && !bt e 7)) := by
  rw [maskZ e 208 [4, 6, 7] (by decide +kernel) (by decide)]; simp

theorem m18 (e : Int) : (bits .and .u64 e 262144 == 0) = !bt e 18 := by
  rw [maskZ e 262144 [18] (by decide +kernel) (by decide)]; simp

theorem m19 (e : Int) : (bits .and .u64 e 524288 == 0) = !bt e 19 := by
  rw [maskZ e 524288 [19] (by decide +kernel) (by decide)]; simp

theorem m17 (e : Int) : (bits .and .u64 e 131072 == 0) = !bt e 17 := by
  rw [maskZ e 131072 [17] (by decide +kernel) (by decide)]; simp

theorem m6 (e : Int) : (bits .and .u64 e 6 == 4) = (!bt e 1 && bt e 2) := by
  have hM : ∀ i, i < 64 → bt 6 i = [1, 2].contains i ∧ bt 4 i = [2].contains i := by decide +kernel
  rw [Bool.eq_iff_iff, beq_iff_eq, Bool.and_eq_true]
  constructor
  · intro h
    have a := bt_and e 6 1
    have b := bt_and e 6 2
    rw [h, (hM 1 (by omega)).1, (hM 1 (by omega)).2] at a
    rw [h, (hM 2 (by omega)).1, (hM 2 (by omega)).2] at b
    have a2 : false = (bt e 1 && true) := a
    have b2 : true = (bt e 2 && true) := b
    rw [Bool.and_true] at a2 b2
    rw [← a2, ← b2]
    exact ⟨rfl, rfl⟩
  · rintro ⟨h1, h2⟩
    have h1' : bt e 1 = false := by simpa using h1
    refine bt_ext _ _ (U_bits _ _ _) ⟨by omega, by omega⟩ fun i hi => ?_
    rw [bt_and, (hM i hi).1, (hM i hi).2]
    by_cases i1 : i = 1
    · subst i1; rw [h1']; rfl
    · by_cases i2 : i = 2
      · subst i2; rw [h2]; rfl
      · simp [i1, i2]

theorem m54 (e : Int) (he : U e) : (bits .and .u64 e 18428729675200069632 == 0) = (e / 18014398509481984 == 0) := by
  have hM : ∀ i, i < 64 → bt 18428729675200069632 i = decide (54 ≤ i) := by decide +kernel
  have e54 : (18014398509481984 : Int) = 2 ^ 54 := by decide
  rw [e54, Bool.eq_iff_iff, beq_iff_eq, beq_iff_eq]
  constructor
  · intro h
    refine bt_ext _ _ (U_div e he 54) U_zero fun i hi => ?_
    rw [bt_div e he, bt_zero]
    by_cases h64 : 64 ≤ i + 54
    · exact bt_high _ _ h64
    · have a := bt_and e 18428729675200069632 (i + 54)
      rw [h, bt_zero, hM _ (by omega)] at a
      simpa using a.symm
  · intro h
    refine bt_ext _ _ (U_bits _ _ _) U_zero fun i hi => ?_
    rw [bt_and, bt_zero, hM i hi]
    by_cases h54 : 54 ≤ i
    · have a := bt_div e he 54 (i - 54)
      rw [h, bt_zero, Nat.sub_add_cancel h54] at a
      rw [← a]; rfl
    · simp [h54]

def badP (e : Int) : Bool := (bits .and .u64 e 1 == 0) || (bits .and .u64 e 6 == 4) || (bits .and .u64 e 18428729675200069632 != 0)

theorem bad_eq (e : Int) (he : U e) : badP e = badB e := by
  unfold badP badB
  rw [bitQ0 e he, bitQ1 e he, m6, bne, bne, m54 e he]

theorem leaf_eq (e : Int) (he : U e) : (bits .and .u64 e 10 != 0) = !ptrB e := by
  unfold ptrB
  rw [bitQ0 e he, bitQ0 e he, bne, m10]

theorem stop_eq (e : Int) (he : U e) (lv : Nat) : (((lv : Int) == 0) || (bits .and .u64 e 208 != 0)) = stopB e lv := by
  unfold stopB
  have e16 : (16 : Int) = 2 ^ 4 := by decide
  have a := bitQ1 e he 4
  unfold bitAt at a
  rw [← e16] at a
  have b : (bits .and .u64 (e / 64) 3 == 0) = (!bt e 6 && !bt e 7) := by
    rw [maskZ (e / 64) 3 [0, 1] (by decide +kernel) (by decide)]
    have e64 : (64 : Int) = 2 ^ 6 := by decide
    simp only [List.all_cons, List.all_nil, Bool.and_true]
    rw [e64, bt_div e he, bt_div e he]
  rw [bne, bne, m208, a, b]
  cases ((lv : Int) == 0) <;> cases bt e 4 <;> cases bt e 6 <;> cases bt e 7 <;> rfl

theorem frame_eq (e : Int) (he : U e) : fld e 10 44 = frameV e := by
  rw [← bitsAt_eq e 10 44 he.1 he.2 (by omega)]
  rfl

theorem U_frame (e : Int) : U (frameV e) := U_bits _ _ _

theorem off_eq (e : Int) (he : U e) (lv : Nat) (h : lv ≤ 2) : (fld e 10 (9 * lv) != 0) = offB e lv := by
  unfold offB lowM
  have hf := U_frame e
  have a := bitsAt_eq (frameV e) 0 (9 * lv) hf.1 hf.2 (by omega)
  rw [show frameV e / 2 ^ 0 = frameV e from by simp] at a
  rw [a, ← frame_eq e he]
  congr 1
  refine bt_ext _ _ (U_fld _ _ _ (by omega)) (U_fld _ _ _ (by omega)) fun i hi => ?_
  rw [bt_fld e he _ _ _ (by omega), bt_fld _ (U_fld _ _ _ (by omega)) _ _ _ (by omega), bt_fld e he _ _ _ (by omega)]
  by_cases h9 : i < 9 * lv
  · simp [h9, show i < 44 from by omega]
  · simp [h9]

def kindP (x k e : Int) : Bool := if k = 1 then (bits .and .u64 e 8 != 0) else if k = 2 then ((bits .and .u64 e 2 != 0) || ((bits .and .u64 x 524288 != 0) && (bits .and .u64 e 8 != 0))) else (bits .and .u64 e 4 != 0)

theorem kind_may (l : List Int) (k e : Int) (he : U e) (hx : U (l.getD 0 0)) (h1 : 1 ≤ k) (h3 : k ≤ 3) : kindP (l.getD 0 0) k e = !noKind l k e := by
  unfold kindP noKind
  rw [bitQ0 e he, bitQ0 e he, bitQ0 e he, bitQ0 _ hx]
  simp only [bne, m8, m2, m4, m19]
  have hk : k = 1 ∨ k = 2 ∨ k = 3 := by omega
  rcases hk with rfl | rfl | rfl
  · cases bt e 3 <;> rfl
  · cases bt e 1 <;> cases bt e 3 <;> cases bt (l.getD 0 0) 19 <;> rfl
  · cases bt e 2 <;> rfl

def privP (x p k e : Int) : Bool := if (bits .and .u64 e 16 == 0) = true then (p == 1) else ((p == 0) || ((k != 1) && (bits .and .u64 x 262144 != 0)))

theorem priv_may (l : List Int) (p k e : Int) (he : U e) (hx : U (l.getD 0 0)) (hp : p = 0 ∨ p = 1) : privP (l.getD 0 0) p k e = !noPriv l p k e := by
  unfold privP noPriv
  rw [bitQ0 e he, bitQ1 e he, bitQ0 _ hx]
  simp only [bne, m16, m18]
  rcases hp with rfl | rfl
  · cases bt e 4 <;> rfl
  · cases bt e 4 <;> cases bt (l.getD 0 0) 18 <;> cases (k == 1) <;> rfl

def marksP (k : Int) : Int := if k = 3 then 192 else 64

theorem want_eq (e k : Int) : bits .or .u64 e (marksP k) = wantV e k := by
  unfold marksP wantV
  by_cases h : k = 3
  · subst h
    have hM : ∀ i, i < 64 → bt 192 i = (bt 64 i || bt 128 i) := by decide +kernel
    rw [if_pos rfl, if_pos (by decide)]
    refine bt_ext _ _ (U_bits _ _ _) (U_bits _ _ _) fun i hi => ?_
    rw [bt_or, bt_or, bt_or, hM i hi, Bool.or_assoc]
  · have : (k == 3) = false := by simpa using h
    rw [if_neg h, this]
    rfl

theorem mark_eq (e k : Int) (he : U e) : (bits .and .u64 e (marksP k) == marksP k) = !(wantV e k != e) := by
  rw [← want_eq, bne, Bool.not_not]
  unfold marksP
  by_cases h : k = 3
  · rw [if_pos h, maskE e 192 [6, 7] ⟨by omega, by omega⟩ (by decide +kernel) (by decide), maskO e 192 [6, 7] he (by decide +kernel) (by decide)]
  · rw [if_neg h, maskE e 64 [6] ⟨by omega, by omega⟩ (by decide +kernel) (by decide), maskO e 64 [6] he (by decide +kernel) (by decide)]

theorem lead_eq (e va : Int) (he : U e) (hv : U va) (lv : Nat) (h : lv ≤ 2) (h0 : offB e lv = false) : bits .or .u64 (IntKind.u64.wrap (fld e 10 44 * 4096)) (fld va 0 (12 + 9 * lv)) = leadV e va lv := by
  rw [← off_eq e he lv h] at h0
  have h0' : fld e 10 (9 * lv) = 0 := by simpa using h0
  unfold leadV
  rw [← frame_eq e he]
  have hlow : ∀ i, i < 64 → bt (lowM (12 + 9 * lv)) i = decide (i < 12 + 9 * lv) := by
    have : lv = 0 ∨ lv = 1 ∨ lv = 2 := by omega
    rcases this with rfl | rfl | rfl
    · decide +kernel
    · decide +kernel
    · decide +kernel
  have e4096 : (4096 : Int) = 2 ^ 12 := by decide
  refine bt_ext _ _ (U_bits _ _ _) (U_bits _ _ _) fun i hi => ?_
  rw [bt_or, bt_or, bt_andNot _ _ _ hi, bt_and, hlow i hi, bt_fld va hv _ _ _ (by omega), Nat.add_zero, e4096, bt_shl _ (U_fld _ _ _ (by omega))]
  by_cases hlt : i < 12 + 9 * lv
  · simp only [hlt, decide_true, Bool.true_and, Bool.and_true, Bool.not_true, Bool.and_false, Bool.false_or]
    by_cases h12 : 12 ≤ i
    · have hz := bt_fld e he 10 (9 * lv) (i - 12) (by omega)
      rw [h0', bt_zero] at hz
      rw [bt_fld e he _ _ _ (by omega)]
      have hd : decide (i - 12 < 9 * lv) = true := by simp; omega
      rw [hd, Bool.true_and] at hz
      rw [← hz]
      simp
    · simp [h12]
  · simp [hlt]

theorem top_eq (l : List Int) (h : U (l.getD 15 0)) : IntKind.u64.wrap (fld (l.getD 15 0) 0 44 * 4096) = topT l := by
  rw [← bitsAt_eq _ 0 44 h.1 h.2 (by omega)]
  unfold topT
  rw [show l.getD 15 0 / 2 ^ 0 = l.getD 15 0 from by simp]
  rfl

theorem pte_eq (T va : Int) (hv : U va) (lv : Nat) : IntKind.u64.wrap (T + IntKind.u64.wrap (8 * fld va (12 + 9 * lv) 9)) = pteAt T va lv := by
  rw [← bitsAt_eq _ (12 + 9 * lv) 9 hv.1 hv.2 (by omega)]
  rfl

theorem satp_eq (s : Int) (h : U s) : (fld s 60 4 == 0) = (s / 1152921504606846976 == 0) := by
  have e60 : (1152921504606846976 : Int) = 2 ^ 60 := by decide
  have e : fld s 60 4 = s / 2 ^ 60 := by
    unfold fld
    have e16 : (2 : Int) ^ 4 = 16 := by decide
    have e6 : (2 : Int) ^ 60 = 1152921504606846976 := by decide
    rw [e16, e6]
    have := h.1
    have := h.2
    omega
  rw [e, e60]

theorem perm_eq (n : Nat) (l : List Int) (x kind : Int) (h1 : legalB 22 l 1 = true) (hx : okB n x 8 = true) (hk1 : 1 ≤ kind) (hk3 : kind ≤ 3) : permV 22 l 1 x 8 kind = permRest l 1 x (lastOf x 8) kind 4 0 := by
  unfold permV
  obtain ⟨_, _, hb1, hb2, _, _, hn1, hn2⟩ := okB_true hx
  have e : lastOf x 8 = x + 7 := by
    unfold lastOf
    rw [IntKind.wrap_u64, IntKind.wrap_u64, IntKind.wrap_u64]
    omega
  have hlt : decide (lastOf x 8 < x) = false := by rw [e]; simp; omega
  have hk : decide (1 ≤ kind ∧ kind ≤ 3) = true := by simp; omega
  rw [h1, hlt, hk]
  rfl

set_option maxHeartbeats 400000 in
theorem implStore_n (a : Option Addr) (n cap f m : Nat) (zs : List Int) (x : Int) (w : World) (hz : zs.length = n) (hn : n ≤ 1048576) (hs : Sl .u8 w a zs) (hok : okB n (2147483648 + (f : Int)) (m : Int) = true) (hx0 : 0 ≤ x) (hx1 : x ≤ 18446744073709551615) :
    Calls Tryz.prog 208 #[.slice a n cap, .int .u64 (2147483648 + (f : Int)), .int .i64 (m : Int), .int .u64 x] w fun e w' => e = .returned (.tuple #[.slice (some ⟨w.heap.size, 0, none⟩) n n, .bool true]) ∧
      w'.ownsRow w.heap.size 5 1 (.slice (some ⟨w.heap.size, 0, none⟩) n n) n ((put zs f x m).map (Value.int .u8)) ∧ Below w.heap.size w w' := by
  have HZ : Hid (zs.length = n) := hz
  obtain ⟨hr, hsz, hb1, hb2, hs1, hs2, hn1, hn2⟩ := okB_true hok
  have ha : 0 ≤ 2147483648 + (f : Int) := by omega
  have ha2 : 2147483648 + (f : Int) ≤ 18446744073709551615 := by omega
  clear hz
  have P2 : Hid (placeB n (2147483648 + (f : Int)) (m : Int) = f) := by
    show placeB n (2147483648 + (f : Int)) (m : Int) = f
    simp only [placeB, hok, if_true]
    omega
  obtain ⟨b, off, rfl, hblt, hc0⟩ := hs 0 (by have := HZ.out; omega)
  clear hc0
  obtain ⟨i0, hi, hz0, hz1, hz2⟩ := info_parts Tryz.info5
  have hsz5 : (Tryz.prog.info? 5).map (·.size) = some 1 := by rw [hi]; simp [hz1]
  have hb2' : i0.bytes * n ≤ 281474976710656 := by rw [hz2]; omega
  have hb3 : n ≤ maxLen := by unfold maxLen; omega
  go_enter Tryz.func208, Tryz.ntmps208
  go_wp2_with (first | (go_at_call 211; refine (place_any _ _ _ _ _ _ hn ha ha2).mono ?_; rw [P2.out]; rintro e w' ⟨rfl, hw'⟩; have hw2 := hw'.symm; subst hw2) | (at_make; refine wpList_make_full _ rfl (.tmp 24) (.tmp 24) 22 rfl w.heap.size 5 i0 (.int .u8 0) 1 Tryz.underlying22 hi hz0 hz1 .i64 .i64 _ _ n rfl rfl rfl rfl hb2' hb3 (Nat.le_refl _) ?_; intro w1 hown hgrow) | (refine wpList_copy_full rfl (.tmp 26) (.tmp 27) 22 rfl 5 Tryz.underlying22 hsz5 .u8 w.heap.size w.heap.size n n b off cap zs _ rfl rfl hown (hs.below ((Below.refl _ _).grown hgrow (Nat.le_refl _) (by intro k h; cases h))) HZ.out ?_; intro w2 hown2 hgrow2))
  have hbel2 : Below w.heap.size w w2 := Below.grown ((Below.refl _ _).grown hgrow (Nat.le_refl _) (by intro k h; cases h)) hgrow2 hgrow.size (by intro k h; cases h; exact Nat.le_refl _)
  clear hown hgrow hgrow2 hs
  go_loopw [30] (fun i wr => ∃ j : Nat, j ≤ m ∧ i = .int .i64 (j : Int) ∧ wr.ownsRow w.heap.size 5 1 (.slice (some ⟨w.heap.size, 0, none⟩) n n) n ((put zs f x j).map (Value.int .u8)) ∧ Below w.heap.size w wr)
    (fun i _ => m - (intOf i).toNat)
  case atStart => exact ⟨0, Nat.zero_le _, rfl, hown2, hbel2⟩
  case round =>
    obtain ⟨j, hj, rfl, hown1, hbel⟩ := hrel
    clear hown2 hbel2
    by_cases hlt : j < m
    · have hfr : wr.frozen? ⟨w.heap.size, f + j, none⟩ = false := hown1.frozenAt (f + j)
      have hst := (hown1.stored (f + j) (.int .u8 (x / 256 ^ j % 256))).1
      obtain ⟨v3, hv3⟩ : ∃ v, wr.cell? ⟨w.heap.size, f + j, none⟩ = some v := by
        rw [hown1.cellAt (f + j) (by omega)]
        exact ⟨_, List.getElem?_eq_getElem (by rw [List.length_map, put_len, HZ.out]; omega)⟩
      rw [map_set_u8] at hst
      have hst1 : (wr.setCell ⟨w.heap.size, f + j, none⟩ (.int .u8 (x / 256 ^ j % 256))).ownsRow w.heap.size 5 1 (.slice (some ⟨w.heap.size, 0, none⟩) n n) n ((put zs f x (j + 1)).map (Value.int .u8)) := hst
      have hst2 : Below w.heap.size w (wr.setCell ⟨w.heap.size, f + j, none⟩ (.int .u8 (x / 256 ^ j % 256))) := hbel.setCell (Nat.le_refl _) _
      have hy0 : 0 ≤ x / 256 ^ j := Int.ediv_nonneg hx0 (Int.le_of_lt (Int.pow_pos (by omega)))
      clear hst hown1
      rw [← pow_8] at hst1 hst2 hy0
      go_wp2
      go_roundw
      case rel => exact ⟨j + 1, by omega, by go_num, hst1, hst2⟩
      case measure => simp [intOf]; omega
    · have : j = m := by omega
      subst this
      go_wp2
      go_ret2
      exact ⟨rfl, hown1, hbel⟩

theorem Sl.from {w : World} {b off : Nat} {zs : List Int} (h : Sl .u8 w (some ⟨b, off, none⟩) zs) (f : Nat) : Sl .u8 w (some ⟨b, off + f, none⟩) (zs.drop f) := by
  intro i hi
  rw [List.length_drop] at hi
  obtain ⟨b', off', e, hlt, hc⟩ := h (f + i) (by omega)
  simp only [Option.some.injEq, Addr.mk.injEq, and_true] at e
  obtain ⟨rfl, rfl⟩ := e
  refine ⟨_, _, rfl, hlt, ?_⟩
  have e2 : (zs.drop f).getD i 0 = zs.getD (f + i) 0 := by simp [List.getD]
  rw [e2, Nat.add_assoc]; exact hc

end Go.Proofs.YtilhcfhcdplicaaGreatDoor
