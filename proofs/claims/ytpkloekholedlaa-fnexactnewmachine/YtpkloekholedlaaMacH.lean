/- The program's copies of machines. By tools/genMacJ.py. (Not over Deep.RegionHeld: its laws on long rows send the store of a device into a machine round and round.) -/
import Derived.Test.YtpkloekholedlaaMacL
import Derived.Test.YtpkloekholedlaaDevH
namespace Go.Proofs.Ytpkloekholedlaa
open Go.RowKit
set_option linter.unusedVariables false

theorem eql_nil64 (a : Option Addr) (n c : Nat) (w : World) : (binOp .eql 26 (.slice a n c) (.slice none 0 0)).run Try.prog w = .ok (.bool a.isNone) w := by
  simp only [binOp]
  simp [run_equal_slice_nil w 26 25 a n c Try.underlying26]

set_option maxRecDepth 100000 in
set_option maxHeartbeats 1600000 in
theorem clone64_any (a : Option Addr) (n c : Nat) (zs : List Int) (w : World) (hz : zs.length = n) (hn : n ≤ 1048576) (hsl : Sl .u64 w a zs) :
    Calls Try.prog 66 #[.slice a n c] w fun e w' => ∃ (a' : Option Addr) (c' : Nat), e = .returned (.slice a' n c') ∧ w'.ownsRow w.heap.size 25 1 (.slice a' n c') n (zs.map (Value.int .u64)) ∧ Below w.heap.size w w' := by
  cases a with
  | none =>
    have h0 : zs = [] := by
      cases zs with
      | nil => rfl
      | cons z zs => obtain ⟨b, off, e, _⟩ := hsl 0 (by simp); cases e
    subst h0
    simp only [List.length_nil] at hz
    subst hz
    clear hsl hn
    have hnil := eql_nil64 none 0 c
    simp only [Option.isNone] at hnil
    go_enter Try.func66, Try.ntmps66
    go_wp2_with fail
    go_ret
    exact ⟨none, 0, rfl, ⟨rfl, .inl ⟨rfl, rfl⟩⟩, Below.refl _ _⟩
  | some p =>
    have hE := own_empty64 w w.heap.size (Nat.le_refl _) (.cells #[] 25 (0, 0)) rfl
    have HS : Hid (Sl .u64 (w.alloc (.cells #[] 25 (0, 0))) (some p) zs) := hsl.below ((Below.refl _ _).alloc (Nat.le_refl _) _)
    have HX : Hid (zs.length = n ∧ n ≤ 1048576) := ⟨hz, hn⟩
    clear hsl hz hn
    have hnil := eql_nil64 (some p) n c
    simp only [Option.isNone] at hnil
    go_enter Try.func66, Try.ntmps66
    go_wp2_with (first
      | (at_builtin; refine wpList_app64 rfl (.tmp 5) (.tmp 6) rfl w.heap.size _ rfl hE (some p) n c zs rfl HX.out.1 HX.out.2 HS.out (by simp) ?_; intro b1 d1 w1 ow1 gr1; have B1 := dhid (app1 gr1 rfl); have OW := dhid ow1; clear ow1 gr1))
    go_ret
    exact ⟨b1, d1, rfl, OW.out, B1.out⟩

/-- A row more, made by a call. -/
theorem My.addC {w wr wx : World} {r b : Nat} {T : TypeId} {rs cs : Array Value} {L : List FRow} (h : My w r b T rs cs L wr) (q : FRow) (ho : wx.ownsRow wr.heap.size q.t 1 q.v q.n q.xs) (hb : Below wr.heap.size wr wx) : My w r b T rs cs (L ++ [q]) wx := by
  have h4 := h.lt
  exact ⟨dstays hb h.row, dstays hb h.res, (h.fam.below hb).snoc q _ wx.heap.size ho (Nat.le_refl _) h4 (Nat.le_refl _) hb.size, below_trans h.below hb, h.hb, h.hr, h.ne⟩

/-- A row of an older block, laid between. -/
theorem Fam.mid {B E B1 E1 : Nat} {w : World} {L1 L2 : List FRow} {q : FRow} (h : Fam B1 E1 w (L1 ++ L2)) (hq : Fam B E w [q]) (h1 : E ≤ B1) (h2 : B ≤ B1) (h3 : E ≤ E1) : Fam B E1 w (L1 ++ q :: L2) := by
  have hm : q ∈ [q] := List.mem_singleton.2 rfl
  have hne := List.pairwise_append.1 h.ne
  have lo : ∀ s ∈ L1 ++ L2, ∀ k, s.v.ownBlock = some k → B1 ≤ k := fun s hs k e => ((h.own s hs).lt k e).1
  have qh : ∀ k, q.v.ownBlock = some k → k < E := fun k e => hq.hi q hm k e
  refine ⟨fun s hs => ?_, fun s hs k e => ?_, List.pairwise_append.2 ⟨hne.1, List.pairwise_cons.2 ⟨fun s hs k e e2 => ?_, hne.2.1⟩, fun s hs t ht k e e2 => ?_⟩⟩
  · rcases List.mem_append.1 hs with hs | hs
    · exact own_low (h.own s (List.mem_append_left _ hs)) h2
    · rcases List.mem_cons.1 hs with rfl | hs
      · exact hq.own s hm
      · exact own_low (h.own s (List.mem_append_right _ hs)) h2
  · rcases List.mem_append.1 hs with hs | hs
    · exact h.hi s (List.mem_append_left _ hs) k e
    · rcases List.mem_cons.1 hs with rfl | hs
      · have := qh k e; omega
      · exact h.hi s (List.mem_append_right _ hs) k e
  · have := qh k e
    have := lo s (List.mem_append_right _ hs) k e2
    omega
  · rcases List.mem_cons.1 ht with rfl | ht
    · have := qh k e2
      have := lo s (List.mem_append_left _ hs) k e
      omega
    · exact hne.2.2 s hs t ht k e e2

/-- A machine with another memory. -/
def ramM (M : MV) (R : List Int) : MV := ⟨M.pc, M.x, M.pr, M.cs, R, M.d, M.hd, M.hl, M.wt⟩

set_option maxRecDepth 100000 in
set_option maxHeartbeats 3200000 in
theorem apart_any (M : MV) (A : MA) (R : List Int) (ar2 : Option Addr) (nr cr2 B : Nat) (w : World) (hl : MLen M) (hs : MSl w M A) (hR : Fam B w.heap.size w [bRow ar2 nr cr2 R]) (hB : B ≤ w.heap.size) (hnr : R.length = nr) :
    Calls Try.prog 38 #[.agg #[.int .u64 M.pc, .slice A.ax M.x.length A.cx, .int .i64 M.pr, .slice A.ac M.cs.length A.cc, .slice A.ar M.ram.length A.cr, .int .u64 M.d.t, .int .u64 M.d.cm, .bool M.d.so, .slice A.ai M.d.xs.length A.ci, .slice A.ao M.d.ys.length A.co, .int .i64 M.d.ir, .int .u64 M.hd, .bool M.hl, .bool M.wt], .slice ar2 nr cr2] w fun e w' => ∃ C : MA, C.ar = ar2 ∧ C.cr = cr2 ∧ e = .returned (.agg (mvc (ramM M R) C)) ∧ Fam B w'.heap.size w' (mvF (ramM M R) C) ∧ (∀ q ∈ mvF (ramM M R) C, ∀ k, q.v.ownBlock = some k → w.heap.size ≤ k ∨ (Value.slice ar2 nr cr2).ownBlock = some k) ∧ Below w.heap.size w w' := by
  have HX : Hid (∀ w', Below w.heap.size w w' → Calls Try.prog 66 #[.slice A.ax M.x.length A.cx] w' fun e w'' => ∃ (a' : Option Addr) (c' : Nat), e = .returned (.slice a' M.x.length c') ∧ w''.ownsRow w'.heap.size 25 1 (.slice a' M.x.length c') M.x.length (M.x.map (Value.int .u64)) ∧ Below w'.heap.size w' w'') := fun w' hb => clone64_any _ _ _ M.x w' rfl hl.x (hs.x.below hb)
  have HC : Hid (∀ w', Below w.heap.size w w' → Calls Try.prog 66 #[.slice A.ac M.cs.length A.cc] w' fun e w'' => ∃ (a' : Option Addr) (c' : Nat), e = .returned (.slice a' M.cs.length c') ∧ w''.ownsRow w'.heap.size 25 1 (.slice a' M.cs.length c') M.cs.length (M.cs.map (Value.int .u64)) ∧ Below w'.heap.size w' w'') := fun w' hb => clone64_any _ _ _ M.cs w' rfl hl.cs (hs.cs.below hb)
  have HD : Hid (∀ w', Below w.heap.size w w' → Calls Try.prog 67 #[.agg #[.int .u64 M.d.t, .int .u64 M.d.cm, .bool M.d.so, .slice A.ai M.d.xs.length A.ci, .slice A.ao M.d.ys.length A.co, .int .i64 M.d.ir]] w' fun e w'' => ∃ (b1 : Option Addr) (d1 : Nat) (b2 : Option Addr) (d2 : Nat), e = .returned (.agg #[.int .u64 M.d.t, .int .u64 M.d.cm, .bool M.d.so, .slice b1 M.d.xs.length d1, .slice b2 M.d.ys.length d2, .int .i64 M.d.ir]) ∧ Fam w'.heap.size w''.heap.size w'' (devF b1 M.d.xs.length d1 M.d.xs b2 M.d.ys.length d2 M.d.ys) ∧ Below w'.heap.size w' w'') := fun w' hb => copied_any _ _ _ _ _ _ _ _ _ _ M.d.xs M.d.ys w' rfl rfl hl.xs hl.ys (hs.xs.below hb) (hs.ys.below hb)
  have HR := dhid hR
  have HB := dhid hB
  have HN := dhid hnr
  clear hl hs hR hB hnr
  go_enter Try.func38, Try.ntmps38
  obtain ⟨r0, r1⟩ := rows2 (w := w) (o1 := .cells #[.int .u64 M.pc, .slice A.ax M.x.length A.cx, .int .i64 M.pr, .slice A.ac M.cs.length A.cc, .slice A.ar M.ram.length A.cr, .int .u64 M.d.t, .int .u64 M.d.cm, .bool M.d.so, .slice A.ai M.d.xs.length A.ci, .slice A.ao M.d.ys.length A.co, .int .i64 M.d.ir, .int .u64 M.hd, .bool M.hl, .bool M.wt] 30) (o2 := .cells #[.int .u64 0, .slice none 0 0, .int .i64 0, .slice none 0 0, .slice none 0 0, .int .u64 0, .int .u64 0, .bool false, .slice none 0 0, .slice none 0 0, .int .i64 0, .int .u64 0, .bool false, .bool false] 30) (Below.refl _ _)
  have M0 : Hid (My w (w.heap.size + 1) w.heap.size 30 #[.int .u64 0, .slice none 0 0, .int .i64 0, .slice none 0 0, .slice none 0 0, .int .u64 0, .int .u64 0, .bool false, .slice none 0 0, .slice none 0 0, .int .i64 0, .int .u64 0, .bool false, .bool false] #[.int .u64 M.pc, .slice A.ax M.x.length A.cx, .int .i64 M.pr, .slice A.ac M.cs.length A.cc, .slice A.ar M.ram.length A.cr, .int .u64 M.d.t, .int .u64 M.d.cm, .bool M.d.so, .slice A.ai M.d.xs.length A.ci, .slice A.ao M.d.ys.length A.co, .int .i64 M.d.ir, .int .u64 M.hd, .bool M.hl, .bool M.wt] [] ((w.alloc (.cells #[.int .u64 M.pc, .slice A.ax M.x.length A.cx, .int .i64 M.pr, .slice A.ac M.cs.length A.cc, .slice A.ar M.ram.length A.cr, .int .u64 M.d.t, .int .u64 M.d.cm, .bool M.d.so, .slice A.ai M.d.xs.length A.ci, .slice A.ao M.d.ys.length A.co, .int .i64 M.d.ir, .int .u64 M.hd, .bool M.hl, .bool M.wt] 30)).alloc (.cells #[.int .u64 0, .slice none 0 0, .int .i64 0, .slice none 0 0, .slice none 0 0, .int .u64 0, .int .u64 0, .bool false, .slice none 0 0, .slice none 0 0, .int .i64 0, .int .u64 0, .bool false, .bool false] 30))) := ⟨r0, r1, Fam.nil _ _ _, ((Below.refl _ _).alloc (Nat.le_refl _) _).alloc (by simp) _, by omega, by omega, by omega⟩
  clear r0 r1
  go_wp2_with fail
  refine (HX.out _ M0.out.below).mono ?_
  rintro e w1 ⟨kx, lx, rfl, ow1, hb1⟩
  have M1 := dhid (M0.out.addC (wRow kx M.x.length lx M.x) ow1 hb1)
  clear ow1 hb1
  obtain ⟨p0, p1, p2, p3, p4, p5, p6, p7, p8, p9, p10, p11, p12, p13⟩ := cells14 M1.out.row
  obtain ⟨f0, f1, f2, f3, f4, f5, f6, f7, f8, f9, f10, f11, f12, f13⟩ := froz14 M1.out.row
  have M2 : Hid (My w (w.heap.size + 1) w.heap.size 30 #[.int .u64 0, .slice none 0 0, .int .i64 0, .slice none 0 0, .slice none 0 0, .int .u64 0, .int .u64 0, .bool false, .slice none 0 0, .slice none 0 0, .int .i64 0, .int .u64 0, .bool false, .bool false] #[.int .u64 M.pc, .slice kx M.x.length lx, .int .i64 M.pr, .slice A.ac M.cs.length A.cc, .slice A.ar M.ram.length A.cr, .int .u64 M.d.t, .int .u64 M.d.cm, .bool M.d.so, .slice A.ai M.d.xs.length A.ci, .slice A.ao M.d.ys.length A.co, .int .i64 M.d.ir, .int .u64 M.hd, .bool M.hl, .bool M.wt] [wRow kx M.x.length lx M.x] (w1.setCell ⟨w.heap.size, 1, none⟩ (.slice kx M.x.length lx))) := M1.out.put 1 _
  have n3 := (cells14 M2.out.row).2.2.2.1
  go_wp2_with fail
  refine (HC.out _ M2.out.below).mono ?_
  rintro e w2 ⟨kc, lc, rfl, ow2, hb2⟩
  have M3 := dhid (M2.out.addC (wRow kc M.cs.length lc M.cs) ow2 hb2)
  clear ow2 hb2 n3
  clear p0 p1 p2 p3 p4 p5 p6 p7 p8 p9 p10 p11 p12 p13 f0 f1 f2 f3 f4 f5 f6 f7 f8 f9 f10 f11 f12 f13
  obtain ⟨p0, p1, p2, p3, p4, p5, p6, p7, p8, p9, p10, p11, p12, p13⟩ := cells14 M3.out.row
  obtain ⟨f0, f1, f2, f3, f4, f5, f6, f7, f8, f9, f10, f11, f12, f13⟩ := froz14 M3.out.row
  have M4 : Hid (My w (w.heap.size + 1) w.heap.size 30 #[.int .u64 0, .slice none 0 0, .int .i64 0, .slice none 0 0, .slice none 0 0, .int .u64 0, .int .u64 0, .bool false, .slice none 0 0, .slice none 0 0, .int .i64 0, .int .u64 0, .bool false, .bool false] #[.int .u64 M.pc, .slice kx M.x.length lx, .int .i64 M.pr, .slice kc M.cs.length lc, .slice A.ar M.ram.length A.cr, .int .u64 M.d.t, .int .u64 M.d.cm, .bool M.d.so, .slice A.ai M.d.xs.length A.ci, .slice A.ao M.d.ys.length A.co, .int .i64 M.d.ir, .int .u64 M.hd, .bool M.hl, .bool M.wt] [wRow kx M.x.length lx M.x, wRow kc M.cs.length lc M.cs] (w2.setCell ⟨w.heap.size, 3, none⟩ (.slice kc M.cs.length lc))) := M3.out.put 3 _
  have M5 : Hid (My w (w.heap.size + 1) w.heap.size 30 #[.int .u64 0, .slice none 0 0, .int .i64 0, .slice none 0 0, .slice none 0 0, .int .u64 0, .int .u64 0, .bool false, .slice none 0 0, .slice none 0 0, .int .i64 0, .int .u64 0, .bool false, .bool false] #[.int .u64 M.pc, .slice kx M.x.length lx, .int .i64 M.pr, .slice kc M.cs.length lc, .slice ar2 nr cr2, .int .u64 M.d.t, .int .u64 M.d.cm, .bool M.d.so, .slice A.ai M.d.xs.length A.ci, .slice A.ao M.d.ys.length A.co, .int .i64 M.d.ir, .int .u64 M.hd, .bool M.hl, .bool M.wt] [wRow kx M.x.length lx M.x, wRow kc M.cs.length lc M.cs] ((w2.setCell ⟨w.heap.size, 3, none⟩ (.slice kc M.cs.length lc)).setCell ⟨w.heap.size, 4, none⟩ (.slice ar2 nr cr2))) := M4.out.put 4 _
  obtain ⟨-, -, -, -, v4, -, -, -, -, -, -, -, -, -⟩ := cells14 M4.out.row
  obtain ⟨-, -, -, -, u4, -, -, -, -, -, -, -, -, -⟩ := froz14 M4.out.row
  obtain ⟨-, -, -, -, -, z5, z6, z7, z8, z9, z10, -, -, -⟩ := cells14 M5.out.row
  go_wp2_with fail
  refine (HD.out _ M5.out.below).mono ?_
  rintro e w4 ⟨ki, li, ko, lo, rfl, fm4, hb4⟩
  have M7 := dhid (M5.out.add2 (bRow ki M.d.xs.length li M.d.xs) (bRow ko M.d.ys.length lo M.d.ys) fm4 hb4)
  have BR := dhid (below_trans M5.out.below hb4)
  clear fm4 hb4 z5 z6 z7 z8 z9 z10 v4 u4
  clear p0 p1 p2 p3 p4 p5 p6 p7 p8 p9 p10 p11 p12 p13 f0 f1 f2 f3 f4 f5 f6 f7 f8 f9 f10 f11 f12 f13
  obtain ⟨p0, p1, p2, p3, p4, p5, p6, p7, p8, p9, p10, p11, p12, p13⟩ := cells14 M7.out.row
  obtain ⟨f0, f1, f2, f3, f4, f5, f6, f7, f8, f9, f10, f11, f12, f13⟩ := froz14 M7.out.row
  obtain ⟨r0, r1, r2, r3, r4, r5, r6, r7, r8, r9, r10, r11, r12, r13⟩ := cells14 M7.out.res
  obtain ⟨y0, y1, y2, y3, y4, y5, y6, y7, y8, y9, y10, y11, y12, y13⟩ := froz14 M7.out.res
  go_wp2_with fail
  have M8 := ((((((M7.out.put 5 (.int .u64 M.d.t)).put 6 (.int .u64 M.d.cm)).put 7 (.bool M.d.so)).put 8 (.slice ki M.d.xs.length li)).put 9 (.slice ko M.d.ys.length lo)).put 10 (.int .i64 M.d.ir))
  have T1 := row_put14 M8.res (.int .u64 M.pc) (.slice kx M.x.length lx) (.int .i64 M.pr) (.slice kc M.cs.length lc) (.slice ar2 nr cr2) (.int .u64 M.d.t) (.int .u64 M.d.cm) (.bool M.d.so) (.slice ki M.d.xs.length li) (.slice ko M.d.ys.length lo) (.int .i64 M.d.ir) (.int .u64 M.hd) (.bool M.hl) (.bool M.wt)
  have F1 := M8.fam.put14 (w.heap.size + 1) (.inl (by omega)) (.int .u64 M.pc) (.slice kx M.x.length lx) (.int .i64 M.pr) (.slice kc M.cs.length lc) (.slice ar2 nr cr2) (.int .u64 M.d.t) (.int .u64 M.d.cm) (.bool M.d.so) (.slice ki M.d.xs.length li) (.slice ko M.d.ys.length lo) (.int .i64 M.d.ir) (.int .u64 M.hd) (.bool M.hl) (.bool M.wt)
  have B1 := below_put14 M8.below (g := w.heap.size + 1) (by omega) (.int .u64 M.pc) (.slice kx M.x.length lx) (.int .i64 M.pr) (.slice kc M.cs.length lc) (.slice ar2 nr cr2) (.int .u64 M.d.t) (.int .u64 M.d.cm) (.bool M.d.so) (.slice ki M.d.xs.length li) (.slice ko M.d.ys.length lo) (.int .i64 M.d.ir) (.int .u64 M.hd) (.bool M.hl) (.bool M.wt)
  have hn := HN.out
  refine bodyPost_ret (results_cell_row Try.results38 _ _ _ _ _ _ _ rfl T1 Try.underlying30 rfl mac_size) rfl ⟨⟨kx, lx, kc, lc, ar2, cr2, ki, li, ko, lo⟩, rfl, rfl, by rw [← hn]; rfl, by rw [← hn] at HR; exact Fam.mid (L1 := [wRow kx M.x.length lx M.x, wRow kc M.cs.length lc M.cs]) (L2 := [bRow ki M.d.xs.length li M.d.xs, bRow ko M.d.ys.length lo M.d.ys]) (q := bRow ar2 R.length cr2 R) (F1.low (Nat.le_refl _) (by simp only [size_set]; exact Nat.le_refl _)) (HR.out.below B1) (by omega) (by have := HB.out; omega) (by simp only [size_set]; have := M7.out.lt; omega), fun q hq k e => ?_, B1⟩
  simp only [mvF, ramM, List.mem_cons, List.not_mem_nil, or_false] at hq
  rcases hq with rfl | rfl | rfl | rfl | rfl
  · exact .inl (by have := ((F1.own (wRow kx M.x.length lx M.x) (by simp)).lt k e).1; omega)
  · exact .inl (by have := ((F1.own (wRow kc M.cs.length lc M.cs) (by simp)).lt k e).1; omega)
  · exact .inr (by rw [← hn]; exact e)
  · exact .inl (by have := ((F1.own (bRow ki M.d.xs.length li M.d.xs) (by simp)).lt k e).1; omega)
  · exact .inl (by have := ((F1.own (bRow ko M.d.ys.length lo M.d.ys) (by simp)).lt k e).1; omega)

end Go.Proofs.Ytpkloekholedlaa
