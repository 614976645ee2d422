/- A device that is drawn: of our own, its lists behind it, beside the cursor. -/
import Derived.Test.YtbkddoibefgplaaDrawM
import Derived.Test.YtbkddoibefgplaaDevX
namespace Go.Proofs.Ytbkddoibefgplaa
open Go.RowKit
set_option linter.unusedVariables false

/-- append(b, x), as a run: what comes out, and where the row then lies. -/
theorem push_run (ty : TypeId) {w : World} (base n : Nat) (v : Value) (zs : List Int) (hown : w.ownsRow base 5 1 v n (zs.map (Value.int .u8))) (hn : n ≤ 1048576) (ad : Addr) (c : Nat) (b : Int) (hnews : ∀ j u, [Value.int .u8 b][j]? = some u → w.cell? (ad.add j) = some u) (hbase : base ≤ w.heap.size) :
    ∃ a' c' w', (Builtin.append_ #[22, 22] ty #[v, .slice (some ad) 1 c]).run Try.prog w = .ok (.slice a' (n + 1) c') w' ∧ w'.ownsRow base 5 1 (.slice a' (n + 1) c') (n + 1) ((zs ++ [b]).map (Value.int .u8)) ∧ w.grownBy w' v.ownBlock ∧ ((Value.slice a' (n + 1) c').ownBlock = v.ownBlock ∨ (Value.slice a' (n + 1) c').ownBlock = some w.heap.size) := by
  obtain ⟨i0, hi, hz0, hz1, hz2⟩ := info_parts Try.info5
  obtain ⟨v', w', hr, h2, h3, h4⟩ := run_append_own (P := Try.prog) w base 22 ty 5 i0 (.int .u8 0) 1 1 Try.underlying22 hi hz0 hz1 hz2 rfl (by decide) v n (zs.map (Value.int .u8)) hown ad 1 c [.int .u8 b] rfl hnews (by simp [Value.oneCell']) (by unfold maxLen; omega) (by omega) hbase
  have hw := append_where ty hown ad c b hnews hn hr
  have hv : ∃ a' c', v' = .slice a' (n + 1) c' := by
    rcases h2.2 with ⟨_, e0⟩ | ⟨g', cap, cur, e, _⟩
    · omega
    · exact ⟨_, _, e⟩
  obtain ⟨a', c', rfl⟩ := hv
  exact ⟨a', c', w', hr, by rw [List.map_append]; exact h2, h3, hw⟩

/-- A struct's value in block b, an answer's place in block r, beside the cursor. -/
structure Dc (w0 : World) (g : Nat) (a : Option Addr) (n cap : Nat) (w : World) (r b : Nat) (T : TypeId) (rs cs : Array Value) (wr : World) : Prop where
  row : wr.heap[b]? = some (.cells cs T (0, 0))
  res : wr.heap[r]? = some (.cells rs T (0, 0))
  cu : Cs w0 g a n cap w wr
  glt : g < r
  rlt : r < b
  wle : w.heap.size ≤ r

theorem blk {w : World} {k : Nat} {o : Obj} (h : w.heap[k]? = some o) : k < w.heap.size := (Array.getElem?_eq_some_iff.1 h).1

theorem Dc.next {w0 w wr wx : World} {g : Nat} {a : Option Addr} {n cap r b : Nat} {T : TypeId} {rs cs : Array Value} (h : Dc w0 g a n cap w r b T rs cs wr) (k : Cs w0 g a n cap wr wx) : Dc w0 g a n cap w r b T rs cs wx := by
  have hg := h.glt
  have hr := h.rlt
  have keep : ∀ j o, j ≠ g → wr.heap[j]? = some o → wx.heap[j]? = some o := fun j o hj ho => (k.2.block j (blk ho) (by simp; omega)).trans ho
  exact ⟨keep _ _ (by omega) h.row, keep _ _ (by omega) h.res, h.cu.trans k, hg, hr, h.wle⟩

theorem Dc.drew {w0 w wr : World} {g : Nat} {a : Option Addr} {n cap r b : Nat} {T : TypeId} {rs cs : Array Value} (h : Dc w0 g a n cap w r b T rs cs wr) : Dc w0 g a n cap w r b T rs cs wr.drew := ⟨h.row, h.res, ⟨h.cu.1.grown (grown_dN wr 1 none), grown_trans h.cu.2 (grown_dN wr 1 _)⟩, h.glt, h.rlt, h.wle⟩

theorem Cs.setc {w0 w wr : World} {g : Nat} {a : Option Addr} {n cap : Nat} (h : Cs w0 g a n cap w wr) (k i : Nat) (v : Value) (hk : w.heap.size ≤ k) (hg : g ≠ k) (hw0 : w0.heap.size ≤ k) : Cs w0 g a n cap w (wr.setCell ⟨k, i, none⟩ v) := by
  obtain ⟨j, x, hj, hrow⟩ := h.1.row
  refine ⟨⟨h.1.new, h.1.below.setCell hw0 v, j, x, hj, (Below.heap_setCell wr ⟨k, i, none⟩ v g hg).trans hrow⟩, h.2.os, h.2.tape, h.2.output, by rw [size_set]; exact h.2.size, fun q hq hne => ?_⟩
  rw [Below.heap_setCell wr ⟨k, i, none⟩ v q (by dsimp only; omega)]
  exact h.2.block q hq hne

theorem Dc.put {w0 w wr : World} {g : Nat} {a : Option Addr} {n cap r b : Nat} {T : TypeId} {rs cs : Array Value} (h : Dc w0 g a n cap w r b T rs cs wr) (i : Nat) (v : Value) : Dc w0 g a n cap w r b T rs (cs.setIfInBounds i v) (wr.setCell ⟨b, i, none⟩ v) := by
  have hg := h.glt
  have hr := h.rlt
  have hw := h.wle
  have h0 := h.cu.1.new
  exact ⟨row_set h.row i v, row_far h.res ⟨b, i, none⟩ v (by dsimp only; omega), h.cu.setc b i v (by omega) (by omega) (by omega), hg, hr, hw⟩

/-- Nothing up to the struct's block is written. -/
theorem Dc.on {w0 w wr wx : World} {g E : Nat} {a : Option Addr} {n cap r b : Nat} {T : TypeId} {rs cs : Array Value} (h : Dc w0 g a n cap w r b T rs cs wr) (k : Keep (b + 1) E wr wx) : Dc w0 g a n cap w r b T rs cs wx := by
  have hg := h.glt
  have hr := h.rlt
  have hw := h.wle
  have hb := blk h.row
  have h0 := h.cu.1.new
  obtain ⟨j, x, hj, hrow⟩ := h.cu.1.row
  have keep : ∀ j o, j < b + 1 → wr.heap[j]? = some o → wx.heap[j]? = some o := fun j o hj ho => (k.block j (blk ho) (.inl hj)).trans ho
  exact ⟨keep _ _ (by omega) h.row, keep _ _ (by omega) h.res, ⟨⟨h.cu.1.new, h.cu.1.below.trans (k.below (by omega) (by have := h.cu.1.below.size; omega)), j, x, hj, keep _ _ (by omega) hrow⟩, k.os.trans h.cu.2.os, k.tape.trans h.cu.2.tape, k.output.trans h.cu.2.output, Nat.le_trans h.cu.2.size k.size, fun q hq hne => (k.block q (by omega) (.inl (by omega))).trans (h.cu.2.block q hq hne)⟩, hg, hr, hw⟩

/-- A device in block b, its lists behind it. -/
structure Dx (w0 : World) (g : Nat) (a : Option Addr) (n cap : Nat) (w : World) (r b : Nat) (D : DV) (a1 : Option Addr) (c1 : Nat) (a2 : Option Addr) (c2 : Nat) (wr : World) : Prop where
  c : Dc w0 g a n cap w r b 26 (dvc zeroD none 0 none 0) (dvc D a1 c1 a2 c2) wr
  fam : Fam (b + 1) wr.heap.size wr (dvF D a1 c1 a2 c2)

theorem Dx.next {w0 w wr wx : World} {g : Nat} {a : Option Addr} {n cap r b : Nat} {D : DV} {a1 : Option Addr} {c1 : Nat} {a2 : Option Addr} {c2 : Nat} (h : Dx w0 g a n cap w r b D a1 c1 a2 c2 wr) (k : Cs w0 g a n cap wr wx) : Dx w0 g a n cap w r b D a1 c1 a2 c2 wx := by
  have hg := h.c.glt
  have hr := h.c.rlt
  exact ⟨h.c.next k, (h.fam.mono fun j h1 h2 h3 => k.2.block j h3 (by simp; omega)).low (Nat.le_refl _) k.2.size⟩

theorem Dx.drew {w0 w wr : World} {g : Nat} {a : Option Addr} {n cap r b : Nat} {D : DV} {a1 : Option Addr} {c1 : Nat} {a2 : Option Addr} {c2 : Nat} (h : Dx w0 g a n cap w r b D a1 c1 a2 c2 wr) : Dx w0 g a n cap w r b D a1 c1 a2 c2 wr.drew := ⟨h.c.drew, h.fam.mono fun j _ _ _ => rfl⟩

theorem Dx.cur {w0 w wr : World} {g : Nat} {a : Option Addr} {n cap r b : Nat} {D : DV} {a1 : Option Addr} {c1 : Nat} {a2 : Option Addr} {c2 : Nat} (h : Dx w0 g a n cap w r b D a1 c1 a2 c2 wr) : Cur w0 wr g a n cap := h.c.cu.1

theorem dvc_in (D : DV) (a1 : Option Addr) (c1 : Nat) (a2 : Option Addr) (c2 : Nat) (zs : List Int) (f : Option Addr) (m c : Nat) (hm : zs.length = m) : (dvc D a1 c1 a2 c2).setIfInBounds 3 (.slice f m c) = dvc ⟨D.t, D.cm, D.so, zs, D.ys, D.ir⟩ f c a2 c2 := by subst hm; rfl

theorem dvc_out (D : DV) (a1 : Option Addr) (c1 : Nat) (a2 : Option Addr) (c2 : Nat) (zs : List Int) (f : Option Addr) (m c : Nat) (hm : zs.length = m) : (dvc D a1 c1 a2 c2).setIfInBounds 4 (.slice f m c) = dvc ⟨D.t, D.cm, D.so, D.xs, zs, D.ir⟩ a1 c1 f c := by subst hm; rfl

theorem Dx.cmp {w0 w wr : World} {g : Nat} {a : Option Addr} {n cap r b : Nat} {D : DV} {a1 : Option Addr} {c1 : Nat} {a2 : Option Addr} {c2 : Nat} (h : Dx w0 g a n cap w r b D a1 c1 a2 c2 wr) (x : Int) : Dx w0 g a n cap w r b ⟨D.t, x, D.so, D.xs, D.ys, D.ir⟩ a1 c1 a2 c2 (wr.setCell ⟨b, 1, none⟩ (.int .u64 x)) :=
  ⟨h.c.put 1 (.int .u64 x), (h.fam.set ⟨b, 1, none⟩ _ (.inl (by dsimp only; omega))).low (Nat.le_refl _) (by rw [size_set]; exact Nat.le_refl _)⟩

theorem Dx.ier {w0 w wr : World} {g : Nat} {a : Option Addr} {n cap r b : Nat} {D : DV} {a1 : Option Addr} {c1 : Nat} {a2 : Option Addr} {c2 : Nat} (h : Dx w0 g a n cap w r b D a1 c1 a2 c2 wr) (x : Int) : Dx w0 g a n cap w r b ⟨D.t, D.cm, D.so, D.xs, D.ys, x⟩ a1 c1 a2 c2 (wr.setCell ⟨b, 5, none⟩ (.int .i64 x)) :=
  ⟨h.c.put 5 (.int .i64 x), (h.fam.set ⟨b, 5, none⟩ _ (.inl (by dsimp only; omega))).low (Nat.le_refl _) (by rw [size_set]; exact Nat.le_refl _)⟩

theorem Fam.pushOut {B E : Nat} {w w' : World} {a1 : Option Addr} {n1 c1 : Nat} {xs : List Int} {a2 : Option Addr} {n2 c2 : Nat} {ys : List Int} (h : Fam B E w (devF a1 n1 c1 xs a2 n2 c2 ys)) (hE : E ≤ w.heap.size) (gr : w.grownBy w' (Value.slice a2 n2 c2).ownBlock) {f : Option Addr} {m g : Nat} {zs : List Int} (ho : w'.ownsRow B 5 1 (.slice f m g) m (zs.map (Value.int .u8))) (hw : (Value.slice f m g).ownBlock = (Value.slice a2 n2 c2).ownBlock ∨ (Value.slice f m g).ownBlock = some w.heap.size) : Fam B w'.heap.size w' (devF a1 n1 c1 xs f m g zs) := by
  have hne := (List.pairwise_cons.1 h.ne).1 (bRow a2 n2 c2 ys) (List.mem_singleton.2 rfl)
  have h1 := h.own (bRow a1 n1 c1 xs) (by simp [devF])
  have hi1 := h.hi (bRow a1 n1 c1 xs) (by simp [devF])
  refine ⟨fun r hr => ?_, fun r hr k e => ?_, List.pairwise_cons.2 ⟨fun r hr k e e2 => ?_, List.pairwise_singleton _ _⟩⟩
  · rcases List.mem_cons.1 hr with rfl | hr
    · exact fown_of h1 (fun k e => gr.block k (h1.lt k e).2 (fun e2 => hne k e e2.symm))
    · rw [List.mem_singleton.1 hr]
      exact ho
  · rcases List.mem_cons.1 hr with rfl | hr
    · have := (h1.lt k e).2
      have := gr.size
      omega
    · rw [List.mem_singleton.1 hr] at e
      exact (ho.lt k e).2
  · rw [List.mem_singleton.1 hr] at e2
    rcases hw with hw | hw
    · exact hne k e (hw.symm.trans e2)
    · have e3 : some w.heap.size = some k := hw.symm.trans e2
      cases e3
      have := hi1 _ e
      omega

/-- append(d.In, y), stored. -/
theorem Dx.pushIn {w0 w wr : World} {g : Nat} {a : Option Addr} {n cap r b : Nat} {D : DV} {a1 : Option Addr} {c1 : Nat} {a2 : Option Addr} {c2 : Nat} (h : Dx w0 g a n cap w r b D a1 c1 a2 c2 wr) (hl : D.xs.length ≤ 1048576) (y : Int) (ty : TypeId) : ∃ (f : Option Addr) (q : Nat) (wx : World), (Builtin.append_ #[22, 22] ty #[.slice a1 D.xs.length c1, .slice (some ⟨wr.heap.size, 0, none⟩) 1 1]).run Try.prog (wr.alloc (.cells #[.int .u8 y] 5)) = .ok (.slice f (D.xs.length + 1) q) wx ∧ wx.cell? ⟨b, 3, none⟩ = some (.slice a1 D.xs.length c1) ∧ wx.frozen? ⟨b, 3, none⟩ = false ∧
    Dx w0 g a n cap w r b ⟨D.t, D.cm, D.so, D.xs ++ [y], D.ys, D.ir⟩ f q a2 c2 (wx.setCell ⟨b, 3, none⟩ (.slice f (D.xs.length + 1) q)) := by
  have hb := blk h.c.row
  have FW : Fam (b + 1) wr.heap.size (wr.alloc (.cells #[.int .u8 y] 5)) (devF a1 D.xs.length c1 D.xs a2 D.ys.length c2 D.ys) := h.fam.below ((Below.refl _ _).alloc (Nat.le_refl _) _)
  have how := FW.own (bRow a1 D.xs.length c1 D.xs) (by simp [devF])
  obtain ⟨f, q, wx, hr, ho, gr, hw⟩ := push_run ty (b + 1) D.xs.length _ D.xs how hl ⟨wr.heap.size, 0, none⟩ 1 y (one_new8 wr y) (by rw [World.size_alloc]; omega)
  have FX := FW.pushIn (by rw [World.size_alloc]; omega) gr ho hw
  have kp : Keep (b + 1) wx.heap.size wr wx := by
    have hs := gr.size
    rw [World.size_alloc] at hs
    exact ⟨gr.os, gr.tape, gr.output, by omega, fun k hk hne => (gr.block k (by rw [World.size_alloc]; omega) (fun e => by have := (how.lt k e.symm).1; omega)).trans (Below.heap_alloc wr _ k hk)⟩
  have CX := h.c.on kp
  refine ⟨f, q, wx, hr, (cells6 CX.row).2.2.2.1, froz CX.row 3, ?_, ?_⟩
  · rw [← dvc_in D a1 c1 a2 c2 (D.xs ++ [y]) f (D.xs.length + 1) q (by simp)]
    exact CX.put 3 _
  · unfold dvF
    dsimp only
    rw [show (D.xs ++ [y]).length = D.xs.length + 1 by simp]
    exact (FX.set ⟨b, 3, none⟩ _ (.inl (by dsimp only; omega))).low (Nat.le_refl _) (by rw [size_set]; exact Nat.le_refl _)

/-- append(d.Out, y), stored. -/
theorem Dx.pushOut {w0 w wr : World} {g : Nat} {a : Option Addr} {n cap r b : Nat} {D : DV} {a1 : Option Addr} {c1 : Nat} {a2 : Option Addr} {c2 : Nat} (h : Dx w0 g a n cap w r b D a1 c1 a2 c2 wr) (hl : D.ys.length ≤ 1048576) (y : Int) (ty : TypeId) : ∃ (f : Option Addr) (q : Nat) (wx : World), (Builtin.append_ #[22, 22] ty #[.slice a2 D.ys.length c2, .slice (some ⟨wr.heap.size, 0, none⟩) 1 1]).run Try.prog (wr.alloc (.cells #[.int .u8 y] 5)) = .ok (.slice f (D.ys.length + 1) q) wx ∧ wx.cell? ⟨b, 4, none⟩ = some (.slice a2 D.ys.length c2) ∧ wx.frozen? ⟨b, 4, none⟩ = false ∧
    Dx w0 g a n cap w r b ⟨D.t, D.cm, D.so, D.xs, D.ys ++ [y], D.ir⟩ a1 c1 f q (wx.setCell ⟨b, 4, none⟩ (.slice f (D.ys.length + 1) q)) := by
  have hb := blk h.c.row
  have FW : Fam (b + 1) wr.heap.size (wr.alloc (.cells #[.int .u8 y] 5)) (devF a1 D.xs.length c1 D.xs a2 D.ys.length c2 D.ys) := h.fam.below ((Below.refl _ _).alloc (Nat.le_refl _) _)
  have how := FW.own (bRow a2 D.ys.length c2 D.ys) (by simp [devF])
  obtain ⟨f, q, wx, hr, ho, gr, hw⟩ := push_run ty (b + 1) D.ys.length _ D.ys how hl ⟨wr.heap.size, 0, none⟩ 1 y (one_new8 wr y) (by rw [World.size_alloc]; omega)
  have FX := FW.pushOut (by rw [World.size_alloc]; omega) gr ho hw
  have kp : Keep (b + 1) wx.heap.size wr wx := by
    have hs := gr.size
    rw [World.size_alloc] at hs
    exact ⟨gr.os, gr.tape, gr.output, by omega, fun k hk hne => (gr.block k (by rw [World.size_alloc]; omega) (fun e => by have := (how.lt k e.symm).1; omega)).trans (Below.heap_alloc wr _ k hk)⟩
  have CX := h.c.on kp
  refine ⟨f, q, wx, hr, (cells6 CX.row).2.2.2.2.1, froz CX.row 4, ?_, ?_⟩
  · rw [← dvc_out D a1 c1 a2 c2 (D.ys ++ [y]) f (D.ys.length + 1) q (by simp)]
    exact CX.put 4 _
  · unfold dvF
    dsimp only
    rw [show (D.ys ++ [y]).length = D.ys.length + 1 by simp]
    exact (FX.set ⟨b, 4, none⟩ _ (.inl (by dsimp only; omega))).low (Nat.le_refl _) (by rw [size_set]; exact Nat.le_refl _)

/-- d.In becomes a new list. -/
theorem Dx.newIn {w0 w wr wx : World} {g : Nat} {a : Option Addr} {n cap r b : Nat} {D : DV} {a1 : Option Addr} {c1 : Nat} {a2 : Option Addr} {c2 : Nat} (h : Dx w0 g a n cap w r b D a1 c1 a2 c2 wr) (f : Option Addr) (m q : Nat) (zs : List Int) (hz : zs.length = m) (ho : wx.ownsRow wr.heap.size 5 1 (.slice f m q) m (zs.map (Value.int .u8))) (hb : Below wr.heap.size wr wx) : wx.cell? ⟨b, 3, none⟩ = some (.slice a1 D.xs.length c1) ∧ wx.frozen? ⟨b, 3, none⟩ = false ∧ Dx w0 g a n cap w r b ⟨D.t, D.cm, D.so, zs, D.ys, D.ir⟩ f q a2 c2 (wx.setCell ⟨b, 3, none⟩ (.slice f m q)) := by
  have hbl := blk h.c.row
  have CX := h.c.on (Keep.of_below (E := wx.heap.size) hb)
  refine ⟨(cells6 CX.row).2.2.2.1, froz CX.row 3, ?_, ?_⟩
  · rw [← dvc_in D a1 c1 a2 c2 zs f m q hz]
    exact CX.put 3 _
  · unfold dvF
    dsimp only
    rw [hz]
    exact ((Fam.newIn (h.fam.below hb) f m q zs _ wx.heap.size ho (Nat.le_refl _) (by omega) (Nat.le_refl _) hb.size).set ⟨b, 3, none⟩ _ (.inl (by dsimp only; omega))).low (Nat.le_refl _) (by rw [size_set]; exact Nat.le_refl _)

/-- d.Out becomes a new list. -/
theorem Dx.newOut {w0 w wr wx : World} {g : Nat} {a : Option Addr} {n cap r b : Nat} {D : DV} {a1 : Option Addr} {c1 : Nat} {a2 : Option Addr} {c2 : Nat} (h : Dx w0 g a n cap w r b D a1 c1 a2 c2 wr) (f : Option Addr) (m q : Nat) (zs : List Int) (hz : zs.length = m) (ho : wx.ownsRow wr.heap.size 5 1 (.slice f m q) m (zs.map (Value.int .u8))) (hb : Below wr.heap.size wr wx) : wx.cell? ⟨b, 4, none⟩ = some (.slice a2 D.ys.length c2) ∧ wx.frozen? ⟨b, 4, none⟩ = false ∧ Dx w0 g a n cap w r b ⟨D.t, D.cm, D.so, D.xs, zs, D.ir⟩ a1 c1 f q (wx.setCell ⟨b, 4, none⟩ (.slice f m q)) := by
  have hbl := blk h.c.row
  have CX := h.c.on (Keep.of_below (E := wx.heap.size) hb)
  refine ⟨(cells6 CX.row).2.2.2.2.1, froz CX.row 4, ?_, ?_⟩
  · rw [← dvc_out D a1 c1 a2 c2 zs f m q hz]
    exact CX.put 4 _
  · unfold dvF
    dsimp only
    rw [hz]
    exact ((Fam.newOut (h.fam.below hb) f m q zs _ wx.heap.size ho (Nat.le_refl _) (by omega) (Nat.le_refl _) hb.size).set ⟨b, 4, none⟩ _ (.inl (by dsimp only; omega))).low (Nat.le_refl _) (by rw [size_set]; exact Nat.le_refl _)

/-- What fits a device's numbers. -/
structure Fits (D : DV) (k1 k2 : Nat) : Prop where
  t : U D.t
  cm : U D.cm
  ir : D.ir = 0 ∨ D.ir = 1
  by_ : bytesOk D
  l1 : D.xs.length ≤ k1
  l2 : D.ys.length ≤ k2

end Go.Proofs.Ytbkddoibefgplaa
