/- Own lemmas. -/
import Derived.Test.YtmigfnlfjgkgkaaK01
import Derived.Test.YtmigfnlfjgkgkaaK02
import Derived.Test.YtmigfnlfjgkgkaaK03
import Derived.Deep.RegionWith
import Derived.Conc.LoneCalls
import Derived.Tactics2
import Derived.Deep.Cut
import Derived.Laws.Cover3
namespace Go.Proofs.Ytmigfnlfjgkgkaa
open Go.RowKit
set_option linter.unusedVariables false

structure Mf (M : MV) : Prop where
  x : M.x.length = 32
  ux : ∀ j, U (M.x.getD j 0)
  cs : M.cs.length = 22
  ucs : ∀ j, U (M.cs.getD j 0)
  ram : M.ram.length = 4096 ∨ M.ram.length = 8192
  bram : ∀ y ∈ M.ram, (Lit.int .u8 y).wf = true
  d : Fits M.d 16 4096
  pc : U M.pc
  hd : U M.hd
  pr : M.pr = 0 ∨ M.pr = 1 ∨ M.pr = 3

theorem Mf.len {M : MV} (h : Mf M) : MLen M := ⟨by rw [h.x]; omega, by rw [h.cs]; omega, by rcases h.ram with e | e <;> rw [e] <;> omega, by have := h.d.l1; omega, by have := h.d.l2; omega⟩

structure Dm (w0 : World) (g : Nat) (a : Option Addr) (n cap : Nat) (w : World) (r m : Nat) (M : MV) (A : MA) (wr : World) : Prop where
  cu : Cs w0 g a n cap w wr
  res : wr.heap[r]? = some (.cells (mvc zeroM zeroA) 29 (0, 0))
  mp : Mp (r + 1) m M A wr
  fit : Mf M
  gr : g < r
  wr_ : w.heap.size ≤ r
  w0w : w0.heap.size ≤ w.heap.size

theorem Dm.cur {w0 : World} {g : Nat} {a : Option Addr} {n cap : Nat} {w : World} {r m : Nat} {M : MV} {A : MA} {wr : World} (h : Dm w0 g a n cap w r m M A wr) : Cur w0 wr g a n cap := h.cu.1

theorem Dm.next {w0 : World} {g : Nat} {a : Option Addr} {n cap : Nat} {w : World} {r m : Nat} {M : MV} {A : MA} {wr wx : World} (h : Dm w0 g a n cap w r m M A wr) (k : Cs w0 g a n cap wr wx) : Dm w0 g a n cap w r m M A wx := by
  have hg := h.gr
  have hm := h.mp.lo
  exact ⟨h.cu.trans k, k.keep h.res (by omega), ⟨k.keep h.mp.row (by omega), (h.mp.fam.mono fun j h1 h2 h3 => k.2.block j h3 (by simp; omega)).low (Nat.le_refl _) k.2.size, h.mp.ne, h.mp.lo⟩, h.fit, h.gr, h.wr_, h.w0w⟩

theorem Dm.below {w0 : World} {g : Nat} {a : Option Addr} {n cap : Nat} {w : World} {r m : Nat} {M : MV} {A : MA} {wr wx : World} (h : Dm w0 g a n cap w r m M A wr) (k : Below wr.heap.size wr wx) : Dm w0 g a n cap w r m M A wx := h.next (Cs.of_below h.cu.1 k)

theorem Dm.step {w0 : World} {g : Nat} {a : Option Addr} {n cap : Nat} {w : World} {r m : Nat} {M : MV} {A : MA} {wr wx : World} (h : Dm w0 g a n cap w r m M A wr) {M' : MV} {A' : MA} (hb : Below (r + 1) wr wx) (hp : Mp (r + 1) m M' A' wx) (hf : Mf M') : Dm w0 g a n cap w r m M' A' wx := by
  have hg := h.gr
  have hw := h.wr_
  have h0 := h.w0w
  have hr := (Array.getElem?_eq_some_iff.1 h.res).1
  obtain ⟨i, hh, hi, hrow⟩ := h.cu.1.row
  refine ⟨⟨⟨h.cu.1.new, ?_, i, hh, hi, (hb.block g (by omega)).trans hrow⟩, ⟨hb.os.trans h.cu.2.os, hb.tape.trans h.cu.2.tape, hb.output.trans h.cu.2.output, Nat.le_trans h.cu.2.size hb.size, fun k hk hne => (hb.block k (by omega)).trans (h.cu.2.block k hk hne)⟩⟩, (hb.block r (by omega)).trans h.res, hp, hf, h.gr, h.wr_, h.w0w⟩
  exact ⟨hb.os.trans h.cu.1.below.os, hb.tape.trans h.cu.1.below.tape, hb.output.trans h.cu.1.below.output, Nat.le_trans h.cu.1.below.size hb.size, fun k hk => (hb.block k (by omega)).trans (h.cu.1.below.block k hk)⟩

theorem Mp.xrow {B r : Nat} {M : MV} {A : MA} {w : World} (h : Mp B r M A w) : w.ownsRow B 24 1 (.slice A.ax M.x.length A.cx) M.x.length (M.x.map (Value.int .u64)) := h.fam.own (wRow A.ax M.x.length A.cx M.x) (by simp [mvF])

theorem Mp.crow {B r : Nat} {M : MV} {A : MA} {w : World} (h : Mp B r M A w) : w.ownsRow B 24 1 (.slice A.ac M.cs.length A.cc) M.cs.length (M.cs.map (Value.int .u64)) := h.fam.own (wRow A.ac M.cs.length A.cc M.cs) (by simp [mvF])

theorem Mp.rrow {B r : Nat} {M : MV} {A : MA} {w : World} (h : Mp B r M A w) : w.ownsRow B 5 1 (.slice A.ar M.ram.length A.cr) M.ram.length (M.ram.map (Value.int .u8)) := h.fam.own (bRow A.ar M.ram.length A.cr M.ram) (by simp [mvF])

theorem map_set64 (zs : List Int) (i : Nat) (y : Int) : (zs.map (Value.int .u64)).set i (.int .u64 y) = (zs.set i y).map (Value.int .u64) := by rw [List.map_set]

def xM (M : MV) (xs : List Int) : MV := { M with x := xs }

def cM (M : MV) (cs : List Int) : MV := { M with cs := cs }

theorem Mp.setX {B r : Nat} {M : MV} {A : MA} {w : World} (h : Mp B r M A w) (b : Nat) (hb : A.ax = some ⟨b, 0, none⟩) (i : Nat) (v : Int) : Mp B r (xM M (M.x.set i v)) A (w.setCell ⟨b, i, none⟩ (.int .u64 v)) ∧ Below B w (w.setCell ⟨b, i, none⟩ (.int .u64 v)) := by
  have hx := h.xrow
  rw [hb] at hx
  have hs := hx.stored i (.int .u64 v)
  rw [map_set64] at hs
  have hbB := ((hx.lt b rfl)).1
  have hg : w.grownBy (w.setCell ⟨b, i, none⟩ (.int .u64 v)) (wRow A.ax M.x.length A.cx M.x).v.ownBlock := by simp only [wRow]; rw [hb]; exact hs.2
  have hm := Fam.mark (L1 := []) (r := wRow A.ax M.x.length A.cx M.x) (L2 := [wRow A.ac M.cs.length A.cc M.cs, bRow A.ar M.ram.length A.cr M.ram, bRow A.ai M.d.xs.length A.ci M.d.xs, bRow A.ao M.d.ys.length A.co M.d.ys]) h.fam hg ((M.x.set i v).map (Value.int .u64)) (by simp only [wRow]; rw [hb]; exact hs.1)
  have hne := h.ne (wRow A.ax M.x.length A.cx M.x) (by simp [mvF])
  have hbr : r ≠ b := fun e => hne (by simp only [wRow]; rw [hb, e]; rfl)
  have hsz : (w.setCell ⟨b, i, none⟩ (.int .u64 v)).heap.size = w.heap.size := size_set _ _ _
  have ef : mvF (xM M (M.x.set i v)) A = [] ++ ⟨(wRow A.ax M.x.length A.cx M.x).t, (wRow A.ax M.x.length A.cx M.x).v, (wRow A.ax M.x.length A.cx M.x).n, (M.x.set i v).map (Value.int .u64)⟩ :: [wRow A.ac M.cs.length A.cc M.cs, bRow A.ar M.ram.length A.cr M.ram, bRow A.ai M.d.xs.length A.ci M.d.xs, bRow A.ao M.d.ys.length A.co M.d.ys] := by
    simp [mvF, xM, wRow]
  refine ⟨⟨?_, ?_, ?_, h.lo⟩, ⟨rfl, rfl, rfl, by rw [hsz]; exact Nat.le_refl _, fun k hk => Below.heap_setCell _ _ _ k (by dsimp only; omega)⟩⟩
  · have := row_far h.row ⟨b, i, none⟩ (.int .u64 v) hbr
    simpa [mvc, xM] using this
  · rw [ef, hsz]; exact hm.1
  · rw [ef]
    intro q hq
    simp only [List.nil_append, List.mem_cons, List.not_mem_nil, or_false] at hq
    rcases hq with rfl | rfl | rfl | rfl | rfl
    · exact hne
    · exact h.ne _ (by simp [mvF])
    · exact h.ne _ (by simp [mvF])
    · exact h.ne _ (by simp [mvF])
    · exact h.ne _ (by simp [mvF])

theorem Mp.setC {B r : Nat} {M : MV} {A : MA} {w : World} (h : Mp B r M A w) (b : Nat) (hb : A.ac = some ⟨b, 0, none⟩) (i : Nat) (v : Int) : Mp B r (cM M (M.cs.set i v)) A (w.setCell ⟨b, i, none⟩ (.int .u64 v)) ∧ Below B w (w.setCell ⟨b, i, none⟩ (.int .u64 v)) := by
  have hx := h.crow
  rw [hb] at hx
  have hs := hx.stored i (.int .u64 v)
  rw [map_set64] at hs
  have hbB := ((hx.lt b rfl)).1
  have hg : w.grownBy (w.setCell ⟨b, i, none⟩ (.int .u64 v)) (wRow A.ac M.cs.length A.cc M.cs).v.ownBlock := by simp only [wRow]; rw [hb]; exact hs.2
  have hm := Fam.mark (L1 := [wRow A.ax M.x.length A.cx M.x]) (r := wRow A.ac M.cs.length A.cc M.cs) (L2 := [bRow A.ar M.ram.length A.cr M.ram, bRow A.ai M.d.xs.length A.ci M.d.xs, bRow A.ao M.d.ys.length A.co M.d.ys]) h.fam hg ((M.cs.set i v).map (Value.int .u64)) (by simp only [wRow]; rw [hb]; exact hs.1)
  have hne := h.ne (wRow A.ac M.cs.length A.cc M.cs) (by simp [mvF])
  have hbr : r ≠ b := fun e => hne (by simp only [wRow]; rw [hb, e]; rfl)
  have hsz : (w.setCell ⟨b, i, none⟩ (.int .u64 v)).heap.size = w.heap.size := size_set _ _ _
  have ef : mvF (cM M (M.cs.set i v)) A = [wRow A.ax M.x.length A.cx M.x] ++ ⟨(wRow A.ac M.cs.length A.cc M.cs).t, (wRow A.ac M.cs.length A.cc M.cs).v, (wRow A.ac M.cs.length A.cc M.cs).n, (M.cs.set i v).map (Value.int .u64)⟩ :: [bRow A.ar M.ram.length A.cr M.ram, bRow A.ai M.d.xs.length A.ci M.d.xs, bRow A.ao M.d.ys.length A.co M.d.ys] := by
    simp [mvF, cM, wRow]
  refine ⟨⟨?_, ?_, ?_, h.lo⟩, ⟨rfl, rfl, rfl, by rw [hsz]; exact Nat.le_refl _, fun k hk => Below.heap_setCell _ _ _ k (by dsimp only; omega)⟩⟩
  · have := row_far h.row ⟨b, i, none⟩ (.int .u64 v) hbr
    simpa [mvc, cM] using this
  · rw [ef, hsz]; exact hm.1
  · rw [ef]
    intro q hq
    simp only [List.cons_append, List.nil_append, List.mem_cons, List.not_mem_nil, or_false] at hq
    rcases hq with rfl | rfl | rfl | rfl | rfl
    · exact h.ne _ (by simp [mvF])
    · exact hne
    · exact h.ne _ (by simp [mvF])
    · exact h.ne _ (by simp [mvF])
    · exact h.ne _ (by simp [mvF])

theorem set_U {l : List Int} (h : ∀ j, U (l.getD j 0)) (i : Nat) {v : Int} (hv : U v) : ∀ j, U ((l.set i v).getD j 0) := by
  intro j
  have := h j
  simp only [List.getD, List.getElem?_set]
  split
  · split
    · exact hv
    · exact ⟨by simp, by simp⟩
  · exact this

theorem Mp.setF {B r : Nat} {M M' : MV} {A : MA} {w : World} (h : Mp B r M A w) (i : Nat) (v : Value) (hc : mvc M' A = (mvc M A).setIfInBounds i v) (hf : mvF M' A = mvF M A) : Mp B r M' A (w.setCell ⟨r, i, none⟩ v) ∧ Below B w (w.setCell ⟨r, i, none⟩ v) := by
  have hlo := h.lo
  refine ⟨⟨?_, ?_, by rw [hf]; exact h.ne, h.lo⟩, ⟨rfl, rfl, rfl, by rw [size_set]; exact Nat.le_refl _, fun k hk => Below.heap_setCell _ _ _ k (by dsimp only; omega)⟩⟩
  · rw [hc]; exact row_set h.row i v
  · rw [hf]; exact Mp.fam_set h.fam h.ne i v

theorem run_storeVar_at {P : Program} (w : World) (g o : Nat) (t ty : TypeId) (old cells : Array Value) (hg : w.heap[g]? = some (.cells old t (0, 0))) (hi : (P.info? ty).map (·.size) = some cells.size)
    (ho : o + cells.size ≤ old.size) (h1 : cells.all (·.oneCell') = true) :
    (storeVar ty ⟨g, o, none⟩ (.agg cells)).run P w = .ok () (w.setRow g (old.toList.take o ++ cells.toList ++ old.toList.drop (o + cells.size)).toArray) := by
  have := run_storeCells_at (P := P) g o t cells.toList 0 old w hg (by simp; omega) (fun v hv => (Array.all_eq_true_iff_forall_mem.1 h1) v (by simpa using hv))
  cases hq : P.info? ty with
  | none => simp [hq] at hi
  | some i =>
    have hs : cells.size = i.size := by simp [hq] at hi; omega
    simp only [Nat.add_zero, Array.length_toList] at this
    simp only [List.append_assoc] at this ⊢
    simp [storeVar, sizeOf, typeInfo, hq, Value.cells, hs, this]

theorem wpList_store_at {ops : Array Oper} {rest : List Oper} {o : Oper} {a : Act} {w : World} {Q : Exit → Act → World → Prop} (hgd : o.guard = none) (ty : TypeId) (x y : Operand) (ho : o.op = .store ty x y)
    (g k : Nat) (cells : Array Value) (hx : a.eval x = .pointer (some ⟨g, k, none⟩)) (hy : a.eval y = .agg cells)
    (t : TypeId) (old : Array Value) (hg : w.heap[g]? = some (.cells old t (0, 0))) (hi : (Try.prog.info? ty).map (·.size) = some cells.size)
    (hold : k + cells.size ≤ old.size) (h1 : cells.all (·.oneCell') = true)
    (h : wpList Try.prog ops Q rest (a.put o.dst undef) (w.setRow g (old.toList.take k ++ cells.toList ++ old.toList.drop (k + cells.size)).toArray)) : wpList Try.prog ops Q (o :: rest) a w := by
  refine wpList_plain hgd fun K hK => ?_
  unfold Oper.wp execOp
  simp only [ho, hx, hy, Instr.storeAt, Instr.sureAddr, Sem.run_bind, Sem.run_pure, Result.andThen_ok, run_storeVar_at w g k t ty old cells hg hi hold h1]
  exact hK _ _ h

theorem Dm.setX {w0 : World} {g : Nat} {a : Option Addr} {n cap : Nat} {w : World} {r m : Nat} {M : MV} {A : MA} {wr : World} (h : Dm w0 g a n cap w r m M A wr) (b : Nat) (hb : A.ax = some ⟨b, 0, none⟩) (i : Nat) {v : Int} (hv : U v) : Dm w0 g a n cap w r m (xM M (M.x.set i v)) A (wr.setCell ⟨b, i, none⟩ (.int .u64 v)) :=
  h.step (h.mp.setX b hb i v).2 (h.mp.setX b hb i v).1 ⟨by simp [xM, h.fit.x], set_U h.fit.ux i hv, h.fit.cs, h.fit.ucs, h.fit.ram, h.fit.bram, h.fit.d, h.fit.pc, h.fit.hd, h.fit.pr⟩

theorem Dm.setC {w0 : World} {g : Nat} {a : Option Addr} {n cap : Nat} {w : World} {r m : Nat} {M : MV} {A : MA} {wr : World} (h : Dm w0 g a n cap w r m M A wr) (b : Nat) (hb : A.ac = some ⟨b, 0, none⟩) (i : Nat) {v : Int} (hv : U v) : Dm w0 g a n cap w r m (cM M (M.cs.set i v)) A (wr.setCell ⟨b, i, none⟩ (.int .u64 v)) :=
  h.step (h.mp.setC b hb i v).2 (h.mp.setC b hb i v).1 ⟨h.fit.x, h.fit.ux, by simp [cM, h.fit.cs], set_U h.fit.ucs i hv, h.fit.ram, h.fit.bram, h.fit.d, h.fit.pc, h.fit.hd, h.fit.pr⟩

theorem Dm.atX {w0 : World} {g : Nat} {a : Option Addr} {n cap : Nat} {w : World} {r m : Nat} {M : MV} {A : MA} {wr : World} (h : Dm w0 g a n cap w r m M A wr) : ∃ b c, A.ax = some ⟨b, 0, none⟩ ∧ A.cx = c ∧ wr.cell? ⟨m, 1, none⟩ = some (.slice (some ⟨b, 0, none⟩) 32 c) ∧ (∀ j, j < 32 → wr.cell? ⟨b, j, none⟩ = some (.int .u64 (M.x.getD j 0)) ∧ wr.frozen? ⟨b, j, none⟩ = false) := by
  have hx := h.mp.xrow
  rw [h.fit.x] at hx
  obtain ⟨b, c, e, hb⟩ := own_shape hx (by omega)
  simp only [Value.slice.injEq, true_and] at e
  obtain ⟨e1, e2⟩ := e
  have hr := h.mp.row
  refine ⟨b, c, e1, e2, ?_, fun j hj => ?_⟩
  · simp [World.cell?, hr, mvc, e1, e2, h.fit.x]
  · rw [e1] at hx
    refine ⟨?_, hx.frozenAt j⟩
    rw [hx.cellAt j (by omega)]
    have hl := h.fit.x
    rw [List.getElem?_map, List.getElem?_eq_getElem (show j < M.x.length by omega), List.getD_eq_getElem?_getD, List.getElem?_eq_getElem (show j < M.x.length by omega)]
    rfl

theorem Dm.atC {w0 : World} {g : Nat} {a : Option Addr} {n cap : Nat} {w : World} {r m : Nat} {M : MV} {A : MA} {wr : World} (h : Dm w0 g a n cap w r m M A wr) : ∃ b c, A.ac = some ⟨b, 0, none⟩ ∧ A.cc = c ∧ wr.cell? ⟨m, 3, none⟩ = some (.slice (some ⟨b, 0, none⟩) 22 c) ∧ (∀ j, j < 22 → wr.cell? ⟨b, j, none⟩ = some (.int .u64 (M.cs.getD j 0)) ∧ wr.frozen? ⟨b, j, none⟩ = false) := by
  have hx := h.mp.crow
  rw [h.fit.cs] at hx
  obtain ⟨b, c, e, hb⟩ := own_shape hx (by omega)
  simp only [Value.slice.injEq, true_and] at e
  obtain ⟨e1, e2⟩ := e
  have hr := h.mp.row
  refine ⟨b, c, e1, e2, ?_, fun j hj => ?_⟩
  · simp [World.cell?, hr, mvc, e1, e2, h.fit.cs]
  · rw [e1] at hx
    refine ⟨?_, hx.frozenAt j⟩
    rw [hx.cellAt j (by omega)]
    have hl := h.fit.cs
    rw [List.getElem?_map, List.getElem?_eq_getElem (show j < M.cs.length by omega), List.getD_eq_getElem?_getD, List.getElem?_eq_getElem (show j < M.cs.length by omega)]
    rfl

theorem Dm.setF {w0 : World} {g : Nat} {a : Option Addr} {n cap : Nat} {w : World} {r m : Nat} {M M' : MV} {A : MA} {wr : World} (h : Dm w0 g a n cap w r m M A wr) (i : Nat) (v : Value) (hc : mvc M' A = (mvc M A).setIfInBounds i v) (hf : mvF M' A = mvF M A) (fit : Mf M') : Dm w0 g a n cap w r m M' A (wr.setCell ⟨m, i, none⟩ v) :=
  h.step (h.mp.setF i v hc hf).2 (h.mp.setF i v hc hf).1 fit

theorem Dm.dev {w0 : World} {g : Nat} {a : Option Addr} {n cap : Nat} {w : World} {r m : Nat} {M : MV} {A : MA} {wr wx : World} (h : Dm w0 g a n cap w r m M A wr) (k : Cs w0 g a n cap wr wx) (D : DV) (a1 : Option Addr) (c1 : Nat) (a2 : Option Addr) (c2 : Nat) (hf : Fits D 16 4096) (hd : Fam wr.heap.size wx.heap.size wx (dvF D a1 c1 a2 c2)) :
    Dm w0 g a n cap w r m (devM M D) (devA A a1 c1 a2 c2) (wx.setRow m (mvc (devM M D) (devA A a1 c1 a2 c2))) := by
  have hx := h.next k
  have hlo := h.mp.lo
  have hml := h.mp.lt
  have hne : ∀ q ∈ mvF (devM M D) (devA A a1 c1 a2 c2), q.v.ownBlock ≠ some m := by
    intro q hq e
    simp only [mvF, List.mem_cons, List.not_mem_nil, or_false] at hq
    have hdv : ∀ q ∈ dvF D a1 c1 a2 c2, q.v.ownBlock ≠ some m := fun q hq e => by have := (hd.own q hq).lt _ e; omega
    rcases hq with rfl | rfl | rfl | rfl | rfl
    · exact h.mp.ne (wRow A.ax M.x.length A.cx M.x) (by simp [mvF]) e
    · exact h.mp.ne (wRow A.ac M.cs.length A.cc M.cs) (by simp [mvF]) e
    · exact h.mp.ne (bRow A.ar M.ram.length A.cr M.ram) (by simp [mvF]) e
    · exact hdv (bRow a1 D.xs.length c1 D.xs) (by simp [dvF, devF]) e
    · exact hdv (bRow a2 D.ys.length c2 D.ys) (by simp [dvF, devF]) e
  have hsub : Fam (r + 1) wr.heap.size wx [wRow A.ax M.x.length A.cx M.x, wRow A.ac M.cs.length A.cc M.cs, bRow A.ar M.ram.length A.cr M.ram] := by
    have hg := h.gr
    have := (h.mp.fam.mono (w' := wx) fun j h1 h2 h3 => k.2.block j h3 (by simp; omega))
    exact this.sub (by simp [mvF, List.Sublist.refl])
  have happ := hsub.app hd (by omega) k.2.size
  have hfam : Fam (r + 1) wx.heap.size wx (mvF (devM M D) (devA A a1 c1 a2 c2)) := happ
  have hbel : Below (r + 1) wx (wx.setRow m (mvc (devM M D) (devA A a1 c1 a2 c2))) := row_below (Below.refl _ _) (by omega) _
  refine hx.step hbel ⟨setRow_heap wx m _ _ _ _ hx.mp.row, ?_, hne, h.mp.lo⟩ ⟨h.fit.x, h.fit.ux, h.fit.cs, h.fit.ucs, h.fit.ram, h.fit.bram, hf, h.fit.pc, h.fit.hd, h.fit.pr⟩
  rw [setRow_size]
  exact ⟨fun q hq => fown_of (hfam.own q hq) (fun j e => setRow_other wx m j _ (fun e2 => hne q hq (by rw [e, e2]))), hfam.hi, hfam.ne⟩

def cA (A : MA) (b c : Nat) : MA := { A with ac := some ⟨b, 0, none⟩, cc := c }

theorem Dm.csrs {w0 : World} {g : Nat} {a : Option Addr} {n cap : Nat} {w : World} {r m : Nat} {M : MV} {A : MA} {wr wx : World} (h : Dm w0 g a n cap w r m M A wr) (k : Cs w0 g a n cap wr wx) (zs : List Int) (hu : ∀ j, U (zs.getD j 0)) (ho : wx.ownsRow wr.heap.size 24 1 (.slice (some ⟨wr.heap.size, 0, none⟩) 22 22) 22 (zs.map (Value.int .u64))) :
    Dm w0 g a n cap w r m (cM M zs) (cA A wr.heap.size 22) (wx.setCell ⟨m, 3, none⟩ (.slice (some ⟨wr.heap.size, 0, none⟩) 22 22)) := by
  have hzl : zs.length = 22 := by have := ho.1; simpa using this
  have hx := h.next k
  have hlo := h.mp.lo
  have hml := h.mp.lt
  have hg := h.gr
  have hsub : Fam (r + 1) wr.heap.size wx ([wRow A.ax M.x.length A.cx M.x] ++ [bRow A.ar M.ram.length A.cr M.ram, bRow A.ai M.d.xs.length A.ci M.d.xs, bRow A.ao M.d.ys.length A.co M.d.ys]) := by
    have := (h.mp.fam.mono (w' := wx) fun j h1 h2 h3 => k.2.block j h3 (by simp; omega))
    exact this.sub (by simp [mvF])
  have hins := hsub.ins (q := wRow (some ⟨wr.heap.size, 0, none⟩) zs.length 22 zs) (E' := wx.heap.size) (by simp only [wRow]; rw [hzl]; exact ho) (by omega) (Nat.le_refl _) k.2.size
  have hfam : Fam (r + 1) wx.heap.size wx (mvF (cM M zs) (cA A wr.heap.size 22)) := hins
  have hne : ∀ q ∈ mvF (cM M zs) (cA A wr.heap.size 22), q.v.ownBlock ≠ some m := by
    intro q hq e
    simp only [mvF, List.mem_cons, List.not_mem_nil, or_false] at hq
    rcases hq with rfl | rfl | rfl | rfl | rfl
    · exact h.mp.ne (wRow A.ax M.x.length A.cx M.x) (by simp [mvF]) e
    · simp only [wRow, cA, Value.ownBlock, Option.some.injEq] at e; omega
    · exact h.mp.ne (bRow A.ar M.ram.length A.cr M.ram) (by simp [mvF]) e
    · exact h.mp.ne (bRow A.ai M.d.xs.length A.ci M.d.xs) (by simp [mvF]) e
    · exact h.mp.ne (bRow A.ao M.d.ys.length A.co M.d.ys) (by simp [mvF]) e
  refine hx.step ⟨rfl, rfl, rfl, by rw [size_set]; exact Nat.le_refl _, fun j hj => Below.heap_setCell _ _ _ j (by dsimp only; omega)⟩ ⟨?_, Mp.fam_set hfam hne 3 _, hne, h.mp.lo⟩ ⟨h.fit.x, h.fit.ux, hzl, hu, h.fit.ram, h.fit.bram, h.fit.d, h.fit.pc, h.fit.hd, h.fit.pr⟩
  have := row_set hx.mp.row 3 (.slice (some ⟨wr.heap.size, 0, none⟩) 22 22)
  rw [this]
  simp [mvc, cM, cA, hzl]

theorem wpList_app64 {ops : Array Oper} {rest : List Oper} {o : Oper} {a : Act} {Q : Exit → Act → World → Prop} {w : World} (hgd : o.guard = none) (s x : Operand)
    (ho : o.op = .call { callee := .builtin .append, args := #[s, x], argTypes := #[25, 25] }) (base g : Nat) (hs : a.eval s = .slice (some ⟨g, 0, none⟩) 0 0) (hown : w.ownsRow base 24 1 (.slice (some ⟨g, 0, none⟩) 0 0) 0 [])
    (ad : Option Addr) (m c : Nat) (zs : List Int) (hx : a.eval x = .slice ad m c) (hz : zs.length = m) (hm : m ≤ 1048576) (hsl : Sl .u64 w ad zs) (hbase : base ≤ w.heap.size)
    (h : ∀ a' c' w', w'.ownsRow base 24 1 (.slice a' m c') m (zs.map (Value.int .u64)) → w.grownBy w' (some g) → wpList Try.prog ops Q rest (a.put o.dst (.slice a' m c')) w') : wpList Try.prog ops Q (o :: rest) a w := by
  obtain ⟨i0, hi, hz0, hz1, hz2⟩ := info_parts infoW
  cases ad with
  | none =>
    have hm0 : m = 0 := by
      rcases Nat.eq_zero_or_pos m with h0 | h0
      · exact h0
      · obtain ⟨b, off, e, _⟩ := hsl 0 (by omega)
        cases e
    subst hm0
    have hzn : zs = [] := List.length_eq_zero_iff.1 hz
    subst hzn
    refine wpList_plain hgd fun K hK => ?_
    have hr := run_append_room_src (P := Try.prog) w 25 25 o.type 24 i0 Try.underlying25 hi g 0 0 0 (.slice none 0 c) 0 [] (Src.ofNil w Try.underlying25 c) (by omega) (fun j hj => by simp at hj) (fun j hj => by simp at hj)
    unfold Oper.wp execOp
    simp only [ho, resolve, invoke, builtin, Sem.run_bind, Sem.run_pure, Result.andThen_ok, List.map_toArray, List.map_cons, List.map_nil, hs, hx, hr]
    exact hK _ _ (h _ _ w hown ⟨rfl, rfl, rfl, Nat.le_refl _, fun _ _ _ => rfl⟩)
  | some A =>
    have hnews : ∀ j u, (zs.map (Value.int .u64))[j]? = some u → w.cell? (A.add j) = some u := by
      intro j u hu
      have hj : j < zs.length := by
        rcases Nat.lt_or_ge j zs.length with h | h
        · exact h
        · rw [List.getElem?_eq_none (by simpa using h)] at hu; cases hu
      obtain ⟨b, off, e, _, hc⟩ := hsl j hj
      cases e
      rw [adds, hc]
      rw [List.getElem?_map, List.getElem?_eq_getElem hj] at hu
      rw [List.getD_eq_getElem?_getD, List.getElem?_eq_getElem hj]
      exact hu
    refine wpList_append_own _ hgd s x 25 ho base 24 i0 (.int .u64 0) 1 8 Try.underlying25 hi hz0 hz1 hz2 rfl (by decide) _ 0 [] hs hown A m c (zs.map (Value.int .u64)) hx (by rw [List.length_map, hz]; omega) hnews (ints_oneCell _ _) (by unfold maxLen; omega) (by omega) hbase ?_
    intro v' w' h1 h2 h3
    simp only [Nat.zero_add, List.nil_append] at h1
    have hv : ∃ a' c', v' = .slice a' m c' := by
      rcases h1.2 with ⟨e, e0⟩ | ⟨g', cap, cur, e, _⟩
      · exact ⟨none, 0, by rw [e, e0]⟩
      · exact ⟨_, _, e⟩
    obtain ⟨a', c', rfl⟩ := hv
    exact h a' c' w' h1 h2

theorem own_empty64 (w : World) (base : Nat) (hb : base ≤ w.heap.size) (o : Obj) (ho : o = .cells #[] 24 (0, 0)) : (w.alloc o).ownsRow base 24 1 (.slice (some ⟨w.heap.size, 0, none⟩) 0 0) 0 [] := by
  subst ho
  exact World.ownsRow_lit w #[] 0 hb (by unfold maxLen; omega) rfl

structure My (w : World) (r b : Nat) (T : TypeId) (rs cs : Array Value) (L : List FRow) (wr : World) : Prop where
  row : wr.heap[b]? = some (.cells cs T (0, 0))
  res : wr.heap[r]? = some (.cells rs T (0, 0))
  fam : Fam (w.heap.size + 1 + 1) wr.heap.size wr L
  below : Below w.heap.size w wr
  hb : w.heap.size ≤ b ∧ b < w.heap.size + 1 + 1
  hr : w.heap.size ≤ r ∧ r < w.heap.size + 1 + 1
  ne : r ≠ b

theorem My.put {w wr : World} {r b : Nat} {T : TypeId} {rs cs : Array Value} {L : List FRow} (h : My w r b T rs cs L wr) (i : Nat) (v : Value) : My w r b T rs (cs.setIfInBounds i v) L (wr.setCell ⟨b, i, none⟩ v) := by
  have h1 := h.hb
  have h2 := h.hr
  have h3 := h.ne
  exact ⟨row_set h.row i v, row_far h.res ⟨b, i, none⟩ v h3, (h.fam.set ⟨b, i, none⟩ v (.inl (by dsimp only; omega))).low (Nat.le_refl _) (by rw [size_set]; exact Nat.le_refl _), h.below.setCell (p := ⟨b, i, none⟩) (by dsimp only; omega) v, h1, h2, h3⟩

theorem My.lt {w wr : World} {r b : Nat} {T : TypeId} {rs cs : Array Value} {L : List FRow} (h : My w r b T rs cs L wr) : w.heap.size + 1 + 1 ≤ wr.heap.size := by
  have h1 := (Array.getElem?_eq_some_iff.1 h.row).1
  have h2 := (Array.getElem?_eq_some_iff.1 h.res).1
  have h3 := h.hb
  have h4 := h.hr
  have h5 := h.ne
  omega

theorem My.add {w wr wx : World} {r b : Nat} {T : TypeId} {rs cs : Array Value} {L : List FRow} {o : Obj} (h : My w r b T rs cs L wr) (q : FRow) {base g : Nat} (ho : wx.ownsRow base q.t 1 q.v q.n q.xs) (hbase : wr.heap.size = base) (gr : (wr.alloc o).grownBy wx (some g)) (hg : g = wr.heap.size) : My w r b T rs cs (L ++ [q]) wx := by
  subst hg
  subst hbase
  have hb : Below wr.heap.size wr wx := Below.grown ((Below.refl _ _).alloc (Nat.le_refl _) o) gr (by simp) (fun k hk => by simp at hk; omega)
  have h4 := h.lt
  exact ⟨dstays hb h.row, dstays hb h.res, (h.fam.below hb).snoc q _ wx.heap.size ho (Nat.le_refl _) h4 (Nat.le_refl _) hb.size, below_trans h.below hb, h.hb, h.hr, h.ne⟩

theorem My.add2 {w wr wx : World} {r b : Nat} {T : TypeId} {rs cs : Array Value} {L : List FRow} (h : My w r b T rs cs L wr) (q1 q2 : FRow) (hf : Fam wr.heap.size wx.heap.size wx [q1, q2]) (hb : Below wr.heap.size wr wx) : My w r b T rs cs (L ++ [q1, q2]) wx := by
  have h4 := h.lt
  have hF := h.fam.below hb
  have hs := hb.size
  refine ⟨dstays hb h.row, dstays hb h.res, ⟨fun q hq => ?_, fun q hq k e => ?_, List.pairwise_append.2 ⟨hF.ne, hf.ne, fun q hq t ht k e e2 => ?_⟩⟩, below_trans h.below hb, h.hb, h.hr, h.ne⟩
  · rcases List.mem_append.1 hq with hq | hq
    · exact hF.own q hq
    · exact own_low (hf.own q hq) (by omega)
  · rcases List.mem_append.1 hq with hq | hq
    · have := hF.hi q hq k e
      omega
    · exact hf.hi q hq k e
  · have := hF.hi q hq k e
    have := ((hf.own t ht).lt k e2).1
    omega

set_option maxRecDepth 100000 in
set_option maxHeartbeats 3200000 in
theorem l9Copy_any (M : MV) (A : MA) (w : World) (hl : MLen M) (hs : MSl w M A) :
    Calls Try.prog 13 #[.agg #[.int .u64 M.pc, .slice A.ax M.x.length A.cx, .int .i64 M.pr, .slice A.ac M.cs.length A.cc, .slice A.ar M.ram.length A.cr, .int .u64 M.d.t, .int .u64 M.d.cm, .bool M.d.so, .slice A.ai M.d.xs.length A.ci, .slice A.ao M.d.ys.length A.co, .int .i64 M.d.ir, .int .u64 M.hd, .bool M.hl, .bool M.wt]] w fun e w' => ∃ C : MA, e = .returned (.agg (mvc M C)) ∧ Fam w.heap.size w'.heap.size w' (mvF M C) ∧ Below w.heap.size w w' := by
  have HSL : Hid (∀ W, Below w.heap.size w W → MSl W M A) := fun W hb => hs.below hb
  have HLN := dhid hl
  have H4 : Hid (∀ w', Below w.heap.size w w' → Calls Try.prog 30 #[.agg #[.int .u64 M.d.t, .int .u64 M.d.cm, .bool M.d.so, .slice A.ai M.d.xs.length A.ci, .slice A.ao M.d.ys.length A.co, .int .i64 M.d.ir]] w' fun e w'' => ∃ (b1 : Option Addr) (d1 : Nat) (b2 : Option Addr) (d2 : Nat), e = .returned (.agg #[.int .u64 M.d.t, .int .u64 M.d.cm, .bool M.d.so, .slice b1 M.d.xs.length d1, .slice b2 M.d.ys.length d2, .int .i64 M.d.ir]) ∧ Fam w'.heap.size w''.heap.size w'' (devF b1 M.d.xs.length d1 M.d.xs b2 M.d.ys.length d2 M.d.ys) ∧ Below w'.heap.size w' w'') := fun w' hb => l8Copy_any _ _ _ _ _ _ _ _ _ _ M.d.xs M.d.ys w' rfl rfl hl.xs hl.ys (hs.xs.below hb) (hs.ys.below hb)
  clear hl hs
  go_enter Try.func13, Try.ntmps13
  obtain ⟨r0, r1⟩ := rows2 (w := w) (o1 := .cells #[.int .u64 M.pc, .slice A.ax M.x.length A.cx, .int .i64 M.pr, .slice A.ac M.cs.length A.cc, .slice A.ar M.ram.length A.cr, .int .u64 M.d.t, .int .u64 M.d.cm, .bool M.d.so, .slice A.ai M.d.xs.length A.ci, .slice A.ao M.d.ys.length A.co, .int .i64 M.d.ir, .int .u64 M.hd, .bool M.hl, .bool M.wt] 29) (o2 := .cells #[.int .u64 0, .slice none 0 0, .int .i64 0, .slice none 0 0, .slice none 0 0, .int .u64 0, .int .u64 0, .bool false, .slice none 0 0, .slice none 0 0, .int .i64 0, .int .u64 0, .bool false, .bool false] 29) (Below.refl _ _)
  have M0 : Hid (My w (w.heap.size + 1) w.heap.size 29 #[.int .u64 0, .slice none 0 0, .int .i64 0, .slice none 0 0, .slice none 0 0, .int .u64 0, .int .u64 0, .bool false, .slice none 0 0, .slice none 0 0, .int .i64 0, .int .u64 0, .bool false, .bool false] #[.int .u64 M.pc, .slice A.ax M.x.length A.cx, .int .i64 M.pr, .slice A.ac M.cs.length A.cc, .slice A.ar M.ram.length A.cr, .int .u64 M.d.t, .int .u64 M.d.cm, .bool M.d.so, .slice A.ai M.d.xs.length A.ci, .slice A.ao M.d.ys.length A.co, .int .i64 M.d.ir, .int .u64 M.hd, .bool M.hl, .bool M.wt] [] ((w.alloc (.cells #[.int .u64 M.pc, .slice A.ax M.x.length A.cx, .int .i64 M.pr, .slice A.ac M.cs.length A.cc, .slice A.ar M.ram.length A.cr, .int .u64 M.d.t, .int .u64 M.d.cm, .bool M.d.so, .slice A.ai M.d.xs.length A.ci, .slice A.ao M.d.ys.length A.co, .int .i64 M.d.ir, .int .u64 M.hd, .bool M.hl, .bool M.wt] 29)).alloc (.cells #[.int .u64 0, .slice none 0 0, .int .i64 0, .slice none 0 0, .slice none 0 0, .int .u64 0, .int .u64 0, .bool false, .slice none 0 0, .slice none 0 0, .int .i64 0, .int .u64 0, .bool false, .bool false] 29))) := ⟨r0, r1, Fam.nil _ _ _, ((Below.refl _ _).alloc (Nat.le_refl _) _).alloc (by simp) _, by omega, by omega, by omega⟩
  clear r0 r1
  have hE := own_empty64 ((w.alloc (.cells #[.int .u64 M.pc, .slice A.ax M.x.length A.cx, .int .i64 M.pr, .slice A.ac M.cs.length A.cc, .slice A.ar M.ram.length A.cr, .int .u64 M.d.t, .int .u64 M.d.cm, .bool M.d.so, .slice A.ai M.d.xs.length A.ci, .slice A.ao M.d.ys.length A.co, .int .i64 M.d.ir, .int .u64 M.hd, .bool M.hl, .bool M.wt] 29)).alloc (.cells #[.int .u64 0, .slice none 0 0, .int .i64 0, .slice none 0 0, .slice none 0 0, .int .u64 0, .int .u64 0, .bool false, .slice none 0 0, .slice none 0 0, .int .i64 0, .int .u64 0, .bool false, .bool false] 29)) ((w.alloc (.cells #[.int .u64 M.pc, .slice A.ax M.x.length A.cx, .int .i64 M.pr, .slice A.ac M.cs.length A.cc, .slice A.ar M.ram.length A.cr, .int .u64 M.d.t, .int .u64 M.d.cm, .bool M.d.so, .slice A.ai M.d.xs.length A.ci, .slice A.ao M.d.ys.length A.co, .int .i64 M.d.ir, .int .u64 M.hd, .bool M.hl, .bool M.wt] 29)).alloc (.cells #[.int .u64 0, .slice none 0 0, .int .i64 0, .slice none 0 0, .slice none 0 0, .int .u64 0, .int .u64 0, .bool false, .slice none 0 0, .slice none 0 0, .int .i64 0, .int .u64 0, .bool false, .bool false] 29)).heap.size (Nat.le_refl _) (.cells #[] 24 (0, 0)) rfl
  rw [World.size_alloc, World.size_alloc] at hE
  go_wp2_with (first
    | (at_builtin; refine wpList_app64 rfl (.tmp 3) (.tmp 5) rfl _ _ rfl hE A.ax M.x.length A.cx M.x rfl rfl HLN.out.x (HSL.out _ (M0.out.below.alloc M0.out.below.size _)).x (by simp) ?_; intro kx lx w1 ow1 gr1; have M1 := dhid (M0.out.add (wRow kx M.x.length lx M.x) ow1 (by simp) gr1 (by simp)); clear ow1 gr1; obtain ⟨p0, p1, p2, p3, p4, p5, p6, p7, p8, p9, p10, p11, p12, p13⟩ := cells14 M1.out.row; obtain ⟨f0, f1, f2, f3, f4, f5, f6, f7, f8, f9, f10, f11, f12, f13⟩ := froz14 M1.out.row; have M2 : Hid (My w (w.heap.size + 1) w.heap.size 29 #[.int .u64 0, .slice none 0 0, .int .i64 0, .slice none 0 0, .slice none 0 0, .int .u64 0, .int .u64 0, .bool false, .slice none 0 0, .slice none 0 0, .int .i64 0, .int .u64 0, .bool false, .bool false] #[.int .u64 M.pc, .slice kx M.x.length lx, .int .i64 M.pr, .slice A.ac M.cs.length A.cc, .slice A.ar M.ram.length A.cr, .int .u64 M.d.t, .int .u64 M.d.cm, .bool M.d.so, .slice A.ai M.d.xs.length A.ci, .slice A.ao M.d.ys.length A.co, .int .i64 M.d.ir, .int .u64 M.hd, .bool M.hl, .bool M.wt] [wRow kx M.x.length lx M.x] (w1.setCell ⟨w.heap.size, 1, none⟩ (.slice kx M.x.length lx))) := M1.out.put 1 _; have hE2 := own_empty64 (w1.setCell ⟨w.heap.size, 1, none⟩ (.slice kx M.x.length lx)) w1.heap.size (by rw [size_set]; exact Nat.le_refl _) (.cells #[] 24 (0, 0)) rfl; rw [size_set] at hE2; have n3 := fun o => (cells14 (row_al8 M2.out.row o)).2.2.2.1)
    | (at_builtin; refine wpList_app64 rfl (.tmp 8) (.tmp 10) rfl _ _ rfl hE2 A.ac M.cs.length A.cc M.cs rfl rfl HLN.out.cs (HSL.out _ (M2.out.below.alloc M2.out.below.size _)).cs (by rw [World.size_alloc, size_set]; omega) ?_; intro kc lc w2 ow2 gr2; have M3 := dhid (M2.out.add (wRow kc M.cs.length lc M.cs) ow2 (by rw [size_set]) gr2 (by rw [size_set])); clear ow2 gr2 n3; clear p0 f0 p1 f1 p2 f2 p3 f3 p4 f4 p5 f5 p6 f6 p7 f7 p8 f8 p9 f9 p10 f10 p11 f11 p12 f12 p13 f13; obtain ⟨p0, p1, p2, p3, p4, p5, p6, p7, p8, p9, p10, p11, p12, p13⟩ := cells14 M3.out.row; obtain ⟨f0, f1, f2, f3, f4, f5, f6, f7, f8, f9, f10, f11, f12, f13⟩ := froz14 M3.out.row; have M4 : Hid (My w (w.heap.size + 1) w.heap.size 29 #[.int .u64 0, .slice none 0 0, .int .i64 0, .slice none 0 0, .slice none 0 0, .int .u64 0, .int .u64 0, .bool false, .slice none 0 0, .slice none 0 0, .int .i64 0, .int .u64 0, .bool false, .bool false] #[.int .u64 M.pc, .slice kx M.x.length lx, .int .i64 M.pr, .slice kc M.cs.length lc, .slice A.ar M.ram.length A.cr, .int .u64 M.d.t, .int .u64 M.d.cm, .bool M.d.so, .slice A.ai M.d.xs.length A.ci, .slice A.ao M.d.ys.length A.co, .int .i64 M.d.ir, .int .u64 M.hd, .bool M.hl, .bool M.wt] [wRow kx M.x.length lx M.x, wRow kc M.cs.length lc M.cs] (w2.setCell ⟨w.heap.size, 3, none⟩ (.slice kc M.cs.length lc))) := M3.out.put 3 _; have hE3 := own_empty8 (w2.setCell ⟨w.heap.size, 3, none⟩ (.slice kc M.cs.length lc)) w2.heap.size (by rw [size_set]; exact Nat.le_refl _) (.cells #[] 5 (0, 0)) rfl; rw [size_set] at hE3; have n4 := fun o => (cells14 (row_al8 M4.out.row o)).2.2.2.2.1)
    | (at_builtin; refine wpList_app8 rfl (.tmp 13) (.tmp 15) rfl _ _ rfl hE3 A.ar M.ram.length A.cr M.ram rfl rfl HLN.out.ram (HSL.out _ (M4.out.below.alloc M4.out.below.size _)).ram (by rw [World.size_alloc, size_set]; omega) ?_; intro kr lr w3 ow3 gr3; have M5 := dhid (M4.out.add (bRow kr M.ram.length lr M.ram) ow3 (by rw [size_set]) gr3 (by rw [size_set])); clear ow3 gr3 n4; clear p0 f0 p1 f1 p2 f2 p3 f3 p4 f4 p5 f5 p6 f6 p7 f7 p8 f8 p9 f9 p10 f10 p11 f11 p12 f12 p13 f13; obtain ⟨p0, p1, p2, p3, p4, p5, p6, p7, p8, p9, p10, p11, p12, p13⟩ := cells14 M5.out.row; obtain ⟨f0, f1, f2, f3, f4, f5, f6, f7, f8, f9, f10, f11, f12, f13⟩ := froz14 M5.out.row; have M6 : Hid (My w (w.heap.size + 1) w.heap.size 29 #[.int .u64 0, .slice none 0 0, .int .i64 0, .slice none 0 0, .slice none 0 0, .int .u64 0, .int .u64 0, .bool false, .slice none 0 0, .slice none 0 0, .int .i64 0, .int .u64 0, .bool false, .bool false] #[.int .u64 M.pc, .slice kx M.x.length lx, .int .i64 M.pr, .slice kc M.cs.length lc, .slice kr M.ram.length lr, .int .u64 M.d.t, .int .u64 M.d.cm, .bool M.d.so, .slice A.ai M.d.xs.length A.ci, .slice A.ao M.d.ys.length A.co, .int .i64 M.d.ir, .int .u64 M.hd, .bool M.hl, .bool M.wt] [wRow kx M.x.length lx M.x, wRow kc M.cs.length lc M.cs, bRow kr M.ram.length lr M.ram] (w3.setCell ⟨w.heap.size, 4, none⟩ (.slice kr M.ram.length lr))) := M5.out.put 4 _; obtain ⟨-, -, -, -, -, z5, z6, z7, z8, z9, z10, -, -, -⟩ := cells14 M6.out.row))
  refine (H4.out _ M6.out.below).mono ?_
  rintro e w4 ⟨ki, li, ko, lo, rfl, fm4, hb4⟩
  have M7 := dhid (M6.out.add2 (bRow ki M.d.xs.length li M.d.xs) (bRow ko M.d.ys.length lo M.d.ys) fm4 hb4)
  clear fm4 hb4 z5 z6 z7 z8 z9 z10
  clear p0 f0 p1 f1 p2 f2 p3 f3 p4 f4 p5 f5 p6 f6 p7 f7 p8 f8 p9 f9 p10 f10 p11 f11 p12 f12 p13 f13
  obtain ⟨p0, p1, p2, p3, p4, p5, p6, p7, p8, p9, p10, p11, p12, p13⟩ := cells14 M7.out.row
  obtain ⟨f0, f1, f2, f3, f4, f5, f6, f7, f8, f9, f10, f11, f12, f13⟩ := froz14 M7.out.row
  obtain ⟨r0, r1, r2, r3, r4, r5, r6, r7, r8, r9, r10, r11, r12, r13⟩ := cells14 M7.out.res
  obtain ⟨y0, y1, y2, y3, y4, y5, y6, y7, y8, y9, y10, y11, y12, y13⟩ := froz14 M7.out.res
  go_wp2_with fail
  have M8 := ((((((M7.out.put 5 (.int .u64 M.d.t)).put 6 (.int .u64 M.d.cm)).put 7 (.bool M.d.so)).put 8 (.slice ki M.d.xs.length li)).put 9 (.slice ko M.d.ys.length lo)).put 10 (.int .i64 M.d.ir))
  have T1 := row_put14 M8.res (.int .u64 M.pc) (.slice kx M.x.length lx) (.int .i64 M.pr) (.slice kc M.cs.length lc) (.slice kr M.ram.length lr) (.int .u64 M.d.t) (.int .u64 M.d.cm) (.bool M.d.so) (.slice ki M.d.xs.length li) (.slice ko M.d.ys.length lo) (.int .i64 M.d.ir) (.int .u64 M.hd) (.bool M.hl) (.bool M.wt)
  exact bodyPost_ret (results_cell_row Try.results13 _ _ _ _ _ _ _ rfl T1 Try.underlying29 rfl mac_size) rfl ⟨⟨kx, lx, kc, lc, kr, lr, ki, li, ko, lo⟩, rfl, (M8.fam.put14 (w.heap.size + 1) (.inl (by omega)) (.int .u64 M.pc) (.slice kx M.x.length lx) (.int .i64 M.pr) (.slice kc M.cs.length lc) (.slice kr M.ram.length lr) (.int .u64 M.d.t) (.int .u64 M.d.cm) (.bool M.d.so) (.slice ki M.d.xs.length li) (.slice ko M.d.ys.length lo) (.int .i64 M.d.ir) (.int .u64 M.hd) (.bool M.hl) (.bool M.wt)).low (by omega) (by simp only [size_set]; exact Nat.le_refl _), below_put14 M8.below (by omega) (.int .u64 M.pc) (.slice kx M.x.length lx) (.int .i64 M.pr) (.slice kc M.cs.length lc) (.slice kr M.ram.length lr) (.int .u64 M.d.t) (.int .u64 M.d.cm) (.bool M.d.so) (.slice ki M.d.xs.length li) (.slice ko M.d.ys.length lo) (.int .i64 M.d.ir) (.int .u64 M.hd) (.bool M.hl) (.bool M.wt)⟩

end Go.Proofs.Ytmigfnlfjgkgkaa

namespace Go.Proofs.Ytmigfnlfjgkgkaa
open Go.Conc Go.RowKit

def RunsIn (P : Program) (ops : Array Oper) (Q : Exit → Act → World → Prop) (l : List Nat) (a : Act) (w : World) : Prop :=
  ∀ (b : Frame) (k : List Item) (cs : List Frame), ∃ e a' w', Q e a' w' ∧ Arrives P (lone (b.at a (.inRegion ops l :: k)) cs w) b k cs e a' w'

section
variable {P : Program} {ops : Array Oper} {Q : Exit → Act → World → Prop} {a : Act} {w w₁ : World} {i : Nat} {rest : List Nat} {o : Oper}

theorem fin (ho : ops[i]? = some o) (b : Frame) (k : List Item) (v : Value) : (b.at a (.inRegion ops (i :: rest) :: k)).finish v = b.at (a.put o.dst v) (.inRegion ops rest :: k) := by
  rw [Frame.finish_at, ho]; rfl

def upon (P : Program) (ops : Array Oper) (Q : Exit → Act → World → Prop) (rest : List Nat) (a : Act) (o : Oper) : Result Next → Prop
  | .ok (.value v) w' => RunsIn P ops Q rest (a.put o.dst v) w'
  | .ok .skip w' => RunsIn P ops Q rest (a.put o.dst undef) w'
  | _ => False
@[simp] theorem upon_value (v : Value) (w' : World) : upon P ops Q rest a o (.ok (.value v) w') = RunsIn P ops Q rest (a.put o.dst v) w' := rfl
@[simp] theorem upon_skip (w' : World) : upon P ops Q rest a o (.ok .skip w') = RunsIn P ops Q rest (a.put o.dst undef) w' := rfl

variable {c cap s r : Nat} {buf : Array Value} {z v : Value} {tm closed : Bool}

end

section
variable {w : World} {c cap : Nat} {buf : List Value} {closed : Bool}

variable {P : Program} {ops : Array Oper} {Q : Exit → Act → World → Prop} {a : Act} {i : Nat} {rest : List Nat} {o : Oper} {v z : Value}
end

end Go.Proofs.Ytmigfnlfjgkgkaa

namespace Go.Proofs.Ytmigfnlfjgkgkaa
open Go.RowKit Go.Conc
set_option linter.unusedVariables false

def behind (zs : List Int) (b : Int) (most : Nat) : List Int := if zs.length < most then zs ++ [b] else zs

end Go.Proofs.Ytmigfnlfjgkgkaa

namespace Go.Proofs.Ytmigfnlfjgkgkaa
open Go.RowKit
set_option linter.unusedVariables false

set_option maxRecDepth 100000 in
set_option maxHeartbeats 1600000 in
theorem implDevOk_any (t cm : Int) (so : Bool) (a1 : Option Addr) (n1 c1 : Nat) (a2 : Option Addr) (n2 c2 : Nat) (ir : Int) (w : World) (hn1 : n1 ≤ 1048576) (hn2 : n2 ≤ 1048576) :
    Calls Try.prog 25 #[.agg #[.int .u64 t, .int .u64 cm, .bool so, .slice a1 n1 c1, .slice a2 n2 c2, .int .i64 ir]] w fun e w' => e = .returned (.bool (okD n1 n2 ir)) ∧ Below w.heap.size w w' := by
  have hB : ∀ o, Below w.heap.size w (w.alloc o) := fun o => (Below.refl _ _).alloc (Nat.le_refl _) o
  have F : okD n1 n2 ir = (decide (n1 ≤ 16) && decide (n2 ≤ 4096) && decide (0 ≤ ir ∧ ir ≤ 1)) := rfl
  by_cases h1 : n1 ≤ 16
  · have d1 : decide ((n1 : Int) ≤ 16) = true := by simp; omega
    by_cases h2 : n2 ≤ 4096
    · have d2 : decide ((n2 : Int) ≤ 4096) = true := by simp; omega
      by_cases h3 : ir = 0
      · have F2 : Hid (okD n1 n2 ir = true) := by show _ = _; rw [F, decide_eq_true h1, decide_eq_true h2, h3]; rfl
        subst h3
        generalize okD n1 n2 0 = v at *
        clear F h1 h2 hn1 hn2
        go_enter Try.func25, Try.ntmps25
        go_wp2_with fail
        go_ret
        exact ⟨by rw [F2.out]; rfl, hB _⟩
      · by_cases h4 : ir = 1
        · have F2 : Hid (okD n1 n2 ir = true) := by show _ = _; rw [F, decide_eq_true h1, decide_eq_true h2, h4]; rfl
          subst h4
          generalize okD n1 n2 1 = v at *
          clear F h1 h2 h3 hn1 hn2
          go_enter Try.func25, Try.ntmps25
          go_wp2_with fail
          go_ret
          exact ⟨by rw [F2.out]; rfl, hB _⟩
        · have F2 : Hid (okD n1 n2 ir = false) := by show _ = _; rw [F, decide_eq_true h1, decide_eq_true h2, decide_eq_false (by omega)]; rfl
          have d3 : (ir == 0) = false := by simpa using h3
          have d4 : (ir == 1) = false := by simpa using h4
          generalize okD n1 n2 ir = v at *
          clear F h1 h2 h3 h4 hn1 hn2
          go_enter Try.func25, Try.ntmps25
          go_wp2_with fail
          go_ret
          exact ⟨by rw [F2.out]; rfl, hB _⟩
    · have d2 : decide ((n2 : Int) ≤ 4096) = false := by simp; omega
      have F2 : Hid (okD n1 n2 ir = false) := by show _ = _; rw [F, decide_eq_true h1, decide_eq_false h2]; rfl
      generalize okD n1 n2 ir = v at *
      clear F h1 h2 hn1 hn2
      go_enter Try.func25, Try.ntmps25
      go_wp2_with fail
      go_ret
      exact ⟨by rw [F2.out]; rfl, hB _⟩
  · have d1 : decide ((n1 : Int) ≤ 16) = false := by simp; omega
    have F2 : Hid (okD n1 n2 ir = false) := by show _ = _; rw [F, decide_eq_false h1]; rfl
    generalize okD n1 n2 ir = v at *
    clear F h1 hn1 hn2
    go_enter Try.func25, Try.ntmps25
    go_wp2_with fail
    go_ret
    exact ⟨by rw [F2.out]; rfl, hB _⟩

end Go.Proofs.Ytmigfnlfjgkgkaa
