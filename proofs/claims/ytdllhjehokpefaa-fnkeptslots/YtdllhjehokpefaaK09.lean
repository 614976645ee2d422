/- Own lemmas. -/
import Derived.Test.YtdllhjehokpefaaK01
import Derived.Test.YtdllhjehokpefaaK03
import Derived.Test.YtdllhjehokpefaaK05
import Derived.OwnWalk
import Derived.Deep.RegionWith
import Derived.Deep.Cut
namespace Go.Proofs.Ytdllhjehokpefaa
open Go.RowKit
set_option linter.unusedVariables false

def Ins.wf (i : Ins) : Prop := (Lit.int .i64 i.op).wf = true ∧ (Lit.int .i64 i.rd).wf = true ∧ (Lit.int .i64 i.a).wf = true ∧ (Lit.int .i64 i.b).wf = true ∧ (Lit.int .i64 i.imm).wf = true

def Ins.cells (i : Ins) : Array Value := #[.int .i64 i.op, .int .i64 i.rd, .int .i64 i.a, .int .i64 i.b, .int .i64 i.imm]

theorem Cs.put {w0 : World} {g : Nat} {a : Option Addr} {n cap : Nat} {w wr : World} (h : Cs w0 g a n cap w wr) (hg : g < w.heap.size) (b j : Nat) (hb : w.heap.size ≤ b) (v : Value) : Cs w0 g a n cap w (wr.setCell ⟨b, j, none⟩ v) := by
  obtain ⟨hc, hw⟩ := h
  obtain ⟨i, x, hi, hrow⟩ := hc.row
  refine ⟨⟨hc.new, hc.below.setCell ?_ _, i, x, hi, ?_⟩, ⟨hw.os, hw.tape, hw.output, by simpa [World.setCell] using hw.size, fun k hk hne => ?_⟩⟩
  · show w0.heap.size ≤ b
    have := hc.new; omega
  · rw [heap_setCell_other _ _ _ _ (by show g ≠ b; omega)]; exact hrow
  · rw [heap_setCell_other _ _ _ _ (by show k ≠ b; omega)]; exact hw.block k hk hne

theorem l1From_c {w0 : World} {g : Nat} {a : Option Addr} {n cap : Nat} {zs : List Int} (hcd : Code w0 a n zs) (lo hi : Int) (h0 : -4611686018427387904 ≤ lo) (h1 : hi ≤ 2305843009213693952) (h2 : lo ≤ hi) (h3 : hi - lo ≤ 2305843009213693952) (w : World) (hc : Cur w0 w g a n cap) :
    Calls Try.prog 51 #[.pointer (some ⟨g, 0, none⟩), .int .i64 lo, .int .i64 hi] w fun e w' => ∃ x : Int, e = .returned (.int .i64 x) ∧ (lo ≤ x ∧ x ≤ hi) ∧ Hid (Cs w0 g a n cap w w') := by
  have HD : Hid (Code w0 a n zs) := hcd
  have HC : Hid (Cur w0 w g a n cap) := hc
  clear hcd hc
  go_enter Try.func51, Try.ntmps51
  go_wp2_with fail
  refine (l1Below_c HD.out _ ?_ _ HC.out).mono ?_
  · first | omega | (unfold wrap64; omega)
  rintro e w1 ⟨x, rfl, ⟨p, q⟩, hs⟩
  go_wp2_with fail
  go_ret
  refine ⟨_, rfl, ?_, hs⟩
  first | (constructor <;> omega) | (unfold wrap64 at *; constructor <;> omega)

structure Dc (w0 : World) (g : Nat) (a : Option Addr) (n cap : Nat) (w : World) (r b : Nat) (T : TypeId) (rs cs : Array Value) (wr : World) : Prop where
  row : wr.heap[b]? = some (.cells cs T (0, 0))
  res : wr.heap[r]? = some (.cells rs T (0, 0))
  cu : Cs w0 g a n cap w wr
  glt : g < r
  rlt : r < b
  wle : w.heap.size ≤ r

theorem blk {w : World} {k : Nat} {o : Obj} (h : w.heap[k]? = some o) : k < w.heap.size := (Array.getElem?_eq_some_iff.1 h).1

theorem Dc.next {w0 w wr wx : World} {g : Nat} {a : Option Addr} {n cap r b : Nat} {T : TypeId} {rs cs : Array Value} (h : Dc w0 g a n cap w r b T rs cs wr) (k : Cs w0 g a n cap wr wx) : Dc w0 g a n cap w r b T rs cs wx := by
  have hg := h.glt
  have hr := h.rlt
  have keep : ∀ j o, j ≠ g → wr.heap[j]? = some o → wx.heap[j]? = some o := fun j o hj ho => (k.2.block j (blk ho) (by simp; omega)).trans ho
  exact ⟨keep _ _ (by omega) h.row, keep _ _ (by omega) h.res, h.cu.trans k, hg, hr, h.wle⟩

theorem Dc.drew {w0 w wr : World} {g : Nat} {a : Option Addr} {n cap r b : Nat} {T : TypeId} {rs cs : Array Value} (h : Dc w0 g a n cap w r b T rs cs wr) : Dc w0 g a n cap w r b T rs cs wr.drew := ⟨h.row, h.res, ⟨h.cu.1.grown (grown_dN wr 1 none), grown_trans h.cu.2 (grown_dN wr 1 _)⟩, h.glt, h.rlt, h.wle⟩

theorem Cs.setc {w0 w wr : World} {g : Nat} {a : Option Addr} {n cap : Nat} (h : Cs w0 g a n cap w wr) (k i : Nat) (v : Value) (hk : w.heap.size ≤ k) (hg : g ≠ k) (hw0 : w0.heap.size ≤ k) : Cs w0 g a n cap w (wr.setCell ⟨k, i, none⟩ v) := by
  obtain ⟨j, x, hj, hrow⟩ := h.1.row
  refine ⟨⟨h.1.new, h.1.below.setCell hw0 v, j, x, hj, (Below.heap_setCell wr ⟨k, i, none⟩ v g hg).trans hrow⟩, h.2.os, h.2.tape, h.2.output, by rw [size_set]; exact h.2.size, fun q hq hne => ?_⟩
  rw [Below.heap_setCell wr ⟨k, i, none⟩ v q (by dsimp only; omega)]
  exact h.2.block q hq hne

theorem Dc.put {w0 w wr : World} {g : Nat} {a : Option Addr} {n cap r b : Nat} {T : TypeId} {rs cs : Array Value} (h : Dc w0 g a n cap w r b T rs cs wr) (i : Nat) (v : Value) : Dc w0 g a n cap w r b T rs (cs.setIfInBounds i v) (wr.setCell ⟨b, i, none⟩ v) := by
  have hg := h.glt
  have hr := h.rlt
  have hw := h.wle
  have h0 := h.cu.1.new
  exact ⟨row_set h.row i v, row_far h.res ⟨b, i, none⟩ v (by dsimp only; omega), h.cu.setc b i v (by omega) (by omega) (by omega), hg, hr, hw⟩

end Go.Proofs.Ytdllhjehokpefaa
