/- Own lemmas. -/
import Derived.Test.YtdllhjehokpefaaK03
import Derived.BigQuiet
import Derived.Stop.Asserts
import Derived.Handy
import Derived.Deep.RegionHeld3
import Derived.Deep.Cut
namespace Go.Proofs.Ytdllhjehokpefaa
open Go.RowKit
set_option linter.unusedVariables false

inductive CK where
  | plain (b : Int) | mst | mie | mip | satp | cfg | addr (e : Nat)

def CK.val : CK → Value
  | .plain b => .agg #[.int .u64 b] | .mst => .agg #[] | .mie => .agg #[] | .mip => .agg #[] | .satp => .agg #[] | .cfg => .agg #[] | .addr e => .agg #[.int .i64 e]

end Go.Proofs.Ytdllhjehokpefaa

namespace Go.Proofs.Ytdllhjehokpefaa
open Go.RowKit
set_option linter.unusedVariables false

end Go.Proofs.Ytdllhjehokpefaa

namespace Go.Proofs.Ytdllhjehokpefaa
open Go.RowKit
set_option linter.unusedVariables false

def CK.holds : CK → Bool
  | .mip => true | .satp => true | .cfg => true | .addr _ => true | _ => false

end Go.Proofs.Ytdllhjehokpefaa

namespace Go.Proofs.Ytdllhjehokpefaa
open Go.RowKit
set_option linter.unusedVariables false

structure Vw where
  at_ : Int
  num : Int
  rd : Int
  wr : Int
  ok : Bool

def Vw.cells (v : Vw) : Array Value := #[.int .i64 v.num, .int .u64 v.rd, .int .u64 v.wr]

theorem heap_setCell {w : World} {g : Nat} {cs : Array Value} {t : TypeId} {fr : Nat × Nat} (h : w.heap[g]? = some (.cells cs t fr)) (i : Nat) (v : Value) :
    (w.setCell ⟨g, i, none⟩ v).heap[g]? = some (.cells (cs.setIfInBounds i v) t fr) := by
  simp [World.setCell, Array.getElem?_modify, h]

end Go.Proofs.Ytdllhjehokpefaa

namespace Go.Proofs.Ytdllhjehokpefaa
open Go.RowKit
set_option linter.unusedVariables false

end Go.Proofs.Ytdllhjehokpefaa

namespace Go.Proofs.Ytdllhjehokpefaa
open Go.RowKit
set_option linter.unusedVariables false

end Go.Proofs.Ytdllhjehokpefaa

namespace Go.Proofs.Ytdllhjehokpefaa
open Go.RowKit
set_option linter.unusedVariables false

def Rg (w0 : World) (g : Nat) (a : Option Addr) (n cap : Nat) (w wr : World) : Prop :=
  ∃ zs : List Int, (∀ j, U (zs.getD j 0)) ∧ wr.ownsRow w.heap.size 27 1 (.slice (some ⟨w.heap.size, 0, none⟩) 22 22) 22 (zs.map (Value.int .u64)) ∧ Cs w0 g a n cap w wr ∧ g < w.heap.size

theorem Rg.next {w0 : World} {g : Nat} {a : Option Addr} {n cap : Nat} {w wr wx : World} (h : Rg w0 g a n cap w wr) (k : Cs w0 g a n cap wr wx) : Rg w0 g a n cap w wx := by
  obtain ⟨zs, hu, ho, hc, hg⟩ := h
  refine ⟨zs, hu, kept_of ho k.2 ?_, hc.trans k, hg⟩
  intro j hj hne
  simp [Value.ownBlock] at hj hne
  omega

theorem Rg.cur {w0 : World} {g : Nat} {a : Option Addr} {n cap : Nat} {w wr : World} (h : Rg w0 g a n cap w wr) : Cur w0 wr g a n cap := by
  obtain ⟨zs, hu, ho, hc, hg⟩ := h
  exact hc.1

theorem getD_set (zs : List Int) (k j : Nat) (y : Int) (hu : ∀ j, U (zs.getD j 0)) (hy : U y) : U ((zs.set k y).getD j 0) := by
  by_cases hkj : k = j
  · subst hkj
    by_cases hl : k < zs.length
    · have e : (zs.set k y).getD k 0 = y := by simp [List.getD, hl]
      rw [e]; exact hy
    · have e : (zs.set k y).getD k 0 = 0 := by simp [List.getD, hl]
      rw [e]; constructor <;> decide
  · have e : (zs.set k y).getD j 0 = zs.getD j 0 := by simp [List.getD, hkj]
    rw [e]; exact hu j

theorem Rg.put {w0 : World} {g : Nat} {a : Option Addr} {n cap : Nat} {w wr : World} (h : Rg w0 g a n cap w wr) (k : Nat) (y : Int) (hy : U y) : Rg w0 g a n cap w (wr.setCell ⟨w.heap.size, k, none⟩ (.int .u64 y)) := by
  obtain ⟨zs, hu, ho, hc, hg⟩ := h
  have hst := ho.stored k (.int .u64 y)
  rw [map_set_u64] at hst
  refine ⟨zs.set k y, fun j => getD_set zs k j y hu hy, hst.1, ⟨?_, ?_⟩, hg⟩
  · obtain ⟨i, x, hi, hrow⟩ := hc.1.row
    refine ⟨hc.1.new, hc.1.below.setCell ?_ _, i, x, hi, ?_⟩
    · show w0.heap.size ≤ w.heap.size
      have := hc.1.new; omega
    · rw [heap_setCell_other _ _ _ _ (by show g ≠ w.heap.size; omega)]; exact hrow
  · refine ⟨hc.2.os, hc.2.tape, hc.2.output, by simpa [World.setCell] using hc.2.size, fun j hj hne => ?_⟩
    rw [heap_setCell_other _ _ _ _ (by show j ≠ w.heap.size; omega)]
    exact hc.2.block j hj hne

theorem Rg.cell {w0 : World} {g : Nat} {a : Option Addr} {n cap : Nat} {w wr : World} (h : Rg w0 g a n cap w wr) (k : Nat) (hk : k < 22) : ∃ v, U v ∧ wr.cell? ⟨w.heap.size, k, none⟩ = some (.int .u64 v) ∧ wr.frozen? ⟨w.heap.size, k, none⟩ = false := by
  obtain ⟨zs, hu, ho, hc, hg⟩ := h
  have hl : zs.length = 22 := by have := ho.1; simpa using this
  obtain ⟨b, off, e, _, hcl⟩ := own_sl ho k (by omega)
  simp only [Option.some.injEq, Addr.mk.injEq, and_true] at e
  obtain ⟨rfl, rfl⟩ := e
  rw [Nat.zero_add] at hcl
  exact ⟨_, hu k, hcl, ho.frozenAt k⟩

theorem Rg.sl {w0 : World} {g : Nat} {a : Option Addr} {n cap : Nat} {w wr : World} (h : Rg w0 g a n cap w wr) :
    (∃ zs : List Int, zs.length = 22 ∧ (∀ j, U (zs.getD j 0)) ∧ Sl .u64 wr (some ⟨w.heap.size, 0, none⟩) zs) ∧ ∃ zs : List Int, zs.length = 21 ∧ (∀ j, U (zs.getD j 0)) ∧ Sl .u64 wr (some ⟨w.heap.size, 1, none⟩) zs := by
  obtain ⟨zs, hu, ho, hc, hg⟩ := h
  have hl : zs.length = 22 := by have := ho.1; simpa using this
  refine ⟨⟨zs, hl, hu, own_sl ho⟩, zs.drop 1, by simp [hl], fun j => ?_, fun i hi => ?_⟩
  · have e : (zs.drop 1).getD j 0 = zs.getD (1 + j) 0 := by simp [List.getD, Nat.add_comm]
    rw [e]; exact hu _
  · rw [List.length_drop] at hi
    obtain ⟨b, off, e, hb, hcl⟩ := own_sl ho (1 + i) (by omega)
    simp only [Option.some.injEq, Addr.mk.injEq, and_true] at e
    obtain ⟨rfl, rfl⟩ := e
    refine ⟨_, _, rfl, hb, ?_⟩
    have e : (zs.drop 1).getD i 0 = zs.getD (1 + i) 0 := by simp [List.getD, Nat.add_comm]
    rw [e]
    rw [Nat.zero_add] at hcl
    exact hcl

end Go.Proofs.Ytdllhjehokpefaa

namespace Go.Proofs.Ytdllhjehokpefaa
open Go.RowKit
set_option linter.unusedVariables false

theorem results_d3 {fn : Func} {t u v : Tmp} (h : fn.results = #[.tmp t, .tmp u, .tmp v]) (tmps : Array Value) (P : Program) (w : World) :
    (results fn tmps).run P w = .ok (.tuple #[tmps.getD t undef, tmps.getD u undef, tmps.getD v undef]) w := by
  simp only [results, h]
  simp

end Go.Proofs.Ytdllhjehokpefaa

namespace Go.Proofs.Ytdllhjehokpefaa
open Go.RowKit
set_option linter.unusedVariables false

theorem Rg.drew {w0 : World} {g : Nat} {a : Option Addr} {n cap : Nat} {w wr : World} (h : Rg w0 g a n cap w wr) : Rg w0 g a n cap w wr.drew := h.next ⟨h.cur.dN 1, grown_dN _ 1 _⟩

theorem Rg.alloc {w0 : World} {g : Nat} {a : Option Addr} {n cap : Nat} {w wr : World} (h : Rg w0 g a n cap w wr) (o : Obj) : Rg w0 g a n cap w (wr.alloc o) := h.next (Cs.alloc h.cur o)

end Go.Proofs.Ytdllhjehokpefaa
