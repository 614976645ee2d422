/- Own lemmas. -/
import Derived.Test.YtdllhjehokpefaaK01
import Derived.Test.YtdllhjehokpefaaK03
import Derived.BigQuiet
import Derived.OwnWalk
namespace Go.Proofs.Ytdllhjehokpefaa
open Go.RowKit
set_option linter.unusedVariables false

def Rm (w0 : World) (g : Nat) (a : Option Addr) (n cap : Nat) (w : World) (b m : Nat) (wr : World) : Prop :=
  ∃ zs : List Int, (∀ y ∈ zs, (Lit.int .u8 y).wf = true) ∧ wr.ownsRow w.heap.size 5 1 (.slice (some ⟨b, 0, none⟩) m m) m (zs.map (Value.int .u8)) ∧ Cs w0 g a n cap w wr ∧ g < w.heap.size ∧ w.heap.size ≤ b

theorem Rm.next {w0 : World} {g : Nat} {a : Option Addr} {n cap : Nat} {w wr wx : World} {b m : Nat} (h : Rm w0 g a n cap w b m wr) (k : Cs w0 g a n cap wr wx) : Rm w0 g a n cap w b m wx := by
  obtain ⟨zs, hu, ho, hc, hg, hb⟩ := h
  refine ⟨zs, hu, kept_of ho k.2 ?_, hc.trans k, hg, hb⟩
  intro j hj hne
  simp [Value.ownBlock] at hj hne
  omega

theorem Rm.cur {w0 : World} {g : Nat} {a : Option Addr} {n cap : Nat} {w wr : World} {b m : Nat} (h : Rm w0 g a n cap w b m wr) : Cur w0 wr g a n cap := by
  obtain ⟨zs, hu, ho, hc, hg, hb⟩ := h
  exact hc.1

theorem Rm.cs {w0 : World} {g : Nat} {a : Option Addr} {n cap : Nat} {w wr : World} {b m : Nat} (h : Rm w0 g a n cap w b m wr) : Cs w0 g a n cap w wr := by
  obtain ⟨zs, hu, ho, hc, hg, hb⟩ := h
  exact hc

theorem Rm.put {w0 : World} {g : Nat} {a : Option Addr} {n cap : Nat} {w wr : World} {b m : Nat} (h : Rm w0 g a n cap w b m wr) (k : Nat) (y : Int) (hy : (Lit.int .u8 y).wf = true) : Rm w0 g a n cap w b m (wr.setCell ⟨b, k, none⟩ (.int .u8 y)) := by
  obtain ⟨zs, hu, ho, hc, hg, hb⟩ := h
  have hst := ho.stored k (.int .u8 y)
  rw [map_set_u8] at hst
  refine ⟨zs.set k y, fun x hx => ?_, hst.1, ⟨?_, ?_⟩, hg, hb⟩
  · rcases List.mem_or_eq_of_mem_set hx with h | h
    · exact hu x h
    · rw [h]; exact hy
  · obtain ⟨i, x, hi, hrow⟩ := hc.1.row
    refine ⟨hc.1.new, hc.1.below.setCell ?_ _, i, x, hi, ?_⟩
    · show w0.heap.size ≤ b
      have := hc.1.new; omega
    · rw [heap_setCell_other _ _ _ _ (by show g ≠ b; omega)]; exact hrow
  · refine ⟨hc.2.os, hc.2.tape, hc.2.output, by simpa [World.setCell] using hc.2.size, fun j hj hne => ?_⟩
    rw [heap_setCell_other _ _ _ _ (by show j ≠ b; omega)]
    exact hc.2.block j hj hne

theorem Rm.cell {w0 : World} {g : Nat} {a : Option Addr} {n cap : Nat} {w wr : World} {b m : Nat} (h : Rm w0 g a n cap w b m wr) (k : Nat) (hk : k < m) : ∃ v, wr.cell? ⟨b, k, none⟩ = some (.int .u8 v) ∧ wr.frozen? ⟨b, k, none⟩ = false := by
  obtain ⟨zs, hu, ho, hc, hg, hb⟩ := h
  have hl : zs.length = m := by have := ho.1; simpa using this
  obtain ⟨b', off, e, _, hcl⟩ := own_sl ho k (by omega)
  simp only [Option.some.injEq, Addr.mk.injEq, and_true] at e
  obtain ⟨rfl, rfl⟩ := e
  rw [Nat.zero_add] at hcl
  exact ⟨_, hcl, ho.frozenAt k⟩

theorem Rm.sl {w0 : World} {g : Nat} {a : Option Addr} {n cap : Nat} {w wr : World} {b m : Nat} (h : Rm w0 g a n cap w b m wr) : ∃ zs : List Int, zs.length = m ∧ (∀ y ∈ zs, (Lit.int .u8 y).wf = true) ∧ Sl .u8 wr (some ⟨b, 0, none⟩) zs := by
  obtain ⟨zs, hu, ho, hc, hg, hb⟩ := h
  exact ⟨zs, by have := ho.1; simpa using this, hu, own_sl ho⟩

end Go.Proofs.Ytdllhjehokpefaa

namespace Go.Proofs.Ytdllhjehokpefaa
open Go.RowKit
set_option linter.unusedVariables false

end Go.Proofs.Ytdllhjehokpefaa

namespace Go.Proofs.Ytdllhjehokpefaa
open Go.RowKit
set_option linter.unusedVariables false

end Go.Proofs.Ytdllhjehokpefaa

namespace Go.Proofs.Ytdllhjehokpefaa
open Go.RowKit
set_option linter.unusedVariables false

end Go.Proofs.Ytdllhjehokpefaa
