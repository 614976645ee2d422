/- The model's DevLoad. By tools/genDevT.py. -/
import Derived.Test.YtdcihpbggknhgaaRDevS
namespace Go.Proofs.YtdcihpbggknhgaaR
open Go.RowKit
set_option linter.unusedVariables false

theorem row_drew {W : World} {g : Nat} {o : Obj} (h : W.heap[g]? = some o) : W.drew.heap[g]? = some o := h

theorem size_drew (W : World) : W.drew.heap.size = W.heap.size := rfl

theorem row2d {w : World} {o1 o2 : Obj} : ((w.alloc o1).alloc o2).drew.heap[w.heap.size + 1]? = some o2 := (rows2 (w := w) (o1 := o1) (o2 := o2) (Below.refl _ ((w.alloc o1).alloc o2))).2

theorem row2n {w : World} {o1 o2 : Obj} : ((w.alloc o1).alloc o2).heap[w.heap.size + 1]? = some o2 := (rows2 (w := w) (o1 := o1) (o2 := o2) (Below.refl _ ((w.alloc o1).alloc o2))).2

theorem below2d {w : World} {o1 o2 : Obj} : Below w.heap.size w ((w.alloc o1).alloc o2).drew := (((Below.refl _ _).alloc (Nat.le_refl _) o1).alloc (by simp) o2).drew

theorem below2n {w : World} {o1 o2 : Obj} : Below w.heap.size w ((w.alloc o1).alloc o2) := ((Below.refl _ _).alloc (Nat.le_refl _) o1).alloc (by simp) o2

theorem Sl.next {w : World} {b off : Nat} {zs : List Int} (h : Sl .u8 w (some ⟨b, off, none⟩) zs) : Sl .u8 w (some ⟨b, off + 1, none⟩) (zs.drop 1) := by
  intro i hi
  rw [List.length_drop] at hi
  obtain ⟨b', off', e, hb, hc⟩ := h (i + 1) (by omega)
  simp only [Option.some.injEq, Addr.mk.injEq, and_true] at e
  obtain ⟨rfl, rfl⟩ := e
  refine ⟨_, _, rfl, hb, ?_⟩
  have e2 : (zs.drop 1).getD i 0 = zs.getD (i + 1) 0 := by
    rw [List.getD_eq_getElem?_getD, List.getD_eq_getElem?_getD, List.getElem?_drop, Nat.add_comm]
  rw [e2, show off + 1 + i = off + (i + 1) from by omega]
  exact hc

end Go.Proofs.YtdcihpbggknhgaaR
