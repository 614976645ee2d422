/- The model's l8Store. By tools/genDevV.py. -/
import Derived.Test.YtdcihpbggknhgaaRDevU
namespace Go.Proofs.YtdcihpbggknhgaaR
open Go.RowKit
set_option linter.unusedVariables false

theorem one_new (w : World) (b : Int) (j : Nat) (u : Value) (h : [Value.int .u8 b][j]? = some u) : (w.alloc (.cells #[.int .u8 b] 5)).cell? ((⟨w.heap.size, 0, none⟩ : Addr).add j) = some u := by
  have hj : j = 0 := by
    rcases Nat.eq_zero_or_pos j with h0 | h0
    · exact h0
    · rw [List.getElem?_eq_none (by simp; omega)] at h; cases h
  subst hj
  rw [adds]
  simp only [List.getElem?_cons_zero, Option.some.injEq] at h
  subst h
  have e := heap_alloc_new w (.cells #[.int .u8 b] 5)
  show (w.alloc (.cells #[.int .u8 b] 5)).cell? ⟨w.heap.size, 0, none⟩ = _
  simp only [World.cell?, e]
  rfl

theorem own_form {w : World} {base n : Nat} {t : TypeId} {v : Value} {xs : List Value} (h : w.ownsRow base t 1 v n xs) : ∃ a c, v = .slice a n c := by
  rcases h.2 with ⟨e, e0⟩ | ⟨g', cap, cur, e, _⟩
  · exact ⟨none, 0, by rw [e, e0]⟩
  · exact ⟨_, _, e⟩

theorem app3 {w w1 w2 : World} {o o1 o2 : Obj} {n : Nat} {t : TypeId} {v : Value} {xs : List Value} (h0 : w1.heap[w.heap.size]? = some o1) (h1 : w1.heap[w.heap.size + 1]? = some o2) (ho : w1.ownsRow (w.heap.size + 1 + 1) t 1 v n xs) (gr : (w1.alloc o).grownBy w2 v.ownBlock) :
    w2.heap[w.heap.size]? = some o1 ∧ w2.heap[w.heap.size + 1]? = some o2 ∧ Below (w.heap.size + 1 + 1) w1 w2 := by
  have z := (Array.getElem?_eq_some_iff.1 h1).1
  have hk : ∀ k, k < w.heap.size + 1 + 1 → w2.heap[k]? = w1.heap[k]? := fun k hk => (gr.block k (by rw [World.size_alloc]; omega) (fun e => by have := (ho.lt k e.symm).1; omega)).trans (Below.heap_alloc w1 o k (by omega))
  refine ⟨(hk _ (by omega)).trans h0, (hk _ (by omega)).trans h1, ⟨gr.os, gr.tape, gr.output, ?_, hk⟩⟩
  have := gr.size
  rw [World.size_alloc] at this
  omega

end Go.Proofs.YtdcihpbggknhgaaR
