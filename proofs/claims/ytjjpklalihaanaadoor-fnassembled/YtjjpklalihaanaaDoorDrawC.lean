/- What is drawn fits its kind: words, Ops. -/
import Derived.Test.YtjjpklalihaanaaDoorCurC
import Derived.OwnWalk
namespace Go.Proofs.YtjjpklalihaanaaDoor
open Go.RowKit
set_option linter.unusedVariables false

theorem wf64 {x : Int} (h0 : -9223372036854775808 ≤ x) (h1 : x ≤ 9223372036854775807) : (Lit.int .i64 x).wf = true := by
  have hmin : IntKind.i64.min = -9223372036854775808 := rfl
  have hmax : IntKind.i64.max = 9223372036854775807 := rfl
  simp only [Lit.wf, Bool.and_eq_true, decide_eq_true_eq]
  omega

/-- A block that is not the cursor's stays behind a callee of the cursor. -/
theorem Cs.keep {w0 w w' : World} {g : Nat} {a : Option Addr} {n cap : Nat} (h : Cs w0 g a n cap w w') {k : Nat} {o : Obj} (hk : w.heap[k]? = some o) (hne : k ≠ g) : w'.heap[k]? = some o := by
  by_cases hl : k < w.heap.size
  · rw [h.2.block k hl (by simp [hne])]; exact hk
  · rw [Array.getElem?_eq_none (by omega)] at hk; cases hk

theorem Cur.lt {w0 w : World} {g : Nat} {a : Option Addr} {n cap : Nat} (h : Cur w0 w g a n cap) : g < w.heap.size := by
  obtain ⟨i, x, _, hrow⟩ := h.row
  by_cases hl : g < w.heap.size
  · exact hl
  · rw [Array.getElem?_eq_none (by omega)] at hrow; cases hrow

end Go.Proofs.YtjjpklalihaanaaDoor
