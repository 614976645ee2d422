/- The model's state registers: what they answer. The model's state registers: who may, what is read. -/
import Derived.Test.YtjjpklalihaanaaDoorWordsC
import Derived.Test.YtjjpklalihaanaaDoorCsrP
namespace Go.Proofs.YtjjpklalihaanaaDoor
open Go.RowKit
set_option linter.unusedVariables false

theorem l4Numbers_any (w : World) : Calls Tryd.prog 61 #[] w fun e w' => e = .returned (.slice (some ⟨w.heap.size, 0, none⟩) 22 22) ∧ w' = w.alloc (.cells (csrNumbers.map (Value.int .i64)).toArray 2) := by
  go_enter Tryd.func61, Tryd.ntmps61
  go_wp2_with fail
  go_ret
  exact ⟨rfl, rfl⟩

/-- The table of numbers lies in block g. -/
def NumS (w : World) (g : Nat) : Prop := g < w.heap.size ∧ ∀ k, k < 22 → w.cell? ⟨g, k, none⟩ = some (.int .i64 (csrNumbers.getD k 0))

theorem l4Numbers_T (w : World) : Calls Tryd.prog 61 #[] w fun e w' => e = .returned (.slice (some ⟨w.heap.size, 0, none⟩) 22 22) ∧ Hid (NumS w' w.heap.size) ∧ Below w.heap.size w w' :=
  (l4Numbers_any w).mono fun e w' h => by
    obtain ⟨h1, rfl⟩ := h
    refine ⟨h1, ?_, (Below.refl _ _).alloc (Nat.le_refl _) _⟩
    show NumS _ _
    refine ⟨by simp, fun k hk => ?_⟩
    rw [cell_of_row _ _ _ _ _ _ (heap_alloc_new _ _)]
    have hl : k < csrNumbers.length := hk
    simp [List.getD, List.getElem?_eq_getElem hl]

theorem legal_other {p : Int} (h : ¬ (p = 0 ∨ p = 1 ∨ p = 2 ∨ p = 3 ∨ p = 4 ∨ p = 10 ∨ p = 6 ∨ p = 12 ∨ p = 7 ∨ p = 13 ∨ p = 16 ∨ p = 17 ∨ p = 18 ∨ p = 19 ∨ p = 20)) (x : Int) : legal p x = x := by
  unfold legal
  rw [if_neg (by omega), if_neg (by omega), if_neg (by omega), if_neg (by omega), if_neg (by omega), if_neg (by omega), if_neg (by omega), if_neg (by omega), if_neg (by omega)]

end Go.Proofs.YtjjpklalihaanaaDoor

namespace Go.Proofs.YtjjpklalihaanaaDoor
open Go.RowKit
set_option linter.unusedVariables false

end Go.Proofs.YtjjpklalihaanaaDoor
