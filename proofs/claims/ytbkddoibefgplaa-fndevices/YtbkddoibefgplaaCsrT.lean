/- The model's state registers: what they answer. The model's state registers: who may, what is read. -/
import Derived.Test.YtbkddoibefgplaaWordsC
import Derived.Test.YtbkddoibefgplaaCsrP
namespace Go.Proofs.Ytbkddoibefgplaa
open Go.RowKit
set_option linter.unusedVariables false

/-- The table of numbers lies in block g. -/
def NumS (w : World) (g : Nat) : Prop := g < w.heap.size ∧ ∀ k, k < 22 → w.cell? ⟨g, k, none⟩ = some (.int .i64 (csrNumbers.getD k 0))

theorem legal_other {p : Int} (h : ¬ (p = 0 ∨ p = 1 ∨ p = 2 ∨ p = 3 ∨ p = 4 ∨ p = 10 ∨ p = 6 ∨ p = 12 ∨ p = 7 ∨ p = 13 ∨ p = 16 ∨ p = 17 ∨ p = 18 ∨ p = 19 ∨ p = 20)) (x : Int) : legal p x = x := by
  unfold legal
  rw [if_neg (by omega), if_neg (by omega), if_neg (by omega), if_neg (by omega), if_neg (by omega), if_neg (by omega), if_neg (by omega), if_neg (by omega), if_neg (by omega)]

end Go.Proofs.Ytbkddoibefgplaa

namespace Go.Proofs.Ytbkddoibefgplaa
open Go.RowKit
set_option linter.unusedVariables false

end Go.Proofs.Ytbkddoibefgplaa
