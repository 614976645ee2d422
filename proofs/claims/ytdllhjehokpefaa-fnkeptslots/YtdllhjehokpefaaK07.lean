/- Own lemmas. -/
import Derived.Test.YtdllhjehokpefaaK03
import Derived.Test.YtdllhjehokpefaaK05
import Derived.BigQuiet
namespace Go.Proofs.Ytdllhjehokpefaa
open Go.RowKit
set_option linter.unusedVariables false

structure Fd where
  addr : Int
  code : Int
  marked : Bool
  at_ : Int
  entry : Int

def Fd.cells (f : Fd) : Array Value := #[.int .u64 f.addr, .int .i64 f.code, .bool f.marked, .int .u64 f.at_, .int .u64 f.entry]

def Own (w : World) (base g cap : Nat) (l : List Int) : Prop := w.ownsRow base 27 1 (.slice (some ⟨g, 0, none⟩) 22 cap) 22 (l.map (Value.int .u64))

theorem Own.len {w : World} {base g cap : Nat} {l : List Int} (h : Own w base g cap l) : l.length = 22 := by
  have := h.1; simpa using this

theorem Own.cell {w : World} {base g cap : Nat} {l : List Int} (h : Own w base g cap l) (j : Nat) (hj : j < 22) : w.cell? ⟨g, j, none⟩ = some (.int .u64 (l.getD j 0)) := by
  have hl := h.len
  have e := World.ownsRow.cellAt h j hj
  rw [e]
  simp [List.getD, List.getElem?_eq_getElem (show j < l.length by omega)]

theorem Own.put {w : World} {base g cap : Nat} {l : List Int} (h : Own w base g cap l) (j : Nat) (v : Int) : Own (w.setCell ⟨g, j, none⟩ (.int .u64 v)) base g cap (l.set j v) ∧ w.grownBy (w.setCell ⟨g, j, none⟩ (.int .u64 v)) (some g) := by
  have e := World.ownsRow.stored h j (.int .u64 v)
  rw [map_set_u64] at e
  exact e

theorem Own.below {w w' : World} {base g cap : Nat} {l : List Int} (h : Own w base g cap l) (hb : Below w.heap.size w w') : Own w' base g cap l := ownsRow_below h hb

end Go.Proofs.Ytdllhjehokpefaa
