/- The model's write into the registers themselves. -/
import Derived.Test.YtldjmphflgecjacDoorCsrW
namespace Go.Proofs.YtldjmphflgecjacDoor
open Go.RowKit
set_option linter.unusedVariables false

/-- The 22 registers lie in block g, which is ours to write. -/
def Own (w : World) (base g cap : Nat) (l : List Int) : Prop := w.ownsRow base 25 1 (.slice (some ⟨g, 0, none⟩) 22 cap) 22 (l.map (Value.int .u64))

theorem Own.len {w : World} {base g cap : Nat} {l : List Int} (h : Own w base g cap l) : l.length = 22 := by
  have := h.1; simpa using this

theorem Own.cell {w : World} {base g cap : Nat} {l : List Int} (h : Own w base g cap l) (j : Nat) (hj : j < 22) : w.cell? ⟨g, j, none⟩ = some (.int .u64 (l.getD j 0)) := by
  have hl := h.len
  have e := World.ownsRow.cellAt h j hj
  rw [e]
  simp [List.getD, List.getElem?_eq_getElem (show j < l.length by omega)]

theorem Own.froz {w : World} {base g cap : Nat} {l : List Int} (h : Own w base g cap l) (j : Nat) : w.frozen? ⟨g, j, none⟩ = false := World.ownsRow.frozenAt h j

theorem Own.put {w : World} {base g cap : Nat} {l : List Int} (h : Own w base g cap l) (j : Nat) (v : Int) : Own (w.setCell ⟨g, j, none⟩ (.int .u64 v)) base g cap (l.set j v) ∧ w.grownBy (w.setCell ⟨g, j, none⟩ (.int .u64 v)) (some g) := by
  have e := World.ownsRow.stored h j (.int .u64 v)
  rw [map_set_u64] at e
  exact e

theorem Own.below {w w' : World} {base g cap : Nat} {l : List Int} (h : Own w base g cap l) (hb : Below w.heap.size w w') : Own w' base g cap l := ownsRow_below h hb

theorem grown_below {w w' : World} (hb : Below w.heap.size w w') (row : Option Nat) : w.grownBy w' row := ⟨hb.os, hb.tape, hb.output, hb.size, fun k hk _ => hb.block k hk⟩

/-- By its place: the number is no view, and is known. -/
def plainB (n : Int) : Bool := !(n == 769) && !(n == 3860) && !(n == 256) && !(n == 260) && !(n == 324)

theorem writeV_plain {n : Int} (h : plainB n = true) (l : List Int) (x : Int) : writeV l n x = putV l (placeV n) x := by
  simp [plainB] at h
  unfold writeV
  rw [if_neg (by omega), if_neg (by omega), if_neg (by omega), if_neg (by omega)]

end Go.Proofs.YtldjmphflgecjacDoor
