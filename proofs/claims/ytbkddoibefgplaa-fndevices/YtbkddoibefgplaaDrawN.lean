/- Draws out of a few numbers; the cursor where nothing older was touched; the numbers of registers. -/
import Derived.Test.YtbkddoibefgplaaDrawC
import Derived.Test.YtbkddoibefgplaaCsrT
import Derived.Test.YtbkddoibefgplaaBitP
namespace Go.Proofs.Ytbkddoibefgplaa
open Go.RowKit
set_option linter.unusedVariables false

theorem Cs.alloc {w0 : World} {g : Nat} {a : Option Addr} {n cap : Nat} {w : World} (h : Cur w0 w g a n cap) (o : Obj) : Cs w0 g a n cap w (w.alloc o) := ⟨h.grown (grown_alloc _ _ _), grown_alloc _ _ _⟩

/-- What a draw out of a few words hands back. -/
theorem few_words {w : World} {b k : Nat} (cs : List Int) (t : TypeId) (hr : w.heap[b]? = some (.cells (cs.map (Value.int .u64)).toArray t (0, 0))) (hu : ∀ x ∈ cs, U x) (hk : k < cs.length) : ∃ v, U v ∧ w.cell? ⟨b, k, none⟩ = some (.int .u64 v) := by
  refine ⟨cs[k], hu _ (List.getElem_mem hk), ?_⟩
  rw [cell_of_row _ _ _ _ _ _ hr]
  simp [List.getElem?_eq_getElem hk]

theorem few_ints {w : World} {b k : Nat} (cs : List Int) (t : TypeId) (hr : w.heap[b]? = some (.cells (cs.map (Value.int .i64)).toArray t (0, 0))) (hu : ∀ x ∈ cs, (Lit.int .i64 x).wf = true) (hk : k < cs.length) : ∃ v, (Lit.int .i64 v).wf = true ∧ w.cell? ⟨b, k, none⟩ = some (.int .i64 v) := by
  refine ⟨cs[k], hu _ (List.getElem_mem hk), ?_⟩
  rw [cell_of_row _ _ _ _ _ _ hr]
  simp [List.getElem?_eq_getElem hk]

/-- Where nothing older than the call was touched, the cursor stays. -/
theorem Cs.of_below {w0 : World} {g : Nat} {a : Option Addr} {n cap : Nat} {w wx : World} (hc : Cur w0 w g a n cap) (hb : Below w.heap.size w wx) : Cs w0 g a n cap w wx := by
  have hg := hc.lt
  obtain ⟨i, x, hi, hrow⟩ := hc.row
  exact ⟨⟨hc.new, below_trans hc.below hb, i, x, hi, by rw [hb.block g hg]; exact hrow⟩, ⟨hb.os, hb.tape, hb.output, hb.size, fun k hk _ => hb.block k hk⟩⟩

theorem infoI : (Try.prog.info? 2).map (fun i => (i.zero, i.size, i.bytes)) = some (some (.int .i64 0), 1, 8) := by kernel_rfl

end Go.Proofs.Ytbkddoibefgplaa
