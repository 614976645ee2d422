/- The program's reading of a word: fieldsOf, readFields. -/
import Derived.Test.YtjjpklalihaanaaDoorDecC
namespace Go.Proofs.YtjjpklalihaanaaDoor
open Go.RowKit
set_option linter.unusedVariables false

/-- The pieces lie in block g, three numbers each. -/
def PcsAt (w : World) (p : Option Addr) (l : List (Nat × Nat × Nat)) : Prop := ∀ k, k < l.length → ∃ g, p = some ⟨g, 0, none⟩ ∧ g < w.heap.size ∧ w.cell? ⟨g, k * 3, none⟩ = some (.int .i64 (l.getD k (0, 0, 0)).1) ∧
  w.cell? ⟨g, k * 3 + 1, none⟩ = some (.int .i64 (l.getD k (0, 0, 0)).2.1) ∧ w.cell? ⟨g, k * 3 + 2, none⟩ = some (.int .i64 (l.getD k (0, 0, 0)).2.2)

def pc (p : Nat × Nat × Nat) : List Value := [.int .i64 p.1, .int .i64 p.2.1, .int .i64 p.2.2]

theorem pcsAt_mk (w : World) (A : Obj) (cs : Array Value) (t : TypeId) (l : List (Nat × Nat × Nat)) (h : cs = (l.flatMap pc).toArray) : PcsAt ((w.alloc A).alloc (.cells cs t)) (some ⟨w.heap.size + 1, 0, none⟩) l := by
  subst h
  intro k hk
  have hg : ((w.alloc A).alloc (.cells (l.flatMap pc).toArray t)).heap[w.heap.size + 1]? = some (.cells (l.flatMap pc).toArray t (0, 0)) := heap_alloc2_new _ _ _
  have e : ∀ j, j < 3 → ((w.alloc A).alloc (.cells (l.flatMap pc).toArray t)).cell? ⟨w.heap.size + 1, k * 3 + j, none⟩ = (pc (l.getD k (0, 0, 0)))[j]? := by
    intro j hj
    rw [cell_of_row _ _ _ _ _ _ hg]
    have := flat_get pc 3 l (by intro x _; rfl) k hk j hj
    rw [show l.getD k (0, 0, 0) = l[k] by simp [List.getD, hk], ← this]
    simp
  exact ⟨_, rfl, by simp, e 0 (by decide), e 1 (by decide), e 2 (by decide)⟩

theorem pcsAt_nil (w : World) (p : Option Addr) : PcsAt w p [] := by
  intro k hk; simp at hk

theorem fields_size : (Tryd.prog.info? 93).map (·.size) = some 5 := by kernel_rfl

set_option maxHeartbeats 1600000 in
theorem fieldsOf_any (f : Fm) (w : World) :
    Calls Tryd.prog 56 #[.string f.str] w fun e w' => ∃ p, e = .returned (.agg #[.bool f.hasRd, .bool f.hasA, .bool f.hasB, .slice p f.pcs.length f.pcs.length, .int .i64 f.width]) ∧ Hid (PcsAt w' p f.pcs) ∧ Below w.heap.size w w' := by
  cases f
  case r =>
    simp only [Fm.str]
    go_enter Tryd.func56, Tryd.ntmps56
    go_wp2_with fail
    exact bodyPost_ret (results_cell_row Tryd.results56 _ _ _ _ _ _ _ rfl (heap_alloc_new _ _) Tryd.underlying93 rfl fields_size) rfl ⟨none, rfl, pcsAt_nil _ _, (Below.refl _ _).alloc (Nat.le_refl _) _⟩
  case x =>
    simp only [Fm.str]
    go_enter Tryd.func56, Tryd.ntmps56
    go_wp2_with fail
    exact bodyPost_ret (results_cell_row Tryd.results56 _ _ _ _ _ _ _ rfl (heap_alloc_new _ _) Tryd.underlying93 rfl fields_size) rfl ⟨none, rfl, pcsAt_nil _ _, (Below.refl _ _).alloc (Nat.le_refl _) _⟩
  all_goals (
    simp only [Fm.str]
    go_enter Tryd.func56, Tryd.ntmps56
    go_wp2_with fail
    exact bodyPost_ret (results_cell_row Tryd.results56 _ _ _ _ _ _ _ rfl (heap_alloc2_old _ _ _) Tryd.underlying93 rfl fields_size) rfl ⟨some ⟨w.heap.size + 1, 0, none⟩, rfl, pcsAt_mk _ _ _ _ _ rfl, ((Below.refl _ _).alloc (Nat.le_refl _) _).alloc (by simp) _⟩)

end Go.Proofs.YtjjpklalihaanaaDoor
