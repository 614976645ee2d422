/- The model's Effective and Entry, and what a walk that comes to nothing hands back. -/
import Derived.Test.YtldjmphflgecjajDoorWalkP
import Derived.Test.YtldjmphflgecjajDoorTrapS
namespace Go.Proofs.YtldjmphflgecjajDoor
open Go.RowKit
set_option linter.unusedVariables false

theorem found_size : (Tryd.prog.info? 55).map (·.size) = some 5 := by kernel_rfl

theorem old_row (w : World) (o p : Obj) : ((w.alloc o).alloc p).heap[w.heap.size]? = some o := (Below.heap_alloc _ _ _ (by simp)).trans (heap_alloc_new _ _)

theorem l7Page_any (k : Int) (h1 : 1 ≤ k) (h3 : k ≤ 3) (w : World) : Calls Tryd.prog 57 #[.int .i64 k] w fun e w' => e = .returned (.agg (pageF k).cells) ∧ Below w.heap.size w w' := by
  have hk : k = 1 ∨ k = 2 ∨ k = 3 := by omega
  rcases hk with rfl | rfl | rfl
  · have F : (pageF 1).cells = #[.int .u64 0, .int .i64 12, .bool false, .int .u64 0, .int .u64 0] := rfl
    rw [F]
    go_enter Tryd.func57, Tryd.ntmps57
    go_wp2_with fail
    exact bodyPost_ret (results_cell_row Tryd.results57 _ _ _ _ _ _ _ rfl (old_row _ _ _) Tryd.underlying55 rfl found_size) rfl ⟨rfl, ((Below.refl _ _).alloc (Nat.le_refl _) _).alloc (by simp) _⟩
  · have F : (pageF 2).cells = #[.int .u64 0, .int .i64 13, .bool false, .int .u64 0, .int .u64 0] := rfl
    rw [F]
    go_enter Tryd.func57, Tryd.ntmps57
    go_wp2_with fail
    exact bodyPost_ret (results_cell_row Tryd.results57 _ _ _ _ _ _ _ rfl (old_row _ _ _) Tryd.underlying55 rfl found_size) rfl ⟨rfl, ((Below.refl _ _).alloc (Nat.le_refl _) _).alloc (by simp) _⟩
  · have F : (pageF 3).cells = #[.int .u64 0, .int .i64 15, .bool false, .int .u64 0, .int .u64 0] := rfl
    rw [F]
    go_enter Tryd.func57, Tryd.ntmps57
    go_wp2_with fail
    exact bodyPost_ret (results_cell_row Tryd.results57 _ _ _ _ _ _ _ rfl (old_row _ _ _) Tryd.underlying55 rfl found_size) rfl ⟨rfl, ((Below.refl _ _).alloc (Nat.le_refl _) _).alloc (by simp) _⟩

theorem l7Fault_any (k : Int) (h1 : 1 ≤ k) (h3 : k ≤ 3) (w : World) : Calls Tryd.prog 39 #[.int .i64 k] w fun e w' => e = .returned (.agg (faultF k).cells) ∧ Below w.heap.size w w' := by
  have hk : k = 1 ∨ k = 2 ∨ k = 3 := by omega
  rcases hk with rfl | rfl | rfl
  · have F : (faultF 1).cells = #[.int .u64 0, .int .i64 1, .bool false, .int .u64 0, .int .u64 0] := rfl
    rw [F]
    go_enter Tryd.func39, Tryd.ntmps39
    go_wp2_with fail
    exact bodyPost_ret (results_cell_row Tryd.results39 _ _ _ _ _ _ _ rfl (old_row _ _ _) Tryd.underlying55 rfl found_size) rfl ⟨rfl, ((Below.refl _ _).alloc (Nat.le_refl _) _).alloc (by simp) _⟩
  · have F : (faultF 2).cells = #[.int .u64 0, .int .i64 5, .bool false, .int .u64 0, .int .u64 0] := rfl
    rw [F]
    go_enter Tryd.func39, Tryd.ntmps39
    go_wp2_with fail
    exact bodyPost_ret (results_cell_row Tryd.results39 _ _ _ _ _ _ _ rfl (old_row _ _ _) Tryd.underlying55 rfl found_size) rfl ⟨rfl, ((Below.refl _ _).alloc (Nat.le_refl _) _).alloc (by simp) _⟩
  · have F : (faultF 3).cells = #[.int .u64 0, .int .i64 7, .bool false, .int .u64 0, .int .u64 0] := rfl
    rw [F]
    go_enter Tryd.func39, Tryd.ntmps39
    go_wp2_with fail
    exact bodyPost_ret (results_cell_row Tryd.results39 _ _ _ _ _ _ _ rfl (old_row _ _ _) Tryd.underlying55 rfl found_size) rfl ⟨rfl, ((Below.refl _ _).alloc (Nat.le_refl _) _).alloc (by simp) _⟩

/-- The privilege that an access goes by. -/
def effV (l : List Int) (p kind : Int) : Int := if ((kind != 1) && (bitAt (l.getD 0 0) 17 == 1)) = true then wrap64 (bits .and .u64 (l.getD 0 0 / 2048) 3) else p

def effB (n : Nat) (l : List Int) (p kind : Int) : Int := if (legalB n l p && decide (1 ≤ kind ∧ kind ≤ 3)) = true then effV l p kind else -1

/-- A table's entry. -/
def entryV (f b : Int) : Int := if (f / 17592186044416 != 0) = true then 0 else if decide (0 ≤ b ∧ b ≤ 255) = true then bits .or .u64 (IntKind.u64.wrap (f * 1024)) (IntKind.u64.wrap b) else 0

end Go.Proofs.YtldjmphflgecjajDoor
