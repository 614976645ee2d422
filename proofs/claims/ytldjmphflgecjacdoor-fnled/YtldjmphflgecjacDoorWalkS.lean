/- The model's Effective and Entry, and what a walk that comes to nothing hands back. -/
import Derived.Test.YtldjmphflgecjacDoorWalkP
import Derived.Test.YtldjmphflgecjacDoorTrapS
namespace Go.Proofs.YtldjmphflgecjacDoor
open Go.RowKit
set_option linter.unusedVariables false

theorem found_size : (Tryd.prog.info? 69).map (·.size) = some 5 := by kernel_rfl

theorem old_row (w : World) (o p : Obj) : ((w.alloc o).alloc p).heap[w.heap.size]? = some o := (Below.heap_alloc _ _ _ (by simp)).trans (heap_alloc_new _ _)

theorem l7Page_any (k : Int) (h1 : 1 ≤ k) (h3 : k ≤ 3) (w : World) : Calls Tryd.prog 75 #[.int .i64 k] w fun e w' => e = .returned (.agg (pageF k).cells) ∧ Below w.heap.size w w' := by
  have hk : k = 1 ∨ k = 2 ∨ k = 3 := by omega
  rcases hk with rfl | rfl | rfl
  · have F : (pageF 1).cells = #[.int .u64 0, .int .i64 12, .bool false, .int .u64 0, .int .u64 0] := rfl
    rw [F]
    go_enter Tryd.func75, Tryd.ntmps75
    go_wp2_with fail
    exact bodyPost_ret (results_cell_row Tryd.results75 _ _ _ _ _ _ _ rfl (old_row _ _ _) Tryd.underlying69 rfl found_size) rfl ⟨rfl, ((Below.refl _ _).alloc (Nat.le_refl _) _).alloc (by simp) _⟩
  · have F : (pageF 2).cells = #[.int .u64 0, .int .i64 13, .bool false, .int .u64 0, .int .u64 0] := rfl
    rw [F]
    go_enter Tryd.func75, Tryd.ntmps75
    go_wp2_with fail
    exact bodyPost_ret (results_cell_row Tryd.results75 _ _ _ _ _ _ _ rfl (old_row _ _ _) Tryd.underlying69 rfl found_size) rfl ⟨rfl, ((Below.refl _ _).alloc (Nat.le_refl _) _).alloc (by simp) _⟩
  · have F : (pageF 3).cells = #[.int .u64 0, .int .i64 15, .bool false, .int .u64 0, .int .u64 0] := rfl
    rw [F]
    go_enter Tryd.func75, Tryd.ntmps75
    go_wp2_with fail
    exact bodyPost_ret (results_cell_row Tryd.results75 _ _ _ _ _ _ _ rfl (old_row _ _ _) Tryd.underlying69 rfl found_size) rfl ⟨rfl, ((Below.refl _ _).alloc (Nat.le_refl _) _).alloc (by simp) _⟩

theorem l7Fault_any (k : Int) (h1 : 1 ≤ k) (h3 : k ≤ 3) (w : World) : Calls Tryd.prog 50 #[.int .i64 k] w fun e w' => e = .returned (.agg (faultF k).cells) ∧ Below w.heap.size w w' := by
  have hk : k = 1 ∨ k = 2 ∨ k = 3 := by omega
  rcases hk with rfl | rfl | rfl
  · have F : (faultF 1).cells = #[.int .u64 0, .int .i64 1, .bool false, .int .u64 0, .int .u64 0] := rfl
    rw [F]
    go_enter Tryd.func50, Tryd.ntmps50
    go_wp2_with fail
    exact bodyPost_ret (results_cell_row Tryd.results50 _ _ _ _ _ _ _ rfl (old_row _ _ _) Tryd.underlying69 rfl found_size) rfl ⟨rfl, ((Below.refl _ _).alloc (Nat.le_refl _) _).alloc (by simp) _⟩
  · have F : (faultF 2).cells = #[.int .u64 0, .int .i64 5, .bool false, .int .u64 0, .int .u64 0] := rfl
    rw [F]
    go_enter Tryd.func50, Tryd.ntmps50
    go_wp2_with fail
    exact bodyPost_ret (results_cell_row Tryd.results50 _ _ _ _ _ _ _ rfl (old_row _ _ _) Tryd.underlying69 rfl found_size) rfl ⟨rfl, ((Below.refl _ _).alloc (Nat.le_refl _) _).alloc (by simp) _⟩
  · have F : (faultF 3).cells = #[.int .u64 0, .int .i64 7, .bool false, .int .u64 0, .int .u64 0] := rfl
    rw [F]
    go_enter Tryd.func50, Tryd.ntmps50
    go_wp2_with fail
    exact bodyPost_ret (results_cell_row Tryd.results50 _ _ _ _ _ _ _ rfl (old_row _ _ _) Tryd.underlying69 rfl found_size) rfl ⟨rfl, ((Below.refl _ _).alloc (Nat.le_refl _) _).alloc (by simp) _⟩

/-- The privilege that an access goes by. -/
def effV (l : List Int) (p kind : Int) : Int := if ((kind != 1) && (bitAt (l.getD 0 0) 17 == 1)) = true then wrap64 (bits .and .u64 (l.getD 0 0 / 2048) 3) else p

def effB (n : Nat) (l : List Int) (p kind : Int) : Int := if (legalB n l p && decide (1 ≤ kind ∧ kind ≤ 3)) = true then effV l p kind else -1

/-- A table's entry. -/
def entryV (f b : Int) : Int := if (f / 17592186044416 != 0) = true then 0 else if decide (0 ≤ b ∧ b ≤ 255) = true then bits .or .u64 (IntKind.u64.wrap (f * 1024)) (IntKind.u64.wrap b) else 0

theorem specEntry_any (f b : Int) (w : World) : Calls Tryd.prog 64 #[.int .u64 f, .int .i64 b] w fun e w' => e = .returned (.int .u64 (entryV f b)) ∧ w' = w := by
  have HI : Hid (∀ w, Calls Tryd.prog 60 #[.int .i64 b, .int .i64 0, .int .i64 255] w fun e w' => e = .returned (.bool (decide (0 ≤ b ∧ b ≤ 255))) ∧ w' = w) := l1In_d b 0 255
  have F : Hid (entryV f b = if (f / 17592186044416 != 0) = true then 0 else if decide (0 ≤ b ∧ b ≤ 255) = true then bits .or .u64 (IntKind.u64.wrap (f * 1024)) (IntKind.u64.wrap b) else 0) := (rfl : entryV f b = _)
  generalize entryV f b = v at *
  generalize decide (0 ≤ b ∧ b ≤ 255) = q at *
  cases d : (f / 17592186044416 != 0) with
  | true =>
    have F2 : Hid (v = 0) := by show v = 0; rw [F.out, d]; exact if_pos rfl
    clear F
    go_enter Tryd.func64, Tryd.ntmps64
    go_wp2_with fail
    go_ret
    exact ⟨by rw [F2.out]; rfl, rfl⟩
  | false =>
    have F1 : v = if q = true then bits .or .u64 (IntKind.u64.wrap (f * 1024)) (IntKind.u64.wrap b) else 0 := by rw [F.out, d]; exact if_neg (by decide)
    clear F
    cases q with
    | false =>
      have F2 : Hid (v = 0) := F1.trans (if_neg (by decide))
      clear F1
      go_enter Tryd.func64, Tryd.ntmps64
      go_wp2_with fail
      refine (HI.out _).mono ?_
      rintro e wx ⟨rfl, hwx⟩
      have hwy := hwx.symm
      subst hwy
      go_wp2_with fail
      go_ret
      exact ⟨by rw [F2.out]; rfl, rfl⟩
    | true =>
      have F2 : Hid (v = bits .or .u64 (IntKind.u64.wrap (f * 1024)) (IntKind.u64.wrap b)) := F1.trans (if_pos rfl)
      clear F1
      go_enter Tryd.func64, Tryd.ntmps64
      go_wp2_with fail
      refine (HI.out _).mono ?_
      rintro e wx ⟨rfl, hwx⟩
      have hwy := hwx.symm
      subst hwy
      go_wp2_with fail
      go_ret
      exact ⟨by rw [F2.out]; rfl, rfl⟩

end Go.Proofs.YtldjmphflgecjacDoor
