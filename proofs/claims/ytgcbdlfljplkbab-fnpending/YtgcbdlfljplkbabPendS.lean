/- The model's Pending. -/
import Derived.Test.YtgcbdlfljplkbabTrapS
import Derived.Test.YtgcbdlfljplkbabPendP
namespace Go.Proofs.Ytgcbdlfljplkbab
open Go.RowKit
set_option linter.unusedVariables false

theorem firstIn_yes (x : Int) (n : Nat) (r : List Nat) (h : (bitAt x n == 1) = true) : firstIn x (n :: r) = n := by
  rw [firstIn, h]

theorem firstIn_no (x : Int) (n : Nat) (r : List Nat) (h : (bitAt x n == 1) = false) : firstIn x (n :: r) = firstIn x r := by
  rw [firstIn, h]

theorem ranks_drop (k : Nat) (h : k < 6) : ranks.drop k = ranks.getD k 0 :: ranks.drop (k + 1) := by
  have e : k = 0 ∨ k = 1 ∨ k = 2 ∨ k = 3 ∨ k = 4 ∨ k = 5 := by omega
  rcases e with rfl | rfl | rfl | rfl | rfl | rfl <;> rfl

theorem ranks_lt (k : Nat) : ranks.getD k 0 < 64 := by
  by_cases h : k < 6
  · have e : k = 0 ∨ k = 1 ∨ k = 2 ∨ k = 3 ∨ k = 4 ∨ k = 5 := by omega
    rcases e with rfl | rfl | rfl | rfl | rfl | rfl <;> decide
  · have : ranks.getD k 0 = 0 := by simp [ranks, List.getD, List.getElem?_eq_none (show [11, 3, 7, 9, 1, 5].length ≤ k by simp; omega)]
    omega

theorem ranks_yes (x : Int) (k : Nat) (h : k < 6) (hf : firstIn x (ranks.drop k) = firstV x) (hb : (bitAt x (ranks.getD k 0) == 1) = true) : firstV x = (ranks.getD k 0 : Nat) := by
  rw [← hf, ranks_drop k h, firstIn, hb]

theorem ranks_no (x : Int) (k : Nat) (h : k < 6) (hf : firstIn x (ranks.drop k) = firstV x) (hb : (bitAt x (ranks.getD k 0) == 1) = false) : firstIn x (ranks.drop (k + 1)) = firstV x := by
  rw [← hf, ranks_drop k h, firstIn, hb]

def rankCells : Array Value := #[.int .i64 11, .int .i64 3, .int .i64 7, .int .i64 9, .int .i64 1, .int .i64 5]

theorem rank_cell (k : Nat) (h : k < 6) : rankCells[k]? = some (.int .i64 (ranks.getD k 0 : Nat)) := by
  have e : k = 0 ∨ k = 1 ∨ k = 2 ∨ k = 3 ∨ k = 4 ∨ k = 5 := by omega
  rcases e with rfl | rfl | rfl | rfl | rfl | rfl <;> rfl

set_option maxHeartbeats 1600000 in
theorem l5First_any (x : Int) (w : World) : Calls Try.prog 94 #[.int .u64 x] w fun e w' => e = .returned (.int .i64 (firstV x)) ∧ Below w.heap.size w w' := by
  go_enter Try.func94, Try.ntmps94
  go_wp2_with fail
  have B1 : Below w.heap.size w (w.alloc (Obj.cells #[.int .i64 11, .int .i64 3, .int .i64 7, .int .i64 9, .int .i64 1, .int .i64 5] 2)) := (Below.refl _ _).alloc (Nat.le_refl _) _
  have C1 : Hid (∀ k, k < 6 → (w.alloc (Obj.cells #[.int .i64 11, .int .i64 3, .int .i64 7, .int .i64 9, .int .i64 1, .int .i64 5] 2)).cell? ⟨w.heap.size, k, none⟩ = some (.int .i64 (ranks.getD k 0 : Nat))) := fun k hk => (cell_of_row _ _ _ _ _ _ (heap_alloc_new _ _)).trans (rank_cell k hk)
  generalize w.alloc (Obj.cells #[.int .i64 11, .int .i64 3, .int .i64 7, .int .i64 9, .int .i64 1, .int .i64 5] 2) = w1 at *
  go_loopw [4] (fun i wr => ∃ k : Nat, k ≤ 6 ∧ i = .int .i64 k ∧ Hid (firstIn x (ranks.drop k) = firstV x) ∧ wr = w1)
    (fun i _ => 6 - (intOf i).toNat)
  case atStart => exact ⟨0, by omega, rfl, (rfl : firstIn x (ranks.drop 0) = firstV x), rfl⟩
  case round =>
    obtain ⟨k, hk, rfl, hf, rfl⟩ := hrel
    by_cases hlt : k < 6
    · have hc := C1.out k hlt
      have YES : Hid ((bitAt x (ranks.getD k 0) == 1) = true → Hid (firstV x = (ranks.getD k 0 : Nat))) := fun h => ranks_yes x k hlt hf.out h
      have NO : Hid ((bitAt x (ranks.getD k 0) == 1) = false → Hid (firstIn x (ranks.drop (k + 1)) = firstV x)) := fun h => ranks_no x k hlt hf.out h
      have hr := ranks_lt k
      generalize ranks.getD k 0 = r at *
      have HB : Hid (∀ w, Calls Try.prog 92 #[.int .u64 x, .int .u64 r] w fun e w' => e = .returned (.int .u64 (bitAt x r)) ∧ w' = w) := fun w => l5Bit_any x r hr w
      have hw : IntKind.u64.wrap (r : Int) = r := by rw [IntKind.wrap_u64]; omega
      have dk : decide ((k : Int) < 6) = true := by simp; omega
      have hk0 : (0 : Int) ≤ (k : Int) := by omega
      have hk1 : (k : Int) < 6 := by omega
      clear hr hf
      generalize bitAt x r = y at *
      cases d : (y == 1) with
      | true =>
        have F := YES.out d
        clear YES NO
        go_wp2_with fail
        refine (HB.out _).mono ?_
        rintro e wx ⟨rfl, hwx⟩
        have hwy := hwx.symm
        subst hwy
        go_wp2_with fail
        go_ret
        exact ⟨by rw [F.out]; rfl, B1⟩
      | false =>
        have F := NO.out d
        clear YES NO
        go_wp2_with fail
        refine (HB.out _).mono ?_
        rintro e wx ⟨rfl, hwx⟩
        have hwy := hwx.symm
        subst hwy
        go_wp2_with fail
        go_roundw
        case rel => exact ⟨k + 1, by omega, by go_num, F, trivial⟩
        case measure => simp [intOf]; omega
    · have hk2 : k = 6 := by omega
      subst hk2
      have F : Hid (firstV x = -1) := hf.out.symm
      go_wp2_with fail
      go_ret
      exact ⟨by rw [F.out]; rfl, B1⟩

end Go.Proofs.Ytgcbdlfljplkbab
