/- The model's Pending. By tools/genPend.py. -/
import Derived.Test.YtgcbdlfljplkbabPendS
namespace Go.Proofs.Ytgcbdlfljplkbab
open Go.RowKit
set_option linter.unusedVariables false

theorem sl_at {w : World} {b off : Nat} {l : List Int} (h : Sl .u64 w (some ⟨b, off, none⟩) l) (k : Nat) (hk : k < l.length) : b < w.heap.size ∧ w.cell? ⟨b, off + k, none⟩ = some (.int .u64 (l.getD k 0)) := by
  obtain ⟨b', off', e, hb, hc⟩ := h k hk
  simp only [Option.some.injEq, Addr.mk.injEq, and_true] at e
  obtain ⟨rfl, rfl⟩ := e
  exact ⟨hb, hc⟩

set_option maxHeartbeats 1600000 in
theorem pend_0y (b off cap : Nat) (l : List Int) (w : World) (hz : l.length = 22) (hs : Sl .u64 w (some ⟨b, off, none⟩) l) (d1 : decide (firstV (bits .andNot .u64 (bits .and .u64 (l.getD 9 0) (l.getD 3 0)) (l.getD 2 0)) ≥ 0) = true) :
    Calls Try.prog 68 #[.slice (some ⟨b, off, none⟩) 22 cap, .int .i64 0] w fun e w' => e = .returned (.int .i64 (pendV l 0)) ∧ Below w.heap.size w w' := by
  have F : Hid (pendV l 0 = firstV (bits .andNot .u64 (bits .and .u64 (l.getD 9 0) (l.getD 3 0)) (l.getD 2 0))) := by show _ = _; unfold pendV pendS hearM hearS waitV; rw [d1]; try rfl
  obtain ⟨hb, c0⟩ := sl_at hs 0 (by omega)
  have c0 : w.cell? ⟨b, off, none⟩ = some (.int .u64 (l.getD 0 0)) := c0
  have c2 := (sl_at hs 2 (by omega)).2
  have c3 := (sl_at hs 3 (by omega)).2
  have c9 := (sl_at hs 9 (by omega)).2
  have F1 : Hid (∀ w, Calls Try.prog 94 #[.int .u64 (bits .andNot .u64 (bits .and .u64 (l.getD 9 0) (l.getD 3 0)) (l.getD 2 0))] w fun e w' => e = .returned (.int .i64 (firstV (bits .andNot .u64 (bits .and .u64 (l.getD 9 0) (l.getD 3 0)) (l.getD 2 0)))) ∧ Below w.heap.size w w') := fun w => l5First_any _ w
  have F2 : Hid (∀ w, Calls Try.prog 94 #[.int .u64 (bits .and .u64 (bits .and .u64 (l.getD 9 0) (l.getD 3 0)) (l.getD 2 0))] w fun e w' => e = .returned (.int .i64 (firstV (bits .and .u64 (bits .and .u64 (l.getD 9 0) (l.getD 3 0)) (l.getD 2 0)))) ∧ Below w.heap.size w w') := fun w => l5First_any _ w
  have H1 : Hid (∀ w, Calls Try.prog 92 #[.int .u64 (l.getD 0 0), .int .u64 1] w fun e w' => e = .returned (.int .u64 (bitAt (l.getD 0 0) 1)) ∧ w' = w) := fun w => l5Bit1 _ w
  have H3 : Hid (∀ w, Calls Try.prog 92 #[.int .u64 (l.getD 0 0), .int .u64 3] w fun e w' => e = .returned (.int .u64 (bitAt (l.getD 0 0) 3)) ∧ w' = w) := fun w => l5Bit3 _ w
  generalize pendV l 0 = pv at *
  generalize bitAt (l.getD 0 0) 1 = y1 at *
  generalize bitAt (l.getD 0 0) 3 = y3 at *
  generalize firstV (bits .andNot .u64 (bits .and .u64 (l.getD 9 0) (l.getD 3 0)) (l.getD 2 0)) = f1 at *
  generalize firstV (bits .and .u64 (bits .and .u64 (l.getD 9 0) (l.getD 3 0)) (l.getD 2 0)) = f2 at *
  generalize l.getD 0 0 = x0 at *
  generalize l.getD 2 0 = x2 at *
  generalize l.getD 3 0 = x3 at *
  generalize l.getD 9 0 = x9 at *
  clear hs hz
  go_enter Try.func68, Try.ntmps68
  go_wp2_with fail
  go_quiet (fail)
  go_wp2_with fail
  refine (F1.out _).mono ?_
  rintro e w1 ⟨rfl, hb1⟩
  have c01 := (hb1.cell (by exact hb)).trans c0
  have c21 := (hb1.cell (by exact hb)).trans c2
  go_wp2_with fail
  go_ret
  exact ⟨by rw [F.out]; rfl, below_trans (w1 := w.drewN nq) ⟨rfl, rfl, rfl, Nat.le_refl _, fun _ _ => rfl⟩ hb1⟩

set_option maxHeartbeats 1600000 in
theorem pend_0n (b off cap : Nat) (l : List Int) (w : World) (hz : l.length = 22) (hs : Sl .u64 w (some ⟨b, off, none⟩) l) (d1 : decide (firstV (bits .andNot .u64 (bits .and .u64 (l.getD 9 0) (l.getD 3 0)) (l.getD 2 0)) ≥ 0) = false) :
    Calls Try.prog 68 #[.slice (some ⟨b, off, none⟩) 22 cap, .int .i64 0] w fun e w' => e = .returned (.int .i64 (pendV l 0)) ∧ Below w.heap.size w w' := by
  have F : Hid (pendV l 0 = firstV (bits .and .u64 (bits .and .u64 (l.getD 9 0) (l.getD 3 0)) (l.getD 2 0))) := by show _ = _; unfold pendV pendS hearM hearS waitV; rw [d1]; try rfl
  obtain ⟨hb, c0⟩ := sl_at hs 0 (by omega)
  have c0 : w.cell? ⟨b, off, none⟩ = some (.int .u64 (l.getD 0 0)) := c0
  have c2 := (sl_at hs 2 (by omega)).2
  have c3 := (sl_at hs 3 (by omega)).2
  have c9 := (sl_at hs 9 (by omega)).2
  have F1 : Hid (∀ w, Calls Try.prog 94 #[.int .u64 (bits .andNot .u64 (bits .and .u64 (l.getD 9 0) (l.getD 3 0)) (l.getD 2 0))] w fun e w' => e = .returned (.int .i64 (firstV (bits .andNot .u64 (bits .and .u64 (l.getD 9 0) (l.getD 3 0)) (l.getD 2 0)))) ∧ Below w.heap.size w w') := fun w => l5First_any _ w
  have F2 : Hid (∀ w, Calls Try.prog 94 #[.int .u64 (bits .and .u64 (bits .and .u64 (l.getD 9 0) (l.getD 3 0)) (l.getD 2 0))] w fun e w' => e = .returned (.int .i64 (firstV (bits .and .u64 (bits .and .u64 (l.getD 9 0) (l.getD 3 0)) (l.getD 2 0)))) ∧ Below w.heap.size w w') := fun w => l5First_any _ w
  have H1 : Hid (∀ w, Calls Try.prog 92 #[.int .u64 (l.getD 0 0), .int .u64 1] w fun e w' => e = .returned (.int .u64 (bitAt (l.getD 0 0) 1)) ∧ w' = w) := fun w => l5Bit1 _ w
  have H3 : Hid (∀ w, Calls Try.prog 92 #[.int .u64 (l.getD 0 0), .int .u64 3] w fun e w' => e = .returned (.int .u64 (bitAt (l.getD 0 0) 3)) ∧ w' = w) := fun w => l5Bit3 _ w
  generalize pendV l 0 = pv at *
  generalize bitAt (l.getD 0 0) 1 = y1 at *
  generalize bitAt (l.getD 0 0) 3 = y3 at *
  generalize firstV (bits .andNot .u64 (bits .and .u64 (l.getD 9 0) (l.getD 3 0)) (l.getD 2 0)) = f1 at *
  generalize firstV (bits .and .u64 (bits .and .u64 (l.getD 9 0) (l.getD 3 0)) (l.getD 2 0)) = f2 at *
  generalize l.getD 0 0 = x0 at *
  generalize l.getD 2 0 = x2 at *
  generalize l.getD 3 0 = x3 at *
  generalize l.getD 9 0 = x9 at *
  clear hs hz
  go_enter Try.func68, Try.ntmps68
  go_wp2_with fail
  go_quiet (fail)
  go_wp2_with fail
  refine (F1.out _).mono ?_
  rintro e w1 ⟨rfl, hb1⟩
  have c01 := (hb1.cell (by exact hb)).trans c0
  have c21 := (hb1.cell (by exact hb)).trans c2
  go_wp2_with fail
  refine (F2.out _).mono ?_
  rintro e w2 ⟨rfl, hb2⟩
  go_wp2_with fail
  go_ret
  exact ⟨by rw [F.out]; rfl, below_trans (below_trans (w1 := w.drewN nq) ⟨rfl, rfl, rfl, Nat.le_refl _, fun _ _ => rfl⟩ hb1) hb2⟩

set_option maxHeartbeats 1600000 in
theorem pend_1y (b off cap : Nat) (l : List Int) (w : World) (hz : l.length = 22) (hs : Sl .u64 w (some ⟨b, off, none⟩) l) (d1 : decide (firstV (bits .andNot .u64 (bits .and .u64 (l.getD 9 0) (l.getD 3 0)) (l.getD 2 0)) ≥ 0) = true) :
    Calls Try.prog 68 #[.slice (some ⟨b, off, none⟩) 22 cap, .int .i64 1] w fun e w' => e = .returned (.int .i64 (pendV l 1)) ∧ Below w.heap.size w w' := by
  have F : Hid (pendV l 1 = firstV (bits .andNot .u64 (bits .and .u64 (l.getD 9 0) (l.getD 3 0)) (l.getD 2 0))) := by show _ = _; unfold pendV pendS hearM hearS waitV; rw [d1]; try rfl
  obtain ⟨hb, c0⟩ := sl_at hs 0 (by omega)
  have c0 : w.cell? ⟨b, off, none⟩ = some (.int .u64 (l.getD 0 0)) := c0
  have c2 := (sl_at hs 2 (by omega)).2
  have c3 := (sl_at hs 3 (by omega)).2
  have c9 := (sl_at hs 9 (by omega)).2
  have F1 : Hid (∀ w, Calls Try.prog 94 #[.int .u64 (bits .andNot .u64 (bits .and .u64 (l.getD 9 0) (l.getD 3 0)) (l.getD 2 0))] w fun e w' => e = .returned (.int .i64 (firstV (bits .andNot .u64 (bits .and .u64 (l.getD 9 0) (l.getD 3 0)) (l.getD 2 0)))) ∧ Below w.heap.size w w') := fun w => l5First_any _ w
  have F2 : Hid (∀ w, Calls Try.prog 94 #[.int .u64 (bits .and .u64 (bits .and .u64 (l.getD 9 0) (l.getD 3 0)) (l.getD 2 0))] w fun e w' => e = .returned (.int .i64 (firstV (bits .and .u64 (bits .and .u64 (l.getD 9 0) (l.getD 3 0)) (l.getD 2 0)))) ∧ Below w.heap.size w w') := fun w => l5First_any _ w
  have H1 : Hid (∀ w, Calls Try.prog 92 #[.int .u64 (l.getD 0 0), .int .u64 1] w fun e w' => e = .returned (.int .u64 (bitAt (l.getD 0 0) 1)) ∧ w' = w) := fun w => l5Bit1 _ w
  have H3 : Hid (∀ w, Calls Try.prog 92 #[.int .u64 (l.getD 0 0), .int .u64 3] w fun e w' => e = .returned (.int .u64 (bitAt (l.getD 0 0) 3)) ∧ w' = w) := fun w => l5Bit3 _ w
  generalize pendV l 1 = pv at *
  generalize bitAt (l.getD 0 0) 1 = y1 at *
  generalize bitAt (l.getD 0 0) 3 = y3 at *
  generalize firstV (bits .andNot .u64 (bits .and .u64 (l.getD 9 0) (l.getD 3 0)) (l.getD 2 0)) = f1 at *
  generalize firstV (bits .and .u64 (bits .and .u64 (l.getD 9 0) (l.getD 3 0)) (l.getD 2 0)) = f2 at *
  generalize l.getD 0 0 = x0 at *
  generalize l.getD 2 0 = x2 at *
  generalize l.getD 3 0 = x3 at *
  generalize l.getD 9 0 = x9 at *
  clear hs hz
  go_enter Try.func68, Try.ntmps68
  go_wp2_with fail
  go_quiet (fail)
  go_wp2_with fail
  refine (F1.out _).mono ?_
  rintro e w1 ⟨rfl, hb1⟩
  have c01 := (hb1.cell (by exact hb)).trans c0
  have c21 := (hb1.cell (by exact hb)).trans c2
  go_wp2_with fail
  go_ret
  exact ⟨by rw [F.out]; rfl, below_trans (w1 := w.drewN nq) ⟨rfl, rfl, rfl, Nat.le_refl _, fun _ _ => rfl⟩ hb1⟩

set_option maxHeartbeats 1600000 in
theorem pend_1n1 (b off cap : Nat) (l : List Int) (w : World) (hz : l.length = 22) (hs : Sl .u64 w (some ⟨b, off, none⟩) l) (d1 : decide (firstV (bits .andNot .u64 (bits .and .u64 (l.getD 9 0) (l.getD 3 0)) (l.getD 2 0)) ≥ 0) = false) (d2 : (bitAt (l.getD 0 0) 1 == 1) = true) :
    Calls Try.prog 68 #[.slice (some ⟨b, off, none⟩) 22 cap, .int .i64 1] w fun e w' => e = .returned (.int .i64 (pendV l 1)) ∧ Below w.heap.size w w' := by
  have F : Hid (pendV l 1 = firstV (bits .and .u64 (bits .and .u64 (l.getD 9 0) (l.getD 3 0)) (l.getD 2 0))) := by show _ = _; unfold pendV pendS hearM hearS waitV; rw [d1, d2]; try rfl
  obtain ⟨hb, c0⟩ := sl_at hs 0 (by omega)
  have c0 : w.cell? ⟨b, off, none⟩ = some (.int .u64 (l.getD 0 0)) := c0
  have c2 := (sl_at hs 2 (by omega)).2
  have c3 := (sl_at hs 3 (by omega)).2
  have c9 := (sl_at hs 9 (by omega)).2
  have F1 : Hid (∀ w, Calls Try.prog 94 #[.int .u64 (bits .andNot .u64 (bits .and .u64 (l.getD 9 0) (l.getD 3 0)) (l.getD 2 0))] w fun e w' => e = .returned (.int .i64 (firstV (bits .andNot .u64 (bits .and .u64 (l.getD 9 0) (l.getD 3 0)) (l.getD 2 0)))) ∧ Below w.heap.size w w') := fun w => l5First_any _ w
  have F2 : Hid (∀ w, Calls Try.prog 94 #[.int .u64 (bits .and .u64 (bits .and .u64 (l.getD 9 0) (l.getD 3 0)) (l.getD 2 0))] w fun e w' => e = .returned (.int .i64 (firstV (bits .and .u64 (bits .and .u64 (l.getD 9 0) (l.getD 3 0)) (l.getD 2 0)))) ∧ Below w.heap.size w w') := fun w => l5First_any _ w
  have H1 : Hid (∀ w, Calls Try.prog 92 #[.int .u64 (l.getD 0 0), .int .u64 1] w fun e w' => e = .returned (.int .u64 (bitAt (l.getD 0 0) 1)) ∧ w' = w) := fun w => l5Bit1 _ w
  have H3 : Hid (∀ w, Calls Try.prog 92 #[.int .u64 (l.getD 0 0), .int .u64 3] w fun e w' => e = .returned (.int .u64 (bitAt (l.getD 0 0) 3)) ∧ w' = w) := fun w => l5Bit3 _ w
  generalize pendV l 1 = pv at *
  generalize bitAt (l.getD 0 0) 1 = y1 at *
  generalize bitAt (l.getD 0 0) 3 = y3 at *
  generalize firstV (bits .andNot .u64 (bits .and .u64 (l.getD 9 0) (l.getD 3 0)) (l.getD 2 0)) = f1 at *
  generalize firstV (bits .and .u64 (bits .and .u64 (l.getD 9 0) (l.getD 3 0)) (l.getD 2 0)) = f2 at *
  generalize l.getD 0 0 = x0 at *
  generalize l.getD 2 0 = x2 at *
  generalize l.getD 3 0 = x3 at *
  generalize l.getD 9 0 = x9 at *
  clear hs hz
  go_enter Try.func68, Try.ntmps68
  go_wp2_with fail
  go_quiet (fail)
  go_wp2_with fail
  refine (F1.out _).mono ?_
  rintro e w1 ⟨rfl, hb1⟩
  have c01 := (hb1.cell (by exact hb)).trans c0
  have c21 := (hb1.cell (by exact hb)).trans c2
  go_wp2_with fail
  refine (H1.out _).mono ?_
  rintro e wx ⟨rfl, hwx⟩
  have hwy := hwx.symm
  subst hwy
  go_wp2_with fail
  refine (F2.out _).mono ?_
  rintro e w2 ⟨rfl, hb2⟩
  go_wp2_with fail
  go_ret
  exact ⟨by rw [F.out]; rfl, below_trans (below_trans (w1 := w.drewN nq) ⟨rfl, rfl, rfl, Nat.le_refl _, fun _ _ => rfl⟩ hb1) hb2⟩

set_option maxHeartbeats 1600000 in
theorem pend_1n0 (b off cap : Nat) (l : List Int) (w : World) (hz : l.length = 22) (hs : Sl .u64 w (some ⟨b, off, none⟩) l) (d1 : decide (firstV (bits .andNot .u64 (bits .and .u64 (l.getD 9 0) (l.getD 3 0)) (l.getD 2 0)) ≥ 0) = false) (d2 : (bitAt (l.getD 0 0) 1 == 1) = false) :
    Calls Try.prog 68 #[.slice (some ⟨b, off, none⟩) 22 cap, .int .i64 1] w fun e w' => e = .returned (.int .i64 (pendV l 1)) ∧ Below w.heap.size w w' := by
  have F : Hid (pendV l 1 = -1) := by show _ = _; unfold pendV pendS hearM hearS waitV; rw [d1, d2]; try rfl
  obtain ⟨hb, c0⟩ := sl_at hs 0 (by omega)
  have c0 : w.cell? ⟨b, off, none⟩ = some (.int .u64 (l.getD 0 0)) := c0
  have c2 := (sl_at hs 2 (by omega)).2
  have c3 := (sl_at hs 3 (by omega)).2
  have c9 := (sl_at hs 9 (by omega)).2
  have F1 : Hid (∀ w, Calls Try.prog 94 #[.int .u64 (bits .andNot .u64 (bits .and .u64 (l.getD 9 0) (l.getD 3 0)) (l.getD 2 0))] w fun e w' => e = .returned (.int .i64 (firstV (bits .andNot .u64 (bits .and .u64 (l.getD 9 0) (l.getD 3 0)) (l.getD 2 0)))) ∧ Below w.heap.size w w') := fun w => l5First_any _ w
  have F2 : Hid (∀ w, Calls Try.prog 94 #[.int .u64 (bits .and .u64 (bits .and .u64 (l.getD 9 0) (l.getD 3 0)) (l.getD 2 0))] w fun e w' => e = .returned (.int .i64 (firstV (bits .and .u64 (bits .and .u64 (l.getD 9 0) (l.getD 3 0)) (l.getD 2 0)))) ∧ Below w.heap.size w w') := fun w => l5First_any _ w
  have H1 : Hid (∀ w, Calls Try.prog 92 #[.int .u64 (l.getD 0 0), .int .u64 1] w fun e w' => e = .returned (.int .u64 (bitAt (l.getD 0 0) 1)) ∧ w' = w) := fun w => l5Bit1 _ w
  have H3 : Hid (∀ w, Calls Try.prog 92 #[.int .u64 (l.getD 0 0), .int .u64 3] w fun e w' => e = .returned (.int .u64 (bitAt (l.getD 0 0) 3)) ∧ w' = w) := fun w => l5Bit3 _ w
  generalize pendV l 1 = pv at *
  generalize bitAt (l.getD 0 0) 1 = y1 at *
  generalize bitAt (l.getD 0 0) 3 = y3 at *
  generalize firstV (bits .andNot .u64 (bits .and .u64 (l.getD 9 0) (l.getD 3 0)) (l.getD 2 0)) = f1 at *
  generalize firstV (bits .and .u64 (bits .and .u64 (l.getD 9 0) (l.getD 3 0)) (l.getD 2 0)) = f2 at *
  generalize l.getD 0 0 = x0 at *
  generalize l.getD 2 0 = x2 at *
  generalize l.getD 3 0 = x3 at *
  generalize l.getD 9 0 = x9 at *
  clear hs hz
  go_enter Try.func68, Try.ntmps68
  go_wp2_with fail
  go_quiet (fail)
  go_wp2_with fail
  refine (F1.out _).mono ?_
  rintro e w1 ⟨rfl, hb1⟩
  have c01 := (hb1.cell (by exact hb)).trans c0
  have c21 := (hb1.cell (by exact hb)).trans c2
  go_wp2_with fail
  refine (H1.out _).mono ?_
  rintro e wx ⟨rfl, hwx⟩
  have hwy := hwx.symm
  subst hwy
  go_wp2_with fail
  go_ret
  exact ⟨by rw [F.out]; rfl, below_trans (w1 := w.drewN nq) ⟨rfl, rfl, rfl, Nat.le_refl _, fun _ _ => rfl⟩ hb1⟩

set_option maxHeartbeats 1600000 in
theorem pend_3y (b off cap : Nat) (l : List Int) (w : World) (hz : l.length = 22) (hs : Sl .u64 w (some ⟨b, off, none⟩) l) (d3 : (bitAt (l.getD 0 0) 3 == 1) = true) (d1 : decide (firstV (bits .andNot .u64 (bits .and .u64 (l.getD 9 0) (l.getD 3 0)) (l.getD 2 0)) ≥ 0) = true) :
    Calls Try.prog 68 #[.slice (some ⟨b, off, none⟩) 22 cap, .int .i64 3] w fun e w' => e = .returned (.int .i64 (pendV l 3)) ∧ Below w.heap.size w w' := by
  have F : Hid (pendV l 3 = firstV (bits .andNot .u64 (bits .and .u64 (l.getD 9 0) (l.getD 3 0)) (l.getD 2 0))) := by show _ = _; unfold pendV pendS hearM hearS waitV; rw [d3, d1]; try rfl
  obtain ⟨hb, c0⟩ := sl_at hs 0 (by omega)
  have c0 : w.cell? ⟨b, off, none⟩ = some (.int .u64 (l.getD 0 0)) := c0
  have c2 := (sl_at hs 2 (by omega)).2
  have c3 := (sl_at hs 3 (by omega)).2
  have c9 := (sl_at hs 9 (by omega)).2
  have F1 : Hid (∀ w, Calls Try.prog 94 #[.int .u64 (bits .andNot .u64 (bits .and .u64 (l.getD 9 0) (l.getD 3 0)) (l.getD 2 0))] w fun e w' => e = .returned (.int .i64 (firstV (bits .andNot .u64 (bits .and .u64 (l.getD 9 0) (l.getD 3 0)) (l.getD 2 0)))) ∧ Below w.heap.size w w') := fun w => l5First_any _ w
  have F2 : Hid (∀ w, Calls Try.prog 94 #[.int .u64 (bits .and .u64 (bits .and .u64 (l.getD 9 0) (l.getD 3 0)) (l.getD 2 0))] w fun e w' => e = .returned (.int .i64 (firstV (bits .and .u64 (bits .and .u64 (l.getD 9 0) (l.getD 3 0)) (l.getD 2 0)))) ∧ Below w.heap.size w w') := fun w => l5First_any _ w
  have H1 : Hid (∀ w, Calls Try.prog 92 #[.int .u64 (l.getD 0 0), .int .u64 1] w fun e w' => e = .returned (.int .u64 (bitAt (l.getD 0 0) 1)) ∧ w' = w) := fun w => l5Bit1 _ w
  have H3 : Hid (∀ w, Calls Try.prog 92 #[.int .u64 (l.getD 0 0), .int .u64 3] w fun e w' => e = .returned (.int .u64 (bitAt (l.getD 0 0) 3)) ∧ w' = w) := fun w => l5Bit3 _ w
  generalize pendV l 3 = pv at *
  generalize bitAt (l.getD 0 0) 1 = y1 at *
  generalize bitAt (l.getD 0 0) 3 = y3 at *
  generalize firstV (bits .andNot .u64 (bits .and .u64 (l.getD 9 0) (l.getD 3 0)) (l.getD 2 0)) = f1 at *
  generalize firstV (bits .and .u64 (bits .and .u64 (l.getD 9 0) (l.getD 3 0)) (l.getD 2 0)) = f2 at *
  generalize l.getD 0 0 = x0 at *
  generalize l.getD 2 0 = x2 at *
  generalize l.getD 3 0 = x3 at *
  generalize l.getD 9 0 = x9 at *
  clear hs hz
  go_enter Try.func68, Try.ntmps68
  go_wp2_with fail
  go_quiet (fail)
  go_wp2_with fail
  refine (H3.out _).mono ?_
  rintro e wx ⟨rfl, hwx⟩
  have hwy := hwx.symm
  subst hwy
  go_wp2_with fail
  refine (F1.out _).mono ?_
  rintro e w1 ⟨rfl, hb1⟩
  have c01 := (hb1.cell (by exact hb)).trans c0
  have c21 := (hb1.cell (by exact hb)).trans c2
  go_wp2_with fail
  go_ret
  exact ⟨by rw [F.out]; rfl, below_trans (w1 := w.drewN nq) ⟨rfl, rfl, rfl, Nat.le_refl _, fun _ _ => rfl⟩ hb1⟩

set_option maxHeartbeats 1600000 in
theorem pend_3n (b off cap : Nat) (l : List Int) (w : World) (hz : l.length = 22) (hs : Sl .u64 w (some ⟨b, off, none⟩) l) (d3 : (bitAt (l.getD 0 0) 3 == 1) = true) (d1 : decide (firstV (bits .andNot .u64 (bits .and .u64 (l.getD 9 0) (l.getD 3 0)) (l.getD 2 0)) ≥ 0) = false) :
    Calls Try.prog 68 #[.slice (some ⟨b, off, none⟩) 22 cap, .int .i64 3] w fun e w' => e = .returned (.int .i64 (pendV l 3)) ∧ Below w.heap.size w w' := by
  have F : Hid (pendV l 3 = -1) := by show _ = _; unfold pendV pendS hearM hearS waitV; rw [d3, d1]; try rfl
  obtain ⟨hb, c0⟩ := sl_at hs 0 (by omega)
  have c0 : w.cell? ⟨b, off, none⟩ = some (.int .u64 (l.getD 0 0)) := c0
  have c2 := (sl_at hs 2 (by omega)).2
  have c3 := (sl_at hs 3 (by omega)).2
  have c9 := (sl_at hs 9 (by omega)).2
  have F1 : Hid (∀ w, Calls Try.prog 94 #[.int .u64 (bits .andNot .u64 (bits .and .u64 (l.getD 9 0) (l.getD 3 0)) (l.getD 2 0))] w fun e w' => e = .returned (.int .i64 (firstV (bits .andNot .u64 (bits .and .u64 (l.getD 9 0) (l.getD 3 0)) (l.getD 2 0)))) ∧ Below w.heap.size w w') := fun w => l5First_any _ w
  have F2 : Hid (∀ w, Calls Try.prog 94 #[.int .u64 (bits .and .u64 (bits .and .u64 (l.getD 9 0) (l.getD 3 0)) (l.getD 2 0))] w fun e w' => e = .returned (.int .i64 (firstV (bits .and .u64 (bits .and .u64 (l.getD 9 0) (l.getD 3 0)) (l.getD 2 0)))) ∧ Below w.heap.size w w') := fun w => l5First_any _ w
  have H1 : Hid (∀ w, Calls Try.prog 92 #[.int .u64 (l.getD 0 0), .int .u64 1] w fun e w' => e = .returned (.int .u64 (bitAt (l.getD 0 0) 1)) ∧ w' = w) := fun w => l5Bit1 _ w
  have H3 : Hid (∀ w, Calls Try.prog 92 #[.int .u64 (l.getD 0 0), .int .u64 3] w fun e w' => e = .returned (.int .u64 (bitAt (l.getD 0 0) 3)) ∧ w' = w) := fun w => l5Bit3 _ w
  generalize pendV l 3 = pv at *
  generalize bitAt (l.getD 0 0) 1 = y1 at *
  generalize bitAt (l.getD 0 0) 3 = y3 at *
  generalize firstV (bits .andNot .u64 (bits .and .u64 (l.getD 9 0) (l.getD 3 0)) (l.getD 2 0)) = f1 at *
  generalize firstV (bits .and .u64 (bits .and .u64 (l.getD 9 0) (l.getD 3 0)) (l.getD 2 0)) = f2 at *
  generalize l.getD 0 0 = x0 at *
  generalize l.getD 2 0 = x2 at *
  generalize l.getD 3 0 = x3 at *
  generalize l.getD 9 0 = x9 at *
  clear hs hz
  go_enter Try.func68, Try.ntmps68
  go_wp2_with fail
  go_quiet (fail)
  go_wp2_with fail
  refine (H3.out _).mono ?_
  rintro e wx ⟨rfl, hwx⟩
  have hwy := hwx.symm
  subst hwy
  go_wp2_with fail
  refine (F1.out _).mono ?_
  rintro e w1 ⟨rfl, hb1⟩
  have c01 := (hb1.cell (by exact hb)).trans c0
  have c21 := (hb1.cell (by exact hb)).trans c2
  go_wp2_with fail
  go_ret
  exact ⟨by rw [F.out]; rfl, below_trans (w1 := w.drewN nq) ⟨rfl, rfl, rfl, Nat.le_refl _, fun _ _ => rfl⟩ hb1⟩

set_option maxHeartbeats 1600000 in
theorem pend_30 (b off cap : Nat) (l : List Int) (w : World) (hz : l.length = 22) (hs : Sl .u64 w (some ⟨b, off, none⟩) l) (d3 : (bitAt (l.getD 0 0) 3 == 1) = false) :
    Calls Try.prog 68 #[.slice (some ⟨b, off, none⟩) 22 cap, .int .i64 3] w fun e w' => e = .returned (.int .i64 (pendV l 3)) ∧ Below w.heap.size w w' := by
  have F : Hid (pendV l 3 = -1) := by show _ = _; unfold pendV pendS hearM hearS waitV; rw [d3]; try rfl
  obtain ⟨hb, c0⟩ := sl_at hs 0 (by omega)
  have c0 : w.cell? ⟨b, off, none⟩ = some (.int .u64 (l.getD 0 0)) := c0
  have c2 := (sl_at hs 2 (by omega)).2
  have c3 := (sl_at hs 3 (by omega)).2
  have c9 := (sl_at hs 9 (by omega)).2
  have F1 : Hid (∀ w, Calls Try.prog 94 #[.int .u64 (bits .andNot .u64 (bits .and .u64 (l.getD 9 0) (l.getD 3 0)) (l.getD 2 0))] w fun e w' => e = .returned (.int .i64 (firstV (bits .andNot .u64 (bits .and .u64 (l.getD 9 0) (l.getD 3 0)) (l.getD 2 0)))) ∧ Below w.heap.size w w') := fun w => l5First_any _ w
  have F2 : Hid (∀ w, Calls Try.prog 94 #[.int .u64 (bits .and .u64 (bits .and .u64 (l.getD 9 0) (l.getD 3 0)) (l.getD 2 0))] w fun e w' => e = .returned (.int .i64 (firstV (bits .and .u64 (bits .and .u64 (l.getD 9 0) (l.getD 3 0)) (l.getD 2 0)))) ∧ Below w.heap.size w w') := fun w => l5First_any _ w
  have H1 : Hid (∀ w, Calls Try.prog 92 #[.int .u64 (l.getD 0 0), .int .u64 1] w fun e w' => e = .returned (.int .u64 (bitAt (l.getD 0 0) 1)) ∧ w' = w) := fun w => l5Bit1 _ w
  have H3 : Hid (∀ w, Calls Try.prog 92 #[.int .u64 (l.getD 0 0), .int .u64 3] w fun e w' => e = .returned (.int .u64 (bitAt (l.getD 0 0) 3)) ∧ w' = w) := fun w => l5Bit3 _ w
  generalize pendV l 3 = pv at *
  generalize bitAt (l.getD 0 0) 1 = y1 at *
  generalize bitAt (l.getD 0 0) 3 = y3 at *
  generalize firstV (bits .andNot .u64 (bits .and .u64 (l.getD 9 0) (l.getD 3 0)) (l.getD 2 0)) = f1 at *
  generalize firstV (bits .and .u64 (bits .and .u64 (l.getD 9 0) (l.getD 3 0)) (l.getD 2 0)) = f2 at *
  generalize l.getD 0 0 = x0 at *
  generalize l.getD 2 0 = x2 at *
  generalize l.getD 3 0 = x3 at *
  generalize l.getD 9 0 = x9 at *
  clear hs hz
  go_enter Try.func68, Try.ntmps68
  go_wp2_with fail
  go_quiet (fail)
  go_wp2_with fail
  refine (H3.out _).mono ?_
  rintro e wx ⟨rfl, hwx⟩
  have hwy := hwx.symm
  subst hwy
  go_wp2_with fail
  go_ret
  exact ⟨by rw [F.out]; rfl, ⟨rfl, rfl, rfl, Nat.le_refl _, fun _ _ => rfl⟩⟩

theorem l5Pending_any (b off cap : Nat) (l : List Int) (p : Int) (hp : privB p = true) (w : World) (hz : l.length = 22) (hs : Sl .u64 w (some ⟨b, off, none⟩) l) :
    Calls Try.prog 68 #[.slice (some ⟨b, off, none⟩) 22 cap, .int .i64 p] w fun e w' => e = .returned (.int .i64 (pendV l p)) ∧ Below w.heap.size w w' := by
  have hp3 : p = 0 ∨ p = 1 ∨ p = 3 := by simpa [privB, or_assoc] using hp
  cases d1 : decide (firstV (bits .andNot .u64 (bits .and .u64 (l.getD 9 0) (l.getD 3 0)) (l.getD 2 0)) ≥ 0)
  · rcases hp3 with rfl | rfl | rfl
    · exact pend_0n b off cap l w hz hs d1
    · cases d2 : (bitAt (l.getD 0 0) 1 == 1)
      · exact pend_1n0 b off cap l w hz hs d1 d2
      · exact pend_1n1 b off cap l w hz hs d1 d2
    · cases d3 : (bitAt (l.getD 0 0) 3 == 1)
      · exact pend_30 b off cap l w hz hs d3
      · exact pend_3n b off cap l w hz hs d3 d1
  · rcases hp3 with rfl | rfl | rfl
    · exact pend_0y b off cap l w hz hs d1
    · exact pend_1y b off cap l w hz hs d1
    · cases d3 : (bitAt (l.getD 0 0) 3 == 1)
      · exact pend_30 b off cap l w hz hs d3
      · exact pend_3y b off cap l w hz hs d3 d1

theorem specPending_any (a : Option Addr) (n cap : Nat) (l : List Int) (p : Int) (w : World) (hz : l.length = n) (hs : Sl .u64 w a l) :
    Calls Try.prog 29 #[.slice a n cap, .int .i64 p] w fun e w' => e = .returned (.int .i64 (pendB n l p)) ∧ Below w.heap.size w w' := by
  have HL : Hid (Calls Try.prog 61 #[.slice a n cap, .int .i64 p] w fun e w' => e = .returned (.bool (legalB n l p)) ∧ w' = w) := specLegal_any a n cap l p w hz hs
  cases hl : legalB n l p with
  | false =>
    have F : Hid (pendB n l p = -1) := by show _ = _; simp [pendB, hl]
    rw [hl] at HL
    clear hs hz
    go_enter Try.func29, Try.ntmps29
    go_wp2_with fail
    refine HL.out.mono ?_
    rintro e w1 ⟨rfl, hw1⟩
    subst hw1
    go_wp2_with fail
    go_ret
    exact ⟨by rw [F.out]; rfl, Below.refl _ _⟩
  | true =>
    obtain ⟨rfl, hpv⟩ := legalB_parts hl
    have F : Hid (pendB 22 l p = pendV l p) := by show _ = _; simp [pendB, hl]
    rw [hl] at HL
    obtain ⟨b, off, rfl, hblt, hc0⟩ := hs 0 (by omega)
    have HP : Hid (Calls Try.prog 68 #[.slice (some ⟨b, off, none⟩) 22 cap, .int .i64 p] w fun e w' => e = .returned (.int .i64 (pendV l p)) ∧ Below w.heap.size w w') := l5Pending_any b off cap l p hpv w hz hs
    generalize pendV l p = pv at *
    clear hs hz hc0 hblt
    go_enter Try.func29, Try.ntmps29
    go_wp2_with fail
    refine HL.out.mono ?_
    rintro e w1 ⟨rfl, hw1⟩
    subst hw1
    go_wp2_with fail
    refine HP.out.mono ?_
    rintro e w1 ⟨rfl, hb1⟩
    go_wp2_with fail
    go_ret
    exact ⟨by rw [F.out]; rfl, hb1⟩

end Go.Proofs.Ytgcbdlfljplkbab
