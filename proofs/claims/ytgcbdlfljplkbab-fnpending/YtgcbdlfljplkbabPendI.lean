/- The program's Pending. By tools/genPendI.py. -/
import Derived.Test.YtgcbdlfljplkbabTrapK
import Derived.Test.YtgcbdlfljplkbabPendT
namespace Go.Proofs.Ytgcbdlfljplkbab
open Go.RowKit
set_option linter.unusedVariables false

set_option maxHeartbeats 1600000 in
theorem pendI_a (b off cap : Nat) (l : List Int) (p : Int) (w : World) (hz : l.length = 22) (hs : Sl .u64 w (some ⟨b, off, none⟩) l) (hl : ∀ j, U (l.getD j 0)) (hok : legalB 22 l p = true) (d1 : decide (firstV (bits .andNot .u64 (bits .and .u64 (l.getD 9 0) (l.getD 3 0)) (l.getD 2 0)) ≥ 0) = true) (dm : hearIM l p = true) :
    Calls Try.prog 28 #[.slice (some ⟨b, off, none⟩) 22 cap, .int .i64 p] w fun e w' => e = .returned (.int .i64 (pendI l p)) ∧ Below w.heap.size w w' := by
  have F : Hid (pendI l p = firstV (bits .andNot .u64 (bits .and .u64 (l.getD 9 0) (l.getD 3 0)) (l.getD 2 0))) := by show _ = _; unfold pendI waitV; rw [d1, dm]; try rfl
  have HL : Hid (Calls Try.prog 54 #[.slice (some ⟨b, off, none⟩) 22 cap, .int .i64 p] w fun e w' => e = .returned (.bool true) ∧ Below w.heap.size w w') := by
    have := implLegal_any (some ⟨b, off, none⟩) 22 cap l p w hz hs hl
    rw [hok] at this
    exact this
  obtain ⟨hb, c0⟩ := sl_at hs 0 (by omega)
  have c0 : w.cell? ⟨b, off, none⟩ = some (.int .u64 (l.getD 0 0)) := c0
  have c2 := (sl_at hs 2 (by omega)).2
  have c3 := (sl_at hs 3 (by omega)).2
  have c9 := (sl_at hs 9 (by omega)).2
  have F1 : Hid (∀ w, Calls Try.prog 66 #[.int .u64 (bits .andNot .u64 (bits .and .u64 (l.getD 9 0) (l.getD 3 0)) (l.getD 2 0))] w fun e w' => e = .returned (.int .i64 (firstV (bits .andNot .u64 (bits .and .u64 (l.getD 9 0) (l.getD 3 0)) (l.getD 2 0)))) ∧ Below w.heap.size w w') := fun w => firstOf_any _ (U_bits _ _ _) w
  have F2 : Hid (∀ w, Calls Try.prog 66 #[.int .u64 (bits .and .u64 (bits .and .u64 (l.getD 9 0) (l.getD 3 0)) (l.getD 2 0))] w fun e w' => e = .returned (.int .i64 (firstV (bits .and .u64 (bits .and .u64 (l.getD 9 0) (l.getD 3 0)) (l.getD 2 0)))) ∧ Below w.heap.size w w') := fun w => firstOf_any _ (U_bits _ _ _) w
  have HM : Hid (∀ w, Calls Try.prog 67 #[.agg (sideC true), .int .u64 (l.getD 0 0), .int .i64 p] w fun e w' => e = .returned (.bool (hearIM l p)) ∧ Below w.heap.size w w') := fun w => hears_m _ p (hl 0) w
  have HS : Hid (∀ w, Calls Try.prog 67 #[.agg (sideC false), .int .u64 (l.getD 0 0), .int .i64 p] w fun e w' => e = .returned (.bool (hearIS l p)) ∧ Below w.heap.size w w') := fun w => hears_s _ p (hl 0) w
  have SM : Hid (∀ w, Calls Try.prog 55 #[] w fun e w' => e = .returned (.agg (sideC true)) ∧ Below w.heap.size w w') := machineSide_any
  have SS : Hid (∀ w, Calls Try.prog 57 #[] w fun e w' => e = .returned (.agg (sideC false)) ∧ Below w.heap.size w w') := supervisorSide_any
  generalize sideC true = sm at *
  generalize sideC false = ss at *
  generalize hearIM l p = hm at *
  generalize hearIS l p = hv at *
  generalize pendI l p = pv at *
  generalize firstV (bits .andNot .u64 (bits .and .u64 (l.getD 9 0) (l.getD 3 0)) (l.getD 2 0)) = f1 at *
  generalize firstV (bits .and .u64 (bits .and .u64 (l.getD 9 0) (l.getD 3 0)) (l.getD 2 0)) = f2 at *
  clear hs hz hl hok
  generalize l.getD 0 0 = x0 at *
  generalize l.getD 2 0 = x2 at *
  generalize l.getD 3 0 = x3 at *
  generalize l.getD 9 0 = x9 at *
  subst dm
  go_enter Try.func28, Try.ntmps28
  go_wp2_with fail
  refine HL.out.mono ?_
  rintro e w1 ⟨rfl, B⟩
  have c01 := (B.cell (by exact hb)).trans c0
  have c21 := (B.cell (by exact hb)).trans c2
  have c31 := (B.cell (by exact hb)).trans c3
  have c91 := (B.cell (by exact hb)).trans c9
  clear c0 c2 c3 c9
  go_wp2_with fail
  go_quiet (fail)
  go_wp2_with fail
  go_quiet (fail)
  go_wp2_with fail
  refine (F1.out _).mono ?_
  rintro e w2 ⟨rfl, hb⟩
  have B := below_trans (below_dN' B _) hb
  clear hb
  go_wp2_with fail
  refine (SM.out _).mono ?_
  rintro e w3 ⟨rfl, hb⟩
  have B := below_trans B hb
  clear hb
  go_wp2_with fail
  refine (HM.out _).mono ?_
  rintro e w4 ⟨rfl, hb⟩
  have B := below_trans B hb
  clear hb
  go_wp2_with fail
  go_ret
  exact ⟨by rw [F.out]; rfl, B⟩

set_option maxHeartbeats 1600000 in
theorem pendI_ba (b off cap : Nat) (l : List Int) (p : Int) (w : World) (hz : l.length = 22) (hs : Sl .u64 w (some ⟨b, off, none⟩) l) (hl : ∀ j, U (l.getD j 0)) (hok : legalB 22 l p = true) (d1 : decide (firstV (bits .andNot .u64 (bits .and .u64 (l.getD 9 0) (l.getD 3 0)) (l.getD 2 0)) ≥ 0) = true) (dm : hearIM l p = false) (d2 : decide (firstV (bits .and .u64 (bits .and .u64 (l.getD 9 0) (l.getD 3 0)) (l.getD 2 0)) ≥ 0) = true) (dv : hearIS l p = true) :
    Calls Try.prog 28 #[.slice (some ⟨b, off, none⟩) 22 cap, .int .i64 p] w fun e w' => e = .returned (.int .i64 (pendI l p)) ∧ Below w.heap.size w w' := by
  have F : Hid (pendI l p = firstV (bits .and .u64 (bits .and .u64 (l.getD 9 0) (l.getD 3 0)) (l.getD 2 0))) := by show _ = _; unfold pendI waitV; rw [d1, dm, d2, dv]; try rfl
  have HL : Hid (Calls Try.prog 54 #[.slice (some ⟨b, off, none⟩) 22 cap, .int .i64 p] w fun e w' => e = .returned (.bool true) ∧ Below w.heap.size w w') := by
    have := implLegal_any (some ⟨b, off, none⟩) 22 cap l p w hz hs hl
    rw [hok] at this
    exact this
  obtain ⟨hb, c0⟩ := sl_at hs 0 (by omega)
  have c0 : w.cell? ⟨b, off, none⟩ = some (.int .u64 (l.getD 0 0)) := c0
  have c2 := (sl_at hs 2 (by omega)).2
  have c3 := (sl_at hs 3 (by omega)).2
  have c9 := (sl_at hs 9 (by omega)).2
  have F1 : Hid (∀ w, Calls Try.prog 66 #[.int .u64 (bits .andNot .u64 (bits .and .u64 (l.getD 9 0) (l.getD 3 0)) (l.getD 2 0))] w fun e w' => e = .returned (.int .i64 (firstV (bits .andNot .u64 (bits .and .u64 (l.getD 9 0) (l.getD 3 0)) (l.getD 2 0)))) ∧ Below w.heap.size w w') := fun w => firstOf_any _ (U_bits _ _ _) w
  have F2 : Hid (∀ w, Calls Try.prog 66 #[.int .u64 (bits .and .u64 (bits .and .u64 (l.getD 9 0) (l.getD 3 0)) (l.getD 2 0))] w fun e w' => e = .returned (.int .i64 (firstV (bits .and .u64 (bits .and .u64 (l.getD 9 0) (l.getD 3 0)) (l.getD 2 0)))) ∧ Below w.heap.size w w') := fun w => firstOf_any _ (U_bits _ _ _) w
  have HM : Hid (∀ w, Calls Try.prog 67 #[.agg (sideC true), .int .u64 (l.getD 0 0), .int .i64 p] w fun e w' => e = .returned (.bool (hearIM l p)) ∧ Below w.heap.size w w') := fun w => hears_m _ p (hl 0) w
  have HS : Hid (∀ w, Calls Try.prog 67 #[.agg (sideC false), .int .u64 (l.getD 0 0), .int .i64 p] w fun e w' => e = .returned (.bool (hearIS l p)) ∧ Below w.heap.size w w') := fun w => hears_s _ p (hl 0) w
  have SM : Hid (∀ w, Calls Try.prog 55 #[] w fun e w' => e = .returned (.agg (sideC true)) ∧ Below w.heap.size w w') := machineSide_any
  have SS : Hid (∀ w, Calls Try.prog 57 #[] w fun e w' => e = .returned (.agg (sideC false)) ∧ Below w.heap.size w w') := supervisorSide_any
  generalize sideC true = sm at *
  generalize sideC false = ss at *
  generalize hearIM l p = hm at *
  generalize hearIS l p = hv at *
  generalize pendI l p = pv at *
  generalize firstV (bits .andNot .u64 (bits .and .u64 (l.getD 9 0) (l.getD 3 0)) (l.getD 2 0)) = f1 at *
  generalize firstV (bits .and .u64 (bits .and .u64 (l.getD 9 0) (l.getD 3 0)) (l.getD 2 0)) = f2 at *
  clear hs hz hl hok
  generalize l.getD 0 0 = x0 at *
  generalize l.getD 2 0 = x2 at *
  generalize l.getD 3 0 = x3 at *
  generalize l.getD 9 0 = x9 at *
  subst dm
  subst dv
  go_enter Try.func28, Try.ntmps28
  go_wp2_with fail
  refine HL.out.mono ?_
  rintro e w1 ⟨rfl, B⟩
  have c01 := (B.cell (by exact hb)).trans c0
  have c21 := (B.cell (by exact hb)).trans c2
  have c31 := (B.cell (by exact hb)).trans c3
  have c91 := (B.cell (by exact hb)).trans c9
  clear c0 c2 c3 c9
  go_wp2_with fail
  go_quiet (fail)
  go_wp2_with fail
  go_quiet (fail)
  go_wp2_with fail
  refine (F1.out _).mono ?_
  rintro e w2 ⟨rfl, hb⟩
  have B := below_trans (below_dN' B _) hb
  clear hb
  go_wp2_with fail
  refine (SM.out _).mono ?_
  rintro e w3 ⟨rfl, hb⟩
  have B := below_trans B hb
  clear hb
  go_wp2_with fail
  refine (HM.out _).mono ?_
  rintro e w4 ⟨rfl, hb⟩
  have B := below_trans B hb
  clear hb
  go_wp2_with fail
  refine (F2.out _).mono ?_
  rintro e w5 ⟨rfl, hb⟩
  have B := below_trans B hb
  clear hb
  go_wp2_with fail
  refine (SS.out _).mono ?_
  rintro e w6 ⟨rfl, hb⟩
  have B := below_trans B hb
  clear hb
  go_wp2_with fail
  refine (HS.out _).mono ?_
  rintro e w7 ⟨rfl, hb⟩
  have B := below_trans B hb
  clear hb
  go_wp2_with fail
  go_ret
  exact ⟨by rw [F.out]; rfl, B⟩

set_option maxHeartbeats 1600000 in
theorem pendI_bb (b off cap : Nat) (l : List Int) (p : Int) (w : World) (hz : l.length = 22) (hs : Sl .u64 w (some ⟨b, off, none⟩) l) (hl : ∀ j, U (l.getD j 0)) (hok : legalB 22 l p = true) (d1 : decide (firstV (bits .andNot .u64 (bits .and .u64 (l.getD 9 0) (l.getD 3 0)) (l.getD 2 0)) ≥ 0) = true) (dm : hearIM l p = false) (d2 : decide (firstV (bits .and .u64 (bits .and .u64 (l.getD 9 0) (l.getD 3 0)) (l.getD 2 0)) ≥ 0) = true) (dv : hearIS l p = false) :
    Calls Try.prog 28 #[.slice (some ⟨b, off, none⟩) 22 cap, .int .i64 p] w fun e w' => e = .returned (.int .i64 (pendI l p)) ∧ Below w.heap.size w w' := by
  have F : Hid (pendI l p = -1) := by show _ = _; unfold pendI waitV; rw [d1, dm, d2, dv]; try rfl
  have HL : Hid (Calls Try.prog 54 #[.slice (some ⟨b, off, none⟩) 22 cap, .int .i64 p] w fun e w' => e = .returned (.bool true) ∧ Below w.heap.size w w') := by
    have := implLegal_any (some ⟨b, off, none⟩) 22 cap l p w hz hs hl
    rw [hok] at this
    exact this
  obtain ⟨hb, c0⟩ := sl_at hs 0 (by omega)
  have c0 : w.cell? ⟨b, off, none⟩ = some (.int .u64 (l.getD 0 0)) := c0
  have c2 := (sl_at hs 2 (by omega)).2
  have c3 := (sl_at hs 3 (by omega)).2
  have c9 := (sl_at hs 9 (by omega)).2
  have F1 : Hid (∀ w, Calls Try.prog 66 #[.int .u64 (bits .andNot .u64 (bits .and .u64 (l.getD 9 0) (l.getD 3 0)) (l.getD 2 0))] w fun e w' => e = .returned (.int .i64 (firstV (bits .andNot .u64 (bits .and .u64 (l.getD 9 0) (l.getD 3 0)) (l.getD 2 0)))) ∧ Below w.heap.size w w') := fun w => firstOf_any _ (U_bits _ _ _) w
  have F2 : Hid (∀ w, Calls Try.prog 66 #[.int .u64 (bits .and .u64 (bits .and .u64 (l.getD 9 0) (l.getD 3 0)) (l.getD 2 0))] w fun e w' => e = .returned (.int .i64 (firstV (bits .and .u64 (bits .and .u64 (l.getD 9 0) (l.getD 3 0)) (l.getD 2 0)))) ∧ Below w.heap.size w w') := fun w => firstOf_any _ (U_bits _ _ _) w
  have HM : Hid (∀ w, Calls Try.prog 67 #[.agg (sideC true), .int .u64 (l.getD 0 0), .int .i64 p] w fun e w' => e = .returned (.bool (hearIM l p)) ∧ Below w.heap.size w w') := fun w => hears_m _ p (hl 0) w
  have HS : Hid (∀ w, Calls Try.prog 67 #[.agg (sideC false), .int .u64 (l.getD 0 0), .int .i64 p] w fun e w' => e = .returned (.bool (hearIS l p)) ∧ Below w.heap.size w w') := fun w => hears_s _ p (hl 0) w
  have SM : Hid (∀ w, Calls Try.prog 55 #[] w fun e w' => e = .returned (.agg (sideC true)) ∧ Below w.heap.size w w') := machineSide_any
  have SS : Hid (∀ w, Calls Try.prog 57 #[] w fun e w' => e = .returned (.agg (sideC false)) ∧ Below w.heap.size w w') := supervisorSide_any
  generalize sideC true = sm at *
  generalize sideC false = ss at *
  generalize hearIM l p = hm at *
  generalize hearIS l p = hv at *
  generalize pendI l p = pv at *
  generalize firstV (bits .andNot .u64 (bits .and .u64 (l.getD 9 0) (l.getD 3 0)) (l.getD 2 0)) = f1 at *
  generalize firstV (bits .and .u64 (bits .and .u64 (l.getD 9 0) (l.getD 3 0)) (l.getD 2 0)) = f2 at *
  clear hs hz hl hok
  generalize l.getD 0 0 = x0 at *
  generalize l.getD 2 0 = x2 at *
  generalize l.getD 3 0 = x3 at *
  generalize l.getD 9 0 = x9 at *
  subst dm
  subst dv
  go_enter Try.func28, Try.ntmps28
  go_wp2_with fail
  refine HL.out.mono ?_
  rintro e w1 ⟨rfl, B⟩
  have c01 := (B.cell (by exact hb)).trans c0
  have c21 := (B.cell (by exact hb)).trans c2
  have c31 := (B.cell (by exact hb)).trans c3
  have c91 := (B.cell (by exact hb)).trans c9
  clear c0 c2 c3 c9
  go_wp2_with fail
  go_quiet (fail)
  go_wp2_with fail
  go_quiet (fail)
  go_wp2_with fail
  refine (F1.out _).mono ?_
  rintro e w2 ⟨rfl, hb⟩
  have B := below_trans (below_dN' B _) hb
  clear hb
  go_wp2_with fail
  refine (SM.out _).mono ?_
  rintro e w3 ⟨rfl, hb⟩
  have B := below_trans B hb
  clear hb
  go_wp2_with fail
  refine (HM.out _).mono ?_
  rintro e w4 ⟨rfl, hb⟩
  have B := below_trans B hb
  clear hb
  go_wp2_with fail
  refine (F2.out _).mono ?_
  rintro e w5 ⟨rfl, hb⟩
  have B := below_trans B hb
  clear hb
  go_wp2_with fail
  refine (SS.out _).mono ?_
  rintro e w6 ⟨rfl, hb⟩
  have B := below_trans B hb
  clear hb
  go_wp2_with fail
  refine (HS.out _).mono ?_
  rintro e w7 ⟨rfl, hb⟩
  have B := below_trans B hb
  clear hb
  go_wp2_with fail
  go_ret
  exact ⟨by rw [F.out]; rfl, B⟩

set_option maxHeartbeats 1600000 in
theorem pendI_bc (b off cap : Nat) (l : List Int) (p : Int) (w : World) (hz : l.length = 22) (hs : Sl .u64 w (some ⟨b, off, none⟩) l) (hl : ∀ j, U (l.getD j 0)) (hok : legalB 22 l p = true) (d1 : decide (firstV (bits .andNot .u64 (bits .and .u64 (l.getD 9 0) (l.getD 3 0)) (l.getD 2 0)) ≥ 0) = true) (dm : hearIM l p = false) (d2 : decide (firstV (bits .and .u64 (bits .and .u64 (l.getD 9 0) (l.getD 3 0)) (l.getD 2 0)) ≥ 0) = false) :
    Calls Try.prog 28 #[.slice (some ⟨b, off, none⟩) 22 cap, .int .i64 p] w fun e w' => e = .returned (.int .i64 (pendI l p)) ∧ Below w.heap.size w w' := by
  have F : Hid (pendI l p = -1) := by show _ = _; unfold pendI waitV; rw [d1, dm, d2]; try rfl
  have HL : Hid (Calls Try.prog 54 #[.slice (some ⟨b, off, none⟩) 22 cap, .int .i64 p] w fun e w' => e = .returned (.bool true) ∧ Below w.heap.size w w') := by
    have := implLegal_any (some ⟨b, off, none⟩) 22 cap l p w hz hs hl
    rw [hok] at this
    exact this
  obtain ⟨hb, c0⟩ := sl_at hs 0 (by omega)
  have c0 : w.cell? ⟨b, off, none⟩ = some (.int .u64 (l.getD 0 0)) := c0
  have c2 := (sl_at hs 2 (by omega)).2
  have c3 := (sl_at hs 3 (by omega)).2
  have c9 := (sl_at hs 9 (by omega)).2
  have F1 : Hid (∀ w, Calls Try.prog 66 #[.int .u64 (bits .andNot .u64 (bits .and .u64 (l.getD 9 0) (l.getD 3 0)) (l.getD 2 0))] w fun e w' => e = .returned (.int .i64 (firstV (bits .andNot .u64 (bits .and .u64 (l.getD 9 0) (l.getD 3 0)) (l.getD 2 0)))) ∧ Below w.heap.size w w') := fun w => firstOf_any _ (U_bits _ _ _) w
  have F2 : Hid (∀ w, Calls Try.prog 66 #[.int .u64 (bits .and .u64 (bits .and .u64 (l.getD 9 0) (l.getD 3 0)) (l.getD 2 0))] w fun e w' => e = .returned (.int .i64 (firstV (bits .and .u64 (bits .and .u64 (l.getD 9 0) (l.getD 3 0)) (l.getD 2 0)))) ∧ Below w.heap.size w w') := fun w => firstOf_any _ (U_bits _ _ _) w
  have HM : Hid (∀ w, Calls Try.prog 67 #[.agg (sideC true), .int .u64 (l.getD 0 0), .int .i64 p] w fun e w' => e = .returned (.bool (hearIM l p)) ∧ Below w.heap.size w w') := fun w => hears_m _ p (hl 0) w
  have HS : Hid (∀ w, Calls Try.prog 67 #[.agg (sideC false), .int .u64 (l.getD 0 0), .int .i64 p] w fun e w' => e = .returned (.bool (hearIS l p)) ∧ Below w.heap.size w w') := fun w => hears_s _ p (hl 0) w
  have SM : Hid (∀ w, Calls Try.prog 55 #[] w fun e w' => e = .returned (.agg (sideC true)) ∧ Below w.heap.size w w') := machineSide_any
  have SS : Hid (∀ w, Calls Try.prog 57 #[] w fun e w' => e = .returned (.agg (sideC false)) ∧ Below w.heap.size w w') := supervisorSide_any
  generalize sideC true = sm at *
  generalize sideC false = ss at *
  generalize hearIM l p = hm at *
  generalize hearIS l p = hv at *
  generalize pendI l p = pv at *
  generalize firstV (bits .andNot .u64 (bits .and .u64 (l.getD 9 0) (l.getD 3 0)) (l.getD 2 0)) = f1 at *
  generalize firstV (bits .and .u64 (bits .and .u64 (l.getD 9 0) (l.getD 3 0)) (l.getD 2 0)) = f2 at *
  clear hs hz hl hok
  generalize l.getD 0 0 = x0 at *
  generalize l.getD 2 0 = x2 at *
  generalize l.getD 3 0 = x3 at *
  generalize l.getD 9 0 = x9 at *
  subst dm
  go_enter Try.func28, Try.ntmps28
  go_wp2_with fail
  refine HL.out.mono ?_
  rintro e w1 ⟨rfl, B⟩
  have c01 := (B.cell (by exact hb)).trans c0
  have c21 := (B.cell (by exact hb)).trans c2
  have c31 := (B.cell (by exact hb)).trans c3
  have c91 := (B.cell (by exact hb)).trans c9
  clear c0 c2 c3 c9
  go_wp2_with fail
  go_quiet (fail)
  go_wp2_with fail
  go_quiet (fail)
  go_wp2_with fail
  refine (F1.out _).mono ?_
  rintro e w2 ⟨rfl, hb⟩
  have B := below_trans (below_dN' B _) hb
  clear hb
  go_wp2_with fail
  refine (SM.out _).mono ?_
  rintro e w3 ⟨rfl, hb⟩
  have B := below_trans B hb
  clear hb
  go_wp2_with fail
  refine (HM.out _).mono ?_
  rintro e w4 ⟨rfl, hb⟩
  have B := below_trans B hb
  clear hb
  go_wp2_with fail
  refine (F2.out _).mono ?_
  rintro e w5 ⟨rfl, hb⟩
  have B := below_trans B hb
  clear hb
  go_wp2_with fail
  go_ret
  exact ⟨by rw [F.out]; rfl, B⟩

set_option maxHeartbeats 1600000 in
theorem pendI_ca (b off cap : Nat) (l : List Int) (p : Int) (w : World) (hz : l.length = 22) (hs : Sl .u64 w (some ⟨b, off, none⟩) l) (hl : ∀ j, U (l.getD j 0)) (hok : legalB 22 l p = true) (d1 : decide (firstV (bits .andNot .u64 (bits .and .u64 (l.getD 9 0) (l.getD 3 0)) (l.getD 2 0)) ≥ 0) = false) (d2 : decide (firstV (bits .and .u64 (bits .and .u64 (l.getD 9 0) (l.getD 3 0)) (l.getD 2 0)) ≥ 0) = true) (dv : hearIS l p = true) :
    Calls Try.prog 28 #[.slice (some ⟨b, off, none⟩) 22 cap, .int .i64 p] w fun e w' => e = .returned (.int .i64 (pendI l p)) ∧ Below w.heap.size w w' := by
  have F : Hid (pendI l p = firstV (bits .and .u64 (bits .and .u64 (l.getD 9 0) (l.getD 3 0)) (l.getD 2 0))) := by show _ = _; unfold pendI waitV; rw [d1, d2, dv]; try rfl
  have HL : Hid (Calls Try.prog 54 #[.slice (some ⟨b, off, none⟩) 22 cap, .int .i64 p] w fun e w' => e = .returned (.bool true) ∧ Below w.heap.size w w') := by
    have := implLegal_any (some ⟨b, off, none⟩) 22 cap l p w hz hs hl
    rw [hok] at this
    exact this
  obtain ⟨hb, c0⟩ := sl_at hs 0 (by omega)
  have c0 : w.cell? ⟨b, off, none⟩ = some (.int .u64 (l.getD 0 0)) := c0
  have c2 := (sl_at hs 2 (by omega)).2
  have c3 := (sl_at hs 3 (by omega)).2
  have c9 := (sl_at hs 9 (by omega)).2
  have F1 : Hid (∀ w, Calls Try.prog 66 #[.int .u64 (bits .andNot .u64 (bits .and .u64 (l.getD 9 0) (l.getD 3 0)) (l.getD 2 0))] w fun e w' => e = .returned (.int .i64 (firstV (bits .andNot .u64 (bits .and .u64 (l.getD 9 0) (l.getD 3 0)) (l.getD 2 0)))) ∧ Below w.heap.size w w') := fun w => firstOf_any _ (U_bits _ _ _) w
  have F2 : Hid (∀ w, Calls Try.prog 66 #[.int .u64 (bits .and .u64 (bits .and .u64 (l.getD 9 0) (l.getD 3 0)) (l.getD 2 0))] w fun e w' => e = .returned (.int .i64 (firstV (bits .and .u64 (bits .and .u64 (l.getD 9 0) (l.getD 3 0)) (l.getD 2 0)))) ∧ Below w.heap.size w w') := fun w => firstOf_any _ (U_bits _ _ _) w
  have HM : Hid (∀ w, Calls Try.prog 67 #[.agg (sideC true), .int .u64 (l.getD 0 0), .int .i64 p] w fun e w' => e = .returned (.bool (hearIM l p)) ∧ Below w.heap.size w w') := fun w => hears_m _ p (hl 0) w
  have HS : Hid (∀ w, Calls Try.prog 67 #[.agg (sideC false), .int .u64 (l.getD 0 0), .int .i64 p] w fun e w' => e = .returned (.bool (hearIS l p)) ∧ Below w.heap.size w w') := fun w => hears_s _ p (hl 0) w
  have SM : Hid (∀ w, Calls Try.prog 55 #[] w fun e w' => e = .returned (.agg (sideC true)) ∧ Below w.heap.size w w') := machineSide_any
  have SS : Hid (∀ w, Calls Try.prog 57 #[] w fun e w' => e = .returned (.agg (sideC false)) ∧ Below w.heap.size w w') := supervisorSide_any
  generalize sideC true = sm at *
  generalize sideC false = ss at *
  generalize hearIM l p = hm at *
  generalize hearIS l p = hv at *
  generalize pendI l p = pv at *
  generalize firstV (bits .andNot .u64 (bits .and .u64 (l.getD 9 0) (l.getD 3 0)) (l.getD 2 0)) = f1 at *
  generalize firstV (bits .and .u64 (bits .and .u64 (l.getD 9 0) (l.getD 3 0)) (l.getD 2 0)) = f2 at *
  clear hs hz hl hok
  generalize l.getD 0 0 = x0 at *
  generalize l.getD 2 0 = x2 at *
  generalize l.getD 3 0 = x3 at *
  generalize l.getD 9 0 = x9 at *
  subst dv
  go_enter Try.func28, Try.ntmps28
  go_wp2_with fail
  refine HL.out.mono ?_
  rintro e w1 ⟨rfl, B⟩
  have c01 := (B.cell (by exact hb)).trans c0
  have c21 := (B.cell (by exact hb)).trans c2
  have c31 := (B.cell (by exact hb)).trans c3
  have c91 := (B.cell (by exact hb)).trans c9
  clear c0 c2 c3 c9
  go_wp2_with fail
  go_quiet (fail)
  go_wp2_with fail
  go_quiet (fail)
  go_wp2_with fail
  refine (F1.out _).mono ?_
  rintro e w2 ⟨rfl, hb⟩
  have B := below_trans (below_dN' B _) hb
  clear hb
  go_wp2_with fail
  refine (F2.out _).mono ?_
  rintro e w5 ⟨rfl, hb⟩
  have B := below_trans B hb
  clear hb
  go_wp2_with fail
  refine (SS.out _).mono ?_
  rintro e w6 ⟨rfl, hb⟩
  have B := below_trans B hb
  clear hb
  go_wp2_with fail
  refine (HS.out _).mono ?_
  rintro e w7 ⟨rfl, hb⟩
  have B := below_trans B hb
  clear hb
  go_wp2_with fail
  go_ret
  exact ⟨by rw [F.out]; rfl, B⟩

set_option maxHeartbeats 1600000 in
theorem pendI_cb (b off cap : Nat) (l : List Int) (p : Int) (w : World) (hz : l.length = 22) (hs : Sl .u64 w (some ⟨b, off, none⟩) l) (hl : ∀ j, U (l.getD j 0)) (hok : legalB 22 l p = true) (d1 : decide (firstV (bits .andNot .u64 (bits .and .u64 (l.getD 9 0) (l.getD 3 0)) (l.getD 2 0)) ≥ 0) = false) (d2 : decide (firstV (bits .and .u64 (bits .and .u64 (l.getD 9 0) (l.getD 3 0)) (l.getD 2 0)) ≥ 0) = true) (dv : hearIS l p = false) :
    Calls Try.prog 28 #[.slice (some ⟨b, off, none⟩) 22 cap, .int .i64 p] w fun e w' => e = .returned (.int .i64 (pendI l p)) ∧ Below w.heap.size w w' := by
  have F : Hid (pendI l p = -1) := by show _ = _; unfold pendI waitV; rw [d1, d2, dv]; try rfl
  have HL : Hid (Calls Try.prog 54 #[.slice (some ⟨b, off, none⟩) 22 cap, .int .i64 p] w fun e w' => e = .returned (.bool true) ∧ Below w.heap.size w w') := by
    have := implLegal_any (some ⟨b, off, none⟩) 22 cap l p w hz hs hl
    rw [hok] at this
    exact this
  obtain ⟨hb, c0⟩ := sl_at hs 0 (by omega)
  have c0 : w.cell? ⟨b, off, none⟩ = some (.int .u64 (l.getD 0 0)) := c0
  have c2 := (sl_at hs 2 (by omega)).2
  have c3 := (sl_at hs 3 (by omega)).2
  have c9 := (sl_at hs 9 (by omega)).2
  have F1 : Hid (∀ w, Calls Try.prog 66 #[.int .u64 (bits .andNot .u64 (bits .and .u64 (l.getD 9 0) (l.getD 3 0)) (l.getD 2 0))] w fun e w' => e = .returned (.int .i64 (firstV (bits .andNot .u64 (bits .and .u64 (l.getD 9 0) (l.getD 3 0)) (l.getD 2 0)))) ∧ Below w.heap.size w w') := fun w => firstOf_any _ (U_bits _ _ _) w
  have F2 : Hid (∀ w, Calls Try.prog 66 #[.int .u64 (bits .and .u64 (bits .and .u64 (l.getD 9 0) (l.getD 3 0)) (l.getD 2 0))] w fun e w' => e = .returned (.int .i64 (firstV (bits .and .u64 (bits .and .u64 (l.getD 9 0) (l.getD 3 0)) (l.getD 2 0)))) ∧ Below w.heap.size w w') := fun w => firstOf_any _ (U_bits _ _ _) w
  have HM : Hid (∀ w, Calls Try.prog 67 #[.agg (sideC true), .int .u64 (l.getD 0 0), .int .i64 p] w fun e w' => e = .returned (.bool (hearIM l p)) ∧ Below w.heap.size w w') := fun w => hears_m _ p (hl 0) w
  have HS : Hid (∀ w, Calls Try.prog 67 #[.agg (sideC false), .int .u64 (l.getD 0 0), .int .i64 p] w fun e w' => e = .returned (.bool (hearIS l p)) ∧ Below w.heap.size w w') := fun w => hears_s _ p (hl 0) w
  have SM : Hid (∀ w, Calls Try.prog 55 #[] w fun e w' => e = .returned (.agg (sideC true)) ∧ Below w.heap.size w w') := machineSide_any
  have SS : Hid (∀ w, Calls Try.prog 57 #[] w fun e w' => e = .returned (.agg (sideC false)) ∧ Below w.heap.size w w') := supervisorSide_any
  generalize sideC true = sm at *
  generalize sideC false = ss at *
  generalize hearIM l p = hm at *
  generalize hearIS l p = hv at *
  generalize pendI l p = pv at *
  generalize firstV (bits .andNot .u64 (bits .and .u64 (l.getD 9 0) (l.getD 3 0)) (l.getD 2 0)) = f1 at *
  generalize firstV (bits .and .u64 (bits .and .u64 (l.getD 9 0) (l.getD 3 0)) (l.getD 2 0)) = f2 at *
  clear hs hz hl hok
  generalize l.getD 0 0 = x0 at *
  generalize l.getD 2 0 = x2 at *
  generalize l.getD 3 0 = x3 at *
  generalize l.getD 9 0 = x9 at *
  subst dv
  go_enter Try.func28, Try.ntmps28
  go_wp2_with fail
  refine HL.out.mono ?_
  rintro e w1 ⟨rfl, B⟩
  have c01 := (B.cell (by exact hb)).trans c0
  have c21 := (B.cell (by exact hb)).trans c2
  have c31 := (B.cell (by exact hb)).trans c3
  have c91 := (B.cell (by exact hb)).trans c9
  clear c0 c2 c3 c9
  go_wp2_with fail
  go_quiet (fail)
  go_wp2_with fail
  go_quiet (fail)
  go_wp2_with fail
  refine (F1.out _).mono ?_
  rintro e w2 ⟨rfl, hb⟩
  have B := below_trans (below_dN' B _) hb
  clear hb
  go_wp2_with fail
  refine (F2.out _).mono ?_
  rintro e w5 ⟨rfl, hb⟩
  have B := below_trans B hb
  clear hb
  go_wp2_with fail
  refine (SS.out _).mono ?_
  rintro e w6 ⟨rfl, hb⟩
  have B := below_trans B hb
  clear hb
  go_wp2_with fail
  refine (HS.out _).mono ?_
  rintro e w7 ⟨rfl, hb⟩
  have B := below_trans B hb
  clear hb
  go_wp2_with fail
  go_ret
  exact ⟨by rw [F.out]; rfl, B⟩

set_option maxHeartbeats 1600000 in
theorem pendI_cc (b off cap : Nat) (l : List Int) (p : Int) (w : World) (hz : l.length = 22) (hs : Sl .u64 w (some ⟨b, off, none⟩) l) (hl : ∀ j, U (l.getD j 0)) (hok : legalB 22 l p = true) (d1 : decide (firstV (bits .andNot .u64 (bits .and .u64 (l.getD 9 0) (l.getD 3 0)) (l.getD 2 0)) ≥ 0) = false) (d2 : decide (firstV (bits .and .u64 (bits .and .u64 (l.getD 9 0) (l.getD 3 0)) (l.getD 2 0)) ≥ 0) = false) :
    Calls Try.prog 28 #[.slice (some ⟨b, off, none⟩) 22 cap, .int .i64 p] w fun e w' => e = .returned (.int .i64 (pendI l p)) ∧ Below w.heap.size w w' := by
  have F : Hid (pendI l p = -1) := by show _ = _; unfold pendI waitV; rw [d1, d2]; try rfl
  have HL : Hid (Calls Try.prog 54 #[.slice (some ⟨b, off, none⟩) 22 cap, .int .i64 p] w fun e w' => e = .returned (.bool true) ∧ Below w.heap.size w w') := by
    have := implLegal_any (some ⟨b, off, none⟩) 22 cap l p w hz hs hl
    rw [hok] at this
    exact this
  obtain ⟨hb, c0⟩ := sl_at hs 0 (by omega)
  have c0 : w.cell? ⟨b, off, none⟩ = some (.int .u64 (l.getD 0 0)) := c0
  have c2 := (sl_at hs 2 (by omega)).2
  have c3 := (sl_at hs 3 (by omega)).2
  have c9 := (sl_at hs 9 (by omega)).2
  have F1 : Hid (∀ w, Calls Try.prog 66 #[.int .u64 (bits .andNot .u64 (bits .and .u64 (l.getD 9 0) (l.getD 3 0)) (l.getD 2 0))] w fun e w' => e = .returned (.int .i64 (firstV (bits .andNot .u64 (bits .and .u64 (l.getD 9 0) (l.getD 3 0)) (l.getD 2 0)))) ∧ Below w.heap.size w w') := fun w => firstOf_any _ (U_bits _ _ _) w
  have F2 : Hid (∀ w, Calls Try.prog 66 #[.int .u64 (bits .and .u64 (bits .and .u64 (l.getD 9 0) (l.getD 3 0)) (l.getD 2 0))] w fun e w' => e = .returned (.int .i64 (firstV (bits .and .u64 (bits .and .u64 (l.getD 9 0) (l.getD 3 0)) (l.getD 2 0)))) ∧ Below w.heap.size w w') := fun w => firstOf_any _ (U_bits _ _ _) w
  have HM : Hid (∀ w, Calls Try.prog 67 #[.agg (sideC true), .int .u64 (l.getD 0 0), .int .i64 p] w fun e w' => e = .returned (.bool (hearIM l p)) ∧ Below w.heap.size w w') := fun w => hears_m _ p (hl 0) w
  have HS : Hid (∀ w, Calls Try.prog 67 #[.agg (sideC false), .int .u64 (l.getD 0 0), .int .i64 p] w fun e w' => e = .returned (.bool (hearIS l p)) ∧ Below w.heap.size w w') := fun w => hears_s _ p (hl 0) w
  have SM : Hid (∀ w, Calls Try.prog 55 #[] w fun e w' => e = .returned (.agg (sideC true)) ∧ Below w.heap.size w w') := machineSide_any
  have SS : Hid (∀ w, Calls Try.prog 57 #[] w fun e w' => e = .returned (.agg (sideC false)) ∧ Below w.heap.size w w') := supervisorSide_any
  generalize sideC true = sm at *
  generalize sideC false = ss at *
  generalize hearIM l p = hm at *
  generalize hearIS l p = hv at *
  generalize pendI l p = pv at *
  generalize firstV (bits .andNot .u64 (bits .and .u64 (l.getD 9 0) (l.getD 3 0)) (l.getD 2 0)) = f1 at *
  generalize firstV (bits .and .u64 (bits .and .u64 (l.getD 9 0) (l.getD 3 0)) (l.getD 2 0)) = f2 at *
  clear hs hz hl hok
  generalize l.getD 0 0 = x0 at *
  generalize l.getD 2 0 = x2 at *
  generalize l.getD 3 0 = x3 at *
  generalize l.getD 9 0 = x9 at *
  go_enter Try.func28, Try.ntmps28
  go_wp2_with fail
  refine HL.out.mono ?_
  rintro e w1 ⟨rfl, B⟩
  have c01 := (B.cell (by exact hb)).trans c0
  have c21 := (B.cell (by exact hb)).trans c2
  have c31 := (B.cell (by exact hb)).trans c3
  have c91 := (B.cell (by exact hb)).trans c9
  clear c0 c2 c3 c9
  go_wp2_with fail
  go_quiet (fail)
  go_wp2_with fail
  go_quiet (fail)
  go_wp2_with fail
  refine (F1.out _).mono ?_
  rintro e w2 ⟨rfl, hb⟩
  have B := below_trans (below_dN' B _) hb
  clear hb
  go_wp2_with fail
  refine (F2.out _).mono ?_
  rintro e w5 ⟨rfl, hb⟩
  have B := below_trans B hb
  clear hb
  go_wp2_with fail
  go_ret
  exact ⟨by rw [F.out]; rfl, B⟩

theorem implPending_any (a : Option Addr) (n cap : Nat) (l : List Int) (p : Int) (w : World) (hz : l.length = n) (hs : Sl .u64 w a l) (hl : ∀ j, U (l.getD j 0)) :
    Calls Try.prog 28 #[.slice a n cap, .int .i64 p] w fun e w' => e = .returned (.int .i64 (pendB n l p)) ∧ Below w.heap.size w w' := by
  cases hok : legalB n l p with
  | false =>
    have F : Hid (pendB n l p = -1) := by show _ = _; simp [pendB, hok]
    have HL : Hid (Calls Try.prog 54 #[.slice a n cap, .int .i64 p] w fun e w' => e = .returned (.bool false) ∧ Below w.heap.size w w') := by
      have := implLegal_any a n cap l p w hz hs hl
      rw [hok] at this
      exact this
    clear hs hz hl
    go_enter Try.func28, Try.ntmps28
    go_wp2_with fail
    refine HL.out.mono ?_
    rintro e w1 ⟨rfl, B⟩
    go_wp2_with fail
    go_ret
    exact ⟨by rw [F.out]; rfl, B⟩
  | true =>
    obtain ⟨rfl, hpv⟩ := legalB_parts hok
    have F : pendB 22 l p = pendI l p := by rw [pend_eq l p hpv (hl 0)]; simp [pendB, hok]
    rw [F]
    obtain ⟨b, off, rfl, hblt, hc0⟩ := hs 0 (by omega)
    cases d1 : decide (firstV (bits .andNot .u64 (bits .and .u64 (l.getD 9 0) (l.getD 3 0)) (l.getD 2 0)) ≥ 0)
    · cases d2 : decide (firstV (bits .and .u64 (bits .and .u64 (l.getD 9 0) (l.getD 3 0)) (l.getD 2 0)) ≥ 0)
      · exact pendI_cc b off cap l p w hz hs hl hok d1 d2
      · cases dv : hearIS l p
        · exact pendI_cb b off cap l p w hz hs hl hok d1 d2 dv
        · exact pendI_ca b off cap l p w hz hs hl hok d1 d2 dv
    · cases dm : hearIM l p
      · cases d2 : decide (firstV (bits .and .u64 (bits .and .u64 (l.getD 9 0) (l.getD 3 0)) (l.getD 2 0)) ≥ 0)
        · exact pendI_bc b off cap l p w hz hs hl hok d1 dm d2
        · cases dv : hearIS l p
          · exact pendI_bb b off cap l p w hz hs hl hok d1 dm d2 dv
          · exact pendI_ba b off cap l p w hz hs hl hok d1 dm d2 dv
      · exact pendI_a b off cap l p w hz hs hl hok d1 dm

end Go.Proofs.Ytgcbdlfljplkbab
