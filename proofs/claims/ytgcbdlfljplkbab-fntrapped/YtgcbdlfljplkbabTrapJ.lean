/- The program's mstatus behind a trap. By tools/genTrapI.py. -/
import Derived.Test.YtgcbdlfljplkbabTrapI
namespace Go.Proofs.Ytgcbdlfljplkbab
open Go.RowKit
set_option linter.unusedVariables false

set_option maxHeartbeats 1600000 in
theorem entered_m (s : Int) (p : Int) (hp : privB p = true) (h : U s) (w : World) : Calls Try.prog 59 #[.agg (sideC true), .int .u64 s, .int .i64 p] w fun e w' => e = .returned (.int .u64 (statM s p)) ∧ Below w.heap.size w w' := by
  have hp3 : p = 0 ∨ p = 1 ∨ p = 3 := by simpa [privB, or_assoc] using hp
  have hw : IntKind.u64.wrap p = p := by rw [IntKind.wrap_u64]; omega
  have HB : Hid (∀ w, Calls Try.prog 90 #[.int .u64 s, .int .i64 3, .int .i64 1] w fun e w' => e = .returned (.int .u64 (fld s 3 1)) ∧ w' = w.drew) := fun w => bitsAt_any s 3 1 h.1 h.2 (by omega) (by omega) w
  have F : Hid (statM s p = _) := statM_I s p h
  clear h hp hp3
  generalize fld s 3 1 = y at *
  generalize statM s p = r at *
  unfold sideC
  go_enter Try.func59, Try.ntmps59
  go_wp2_with fail
  refine (HB.out _).mono ?_
  rintro e w1 ⟨rfl, hw1⟩
  subst hw1
  have N1 : (w.alloc (.cells #[.int .i64 3, .int .i64 4, .int .i64 6, .int .i64 7, .int .i64 8, .int .i64 3, .int .i64 7, .int .i64 11, .int .i64 2] 89)).drew.cell? ⟨w.heap.size, 0, none⟩ = some (.int .i64 3) ∧ (w.alloc (.cells #[.int .i64 3, .int .i64 4, .int .i64 6, .int .i64 7, .int .i64 8, .int .i64 3, .int .i64 7, .int .i64 11, .int .i64 2] 89)).drew.cell? ⟨w.heap.size, 1, none⟩ = some (.int .i64 4) ∧ (w.alloc (.cells #[.int .i64 3, .int .i64 4, .int .i64 6, .int .i64 7, .int .i64 8, .int .i64 3, .int .i64 7, .int .i64 11, .int .i64 2] 89)).drew.cell? ⟨w.heap.size, 2, none⟩ = some (.int .i64 6) ∧ (w.alloc (.cells #[.int .i64 3, .int .i64 4, .int .i64 6, .int .i64 7, .int .i64 8, .int .i64 3, .int .i64 7, .int .i64 11, .int .i64 2] 89)).drew.cell? ⟨w.heap.size, 3, none⟩ = some (.int .i64 7) ∧ (w.alloc (.cells #[.int .i64 3, .int .i64 4, .int .i64 6, .int .i64 7, .int .i64 8, .int .i64 3, .int .i64 7, .int .i64 11, .int .i64 2] 89)).drew.cell? ⟨w.heap.size, 4, none⟩ = some (.int .i64 8) ∧ (w.alloc (.cells #[.int .i64 3, .int .i64 4, .int .i64 6, .int .i64 7, .int .i64 8, .int .i64 3, .int .i64 7, .int .i64 11, .int .i64 2] 89)).drew.cell? ⟨w.heap.size, 5, none⟩ = some (.int .i64 3) ∧ (w.alloc (.cells #[.int .i64 3, .int .i64 4, .int .i64 6, .int .i64 7, .int .i64 8, .int .i64 3, .int .i64 7, .int .i64 11, .int .i64 2] 89)).drew.cell? ⟨w.heap.size, 6, none⟩ = some (.int .i64 7) ∧ (w.alloc (.cells #[.int .i64 3, .int .i64 4, .int .i64 6, .int .i64 7, .int .i64 8, .int .i64 3, .int .i64 7, .int .i64 11, .int .i64 2] 89)).drew.cell? ⟨w.heap.size, 7, none⟩ = some (.int .i64 11) ∧ (w.alloc (.cells #[.int .i64 3, .int .i64 4, .int .i64 6, .int .i64 7, .int .i64 8, .int .i64 3, .int .i64 7, .int .i64 11, .int .i64 2] 89)).drew.cell? ⟨w.heap.size, 8, none⟩ = some (.int .i64 2) := nineRow_m (heap_alloc_new _ _)
  have B1 : Below w.heap.size w (w.alloc (.cells #[.int .i64 3, .int .i64 4, .int .i64 6, .int .i64 7, .int .i64 8, .int .i64 3, .int .i64 7, .int .i64 11, .int .i64 2] 89)).drew := ((Below.refl _ _).alloc (Nat.le_refl _) _).drew
  generalize (w.alloc (.cells #[.int .i64 3, .int .i64 4, .int .i64 6, .int .i64 7, .int .i64 8, .int .i64 3, .int .i64 7, .int .i64 11, .int .i64 2] 89)).drew = w1 at *
  obtain ⟨g, hg⟩ : ∃ g, w.heap.size = g := ⟨_, rfl⟩
  rw [hg]
  rw [hg] at N1 B1
  obtain ⟨n0, n1, n2, n3, n4, n5, n6, n7, n8⟩ := N1
  go_wp2_with fail

  go_region_held3 (fun w' => w'.cell? ⟨g, 0, none⟩ = some (.int .i64 3) ∧ w'.cell? ⟨g, 1, none⟩ = some (.int .i64 4) ∧ w'.cell? ⟨g, 2, none⟩ = some (.int .i64 6) ∧ w'.cell? ⟨g, 3, none⟩ = some (.int .i64 7) ∧ w'.cell? ⟨g, 4, none⟩ = some (.int .i64 8) ∧ w'.cell? ⟨g, 5, none⟩ = some (.int .i64 3) ∧ w'.cell? ⟨g, 6, none⟩ = some (.int .i64 7) ∧ w'.cell? ⟨g, 7, none⟩ = some (.int .i64 11) ∧ w'.cell? ⟨g, 8, none⟩ = some (.int .i64 2)) (go_keep) (first | (go_at_call 91; with_reducible refine (without_mk s _ g ?_).mono ?_; (first | assumption | (simp [*])); rintro e w2 ⟨rfl, hb2, hn2⟩))
  have B2 : Below w.heap.size w w2 := by rw [← hg] at B1; exact below_trans B1.drew hb2
  clear hb2 hn2
  go_wp2_with fail
  go_ret
  exact ⟨by rw [F.out]; rfl, B2⟩

set_option maxHeartbeats 1600000 in
theorem entered_s0 (s : Int) (h : U s) (w : World) : Calls Try.prog 59 #[.agg (sideC false), .int .u64 s, .int .i64 0] w fun e w' => e = .returned (.int .u64 (statS s ((0 : Int) == 1))) ∧ Below w.heap.size w w' := by
  have HB : Hid (∀ w, Calls Try.prog 90 #[.int .u64 s, .int .i64 1, .int .i64 1] w fun e w' => e = .returned (.int .u64 (fld s 1 1)) ∧ w' = w.drew) := fun w => bitsAt_any s 1 1 h.1 h.2 (by omega) (by omega) w
  have F : Hid (statS s ((0 : Int) == 1) = _) := statS_I0 s h
  clear h
  generalize fld s 1 1 = y at *
  generalize statS s ((0 : Int) == 1) = r at *
  unfold sideC
  go_enter Try.func59, Try.ntmps59
  go_wp2_with fail
  refine (HB.out _).mono ?_
  rintro e w1 ⟨rfl, hw1⟩
  subst hw1
  have N1 : (w.alloc (.cells #[.int .i64 1, .int .i64 10, .int .i64 12, .int .i64 13, .int .i64 14, .int .i64 1, .int .i64 5, .int .i64 8, .int .i64 1] 89)).drew.cell? ⟨w.heap.size, 0, none⟩ = some (.int .i64 1) ∧ (w.alloc (.cells #[.int .i64 1, .int .i64 10, .int .i64 12, .int .i64 13, .int .i64 14, .int .i64 1, .int .i64 5, .int .i64 8, .int .i64 1] 89)).drew.cell? ⟨w.heap.size, 1, none⟩ = some (.int .i64 10) ∧ (w.alloc (.cells #[.int .i64 1, .int .i64 10, .int .i64 12, .int .i64 13, .int .i64 14, .int .i64 1, .int .i64 5, .int .i64 8, .int .i64 1] 89)).drew.cell? ⟨w.heap.size, 2, none⟩ = some (.int .i64 12) ∧ (w.alloc (.cells #[.int .i64 1, .int .i64 10, .int .i64 12, .int .i64 13, .int .i64 14, .int .i64 1, .int .i64 5, .int .i64 8, .int .i64 1] 89)).drew.cell? ⟨w.heap.size, 3, none⟩ = some (.int .i64 13) ∧ (w.alloc (.cells #[.int .i64 1, .int .i64 10, .int .i64 12, .int .i64 13, .int .i64 14, .int .i64 1, .int .i64 5, .int .i64 8, .int .i64 1] 89)).drew.cell? ⟨w.heap.size, 4, none⟩ = some (.int .i64 14) ∧ (w.alloc (.cells #[.int .i64 1, .int .i64 10, .int .i64 12, .int .i64 13, .int .i64 14, .int .i64 1, .int .i64 5, .int .i64 8, .int .i64 1] 89)).drew.cell? ⟨w.heap.size, 5, none⟩ = some (.int .i64 1) ∧ (w.alloc (.cells #[.int .i64 1, .int .i64 10, .int .i64 12, .int .i64 13, .int .i64 14, .int .i64 1, .int .i64 5, .int .i64 8, .int .i64 1] 89)).drew.cell? ⟨w.heap.size, 6, none⟩ = some (.int .i64 5) ∧ (w.alloc (.cells #[.int .i64 1, .int .i64 10, .int .i64 12, .int .i64 13, .int .i64 14, .int .i64 1, .int .i64 5, .int .i64 8, .int .i64 1] 89)).drew.cell? ⟨w.heap.size, 7, none⟩ = some (.int .i64 8) ∧ (w.alloc (.cells #[.int .i64 1, .int .i64 10, .int .i64 12, .int .i64 13, .int .i64 14, .int .i64 1, .int .i64 5, .int .i64 8, .int .i64 1] 89)).drew.cell? ⟨w.heap.size, 8, none⟩ = some (.int .i64 1) := nineRow_s (heap_alloc_new _ _)
  have B1 : Below w.heap.size w (w.alloc (.cells #[.int .i64 1, .int .i64 10, .int .i64 12, .int .i64 13, .int .i64 14, .int .i64 1, .int .i64 5, .int .i64 8, .int .i64 1] 89)).drew := ((Below.refl _ _).alloc (Nat.le_refl _) _).drew
  generalize (w.alloc (.cells #[.int .i64 1, .int .i64 10, .int .i64 12, .int .i64 13, .int .i64 14, .int .i64 1, .int .i64 5, .int .i64 8, .int .i64 1] 89)).drew = w1 at *
  obtain ⟨g, hg⟩ : ∃ g, w.heap.size = g := ⟨_, rfl⟩
  rw [hg]
  rw [hg] at N1 B1
  obtain ⟨n0, n1, n2, n3, n4, n5, n6, n7, n8⟩ := N1
  go_wp2_with fail

  go_region_held3 (fun w' => w'.cell? ⟨g, 0, none⟩ = some (.int .i64 1) ∧ w'.cell? ⟨g, 1, none⟩ = some (.int .i64 10) ∧ w'.cell? ⟨g, 2, none⟩ = some (.int .i64 12) ∧ w'.cell? ⟨g, 3, none⟩ = some (.int .i64 13) ∧ w'.cell? ⟨g, 4, none⟩ = some (.int .i64 14) ∧ w'.cell? ⟨g, 5, none⟩ = some (.int .i64 1) ∧ w'.cell? ⟨g, 6, none⟩ = some (.int .i64 5) ∧ w'.cell? ⟨g, 7, none⟩ = some (.int .i64 8) ∧ w'.cell? ⟨g, 8, none⟩ = some (.int .i64 1)) (go_keep) (first | (go_at_call 91; with_reducible refine (without_sk s _ g ?_).mono ?_; (first | assumption | (simp [*])); rintro e w2 ⟨rfl, hb2, hn2⟩))
  have B2 : Below w.heap.size w w2 := by rw [← hg] at B1; exact below_trans B1.drew hb2
  clear hb2 hn2
  go_wp2_with fail
  go_ret
  exact ⟨by rw [F.out]; rfl, B2⟩

set_option maxHeartbeats 1600000 in
theorem entered_s1 (s : Int) (h : U s) (w : World) : Calls Try.prog 59 #[.agg (sideC false), .int .u64 s, .int .i64 1] w fun e w' => e = .returned (.int .u64 (statS s ((1 : Int) == 1))) ∧ Below w.heap.size w w' := by
  have HB : Hid (∀ w, Calls Try.prog 90 #[.int .u64 s, .int .i64 1, .int .i64 1] w fun e w' => e = .returned (.int .u64 (fld s 1 1)) ∧ w' = w.drew) := fun w => bitsAt_any s 1 1 h.1 h.2 (by omega) (by omega) w
  have F : Hid (statS s ((1 : Int) == 1) = _) := statS_I1 s h
  clear h
  generalize fld s 1 1 = y at *
  generalize statS s ((1 : Int) == 1) = r at *
  unfold sideC
  go_enter Try.func59, Try.ntmps59
  go_wp2_with fail
  refine (HB.out _).mono ?_
  rintro e w1 ⟨rfl, hw1⟩
  subst hw1
  have N1 : (w.alloc (.cells #[.int .i64 1, .int .i64 10, .int .i64 12, .int .i64 13, .int .i64 14, .int .i64 1, .int .i64 5, .int .i64 8, .int .i64 1] 89)).drew.cell? ⟨w.heap.size, 0, none⟩ = some (.int .i64 1) ∧ (w.alloc (.cells #[.int .i64 1, .int .i64 10, .int .i64 12, .int .i64 13, .int .i64 14, .int .i64 1, .int .i64 5, .int .i64 8, .int .i64 1] 89)).drew.cell? ⟨w.heap.size, 1, none⟩ = some (.int .i64 10) ∧ (w.alloc (.cells #[.int .i64 1, .int .i64 10, .int .i64 12, .int .i64 13, .int .i64 14, .int .i64 1, .int .i64 5, .int .i64 8, .int .i64 1] 89)).drew.cell? ⟨w.heap.size, 2, none⟩ = some (.int .i64 12) ∧ (w.alloc (.cells #[.int .i64 1, .int .i64 10, .int .i64 12, .int .i64 13, .int .i64 14, .int .i64 1, .int .i64 5, .int .i64 8, .int .i64 1] 89)).drew.cell? ⟨w.heap.size, 3, none⟩ = some (.int .i64 13) ∧ (w.alloc (.cells #[.int .i64 1, .int .i64 10, .int .i64 12, .int .i64 13, .int .i64 14, .int .i64 1, .int .i64 5, .int .i64 8, .int .i64 1] 89)).drew.cell? ⟨w.heap.size, 4, none⟩ = some (.int .i64 14) ∧ (w.alloc (.cells #[.int .i64 1, .int .i64 10, .int .i64 12, .int .i64 13, .int .i64 14, .int .i64 1, .int .i64 5, .int .i64 8, .int .i64 1] 89)).drew.cell? ⟨w.heap.size, 5, none⟩ = some (.int .i64 1) ∧ (w.alloc (.cells #[.int .i64 1, .int .i64 10, .int .i64 12, .int .i64 13, .int .i64 14, .int .i64 1, .int .i64 5, .int .i64 8, .int .i64 1] 89)).drew.cell? ⟨w.heap.size, 6, none⟩ = some (.int .i64 5) ∧ (w.alloc (.cells #[.int .i64 1, .int .i64 10, .int .i64 12, .int .i64 13, .int .i64 14, .int .i64 1, .int .i64 5, .int .i64 8, .int .i64 1] 89)).drew.cell? ⟨w.heap.size, 7, none⟩ = some (.int .i64 8) ∧ (w.alloc (.cells #[.int .i64 1, .int .i64 10, .int .i64 12, .int .i64 13, .int .i64 14, .int .i64 1, .int .i64 5, .int .i64 8, .int .i64 1] 89)).drew.cell? ⟨w.heap.size, 8, none⟩ = some (.int .i64 1) := nineRow_s (heap_alloc_new _ _)
  have B1 : Below w.heap.size w (w.alloc (.cells #[.int .i64 1, .int .i64 10, .int .i64 12, .int .i64 13, .int .i64 14, .int .i64 1, .int .i64 5, .int .i64 8, .int .i64 1] 89)).drew := ((Below.refl _ _).alloc (Nat.le_refl _) _).drew
  generalize (w.alloc (.cells #[.int .i64 1, .int .i64 10, .int .i64 12, .int .i64 13, .int .i64 14, .int .i64 1, .int .i64 5, .int .i64 8, .int .i64 1] 89)).drew = w1 at *
  obtain ⟨g, hg⟩ : ∃ g, w.heap.size = g := ⟨_, rfl⟩
  rw [hg]
  rw [hg] at N1 B1
  obtain ⟨n0, n1, n2, n3, n4, n5, n6, n7, n8⟩ := N1
  go_wp2_with fail

  go_region_held3 (fun w' => w'.cell? ⟨g, 0, none⟩ = some (.int .i64 1) ∧ w'.cell? ⟨g, 1, none⟩ = some (.int .i64 10) ∧ w'.cell? ⟨g, 2, none⟩ = some (.int .i64 12) ∧ w'.cell? ⟨g, 3, none⟩ = some (.int .i64 13) ∧ w'.cell? ⟨g, 4, none⟩ = some (.int .i64 14) ∧ w'.cell? ⟨g, 5, none⟩ = some (.int .i64 1) ∧ w'.cell? ⟨g, 6, none⟩ = some (.int .i64 5) ∧ w'.cell? ⟨g, 7, none⟩ = some (.int .i64 8) ∧ w'.cell? ⟨g, 8, none⟩ = some (.int .i64 1)) (go_keep) (first | (go_at_call 91; with_reducible refine (without_sk s _ g ?_).mono ?_; (first | assumption | (simp [*])); rintro e w2 ⟨rfl, hb2, hn2⟩))
  have B2 : Below w.heap.size w w2 := by rw [← hg] at B1; exact below_trans B1.drew hb2
  clear hb2 hn2
  go_wp2_with fail
  go_ret
  exact ⟨by rw [F.out]; rfl, B2⟩

set_option maxHeartbeats 1600000 in
theorem left_my (s : Int) (h : U s) (d : (leaveP s true != 3) = true) (w : World) : Calls Try.prog 64 #[.agg (sideC true), .int .u64 s] w fun e w' => e = .returned (.int .u64 (leaveS s true)) ∧ Below w.heap.size w w' := by
  have HB : Hid (∀ w, Calls Try.prog 90 #[.int .u64 s, .int .i64 7, .int .i64 1] w fun e w' => e = .returned (.int .u64 (fld s 7 1)) ∧ w' = w.drew) := fun w => bitsAt_any s 7 1 h.1 h.2 (by omega) (by omega) w
  have HO : Hid (∀ w, Calls Try.prog 63 #[.agg #[.int .i64 3, .int .i64 4, .int .i64 6, .int .i64 7, .int .i64 8, .int .i64 3, .int .i64 7, .int .i64 11, .int .i64 2], .int .u64 s] w fun e w' => e = .returned (.int .i64 (leaveP s true)) ∧ Below w.heap.size w w') := fun w => origin_m s h w
  have F : Hid (leaveS s true = _) := leaveS_my s h d
  clear h
  generalize fld s 7 1 = y at *
  generalize leaveS s true = r at *
  generalize leaveP s true = o at *
  unfold sideC
  go_enter Try.func64, Try.ntmps64
  go_wp2_with fail
  refine (HB.out _).mono ?_
  rintro e w1 ⟨rfl, hw1⟩
  subst hw1
  have N1 : (w.alloc (.cells #[.int .i64 3, .int .i64 4, .int .i64 6, .int .i64 7, .int .i64 8, .int .i64 3, .int .i64 7, .int .i64 11, .int .i64 2] 89)).drew.cell? ⟨w.heap.size, 0, none⟩ = some (.int .i64 3) ∧ (w.alloc (.cells #[.int .i64 3, .int .i64 4, .int .i64 6, .int .i64 7, .int .i64 8, .int .i64 3, .int .i64 7, .int .i64 11, .int .i64 2] 89)).drew.cell? ⟨w.heap.size, 1, none⟩ = some (.int .i64 4) ∧ (w.alloc (.cells #[.int .i64 3, .int .i64 4, .int .i64 6, .int .i64 7, .int .i64 8, .int .i64 3, .int .i64 7, .int .i64 11, .int .i64 2] 89)).drew.cell? ⟨w.heap.size, 2, none⟩ = some (.int .i64 6) ∧ (w.alloc (.cells #[.int .i64 3, .int .i64 4, .int .i64 6, .int .i64 7, .int .i64 8, .int .i64 3, .int .i64 7, .int .i64 11, .int .i64 2] 89)).drew.cell? ⟨w.heap.size, 3, none⟩ = some (.int .i64 7) ∧ (w.alloc (.cells #[.int .i64 3, .int .i64 4, .int .i64 6, .int .i64 7, .int .i64 8, .int .i64 3, .int .i64 7, .int .i64 11, .int .i64 2] 89)).drew.cell? ⟨w.heap.size, 4, none⟩ = some (.int .i64 8) ∧ (w.alloc (.cells #[.int .i64 3, .int .i64 4, .int .i64 6, .int .i64 7, .int .i64 8, .int .i64 3, .int .i64 7, .int .i64 11, .int .i64 2] 89)).drew.cell? ⟨w.heap.size, 5, none⟩ = some (.int .i64 3) ∧ (w.alloc (.cells #[.int .i64 3, .int .i64 4, .int .i64 6, .int .i64 7, .int .i64 8, .int .i64 3, .int .i64 7, .int .i64 11, .int .i64 2] 89)).drew.cell? ⟨w.heap.size, 6, none⟩ = some (.int .i64 7) ∧ (w.alloc (.cells #[.int .i64 3, .int .i64 4, .int .i64 6, .int .i64 7, .int .i64 8, .int .i64 3, .int .i64 7, .int .i64 11, .int .i64 2] 89)).drew.cell? ⟨w.heap.size, 7, none⟩ = some (.int .i64 11) ∧ (w.alloc (.cells #[.int .i64 3, .int .i64 4, .int .i64 6, .int .i64 7, .int .i64 8, .int .i64 3, .int .i64 7, .int .i64 11, .int .i64 2] 89)).drew.cell? ⟨w.heap.size, 8, none⟩ = some (.int .i64 2) := nineRow_m (heap_alloc_new _ _)
  have B1 : Below w.heap.size w (w.alloc (.cells #[.int .i64 3, .int .i64 4, .int .i64 6, .int .i64 7, .int .i64 8, .int .i64 3, .int .i64 7, .int .i64 11, .int .i64 2] 89)).drew := ((Below.refl _ _).alloc (Nat.le_refl _) _).drew
  generalize (w.alloc (.cells #[.int .i64 3, .int .i64 4, .int .i64 6, .int .i64 7, .int .i64 8, .int .i64 3, .int .i64 7, .int .i64 11, .int .i64 2] 89)).drew = w1 at *
  obtain ⟨g, hg⟩ : ∃ g, w.heap.size = g := ⟨_, rfl⟩
  rw [hg]
  rw [hg] at N1 B1
  obtain ⟨n0, n1, n2, n3, n4, n5, n6, n7, n8⟩ := N1
  go_wp2_with fail
  go_region_held3 (fun w' => w'.cell? ⟨g, 0, none⟩ = some (.int .i64 3) ∧ w'.cell? ⟨g, 1, none⟩ = some (.int .i64 4) ∧ w'.cell? ⟨g, 2, none⟩ = some (.int .i64 6) ∧ w'.cell? ⟨g, 3, none⟩ = some (.int .i64 7) ∧ w'.cell? ⟨g, 4, none⟩ = some (.int .i64 8) ∧ w'.cell? ⟨g, 5, none⟩ = some (.int .i64 3) ∧ w'.cell? ⟨g, 6, none⟩ = some (.int .i64 7) ∧ w'.cell? ⟨g, 7, none⟩ = some (.int .i64 11) ∧ w'.cell? ⟨g, 8, none⟩ = some (.int .i64 2)) (go_keep) (first | (go_at_call 91; with_reducible refine (without_mk s _ g ?_).mono ?_; (first | assumption | (simp [*])); rintro e w2 ⟨rfl, hb2, hn2⟩))
  have B2 : Below w.heap.size w w2 := by rw [← hg] at B1; exact below_trans B1.drew hb2
  clear hb2 n0 n1 n2 n3 n4 n5 n6 n7 n8
  obtain ⟨n0, n1, n2, n3, n4, n5, n6, n7, n8⟩ := hn2
  go_wp2_with fail
  refine (HO.out _).mono ?_
  rintro e w3 ⟨rfl, hb3⟩
  go_wp2_with fail
  go_ret
  exact ⟨by rw [F.out]; rfl, below_trans B2 hb3⟩

set_option maxHeartbeats 1600000 in
theorem left_mn (s : Int) (h : U s) (d : (leaveP s true != 3) = false) (w : World) : Calls Try.prog 64 #[.agg (sideC true), .int .u64 s] w fun e w' => e = .returned (.int .u64 (leaveS s true)) ∧ Below w.heap.size w w' := by
  have HB : Hid (∀ w, Calls Try.prog 90 #[.int .u64 s, .int .i64 7, .int .i64 1] w fun e w' => e = .returned (.int .u64 (fld s 7 1)) ∧ w' = w.drew) := fun w => bitsAt_any s 7 1 h.1 h.2 (by omega) (by omega) w
  have HO : Hid (∀ w, Calls Try.prog 63 #[.agg #[.int .i64 3, .int .i64 4, .int .i64 6, .int .i64 7, .int .i64 8, .int .i64 3, .int .i64 7, .int .i64 11, .int .i64 2], .int .u64 s] w fun e w' => e = .returned (.int .i64 (leaveP s true)) ∧ Below w.heap.size w w') := fun w => origin_m s h w
  have F : Hid (leaveS s true = _) := leaveS_mn s h d
  clear h
  generalize fld s 7 1 = y at *
  generalize leaveS s true = r at *
  generalize leaveP s true = o at *
  unfold sideC
  go_enter Try.func64, Try.ntmps64
  go_wp2_with fail
  refine (HB.out _).mono ?_
  rintro e w1 ⟨rfl, hw1⟩
  subst hw1
  have N1 : (w.alloc (.cells #[.int .i64 3, .int .i64 4, .int .i64 6, .int .i64 7, .int .i64 8, .int .i64 3, .int .i64 7, .int .i64 11, .int .i64 2] 89)).drew.cell? ⟨w.heap.size, 0, none⟩ = some (.int .i64 3) ∧ (w.alloc (.cells #[.int .i64 3, .int .i64 4, .int .i64 6, .int .i64 7, .int .i64 8, .int .i64 3, .int .i64 7, .int .i64 11, .int .i64 2] 89)).drew.cell? ⟨w.heap.size, 1, none⟩ = some (.int .i64 4) ∧ (w.alloc (.cells #[.int .i64 3, .int .i64 4, .int .i64 6, .int .i64 7, .int .i64 8, .int .i64 3, .int .i64 7, .int .i64 11, .int .i64 2] 89)).drew.cell? ⟨w.heap.size, 2, none⟩ = some (.int .i64 6) ∧ (w.alloc (.cells #[.int .i64 3, .int .i64 4, .int .i64 6, .int .i64 7, .int .i64 8, .int .i64 3, .int .i64 7, .int .i64 11, .int .i64 2] 89)).drew.cell? ⟨w.heap.size, 3, none⟩ = some (.int .i64 7) ∧ (w.alloc (.cells #[.int .i64 3, .int .i64 4, .int .i64 6, .int .i64 7, .int .i64 8, .int .i64 3, .int .i64 7, .int .i64 11, .int .i64 2] 89)).drew.cell? ⟨w.heap.size, 4, none⟩ = some (.int .i64 8) ∧ (w.alloc (.cells #[.int .i64 3, .int .i64 4, .int .i64 6, .int .i64 7, .int .i64 8, .int .i64 3, .int .i64 7, .int .i64 11, .int .i64 2] 89)).drew.cell? ⟨w.heap.size, 5, none⟩ = some (.int .i64 3) ∧ (w.alloc (.cells #[.int .i64 3, .int .i64 4, .int .i64 6, .int .i64 7, .int .i64 8, .int .i64 3, .int .i64 7, .int .i64 11, .int .i64 2] 89)).drew.cell? ⟨w.heap.size, 6, none⟩ = some (.int .i64 7) ∧ (w.alloc (.cells #[.int .i64 3, .int .i64 4, .int .i64 6, .int .i64 7, .int .i64 8, .int .i64 3, .int .i64 7, .int .i64 11, .int .i64 2] 89)).drew.cell? ⟨w.heap.size, 7, none⟩ = some (.int .i64 11) ∧ (w.alloc (.cells #[.int .i64 3, .int .i64 4, .int .i64 6, .int .i64 7, .int .i64 8, .int .i64 3, .int .i64 7, .int .i64 11, .int .i64 2] 89)).drew.cell? ⟨w.heap.size, 8, none⟩ = some (.int .i64 2) := nineRow_m (heap_alloc_new _ _)
  have B1 : Below w.heap.size w (w.alloc (.cells #[.int .i64 3, .int .i64 4, .int .i64 6, .int .i64 7, .int .i64 8, .int .i64 3, .int .i64 7, .int .i64 11, .int .i64 2] 89)).drew := ((Below.refl _ _).alloc (Nat.le_refl _) _).drew
  generalize (w.alloc (.cells #[.int .i64 3, .int .i64 4, .int .i64 6, .int .i64 7, .int .i64 8, .int .i64 3, .int .i64 7, .int .i64 11, .int .i64 2] 89)).drew = w1 at *
  obtain ⟨g, hg⟩ : ∃ g, w.heap.size = g := ⟨_, rfl⟩
  rw [hg]
  rw [hg] at N1 B1
  obtain ⟨n0, n1, n2, n3, n4, n5, n6, n7, n8⟩ := N1
  go_wp2_with fail
  go_region_held3 (fun w' => w'.cell? ⟨g, 0, none⟩ = some (.int .i64 3) ∧ w'.cell? ⟨g, 1, none⟩ = some (.int .i64 4) ∧ w'.cell? ⟨g, 2, none⟩ = some (.int .i64 6) ∧ w'.cell? ⟨g, 3, none⟩ = some (.int .i64 7) ∧ w'.cell? ⟨g, 4, none⟩ = some (.int .i64 8) ∧ w'.cell? ⟨g, 5, none⟩ = some (.int .i64 3) ∧ w'.cell? ⟨g, 6, none⟩ = some (.int .i64 7) ∧ w'.cell? ⟨g, 7, none⟩ = some (.int .i64 11) ∧ w'.cell? ⟨g, 8, none⟩ = some (.int .i64 2)) (go_keep) (first | (go_at_call 91; with_reducible refine (without_mk s _ g ?_).mono ?_; (first | assumption | (simp [*])); rintro e w2 ⟨rfl, hb2, hn2⟩))
  have B2 : Below w.heap.size w w2 := by rw [← hg] at B1; exact below_trans B1.drew hb2
  clear hb2 n0 n1 n2 n3 n4 n5 n6 n7 n8
  obtain ⟨n0, n1, n2, n3, n4, n5, n6, n7, n8⟩ := hn2
  go_wp2_with fail
  refine (HO.out _).mono ?_
  rintro e w3 ⟨rfl, hb3⟩
  go_wp2_with fail
  go_ret
  exact ⟨by rw [F.out]; rfl, below_trans B2 hb3⟩

set_option maxHeartbeats 1600000 in
theorem left_sy (s : Int) (h : U s) (d : (leaveP s false != 3) = true) (w : World) : Calls Try.prog 64 #[.agg (sideC false), .int .u64 s] w fun e w' => e = .returned (.int .u64 (leaveS s false)) ∧ Below w.heap.size w w' := by
  have HB : Hid (∀ w, Calls Try.prog 90 #[.int .u64 s, .int .i64 5, .int .i64 1] w fun e w' => e = .returned (.int .u64 (fld s 5 1)) ∧ w' = w.drew) := fun w => bitsAt_any s 5 1 h.1 h.2 (by omega) (by omega) w
  have HO : Hid (∀ w, Calls Try.prog 63 #[.agg #[.int .i64 1, .int .i64 10, .int .i64 12, .int .i64 13, .int .i64 14, .int .i64 1, .int .i64 5, .int .i64 8, .int .i64 1], .int .u64 s] w fun e w' => e = .returned (.int .i64 (leaveP s false)) ∧ Below w.heap.size w w') := fun w => origin_s s h w
  have F : Hid (leaveS s false = _) := leaveS_I s h
  clear h
  generalize fld s 5 1 = y at *
  generalize leaveS s false = r at *
  generalize leaveP s false = o at *
  unfold sideC
  go_enter Try.func64, Try.ntmps64
  go_wp2_with fail
  refine (HB.out _).mono ?_
  rintro e w1 ⟨rfl, hw1⟩
  subst hw1
  have N1 : (w.alloc (.cells #[.int .i64 1, .int .i64 10, .int .i64 12, .int .i64 13, .int .i64 14, .int .i64 1, .int .i64 5, .int .i64 8, .int .i64 1] 89)).drew.cell? ⟨w.heap.size, 0, none⟩ = some (.int .i64 1) ∧ (w.alloc (.cells #[.int .i64 1, .int .i64 10, .int .i64 12, .int .i64 13, .int .i64 14, .int .i64 1, .int .i64 5, .int .i64 8, .int .i64 1] 89)).drew.cell? ⟨w.heap.size, 1, none⟩ = some (.int .i64 10) ∧ (w.alloc (.cells #[.int .i64 1, .int .i64 10, .int .i64 12, .int .i64 13, .int .i64 14, .int .i64 1, .int .i64 5, .int .i64 8, .int .i64 1] 89)).drew.cell? ⟨w.heap.size, 2, none⟩ = some (.int .i64 12) ∧ (w.alloc (.cells #[.int .i64 1, .int .i64 10, .int .i64 12, .int .i64 13, .int .i64 14, .int .i64 1, .int .i64 5, .int .i64 8, .int .i64 1] 89)).drew.cell? ⟨w.heap.size, 3, none⟩ = some (.int .i64 13) ∧ (w.alloc (.cells #[.int .i64 1, .int .i64 10, .int .i64 12, .int .i64 13, .int .i64 14, .int .i64 1, .int .i64 5, .int .i64 8, .int .i64 1] 89)).drew.cell? ⟨w.heap.size, 4, none⟩ = some (.int .i64 14) ∧ (w.alloc (.cells #[.int .i64 1, .int .i64 10, .int .i64 12, .int .i64 13, .int .i64 14, .int .i64 1, .int .i64 5, .int .i64 8, .int .i64 1] 89)).drew.cell? ⟨w.heap.size, 5, none⟩ = some (.int .i64 1) ∧ (w.alloc (.cells #[.int .i64 1, .int .i64 10, .int .i64 12, .int .i64 13, .int .i64 14, .int .i64 1, .int .i64 5, .int .i64 8, .int .i64 1] 89)).drew.cell? ⟨w.heap.size, 6, none⟩ = some (.int .i64 5) ∧ (w.alloc (.cells #[.int .i64 1, .int .i64 10, .int .i64 12, .int .i64 13, .int .i64 14, .int .i64 1, .int .i64 5, .int .i64 8, .int .i64 1] 89)).drew.cell? ⟨w.heap.size, 7, none⟩ = some (.int .i64 8) ∧ (w.alloc (.cells #[.int .i64 1, .int .i64 10, .int .i64 12, .int .i64 13, .int .i64 14, .int .i64 1, .int .i64 5, .int .i64 8, .int .i64 1] 89)).drew.cell? ⟨w.heap.size, 8, none⟩ = some (.int .i64 1) := nineRow_s (heap_alloc_new _ _)
  have B1 : Below w.heap.size w (w.alloc (.cells #[.int .i64 1, .int .i64 10, .int .i64 12, .int .i64 13, .int .i64 14, .int .i64 1, .int .i64 5, .int .i64 8, .int .i64 1] 89)).drew := ((Below.refl _ _).alloc (Nat.le_refl _) _).drew
  generalize (w.alloc (.cells #[.int .i64 1, .int .i64 10, .int .i64 12, .int .i64 13, .int .i64 14, .int .i64 1, .int .i64 5, .int .i64 8, .int .i64 1] 89)).drew = w1 at *
  obtain ⟨g, hg⟩ : ∃ g, w.heap.size = g := ⟨_, rfl⟩
  rw [hg]
  rw [hg] at N1 B1
  obtain ⟨n0, n1, n2, n3, n4, n5, n6, n7, n8⟩ := N1
  go_wp2_with fail
  go_region_held3 (fun w' => w'.cell? ⟨g, 0, none⟩ = some (.int .i64 1) ∧ w'.cell? ⟨g, 1, none⟩ = some (.int .i64 10) ∧ w'.cell? ⟨g, 2, none⟩ = some (.int .i64 12) ∧ w'.cell? ⟨g, 3, none⟩ = some (.int .i64 13) ∧ w'.cell? ⟨g, 4, none⟩ = some (.int .i64 14) ∧ w'.cell? ⟨g, 5, none⟩ = some (.int .i64 1) ∧ w'.cell? ⟨g, 6, none⟩ = some (.int .i64 5) ∧ w'.cell? ⟨g, 7, none⟩ = some (.int .i64 8) ∧ w'.cell? ⟨g, 8, none⟩ = some (.int .i64 1)) (go_keep) (first | (go_at_call 91; with_reducible refine (without_sk s _ g ?_).mono ?_; (first | assumption | (simp [*])); rintro e w2 ⟨rfl, hb2, hn2⟩))
  have B2 : Below w.heap.size w w2 := by rw [← hg] at B1; exact below_trans B1.drew hb2
  clear hb2 n0 n1 n2 n3 n4 n5 n6 n7 n8
  obtain ⟨n0, n1, n2, n3, n4, n5, n6, n7, n8⟩ := hn2
  go_wp2_with fail
  refine (HO.out _).mono ?_
  rintro e w3 ⟨rfl, hb3⟩
  go_wp2_with fail
  go_ret
  exact ⟨by rw [F.out]; rfl, below_trans B2 hb3⟩

theorem left_m (s : Int) (h : U s) (w : World) : Calls Try.prog 64 #[.agg (sideC true), .int .u64 s] w fun e w' => e = .returned (.int .u64 (leaveS s true)) ∧ Below w.heap.size w w' := by
  cases d : (leaveP s true != 3) with
  | true => exact left_my s h d w
  | false => exact left_mn s h d w

theorem left_s (s : Int) (h : U s) (w : World) : Calls Try.prog 64 #[.agg (sideC false), .int .u64 s] w fun e w' => e = .returned (.int .u64 (leaveS s false)) ∧ Below w.heap.size w w' :=
  left_sy s h (leaveP_s3 s h) w

end Go.Proofs.Ytgcbdlfljplkbab
