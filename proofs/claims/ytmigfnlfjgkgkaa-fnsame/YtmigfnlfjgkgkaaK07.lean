/- Own lemmas. -/
import Derived.Test.YtmigfnlfjgkgkaaK04
namespace Go.Proofs.Ytmigfnlfjgkgkaa
open Go.RowKit
set_option linter.unusedVariables false

set_option maxRecDepth 100000 in
set_option maxHeartbeats 1600000 in
theorem implLines_any (D : DV) (a1 : Option Addr) (c1 : Nat) (a2 : Option Addr) (c2 : Nat) (w : World) (hn1 : D.xs.length ≤ 1048576) (hn2 : D.ys.length ≤ 1048576) :
    Calls Try.prog 39 #[.agg #[.int .u64 D.t, .int .u64 D.cm, .bool D.so, .slice a1 D.xs.length c1, .slice a2 D.ys.length c2, .int .i64 D.ir]] w fun e w' => e = .returned (.int .u64 (linesD D)) ∧ Below w.heap.size w w' := by
  have HOK : Hid (∀ w, Calls Try.prog 25 #[.agg #[.int .u64 D.t, .int .u64 D.cm, .bool D.so, .slice a1 D.xs.length c1, .slice a2 D.ys.length c2, .int .i64 D.ir]] w fun e w' => e = .returned (.bool (okD D.xs.length D.ys.length D.ir)) ∧ Below w.heap.size w w') := fun w => implDevOk_any _ _ _ _ _ _ _ _ _ _ w hn1 hn2
  have hB : ∀ o, Below w.heap.size w (w.alloc o) := fun o => (Below.refl _ _).alloc (Nat.le_refl _) o
  have F : linesD D = if okD D.xs.length D.ys.length D.ir = true then linesV D else 0 := rfl
  have FV : linesV D = IntKind.u64.wrap (IntKind.u64.wrap (IntKind.u64.wrap (8 * oneIf D.so) + IntKind.u64.wrap (128 * oneIf (decide (D.cm ≤ D.t)))) + IntKind.u64.wrap (2048 * oneIf ((D.ir == 1) && decide (0 < D.xs.length)))) := rfl
  generalize linesD D = v at *
  generalize linesV D = u at *
  generalize okD D.xs.length D.ys.length D.ir = q at *
  cases q with
  | false =>
    have F2 : Hid (v = 0) := F
    clear F FV
    obtain ⟨t, cm, so, xs, ys, ir⟩ := D
    dsimp only at HOK hn1 hn2 ⊢
    generalize xs.length = n1 at *
    generalize ys.length = n2 at *
    go_enter Try.func39, Try.ntmps39
    go_wp2_with fail
    refine (HOK.out _).mono ?_
    rintro e w1 ⟨rfl, hb1⟩
    go_wp2_with fail
    go_ret
    exact ⟨by rw [F2.out]; rfl, below_trans (hB _) hb1⟩
  | true =>
    have F2 : v = u := F
    clear F
    obtain ⟨t, cm, so, xs, ys, ir⟩ := D
    dsimp only at HOK FV hn1 hn2 ⊢
    generalize xs.length = n1 at *
    generalize ys.length = n2 at *
    rw [← F2] at FV
    clear F2 hn1 hn2
    cases so with
    | false =>
      cases dt : decide (cm ≤ t) with
      | false =>
        cases di : (ir == 1) with
        | false =>
          skip
          ·
            have F3 : Hid (v = 0) := by show _ = _; rw [FV, dt, di]; rfl
            clear FV
            go_enter Try.func39, Try.ntmps39
            go_wp2_with fail
            refine (HOK.out _).mono ?_
            rintro e w1 ⟨rfl, hb1⟩
            obtain ⟨p0, p1, p2, p3, p4, p5⟩ := cells6 (dstays hb1 (heap_alloc_new w _))
            have B1 := dhid (below_trans (hB _) hb1)
            clear hb1
            go_wp2_with fail
            go_ret
            exact ⟨by rw [F3.out]; rfl, B1.out⟩
        | true =>
          cases dn : decide (0 < n1) with
          | false =>
            have F3 : Hid (v = 0) := by show _ = _; rw [FV, dt, di, dn]; rfl
            clear FV
            go_enter Try.func39, Try.ntmps39
            go_wp2_with fail
            refine (HOK.out _).mono ?_
            rintro e w1 ⟨rfl, hb1⟩
            obtain ⟨p0, p1, p2, p3, p4, p5⟩ := cells6 (dstays hb1 (heap_alloc_new w _))
            have B1 := dhid (below_trans (hB _) hb1)
            clear hb1
            go_wp2_with fail
            go_ret
            exact ⟨by rw [F3.out]; rfl, B1.out⟩
          | true =>
            have F3 : Hid (v = 2048) := by show _ = _; rw [FV, dt, di, dn]; rfl
            clear FV
            go_enter Try.func39, Try.ntmps39
            go_wp2_with fail
            refine (HOK.out _).mono ?_
            rintro e w1 ⟨rfl, hb1⟩
            obtain ⟨p0, p1, p2, p3, p4, p5⟩ := cells6 (dstays hb1 (heap_alloc_new w _))
            have B1 := dhid (below_trans (hB _) hb1)
            clear hb1
            go_wp2_with fail
            go_ret
            exact ⟨by rw [F3.out]; rfl, B1.out⟩
      | true =>
        cases di : (ir == 1) with
        | false =>
          skip
          ·
            have F3 : Hid (v = 128) := by show _ = _; rw [FV, dt, di]; rfl
            clear FV
            go_enter Try.func39, Try.ntmps39
            go_wp2_with fail
            refine (HOK.out _).mono ?_
            rintro e w1 ⟨rfl, hb1⟩
            obtain ⟨p0, p1, p2, p3, p4, p5⟩ := cells6 (dstays hb1 (heap_alloc_new w _))
            have B1 := dhid (below_trans (hB _) hb1)
            clear hb1
            go_wp2_with fail
            go_ret
            exact ⟨by rw [F3.out]; rfl, B1.out⟩
        | true =>
          cases dn : decide (0 < n1) with
          | false =>
            have F3 : Hid (v = 128) := by show _ = _; rw [FV, dt, di, dn]; rfl
            clear FV
            go_enter Try.func39, Try.ntmps39
            go_wp2_with fail
            refine (HOK.out _).mono ?_
            rintro e w1 ⟨rfl, hb1⟩
            obtain ⟨p0, p1, p2, p3, p4, p5⟩ := cells6 (dstays hb1 (heap_alloc_new w _))
            have B1 := dhid (below_trans (hB _) hb1)
            clear hb1
            go_wp2_with fail
            go_ret
            exact ⟨by rw [F3.out]; rfl, B1.out⟩
          | true =>
            have F3 : Hid (v = 2176) := by show _ = _; rw [FV, dt, di, dn]; rfl
            clear FV
            go_enter Try.func39, Try.ntmps39
            go_wp2_with fail
            refine (HOK.out _).mono ?_
            rintro e w1 ⟨rfl, hb1⟩
            obtain ⟨p0, p1, p2, p3, p4, p5⟩ := cells6 (dstays hb1 (heap_alloc_new w _))
            have B1 := dhid (below_trans (hB _) hb1)
            clear hb1
            go_wp2_with fail
            go_ret
            exact ⟨by rw [F3.out]; rfl, B1.out⟩
    | true =>
      cases dt : decide (cm ≤ t) with
      | false =>
        cases di : (ir == 1) with
        | false =>
          skip
          ·
            have F3 : Hid (v = 8) := by show _ = _; rw [FV, dt, di]; rfl
            clear FV
            go_enter Try.func39, Try.ntmps39
            go_wp2_with fail
            refine (HOK.out _).mono ?_
            rintro e w1 ⟨rfl, hb1⟩
            obtain ⟨p0, p1, p2, p3, p4, p5⟩ := cells6 (dstays hb1 (heap_alloc_new w _))
            have B1 := dhid (below_trans (hB _) hb1)
            clear hb1
            go_wp2_with fail
            go_ret
            exact ⟨by rw [F3.out]; rfl, B1.out⟩
        | true =>
          cases dn : decide (0 < n1) with
          | false =>
            have F3 : Hid (v = 8) := by show _ = _; rw [FV, dt, di, dn]; rfl
            clear FV
            go_enter Try.func39, Try.ntmps39
            go_wp2_with fail
            refine (HOK.out _).mono ?_
            rintro e w1 ⟨rfl, hb1⟩
            obtain ⟨p0, p1, p2, p3, p4, p5⟩ := cells6 (dstays hb1 (heap_alloc_new w _))
            have B1 := dhid (below_trans (hB _) hb1)
            clear hb1
            go_wp2_with fail
            go_ret
            exact ⟨by rw [F3.out]; rfl, B1.out⟩
          | true =>
            have F3 : Hid (v = 2056) := by show _ = _; rw [FV, dt, di, dn]; rfl
            clear FV
            go_enter Try.func39, Try.ntmps39
            go_wp2_with fail
            refine (HOK.out _).mono ?_
            rintro e w1 ⟨rfl, hb1⟩
            obtain ⟨p0, p1, p2, p3, p4, p5⟩ := cells6 (dstays hb1 (heap_alloc_new w _))
            have B1 := dhid (below_trans (hB _) hb1)
            clear hb1
            go_wp2_with fail
            go_ret
            exact ⟨by rw [F3.out]; rfl, B1.out⟩
      | true =>
        cases di : (ir == 1) with
        | false =>
          skip
          ·
            have F3 : Hid (v = 136) := by show _ = _; rw [FV, dt, di]; rfl
            clear FV
            go_enter Try.func39, Try.ntmps39
            go_wp2_with fail
            refine (HOK.out _).mono ?_
            rintro e w1 ⟨rfl, hb1⟩
            obtain ⟨p0, p1, p2, p3, p4, p5⟩ := cells6 (dstays hb1 (heap_alloc_new w _))
            have B1 := dhid (below_trans (hB _) hb1)
            clear hb1
            go_wp2_with fail
            go_ret
            exact ⟨by rw [F3.out]; rfl, B1.out⟩
        | true =>
          cases dn : decide (0 < n1) with
          | false =>
            have F3 : Hid (v = 136) := by show _ = _; rw [FV, dt, di, dn]; rfl
            clear FV
            go_enter Try.func39, Try.ntmps39
            go_wp2_with fail
            refine (HOK.out _).mono ?_
            rintro e w1 ⟨rfl, hb1⟩
            obtain ⟨p0, p1, p2, p3, p4, p5⟩ := cells6 (dstays hb1 (heap_alloc_new w _))
            have B1 := dhid (below_trans (hB _) hb1)
            clear hb1
            go_wp2_with fail
            go_ret
            exact ⟨by rw [F3.out]; rfl, B1.out⟩
          | true =>
            have F3 : Hid (v = 2184) := by show _ = _; rw [FV, dt, di, dn]; rfl
            clear FV
            go_enter Try.func39, Try.ntmps39
            go_wp2_with fail
            refine (HOK.out _).mono ?_
            rintro e w1 ⟨rfl, hb1⟩
            obtain ⟨p0, p1, p2, p3, p4, p5⟩ := cells6 (dstays hb1 (heap_alloc_new w _))
            have B1 := dhid (below_trans (hB _) hb1)
            clear hb1
            go_wp2_with fail
            go_ret
            exact ⟨by rw [F3.out]; rfl, B1.out⟩

end Go.Proofs.Ytmigfnlfjgkgkaa
