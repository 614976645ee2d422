/- The program's Lines, Tick and Byte. By tools/genDevI.py. -/
import Derived.Test.YtbkddoibefgplaaDevH
namespace Go.Proofs.Ytbkddoibefgplaa
open Go.RowKit
set_option linter.unusedVariables false

set_option maxRecDepth 100000 in
set_option maxHeartbeats 1600000 in
theorem implLines_any (D : DV) (a1 : Option Addr) (c1 : Nat) (a2 : Option Addr) (c2 : Nat) (w : World) (hn1 : D.xs.length ≤ 1048576) (hn2 : D.ys.length ≤ 1048576) :
    Calls Try.prog 18 #[.agg #[.int .u64 D.t, .int .u64 D.cm, .bool D.so, .slice a1 D.xs.length c1, .slice a2 D.ys.length c2, .int .i64 D.ir]] w fun e w' => e = .returned (.int .u64 (linesD D)) ∧ Below w.heap.size w w' := by
  have HOK : Hid (∀ w, Calls Try.prog 26 #[.agg #[.int .u64 D.t, .int .u64 D.cm, .bool D.so, .slice a1 D.xs.length c1, .slice a2 D.ys.length c2, .int .i64 D.ir]] w fun e w' => e = .returned (.bool (okD D.xs.length D.ys.length D.ir)) ∧ Below w.heap.size w w') := fun w => implDevOk_any _ _ _ _ _ _ _ _ _ _ w hn1 hn2
  have hB : ∀ o, Below w.heap.size w (w.alloc o) := fun o => (Below.refl _ _).alloc (Nat.le_refl _) o
  have F : linesD D = if okD D.xs.length D.ys.length D.ir = true then linesV D else 0 := rfl
  have FV : linesV D = IntKind.u64.wrap (IntKind.u64.wrap (IntKind.u64.wrap (8 * oneIf D.so) + IntKind.u64.wrap (128 * oneIf (decide (D.cm ≤ D.t)))) + IntKind.u64.wrap (2048 * oneIf ((D.ir == 1) && decide (0 < D.xs.length)))) := rfl
  generalize linesD D = v at *
  generalize linesV D = u at *
  generalize okD D.xs.length D.ys.length D.ir = q at *
  cases q with
  | false =>
    have F2 : Hid (v = 0) := F
    clear F FV
    obtain ⟨t, cm, so, xs, ys, ir⟩ := D
    dsimp only at HOK hn1 hn2 ⊢
    generalize xs.length = n1 at *
    generalize ys.length = n2 at *
    go_enter Try.func18, Try.ntmps18
    go_wp2_with fail
    refine (HOK.out _).mono ?_
    rintro e w1 ⟨rfl, hb1⟩
    go_wp2_with fail
    go_ret
    exact ⟨by rw [F2.out]; rfl, below_trans (hB _) hb1⟩
  | true =>
    have F2 : v = u := F
    clear F
    obtain ⟨t, cm, so, xs, ys, ir⟩ := D
    dsimp only at HOK FV hn1 hn2 ⊢
    generalize xs.length = n1 at *
    generalize ys.length = n2 at *
    rw [← F2] at FV
    clear F2 hn1 hn2
    cases so with
    | false =>
      cases dt : decide (cm ≤ t) with
      | false =>
        cases di : (ir == 1) with
        | false =>
          skip
          ·
            have F3 : Hid (v = 0) := by show _ = _; rw [FV, dt, di]; rfl
            clear FV
            go_enter Try.func18, Try.ntmps18
            go_wp2_with fail
            refine (HOK.out _).mono ?_
            rintro e w1 ⟨rfl, hb1⟩
            obtain ⟨p0, p1, p2, p3, p4, p5⟩ := cells6 (dstays hb1 (heap_alloc_new w _))
            have B1 := dhid (below_trans (hB _) hb1)
            clear hb1
            go_wp2_with fail
            go_ret
            exact ⟨by rw [F3.out]; rfl, B1.out⟩
        | true =>
          cases dn : decide (0 < n1) with
          | false =>
            have F3 : Hid (v = 0) := by show _ = _; rw [FV, dt, di, dn]; rfl
            clear FV
            go_enter Try.func18, Try.ntmps18
            go_wp2_with fail
            refine (HOK.out _).mono ?_
            rintro e w1 ⟨rfl, hb1⟩
            obtain ⟨p0, p1, p2, p3, p4, p5⟩ := cells6 (dstays hb1 (heap_alloc_new w _))
            have B1 := dhid (below_trans (hB _) hb1)
            clear hb1
            go_wp2_with fail
            go_ret
            exact ⟨by rw [F3.out]; rfl, B1.out⟩
          | true =>
            have F3 : Hid (v = 2048) := by show _ = _; rw [FV, dt, di, dn]; rfl
            clear FV
            go_enter Try.func18, Try.ntmps18
            go_wp2_with fail
            refine (HOK.out _).mono ?_
            rintro e w1 ⟨rfl, hb1⟩
            obtain ⟨p0, p1, p2, p3, p4, p5⟩ := cells6 (dstays hb1 (heap_alloc_new w _))
            have B1 := dhid (below_trans (hB _) hb1)
            clear hb1
            go_wp2_with fail
            go_ret
            exact ⟨by rw [F3.out]; rfl, B1.out⟩
      | true =>
        cases di : (ir == 1) with
        | false =>
          skip
          ·
            have F3 : Hid (v = 128) := by show _ = _; rw [FV, dt, di]; rfl
            clear FV
            go_enter Try.func18, Try.ntmps18
            go_wp2_with fail
            refine (HOK.out _).mono ?_
            rintro e w1 ⟨rfl, hb1⟩
            obtain ⟨p0, p1, p2, p3, p4, p5⟩ := cells6 (dstays hb1 (heap_alloc_new w _))
            have B1 := dhid (below_trans (hB _) hb1)
            clear hb1
            go_wp2_with fail
            go_ret
            exact ⟨by rw [F3.out]; rfl, B1.out⟩
        | true =>
          cases dn : decide (0 < n1) with
          | false =>
            have F3 : Hid (v = 128) := by show _ = _; rw [FV, dt, di, dn]; rfl
            clear FV
            go_enter Try.func18, Try.ntmps18
            go_wp2_with fail
            refine (HOK.out _).mono ?_
            rintro e w1 ⟨rfl, hb1⟩
            obtain ⟨p0, p1, p2, p3, p4, p5⟩ := cells6 (dstays hb1 (heap_alloc_new w _))
            have B1 := dhid (below_trans (hB _) hb1)
            clear hb1
            go_wp2_with fail
            go_ret
            exact ⟨by rw [F3.out]; rfl, B1.out⟩
          | true =>
            have F3 : Hid (v = 2176) := by show _ = _; rw [FV, dt, di, dn]; rfl
            clear FV
            go_enter Try.func18, Try.ntmps18
            go_wp2_with fail
            refine (HOK.out _).mono ?_
            rintro e w1 ⟨rfl, hb1⟩
            obtain ⟨p0, p1, p2, p3, p4, p5⟩ := cells6 (dstays hb1 (heap_alloc_new w _))
            have B1 := dhid (below_trans (hB _) hb1)
            clear hb1
            go_wp2_with fail
            go_ret
            exact ⟨by rw [F3.out]; rfl, B1.out⟩
    | true =>
      cases dt : decide (cm ≤ t) with
      | false =>
        cases di : (ir == 1) with
        | false =>
          skip
          ·
            have F3 : Hid (v = 8) := by show _ = _; rw [FV, dt, di]; rfl
            clear FV
            go_enter Try.func18, Try.ntmps18
            go_wp2_with fail
            refine (HOK.out _).mono ?_
            rintro e w1 ⟨rfl, hb1⟩
            obtain ⟨p0, p1, p2, p3, p4, p5⟩ := cells6 (dstays hb1 (heap_alloc_new w _))
            have B1 := dhid (below_trans (hB _) hb1)
            clear hb1
            go_wp2_with fail
            go_ret
            exact ⟨by rw [F3.out]; rfl, B1.out⟩
        | true =>
          cases dn : decide (0 < n1) with
          | false =>
            have F3 : Hid (v = 8) := by show _ = _; rw [FV, dt, di, dn]; rfl
            clear FV
            go_enter Try.func18, Try.ntmps18
            go_wp2_with fail
            refine (HOK.out _).mono ?_
            rintro e w1 ⟨rfl, hb1⟩
            obtain ⟨p0, p1, p2, p3, p4, p5⟩ := cells6 (dstays hb1 (heap_alloc_new w _))
            have B1 := dhid (below_trans (hB _) hb1)
            clear hb1
            go_wp2_with fail
            go_ret
            exact ⟨by rw [F3.out]; rfl, B1.out⟩
          | true =>
            have F3 : Hid (v = 2056) := by show _ = _; rw [FV, dt, di, dn]; rfl
            clear FV
            go_enter Try.func18, Try.ntmps18
            go_wp2_with fail
            refine (HOK.out _).mono ?_
            rintro e w1 ⟨rfl, hb1⟩
            obtain ⟨p0, p1, p2, p3, p4, p5⟩ := cells6 (dstays hb1 (heap_alloc_new w _))
            have B1 := dhid (below_trans (hB _) hb1)
            clear hb1
            go_wp2_with fail
            go_ret
            exact ⟨by rw [F3.out]; rfl, B1.out⟩
      | true =>
        cases di : (ir == 1) with
        | false =>
          skip
          ·
            have F3 : Hid (v = 136) := by show _ = _; rw [FV, dt, di]; rfl
            clear FV
            go_enter Try.func18, Try.ntmps18
            go_wp2_with fail
            refine (HOK.out _).mono ?_
            rintro e w1 ⟨rfl, hb1⟩
            obtain ⟨p0, p1, p2, p3, p4, p5⟩ := cells6 (dstays hb1 (heap_alloc_new w _))
            have B1 := dhid (below_trans (hB _) hb1)
            clear hb1
            go_wp2_with fail
            go_ret
            exact ⟨by rw [F3.out]; rfl, B1.out⟩
        | true =>
          cases dn : decide (0 < n1) with
          | false =>
            have F3 : Hid (v = 136) := by show _ = _; rw [FV, dt, di, dn]; rfl
            clear FV
            go_enter Try.func18, Try.ntmps18
            go_wp2_with fail
            refine (HOK.out _).mono ?_
            rintro e w1 ⟨rfl, hb1⟩
            obtain ⟨p0, p1, p2, p3, p4, p5⟩ := cells6 (dstays hb1 (heap_alloc_new w _))
            have B1 := dhid (below_trans (hB _) hb1)
            clear hb1
            go_wp2_with fail
            go_ret
            exact ⟨by rw [F3.out]; rfl, B1.out⟩
          | true =>
            have F3 : Hid (v = 2184) := by show _ = _; rw [FV, dt, di, dn]; rfl
            clear FV
            go_enter Try.func18, Try.ntmps18
            go_wp2_with fail
            refine (HOK.out _).mono ?_
            rintro e w1 ⟨rfl, hb1⟩
            obtain ⟨p0, p1, p2, p3, p4, p5⟩ := cells6 (dstays hb1 (heap_alloc_new w _))
            have B1 := dhid (below_trans (hB _) hb1)
            clear hb1
            go_wp2_with fail
            go_ret
            exact ⟨by rw [F3.out]; rfl, B1.out⟩

set_option maxRecDepth 100000 in
set_option maxHeartbeats 1600000 in
theorem implTick_any (D : DV) (a1 : Option Addr) (c1 : Nat) (a2 : Option Addr) (c2 : Nat) (n : Int) (w : World) (hn1 : D.xs.length ≤ 1048576) (hn2 : D.ys.length ≤ 1048576) (hb : bytesOk D) (hs1 : Sl .u8 w a1 D.xs) (hs2 : Sl .u8 w a2 D.ys) :
    Calls Try.prog 21 #[.agg #[.int .u64 D.t, .int .u64 D.cm, .bool D.so, .slice a1 D.xs.length c1, .slice a2 D.ys.length c2, .int .i64 D.ir], .int .i64 n] w fun e w' => ∃ (b1 : Option Addr) (d1 : Nat) (b2 : Option Addr) (d2 : Nat), e = .returned (.agg (dvc (tickD D n) b1 d1 b2 d2)) ∧
      Fam w.heap.size w'.heap.size w' (dvF (tickD D n) b1 d1 b2 d2) ∧ Below w.heap.size w w' := by
  have HOK : Hid (∀ w, Calls Try.prog 26 #[.agg #[.int .u64 D.t, .int .u64 D.cm, .bool D.so, .slice a1 D.xs.length c1, .slice a2 D.ys.length c2, .int .i64 D.ir]] w fun e w' => e = .returned (.bool (okD D.xs.length D.ys.length D.ir)) ∧ Below w.heap.size w w') := fun w => implDevOk_any _ _ _ _ _ _ _ _ _ _ w hn1 hn2
  have HCP : Hid (∀ w', Below w.heap.size w w' → Calls Try.prog 35 #[.agg #[.int .u64 D.t, .int .u64 D.cm, .bool D.so, .slice a1 D.xs.length c1, .slice a2 D.ys.length c2, .int .i64 D.ir]] w' fun e w'' => ∃ (b1 : Option Addr) (d1 : Nat) (b2 : Option Addr) (d2 : Nat), e = .returned (.agg #[.int .u64 D.t, .int .u64 D.cm, .bool D.so, .slice b1 D.xs.length d1, .slice b2 D.ys.length d2, .int .i64 D.ir]) ∧ Fam w'.heap.size w''.heap.size w'' (devF b1 D.xs.length d1 D.xs b2 D.ys.length d2 D.ys) ∧ Below w'.heap.size w' w'') := fun w' hb => copied_any _ _ _ _ _ _ _ _ _ _ D.xs D.ys w' rfl rfl hn1 hn2 (hs1.below hb) (hs2.below hb)
  cases hok : okD D.xs.length D.ys.length D.ir with
  | false =>
    have F : tickD D n = zeroD := by unfold tickD; rw [hok]; rfl
    rw [F]
    rw [hok] at HOK
    clear hs1 hs2 hb hn1 hn2 HCP F hok
    obtain ⟨t, cm, so, xs, ys, ir⟩ := D
    dsimp only at HOK ⊢
    generalize xs.length = n1 at *
    generalize ys.length = n2 at *
    go_enter Try.func21, Try.ntmps21
    go_wp2_with fail
    refine (HOK.out _).mono ?_
    rintro e w1 ⟨rfl, hb1⟩
    obtain ⟨r0, r1⟩ := rows2 hb1
    have R1 := dhid r1
    have B1 := dhid (below_trans belowi hb1)
    obtain ⟨s0, s1, s2, s3, s4, s5⟩ := cells6 r1
    obtain ⟨y0, y1, y2, y3, y4, y5⟩ := froz6 r1
    clear r0 r1 hb1
    go_wp2_with fail
    exact bodyPost_ret (results_cell_row Try.results21 _ _ _ _ _ _ _ rfl (row_put6 R1.out _ _ _ _ _ _) Try.underlying26 rfl dev_size) rfl ⟨none, 0, none, 0, rfl, fam_zero _ _ _, below_put6 B1.out (by omega) _ _ _ _ _ _⟩
  | true =>
    rw [hok] at HOK
    cases hneg : decide (n < 0) with
    | true =>
      have F : tickD D n = zeroD := by unfold tickD; rw [hok, hneg]; rfl
      rw [F]
      clear hs1 hs2 hb hn1 hn2 HCP F hok
      obtain ⟨t, cm, so, xs, ys, ir⟩ := D
      dsimp only at HOK ⊢
      generalize xs.length = n1 at *
      generalize ys.length = n2 at *
      go_enter Try.func21, Try.ntmps21
      go_wp2_with fail
      refine (HOK.out _).mono ?_
      rintro e w1 ⟨rfl, hb1⟩
      obtain ⟨r0, r1⟩ := rows2 hb1
      have R1 := dhid r1
      have B1 := dhid (below_trans belowi hb1)
      obtain ⟨s0, s1, s2, s3, s4, s5⟩ := cells6 r1
      obtain ⟨y0, y1, y2, y3, y4, y5⟩ := froz6 r1
      clear r0 r1 hb1
      go_wp2_with fail
      exact bodyPost_ret (results_cell_row Try.results21 _ _ _ _ _ _ _ rfl (row_put6 R1.out _ _ _ _ _ _) Try.underlying26 rfl dev_size) rfl ⟨none, 0, none, 0, rfl, fam_zero _ _ _, below_put6 B1.out (by omega) _ _ _ _ _ _⟩
    | false =>
      obtain ⟨tt, htt⟩ : ∃ tt, IntKind.u64.wrap (D.t + IntKind.u64.wrap n) = tt := ⟨_, rfl⟩
      have F : tickD D n = ⟨tt, D.cm, D.so, D.xs, D.ys, D.ir⟩ := by unfold tickD; rw [hok, hneg, htt]; rfl
      rw [F]
      have HT := dhid htt
      clear hs1 hs2 hb hn1 hn2 F hok htt
      obtain ⟨t, cm, so, xs, ys, ir⟩ := D
      dsimp only [dvc, dvF] at HOK HCP HT ⊢
      generalize xs.length = n1 at *
      generalize ys.length = n2 at *
      go_enter Try.func21, Try.ntmps21
      go_wp2_with fail
      refine (HOK.out _).mono ?_
      rintro e w1 ⟨rfl, hb1⟩
      obtain ⟨r0, r1⟩ := rows2 hb1
      have R0 := dhid r0
      have R1 := dhid r1
      have B1 := dhid (below_trans belowi hb1)
      obtain ⟨p0, p1, p2, p3, p4, p5⟩ := cells6 r0
      clear r0 r1 hb1
      go_wp2_with fail
      refine (HCP.out _ B1.out).mono ?_
      rintro e w2 ⟨b1, d1, b2, d2, rfl, fm2, hb2⟩
      have FM2 := dhid fm2
      have S0 := dhid (dstays hb2 R0.out)
      have S1 := dhid (dstays hb2 R1.out)
      have B2 := dhid (below_trans B1.out hb2)
      have Z1 := dhid (show w.heap.size + 1 < w1.heap.size ∧ w1.heap.size ≤ w2.heap.size from ⟨(Array.getElem?_eq_some_iff.1 R1.out).1, hb2.size⟩)
      have u0 := fun o => (cells6 (row_al8 S0.out o)).1
      have s0 := fun o => (cells6 (row_al8 S1.out o)).1
      have s1 := fun o => (cells6 (row_al8 S1.out o)).2.1
      have s2 := fun o => (cells6 (row_al8 S1.out o)).2.2.1
      have s3 := fun o => (cells6 (row_al8 S1.out o)).2.2.2.1
      have s4 := fun o => (cells6 (row_al8 S1.out o)).2.2.2.2.1
      have s5 := fun o => (cells6 (row_al8 S1.out o)).2.2.2.2.2
      have y0 := fun o => froz (row_al8 S1.out o) 0
      have y1 := fun o => froz (row_al8 S1.out o) 1
      have y2 := fun o => froz (row_al8 S1.out o) 2
      have y3 := fun o => froz (row_al8 S1.out o) 3
      have y4 := fun o => froz (row_al8 S1.out o) 4
      have y5 := fun o => froz (row_al8 S1.out o) 5
      clear fm2 hb2 p0 p1 p2 p3 p4 p5
      go_wp2_with fail
      rw [HT.out]
      exact bodyPost_ret (results_cell_row Try.results21 _ _ _ _ _ _ _ rfl (row_put6 (row_al8 S1.out _) _ _ _ _ _ _) Try.underlying26 rfl dev_size) rfl ⟨b1, d1, b2, d2, rfl, (((FM2.out.below ((Below.refl _ _).alloc (Nat.le_refl _) _)).put6 (w.heap.size + 1) (.inl Z1.out.1) _ _ _ _ _ _).low (by have := Z1.out; omega) (by simp only [size_set, World.size_alloc]; omega)), below_put6 (B2.out.alloc B2.out.size _) (by omega) _ _ _ _ _ _⟩

set_option maxRecDepth 100000 in
set_option maxHeartbeats 1600000 in
theorem implByte_any (D : DV) (a1 : Option Addr) (c1 : Nat) (a2 : Option Addr) (c2 : Nat) (b : Int) (w : World) (hn1 : D.xs.length ≤ 1048576) (hn2 : D.ys.length ≤ 1048576) (hb : bytesOk D) (hs1 : Sl .u8 w a1 D.xs) (hs2 : Sl .u8 w a2 D.ys) :
    Calls Try.prog 17 #[.agg #[.int .u64 D.t, .int .u64 D.cm, .bool D.so, .slice a1 D.xs.length c1, .slice a2 D.ys.length c2, .int .i64 D.ir], .int .u8 b] w fun e w' => ∃ (b1 : Option Addr) (d1 : Nat) (b2 : Option Addr) (d2 : Nat), e = .returned (.agg (dvc (byteD D b) b1 d1 b2 d2)) ∧
      Fam w.heap.size w'.heap.size w' (dvF (byteD D b) b1 d1 b2 d2) ∧ Below w.heap.size w w' := by
  have HOK : Hid (∀ w, Calls Try.prog 26 #[.agg #[.int .u64 D.t, .int .u64 D.cm, .bool D.so, .slice a1 D.xs.length c1, .slice a2 D.ys.length c2, .int .i64 D.ir]] w fun e w' => e = .returned (.bool (okD D.xs.length D.ys.length D.ir)) ∧ Below w.heap.size w w') := fun w => implDevOk_any _ _ _ _ _ _ _ _ _ _ w hn1 hn2
  have HCP : Hid (∀ w', Below w.heap.size w w' → Calls Try.prog 35 #[.agg #[.int .u64 D.t, .int .u64 D.cm, .bool D.so, .slice a1 D.xs.length c1, .slice a2 D.ys.length c2, .int .i64 D.ir]] w' fun e w'' => ∃ (b1 : Option Addr) (d1 : Nat) (b2 : Option Addr) (d2 : Nat), e = .returned (.agg #[.int .u64 D.t, .int .u64 D.cm, .bool D.so, .slice b1 D.xs.length d1, .slice b2 D.ys.length d2, .int .i64 D.ir]) ∧ Fam w'.heap.size w''.heap.size w'' (devF b1 D.xs.length d1 D.xs b2 D.ys.length d2 D.ys) ∧ Below w'.heap.size w' w'') := fun w' hb => copied_any _ _ _ _ _ _ _ _ _ _ D.xs D.ys w' rfl rfl hn1 hn2 (hs1.below hb) (hs2.below hb)
  cases hok : okD D.xs.length D.ys.length D.ir with
  | false =>
    have F : byteD D b = zeroD := by unfold byteD; rw [hok]; rfl
    rw [F]
    rw [hok] at HOK
    clear hs1 hs2 hb hn1 hn2 HCP F hok
    obtain ⟨t, cm, so, xs, ys, ir⟩ := D
    dsimp only [dvc, dvF] at HOK ⊢
    generalize xs.length = n1 at *
    generalize ys.length = n2 at *
    go_enter Try.func17, Try.ntmps17
    go_wp2_with fail
    refine (HOK.out _).mono ?_
    rintro e w1 ⟨rfl, hb1⟩
    obtain ⟨r0, r1⟩ := rows2 hb1
    have R0 := dhid r0
    have R1 := dhid r1
    have B1 := dhid (below_trans belowi hb1)
    obtain ⟨s0, s1, s2, s3, s4, s5⟩ := cells6 r1
    obtain ⟨y0, y1, y2, y3, y4, y5⟩ := froz6 r1
    clear r0 r1 hb1
    go_wp2_with fail
    exact bodyPost_ret (results_cell_row Try.results17 _ _ _ _ _ _ _ rfl (row_put6 R1.out _ _ _ _ _ _) Try.underlying26 rfl dev_size) rfl ⟨none, 0, none, 0, rfl, fam_zero _ _ _, below_put6 B1.out (by omega) _ _ _ _ _ _⟩
  | true =>
    have F : byteD D b = ⟨D.t, D.cm, D.so, behind D.xs b 16, D.ys, D.ir⟩ := by unfold byteD behind; rw [hok, if_pos rfl]
    rw [F]
    have HW : Hid (∀ w', Below w.heap.size w w' → Calls Try.prog 37 #[.slice a1 D.xs.length c1, .int .u8 b, .int .i64 16] w' fun e w'' => ∃ (a' : Option Addr) (c' : Nat), e = .returned (.slice a' (behind D.xs b 16).length c') ∧ w''.ownsRow w'.heap.size 5 1 (.slice a' (behind D.xs b 16).length c') (behind D.xs b 16).length ((behind D.xs b 16).map (Value.int .u8)) ∧ Below w'.heap.size w' w'') := fun w' hb => withBehind_any a1 _ c1 16 D.xs b w' rfl (by omega) (okD_bdi hok).1 (hs1.below hb)
    rw [hok] at HOK
    clear hs1 hs2 hb hn1 hn2 F hok
    generalize behind D.xs b 16 = zs at *
    obtain ⟨t, cm, so, xs, ys, ir⟩ := D
    dsimp only [dvc, dvF] at HOK HCP HW ⊢
    generalize hm : zs.length = m at *
    generalize xs.length = n1 at *
    generalize ys.length = n2 at *
    go_enter Try.func17, Try.ntmps17
    go_wp2_with fail
    refine (HOK.out _).mono ?_
    rintro e w1 ⟨rfl, hb1⟩
    obtain ⟨r0, r1⟩ := rows2 hb1
    have R0 := dhid r0
    have R1 := dhid r1
    have B1 := dhid (below_trans belowi hb1)
    obtain ⟨p0, p1, p2, p3, p4, p5⟩ := cells6 r0
    clear r0 r1 hb1
    go_wp2_with fail
    refine (HCP.out _ B1.out).mono ?_
    rintro e w2 ⟨b1, d1, b2, d2, rfl, fm2, hb2⟩
    have FM2 := dhid fm2
    have S0 := dhid (dstays hb2 R0.out)
    have S1 := dhid (dstays hb2 R1.out)
    have B2 := dhid (below_trans B1.out hb2)
    have Z1 := dhid (show w.heap.size + 1 < w1.heap.size ∧ w1.heap.size ≤ w2.heap.size from ⟨(Array.getElem?_eq_some_iff.1 R1.out).1, hb2.size⟩)
    have nd1 : ¬ w2.heap.size = w.heap.size + 1 := by have := Z1.out; omega
    have nd2 : ¬ w.heap.size + 1 = w2.heap.size := by have := Z1.out; omega
    clear fm2 hb2 p0 p1 p2 p3 p4 p5
    have u0 := fun o => (cells6 (row_al8 S0.out o)).1
    have u1 := fun o => (cells6 (row_al8 S0.out o)).2.1
    have u2 := fun o => (cells6 (row_al8 S0.out o)).2.2.1
    have u3 := fun o => (cells6 (row_al8 S0.out o)).2.2.2.1
    have u4 := fun o => (cells6 (row_al8 S0.out o)).2.2.2.2.1
    have u5 := fun o => (cells6 (row_al8 S0.out o)).2.2.2.2.2
    have s0 := fun o => (cells6 (row_al8 S1.out o)).1
    have s1 := fun o => (cells6 (row_al8 S1.out o)).2.1
    have s2 := fun o => (cells6 (row_al8 S1.out o)).2.2.1
    have s3 := fun o => (cells6 (row_al8 S1.out o)).2.2.2.1
    have s4 := fun o => (cells6 (row_al8 S1.out o)).2.2.2.2.1
    have s5 := fun o => (cells6 (row_al8 S1.out o)).2.2.2.2.2
    have y0 := fun o => froz (row_al8 S1.out o) 0
    have y1 := fun o => froz (row_al8 S1.out o) 1
    have y2 := fun o => froz (row_al8 S1.out o) 2
    have y3 := fun o => froz (row_al8 S1.out o) 3
    have y4 := fun o => froz (row_al8 S1.out o) 4
    have y5 := fun o => froz (row_al8 S1.out o) 5
    go_wp2_with fail
    refine (HW.out _ (B2.out.alloc B2.out.size _)).mono ?_
    rintro e w3 ⟨a', c', rfl, ow3, hb3⟩
    have OW := dhid ow3
    have V5 := dhid (dstays hb3 (heap_alloc_new w2 _))
    have V1 := dhid (dstays hb3 (row_al8 S1.out _))
    have B3 := dhid (below_trans (B2.out.alloc B2.out.size _) hb3)
    have FM3 := dhid ((FM2.out.below ((Below.refl _ _).alloc (Nat.le_refl _) _)).below hb3)
    have Z3 := dhid (show w2.heap.size < w3.heap.size from (Array.getElem?_eq_some_iff.1 V5.out).1)
    obtain ⟨x0, x1, x2, x3, x4, x5⟩ := cells6 V5.out
    obtain ⟨f0, f1, f2, f3, f4, f5⟩ := froz6 V5.out
    clear u0 s0 y0 u1 s1 y1 u2 s2 y2 u3 s3 y3 u4 s4 y4 u5 s5 y5
    obtain ⟨s0, s1, s2, s3, s4, s5⟩ := cells6 V1.out
    obtain ⟨y0, y1, y2, y3, y4, y5⟩ := froz6 V1.out
    clear ow3 hb3
    go_wp2_with fail
    have OW2 := own_setNe OW.out ⟨w2.heap.size, 3, none⟩ (.slice a' m c') (by simp only [World.size_alloc]; omega)
    have A4 := ((FM3.out.set ⟨w2.heap.size, 3, none⟩ (.slice a' m c') (.inr (Nat.le_refl _))).newIn a' m c' zs _ w3.heap.size OW2 (by simp only [World.size_alloc]; omega) (by have := Z1.out; simp only [World.size_alloc]; omega) (by rw [size_set]; exact Nat.le_refl _) (by have := Z3.out; omega)).put6 (w.heap.size + 1) (.inl Z1.out.1) (.int .u64 t) (.int .u64 cm) (.bool so) (.slice a' m c') (.slice b2 n2 d2) (.int .i64 ir)
    have T1 := row_put6 (row_far V1.out ⟨w2.heap.size, 3, none⟩ (.slice a' m c') nd2) (.int .u64 t) (.int .u64 cm) (.bool so) (.slice a' m c') (.slice b2 n2 d2) (.int .i64 ir)
    exact bodyPost_ret (results_cell_row Try.results17 _ _ _ _ _ _ _ rfl T1 Try.underlying26 rfl dev_size) rfl ⟨a', c', b2, d2, rfl, A4.low (by have := Z1.out; omega) (by simp only [size_set]; exact Nat.le_refl _), below_put6 (B3.out.setCell (p := ⟨w2.heap.size, 3, none⟩) (by have := Z1.out; dsimp only; omega) _) (by omega) _ _ _ _ _ _⟩

end Go.Proofs.Ytbkddoibefgplaa
