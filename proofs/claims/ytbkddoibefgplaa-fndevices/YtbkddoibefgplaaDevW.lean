/- The model's DevStore, Lines, Tick, Byte. By tools/genDevW.py. -/
import Derived.Test.YtbkddoibefgplaaDevV
import Derived.BigQuiet
namespace Go.Proofs.Ytbkddoibefgplaa
open Go.RowKit
set_option linter.unusedVariables false

theorem stV_0 (D : DV) (x : Int) : stV D x 0 = (⟨D.t, D.cm, bits .and .u64 x 1 == 1, D.xs, D.ys, D.ir⟩, true) := by rw [stV]

theorem stV_1 (D : DV) (x : Int) : stV D x 1 = (⟨D.t, x, D.so, D.xs, D.ys, D.ir⟩, true) := by rw [stV]

theorem stV_2 (D : DV) (x : Int) : stV D x 2 = (⟨x, D.cm, D.so, D.xs, D.ys, D.ir⟩, true) := by rw [stV]

theorem stV_3r (D : DV) (x : Int) (h : D.ys.length < 4096) : stV D x 3 = (⟨D.t, D.cm, D.so, D.xs, D.ys ++ [IntKind.u8.wrap x], D.ir⟩, true) := by rw [stV, if_pos h]

theorem stV_3f (D : DV) (x : Int) (h : ¬ D.ys.length < 4096) : stV D x 3 = (D, true) := by rw [stV, if_neg h]

theorem stV_4 (D : DV) (x : Int) : stV D x 4 = (⟨D.t, D.cm, D.so, D.xs, D.ys, wrap64 (bits .and .u64 x 1)⟩, true) := by rw [stV]

theorem stV_5 (D : DV) (x : Int) : stV D x 5 = (D, true) := by rw [stV]

theorem stV_6 (D : DV) (x : Int) : stV D x 6 = (zeroD, false) := by
  rw [stV] <;> omega

theorem l8Store_4q (D : DV) (a1 : Option Addr) (c1 : Nat) (a2 : Option Addr) (c2 : Nat) (x : Int) (B E : Nat) (w : World) (hE : E ≤ w.heap.size) (hf : Fam B E w (devF a1 D.xs.length c1 D.xs a2 D.ys.length c2 D.ys)) (q : Int) (hq : wrap64 (bits .and .u64 x 1) = q) : Calls Try.prog 38 #[.agg #[.int .u64 D.t, .int .u64 D.cm, .bool D.so, .slice a1 D.xs.length c1, .slice a2 D.ys.length c2, .int .i64 D.ir], .int .u64 268435457, .int .i64 1, .int .u64 x] w fun e w' => ∃ (b1 : Option Addr) (d1 : Nat) (b2 : Option Addr) (d2 : Nat), e = .returned (.tuple #[.agg (dvc ((⟨D.t, D.cm, D.so, D.xs, D.ys, q⟩, true) : DV × Bool).1 b1 d1 b2 d2), .bool ((⟨D.t, D.cm, D.so, D.xs, D.ys, q⟩, true) : DV × Bool).2]) ∧ Fam B w'.heap.size w' (dvF ((⟨D.t, D.cm, D.so, D.xs, D.ys, q⟩, true) : DV × Bool).1 b1 d1 b2 d2) ∧ Below w.heap.size w w' := by
  have h4 := l8Store_4 D.t D.cm D.so a1 D.xs.length c1 a2 D.ys.length c2 D.ir x w
  rw [hq] at h4
  exact h4.mono fun e w' h => ⟨a1, c1, a2, c2, h.1, (hf.below h.2).low (Nat.le_refl _) (Nat.le_trans hE h.2.size), h.2⟩

theorem l8Store_any (D : DV) (a1 : Option Addr) (c1 : Nat) (a2 : Option Addr) (c2 : Nat) (addr size x : Int) (B E : Nat) (w : World) (h2 : D.ys.length ≤ 4096) (hBE : B ≤ E) (hE : E ≤ w.heap.size) (hf : Fam B E w (devF a1 D.xs.length c1 D.xs a2 D.ys.length c2 D.ys)) :
    Calls Try.prog 38 #[.agg #[.int .u64 D.t, .int .u64 D.cm, .bool D.so, .slice a1 D.xs.length c1, .slice a2 D.ys.length c2, .int .i64 D.ir], .int .u64 addr, .int .i64 size, .int .u64 x] w fun e w' => ∃ (b1 : Option Addr) (d1 : Nat) (b2 : Option Addr) (d2 : Nat), e = .returned (.tuple #[.agg (dvc (stV D x (sel addr size)).1 b1 d1 b2 d2), .bool (stV D x (sel addr size)).2]) ∧
      Fam B w'.heap.size w' (dvF (stV D x (sel addr size)).1 b1 d1 b2 d2) ∧ Below w.heap.size w w' := by
  have same : ∀ (D' : DV) w', D'.xs = D.xs → D'.ys = D.ys → Below w.heap.size w w' → Fam B w'.heap.size w' (dvF D' a1 c1 a2 c2) := fun D' w' e1 e2 hb => by
    unfold dvF
    rw [e1, e2]
    exact (hf.below hb).low (Nat.le_refl _) (Nat.le_trans hE hb.size)
  refine sel_cases addr size (fun k => Calls Try.prog 38 #[.agg #[.int .u64 D.t, .int .u64 D.cm, .bool D.so, .slice a1 D.xs.length c1, .slice a2 D.ys.length c2, .int .i64 D.ir], .int .u64 addr, .int .i64 size, .int .u64 x] w fun e w' => ∃ (b1 : Option Addr) (d1 : Nat) (b2 : Option Addr) (d2 : Nat), e = .returned (.tuple #[.agg (dvc (stV D x k).1 b1 d1 b2 d2), .bool (stV D x k).2]) ∧
      Fam B w'.heap.size w' (dvF (stV D x k).1 b1 d1 b2 d2) ∧ Below w.heap.size w w') ?_ ?_ ?_ ?_ ?_ ?_ ?_
  · rintro rfl rfl
    rw [stV_0]
    exact (l8Store_0 D.t D.cm D.so a1 _ c1 a2 _ c2 D.ir x w).mono fun e w' h => ⟨a1, c1, a2, c2, h.1, same _ _ rfl rfl h.2, h.2⟩
  · rintro rfl rfl
    rw [stV_1]
    exact (l8Store_1 D.t D.cm D.so a1 _ c1 a2 _ c2 D.ir x w).mono fun e w' h => ⟨a1, c1, a2, c2, h.1, same _ _ rfl rfl h.2, h.2⟩
  · rintro rfl rfl
    rw [stV_2]
    exact (l8Store_2 D.t D.cm D.so a1 _ c1 a2 _ c2 D.ir x w).mono fun e w' h => ⟨a1, c1, a2, c2, h.1, same _ _ rfl rfl h.2, h.2⟩
  · rintro rfl rfl
    by_cases hl : D.ys.length < 4096
    · rw [stV_3r D x hl]
      refine (l8Store_3 D.t D.cm D.so a1 _ c1 a2 _ c2 D.ir x D.xs D.ys B E w rfl hl hBE hE hf).mono fun e w' h => ?_
      obtain ⟨f1, g1, h1, h2, h3⟩ := h
      have el : (D.ys ++ [IntKind.u8.wrap x]).length = D.ys.length + 1 := by rw [List.length_append]; rfl
      refine ⟨a1, c1, f1, g1, ?_, ?_, h3⟩
      · rw [h1]
        dsimp only [dvc]
        rw [el]
      · dsimp only [dvF]
        rw [el]
        exact h2
    · rw [stV_3f D x hl]
      exact (l8Store_3f D.t D.cm D.so a1 _ c1 a2 _ c2 D.ir x hl h2 w).mono fun e w' h => ⟨a1, c1, a2, c2, h.1, same _ _ rfl rfl h.2, h.2⟩
  · rintro rfl rfl
    rw [stV_4]
    exact l8Store_4q D a1 c1 a2 c2 x B E w hE hf _ rfl
  · rintro rfl rfl
    rw [stV_5]
    exact (l8Store_5 D.t D.cm D.so a1 _ c1 a2 _ c2 D.ir x w).mono fun e w' h => ⟨a1, c1, a2, c2, h.1, same _ _ rfl rfl h.2, h.2⟩
  · intro k0 k1 k2 k3 k4 k5
    rw [stV_6]
    exact (l8Store_6 D.t D.cm D.so a1 _ c1 a2 _ c2 D.ir x addr size k0 k1 k2 k3 k4 k5 w).mono fun e w' h => ⟨none, 0, none, 0, h.1, fam_zero _ _ _, h.2⟩

set_option maxRecDepth 100000 in
set_option maxHeartbeats 1600000 in
theorem specDevStore_any (D : DV) (a1 : Option Addr) (c1 : Nat) (a2 : Option Addr) (c2 : Nat) (addr size x : Int) (w : World) (hn1 : D.xs.length ≤ 1048576) (hn2 : D.ys.length ≤ 1048576) (hs1 : Sl .u8 w a1 D.xs) (hs2 : Sl .u8 w a2 D.ys) :
    Calls Try.prog 12 #[.agg #[.int .u64 D.t, .int .u64 D.cm, .bool D.so, .slice a1 D.xs.length c1, .slice a2 D.ys.length c2, .int .i64 D.ir], .int .u64 addr, .int .i64 size, .int .u64 x] w fun e w' => ∃ (b1 : Option Addr) (d1 : Nat) (b2 : Option Addr) (d2 : Nat), e = .returned (.tuple #[.agg (dvc (storeD D addr size x).1 b1 d1 b2 d2), .bool (storeD D addr size x).2]) ∧
      Fam w.heap.size w'.heap.size w' (dvF (storeD D addr size x).1 b1 d1 b2 d2) ∧ Below w.heap.size w w' := by
  have HOK : Hid (∀ w, Calls Try.prog 23 #[.agg #[.int .u64 D.t, .int .u64 D.cm, .bool D.so, .slice a1 D.xs.length c1, .slice a2 D.ys.length c2, .int .i64 D.ir]] w fun e w' => e = .returned (.bool (okD D.xs.length D.ys.length D.ir)) ∧ Below w.heap.size w w') := fun w => specDevOk_any _ _ _ _ _ _ _ _ _ _ w hn1 hn2
  have HCP : Hid (∀ w', Below w.heap.size w w' → Calls Try.prog 39 #[.agg #[.int .u64 D.t, .int .u64 D.cm, .bool D.so, .slice a1 D.xs.length c1, .slice a2 D.ys.length c2, .int .i64 D.ir]] w' fun e w'' => ∃ (b1 : Option Addr) (d1 : Nat) (b2 : Option Addr) (d2 : Nat), e = .returned (.agg #[.int .u64 D.t, .int .u64 D.cm, .bool D.so, .slice b1 D.xs.length d1, .slice b2 D.ys.length d2, .int .i64 D.ir]) ∧ Fam w'.heap.size w''.heap.size w'' (devF b1 D.xs.length d1 D.xs b2 D.ys.length d2 D.ys) ∧ Below w'.heap.size w' w'') := fun w' hb => l8Copy_any _ _ _ _ _ _ _ _ _ _ D.xs D.ys w' rfl rfl hn1 hn2 (hs1.below hb) (hs2.below hb)
  cases hok : okD D.xs.length D.ys.length D.ir with
  | false =>
    have F : storeD D addr size x = (zeroD, false) := by unfold storeD; rw [hok]; rfl
    rw [F]
    rw [hok] at HOK
    clear hs1 hs2 hn1 hn2 HCP F hok
    obtain ⟨t, cm, so, xs, ys, ir⟩ := D
    dsimp only at HOK ⊢
    generalize xs.length = n1 at *
    generalize ys.length = n2 at *
    go_enter Try.func12, Try.ntmps12
    go_wp2_with fail
    refine (HOK.out _).mono ?_
    rintro e w1 ⟨rfl, hb1⟩
    obtain ⟨r0, r1⟩ := rows2 hb1
    have R1 := dhid r1
    have B1 := dhid (below_trans below2n hb1)
    obtain ⟨s0, s1, s2, s3, s4, s5⟩ := cells6 r1
    obtain ⟨y0, y1, y2, y3, y4, y5⟩ := froz6 r1
    clear r0 r1 hb1
    go_wp2_with fail
    exact bodyPost_ret (results_ct8 Try.results12 _ _ _ _ _ _ _ rfl (row_put6 R1.out _ _ _ _ _ _) Try.underlying26 rfl dev_size) rfl ⟨none, 0, none, 0, rfl, fam_zero _ _ _, below_put6 B1.out (by omega) _ _ _ _ _ _⟩
  | true =>
    have F : storeD D addr size x = stV D x (sel addr size) := by unfold storeD; rw [hok]; rfl
    have hbd := okD_bd hok
    rw [F]
    rw [hok] at HOK
    have HST : Hid (∀ (a1 : Option Addr) (c1 : Nat) (a2 : Option Addr) (c2 : Nat) (B E : Nat) (w : World), B ≤ E → E ≤ w.heap.size → Fam B E w (devF a1 D.xs.length c1 D.xs a2 D.ys.length c2 D.ys) → Calls Try.prog 38 #[.agg #[.int .u64 D.t, .int .u64 D.cm, .bool D.so, .slice a1 D.xs.length c1, .slice a2 D.ys.length c2, .int .i64 D.ir], .int .u64 addr, .int .i64 size, .int .u64 x] w fun e w' => ∃ (b1 : Option Addr) (d1 : Nat) (b2 : Option Addr) (d2 : Nat), e = .returned (.tuple #[.agg (dvc (stV D x (sel addr size)).1 b1 d1 b2 d2), .bool (stV D x (sel addr size)).2]) ∧
      Fam B w'.heap.size w' (dvF (stV D x (sel addr size)).1 b1 d1 b2 d2) ∧ Below w.heap.size w w') := fun b1 d1 b2 d2 B E w h1 h2 h3 => l8Store_any D b1 d1 b2 d2 addr size x B E w hbd.2.1 h1 h2 h3
    generalize stV D x (sel addr size) = R at *
    clear hs1 hs2 hn1 hn2 F hok hbd
    obtain ⟨t, cm, so, xs, ys, ir⟩ := D
    obtain ⟨⟨rt, rcm, rso, rxs, rys, rir⟩, rok⟩ := R
    dsimp only [dvc] at HOK HCP HST ⊢
    generalize xs.length = n1 at *
    generalize ys.length = n2 at *
    go_enter Try.func12, Try.ntmps12
    go_wp2_with fail
    refine (HOK.out _).mono ?_
    rintro e w1 ⟨rfl, hb1⟩
    obtain ⟨r0, r1⟩ := rows2 hb1
    have R1 := dhid r1
    have B1 := dhid (below_trans below2n hb1)
    obtain ⟨p0, p1, p2, p3, p4, p5⟩ := cells6 r0
    clear r0 r1 hb1
    go_wp2_with fail
    refine (HCP.out _ B1.out).mono ?_
    rintro e w2 ⟨b1, d1, b2, d2, rfl, fm2, hb2⟩
    have FM2 := dhid fm2
    have HB2 := dhid hb2
    clear fm2 hb2
    go_wp2_with fail
    refine (HST.out b1 d1 b2 d2 _ _ _ HB2.out.size (Nat.le_refl _) FM2.out).mono ?_
    rintro e w3 ⟨f1, g1, f2, g2, rfl, fm3, hb3⟩
    have hb23 := below_trans HB2.out hb3
    have T1 := dhid (dstays hb23 R1.out)
    have B3 := dhid (below_trans B1.out hb23)
    have FM3 := dhid fm3
    have Z1 := dhid (show w.heap.size + 1 < w1.heap.size from (Array.getElem?_eq_some_iff.1 R1.out).1)
    obtain ⟨s0, s1, s2, s3, s4, s5⟩ := cells6 T1.out
    obtain ⟨y0, y1, y2, y3, y4, y5⟩ := froz6 T1.out
    clear fm3 hb3 hb23 p0 p1 p2 p3 p4 p5
    go_wp2_with fail
    have A1 := FM3.out.put6 (w.heap.size + 1) (.inl Z1.out) (.int .u64 rt) (.int .u64 rcm) (.bool rso) (.slice f1 rxs.length g1) (.slice f2 rys.length g2) (.int .i64 rir)
    exact bodyPost_ret (results_ct8 Try.results12 _ _ _ _ _ _ _ rfl (row_put6 T1.out _ _ _ _ _ _) Try.underlying26 rfl dev_size) rfl ⟨f1, g1, f2, g2, rfl, A1.low (by have := Z1.out; omega) (by simp only [size_set]; exact Nat.le_refl _), below_put6 B3.out (by omega) _ _ _ _ _ _⟩

set_option maxRecDepth 100000 in
set_option maxHeartbeats 1600000 in
theorem l8Lines_any (t cm : Int) (so : Bool) (a1 : Option Addr) (n1 c1 : Nat) (a2 : Option Addr) (n2 c2 : Nat) (ir : Int) (w : World) (hn1 : n1 ≤ 1048576) :
    Calls Try.prog 43 #[.agg #[.int .u64 t, .int .u64 cm, .bool so, .slice a1 n1 c1, .slice a2 n2 c2, .int .i64 ir]] w fun e w' => e = .returned (.int .u64 (IntKind.u64.wrap (IntKind.u64.wrap (IntKind.u64.wrap (8 * oneIf so) + IntKind.u64.wrap (128 * oneIf (decide (cm ≤ t)))) + IntKind.u64.wrap (2048 * oneIf ((ir == 1) && decide (0 < n1)))))) ∧ Below w.heap.size w w' := by
  have HI : Hid (∀ (b : Bool) w, Calls Try.prog 59 #[.bool b] w fun e w' => e = .returned (.int .u64 (oneIf b)) ∧ ∃ m, w' = w.drewN m) := fun b w => (l3If_any b w).mono fun _ _ h => ⟨h.1, 0, h.2⟩
  have hB : ∀ o m, Below w.heap.size w ((w.alloc o).drewN m) := fun o m => ⟨rfl, rfl, rfl, by simp, fun k hk => Below.heap_alloc w o k hk⟩
  clear hn1
  cases ti : (ir == 1) with
  | true =>
    go_enter Try.func43, Try.ntmps43
    go_wp2_with fail
    go_quiet (first | (go_at_call 59; with_reducible refine Calls.quiet_of (HI.out _ _)))
    go_wp2_with fail
    go_ret
    exact ⟨rfl, hB _ _⟩
  | false =>
    go_enter Try.func43, Try.ntmps43
    go_wp2_with fail
    go_quiet (first | (go_at_call 59; with_reducible refine Calls.quiet_of (HI.out _ _)))
    go_wp2_with fail
    go_ret
    exact ⟨rfl, hB _ _⟩

theorem specLines_any (D : DV) (a1 : Option Addr) (c1 : Nat) (a2 : Option Addr) (c2 : Nat) (w : World) (hn1 : D.xs.length ≤ 1048576) (hn2 : D.ys.length ≤ 1048576) :
    Calls Try.prog 19 #[.agg #[.int .u64 D.t, .int .u64 D.cm, .bool D.so, .slice a1 D.xs.length c1, .slice a2 D.ys.length c2, .int .i64 D.ir]] w fun e w' => e = .returned (.int .u64 (linesD D)) ∧ Below w.heap.size w w' := by
  have HOK : Hid (∀ w, Calls Try.prog 23 #[.agg #[.int .u64 D.t, .int .u64 D.cm, .bool D.so, .slice a1 D.xs.length c1, .slice a2 D.ys.length c2, .int .i64 D.ir]] w fun e w' => e = .returned (.bool (okD D.xs.length D.ys.length D.ir)) ∧ Below w.heap.size w w') := fun w => specDevOk_any _ _ _ _ _ _ _ _ _ _ w hn1 hn2
  have HL : Hid (∀ w, Calls Try.prog 43 #[.agg #[.int .u64 D.t, .int .u64 D.cm, .bool D.so, .slice a1 D.xs.length c1, .slice a2 D.ys.length c2, .int .i64 D.ir]] w fun e w' => e = .returned (.int .u64 (linesV D)) ∧ Below w.heap.size w w') := fun w => l8Lines_any _ _ _ _ _ _ _ _ _ _ w hn1
  have hB : ∀ o, Below w.heap.size w (w.alloc o) := fun o => (Below.refl _ _).alloc (Nat.le_refl _) o
  have F : linesD D = if okD D.xs.length D.ys.length D.ir = true then linesV D else 0 := rfl
  generalize linesD D = v at *
  generalize linesV D = u at *
  generalize okD D.xs.length D.ys.length D.ir = q at *
  cases q with
  | false =>
    have F2 : Hid (v = 0) := F
    clear F HL
    obtain ⟨t, cm, so, xs, ys, ir⟩ := D
    dsimp only at HOK hn1 hn2 ⊢
    generalize xs.length = n1 at *
    generalize ys.length = n2 at *
    go_enter Try.func19, Try.ntmps19
    go_wp2_with fail
    refine (HOK.out _).mono ?_
    rintro e w1 ⟨rfl, hb1⟩
    go_wp2_with fail
    go_ret
    exact ⟨by rw [F2.out]; rfl, below_trans (hB _) hb1⟩
  | true =>
    have F2 : Hid (v = u) := F
    clear F
    obtain ⟨t, cm, so, xs, ys, ir⟩ := D
    dsimp only at HOK HL hn1 hn2 ⊢
    generalize xs.length = n1 at *
    generalize ys.length = n2 at *
    go_enter Try.func19, Try.ntmps19
    go_wp2_with fail
    refine (HOK.out _).mono ?_
    rintro e w1 ⟨rfl, hb1⟩
    obtain ⟨p0, p1, p2, p3, p4, p5⟩ := cells6 (dstays hb1 (heap_alloc_new w _))
    have B1 := dhid (below_trans (hB _) hb1)
    clear hb1
    go_wp2_with fail
    refine (HL.out _).mono ?_
    rintro e w2 ⟨rfl, hb2⟩
    go_wp2_with fail
    go_ret
    exact ⟨by rw [F2.out]; rfl, below_trans B1.out hb2⟩

end Go.Proofs.Ytbkddoibefgplaa
