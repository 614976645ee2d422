/- The model's DevLoad, whole. -/
import Derived.Test.YtbkddoibefgplaaDevT
namespace Go.Proofs.Ytbkddoibefgplaa
open Go.RowKit
set_option linter.unusedVariables false

theorem fam_shape {B E : Nat} {w : World} {a1 : Option Addr} {n1 c1 : Nat} {xs : List Int} {a2 : Option Addr} {n2 c2 : Nat} {ys : List Int} (h : Fam B E w (devF a1 n1 c1 xs a2 n2 c2 ys)) (hn : 1 ≤ n1) : ∃ g, a1 = some ⟨g, 0, none⟩ ∧ n1 ≤ c1 ∧ c1 ≤ maxLen := by
  have ho := h.own (bRow a1 n1 c1 xs) (by simp [devF])
  rcases ho.2 with ⟨_, h3⟩ | ⟨g, cap, cur, hv, _, _, h4, h5, _⟩
  · have : n1 = 0 := h3
    omega
  · injection hv with e1 e2 e3
    subst e1 e3
    exact ⟨g, rfl, h4, h5⟩

theorem l8Load_any (D : DV) (a1 : Option Addr) (c1 : Nat) (a2 : Option Addr) (c2 : Nat) (addr size : Int) (B E : Nat) (w : World) (h16 : D.xs.length ≤ 16) (hb : bytesOk D) (hBE : B ≤ E) (hE : E ≤ w.heap.size) (hf : Fam B E w (devF a1 D.xs.length c1 D.xs a2 D.ys.length c2 D.ys)) :
    Calls Try.prog 42 #[.agg #[.int .u64 D.t, .int .u64 D.cm, .bool D.so, .slice a1 D.xs.length c1, .slice a2 D.ys.length c2, .int .i64 D.ir], .int .u64 addr, .int .i64 size] w fun e w' => ∃ (b1 : Option Addr) (d1 : Nat) (b2 : Option Addr) (d2 : Nat), e = .returned (.tuple #[.int .u64 (ldV D (sel addr size)).1, .agg (dvc (ldV D (sel addr size)).2.1 b1 d1 b2 d2), .bool (ldV D (sel addr size)).2.2]) ∧
      Fam B w'.heap.size w' (dvF (ldV D (sel addr size)).2.1 b1 d1 b2 d2) ∧ Below w.heap.size w w' := by
  have same : ∀ w', Below w.heap.size w w' → Fam B w'.heap.size w' (dvF D a1 c1 a2 c2) := fun w' hb => (hf.below hb).low (Nat.le_refl _) (Nat.le_trans hE hb.size)
  refine sel_cases addr size (fun k => Calls Try.prog 42 #[.agg #[.int .u64 D.t, .int .u64 D.cm, .bool D.so, .slice a1 D.xs.length c1, .slice a2 D.ys.length c2, .int .i64 D.ir], .int .u64 addr, .int .i64 size] w fun e w' => ∃ (b1 : Option Addr) (d1 : Nat) (b2 : Option Addr) (d2 : Nat), e = .returned (.tuple #[.int .u64 (ldV D k).1, .agg (dvc (ldV D k).2.1 b1 d1 b2 d2), .bool (ldV D k).2.2]) ∧
      Fam B w'.heap.size w' (dvF (ldV D k).2.1 b1 d1 b2 d2) ∧ Below w.heap.size w w') ?_ ?_ ?_ ?_ ?_ ?_ ?_
  · rintro rfl rfl
    exact (l8Load_0 D.t D.cm D.so a1 _ c1 a2 _ c2 D.ir w).mono fun e w' h => ⟨a1, c1, a2, c2, h.1, same _ h.2, h.2⟩
  · rintro rfl rfl
    exact (l8Load_1 D.t D.cm D.so a1 _ c1 a2 _ c2 D.ir w).mono fun e w' h => ⟨a1, c1, a2, c2, h.1, same _ h.2, h.2⟩
  · rintro rfl rfl
    exact (l8Load_2 D.t D.cm D.so a1 _ c1 a2 _ c2 D.ir w).mono fun e w' h => ⟨a1, c1, a2, c2, h.1, same _ h.2, h.2⟩
  · rintro rfl rfl
    rcases Nat.eq_zero_or_pos D.xs.length with h0 | h0
    · have hx : D.xs = [] := List.length_eq_zero_iff.1 h0
      have h := l8Load_3e D.t D.cm D.so a1 c1 a2 D.ys.length c2 D.ir w
      rw [h0]
      refine h.mono fun e w' h => ⟨a1, c1, a2, c2, ?_, ?_, h.2⟩
      · rw [h.1]
        simp only [ldV, dvc, hx]
        rfl
      · have := same _ h.2
        simp only [ldV, dvF, hx] at this ⊢
        exact this
    · obtain ⟨g, rfl, hc1, hc2⟩ := fam_shape hf h0
      unfold maxLen at hc2
      have hw := byte_bd hb.1 0
      refine (l8Load_3 D.t D.cm D.so g 0 D.xs.length c1 a2 D.ys.length c2 D.ir D.xs D.ys B E w rfl rfl h0 h16 hc1 (by omega) hBE hE hf hw).mono fun e w' h => ?_
      obtain ⟨b1, d1, h1, h2, h3⟩ := h
      refine ⟨b1, d1, a2, c2, ?_, ?_, h3⟩
      · rw [h1]
        simp only [ldV, dvc, List.length_drop]
      · simp only [ldV, dvF, List.length_drop]
        exact h2
  · rintro rfl rfl
    exact (l8Load_4 D.t D.cm D.so a1 _ c1 a2 _ c2 D.ir w).mono fun e w' h => ⟨a1, c1, a2, c2, h.1, same _ h.2, h.2⟩
  · rintro rfl rfl
    exact (l8Load_5 D.t D.cm D.so a1 _ c1 a2 _ c2 D.ir (by omega) w).mono fun e w' h => ⟨a1, c1, a2, c2, h.1, same _ h.2, h.2⟩
  · intro k0 k1 k2 k3 k4 k5
    exact (l8Load_6 D.t D.cm D.so a1 _ c1 a2 _ c2 D.ir addr size k0 k1 k2 k3 k4 k5 w).mono fun e w' h => ⟨none, 0, none, 0, h.1, fam_zero _ _ _, h.2⟩

theorem okD_bd {n1 n2 : Nat} {ir : Int} (h : okD n1 n2 ir = true) : n1 ≤ 16 ∧ n2 ≤ 4096 ∧ 0 ≤ ir ∧ ir ≤ 1 := by
  unfold okD at h
  simp only [Bool.and_eq_true, decide_eq_true_eq] at h
  exact ⟨h.1.1, h.1.2, h.2.1, h.2.2⟩

set_option maxRecDepth 100000 in
set_option maxHeartbeats 1600000 in
theorem specDevLoad_any (D : DV) (a1 : Option Addr) (c1 : Nat) (a2 : Option Addr) (c2 : Nat) (addr size : Int) (w : World) (hn1 : D.xs.length ≤ 1048576) (hn2 : D.ys.length ≤ 1048576) (hb : bytesOk D) (hs1 : Sl .u8 w a1 D.xs) (hs2 : Sl .u8 w a2 D.ys) :
    Calls Try.prog 15 #[.agg #[.int .u64 D.t, .int .u64 D.cm, .bool D.so, .slice a1 D.xs.length c1, .slice a2 D.ys.length c2, .int .i64 D.ir], .int .u64 addr, .int .i64 size] w fun e w' => ∃ (b1 : Option Addr) (d1 : Nat) (b2 : Option Addr) (d2 : Nat), e = .returned (.tuple #[.int .u64 (loadD D addr size).1, .agg (dvc (loadD D addr size).2.1 b1 d1 b2 d2), .bool (loadD D addr size).2.2]) ∧
      Fam w.heap.size w'.heap.size w' (dvF (loadD D addr size).2.1 b1 d1 b2 d2) ∧ Below w.heap.size w w' := by
  have HOK : Hid (∀ w, Calls Try.prog 23 #[.agg #[.int .u64 D.t, .int .u64 D.cm, .bool D.so, .slice a1 D.xs.length c1, .slice a2 D.ys.length c2, .int .i64 D.ir]] w fun e w' => e = .returned (.bool (okD D.xs.length D.ys.length D.ir)) ∧ Below w.heap.size w w') := fun w => specDevOk_any _ _ _ _ _ _ _ _ _ _ w hn1 hn2
  have HCP : Hid (∀ w', Below w.heap.size w w' → Calls Try.prog 39 #[.agg #[.int .u64 D.t, .int .u64 D.cm, .bool D.so, .slice a1 D.xs.length c1, .slice a2 D.ys.length c2, .int .i64 D.ir]] w' fun e w'' => ∃ (b1 : Option Addr) (d1 : Nat) (b2 : Option Addr) (d2 : Nat), e = .returned (.agg #[.int .u64 D.t, .int .u64 D.cm, .bool D.so, .slice b1 D.xs.length d1, .slice b2 D.ys.length d2, .int .i64 D.ir]) ∧ Fam w'.heap.size w''.heap.size w'' (devF b1 D.xs.length d1 D.xs b2 D.ys.length d2 D.ys) ∧ Below w'.heap.size w' w'') := fun w' hb => l8Copy_any _ _ _ _ _ _ _ _ _ _ D.xs D.ys w' rfl rfl hn1 hn2 (hs1.below hb) (hs2.below hb)
  cases hok : okD D.xs.length D.ys.length D.ir with
  | false =>
    have F : loadD D addr size = (0, zeroD, false) := by unfold loadD; rw [hok]; rfl
    rw [F]
    rw [hok] at HOK
    clear hs1 hs2 hb hn1 hn2 HCP F hok
    obtain ⟨t, cm, so, xs, ys, ir⟩ := D
    dsimp only at HOK ⊢
    generalize xs.length = n1 at *
    generalize ys.length = n2 at *
    go_enter Try.func15, Try.ntmps15
    go_wp2_with fail
    refine (HOK.out _).mono ?_
    rintro e w1 ⟨rfl, hb1⟩
    obtain ⟨r0, r1⟩ := rows2 hb1
    have R1 := dhid r1
    have B1 := dhid (below_trans below2n hb1)
    obtain ⟨s0, s1, s2, s3, s4, s5⟩ := cells6 r1
    obtain ⟨y0, y1, y2, y3, y4, y5⟩ := froz6 r1
    clear r0 r1 hb1
    go_wp2_with fail
    exact bodyPost_ret (results_tct8 Try.results15 _ _ _ _ _ _ _ rfl (row_put6 R1.out _ _ _ _ _ _) Try.underlying26 rfl dev_size) rfl ⟨none, 0, none, 0, rfl, fam_zero _ _ _, below_put6 B1.out (by omega) _ _ _ _ _ _⟩
  | true =>
    have F : loadD D addr size = ldV D (sel addr size) := by unfold loadD; rw [hok]; rfl
    have hbd := okD_bd hok
    rw [F]
    rw [hok] at HOK
    have HLD : Hid (∀ (b1 : Option Addr) (d1 : Nat) (b2 : Option Addr) (d2 : Nat) (B E : Nat) (w : World), B ≤ E → E ≤ w.heap.size → Fam B E w (devF b1 D.xs.length d1 D.xs b2 D.ys.length d2 D.ys) → Calls Try.prog 42 #[.agg #[.int .u64 D.t, .int .u64 D.cm, .bool D.so, .slice b1 D.xs.length d1, .slice b2 D.ys.length d2, .int .i64 D.ir], .int .u64 addr, .int .i64 size] w fun e w' => ∃ (b1 : Option Addr) (d1 : Nat) (b2 : Option Addr) (d2 : Nat), e = .returned (.tuple #[.int .u64 (ldV D (sel addr size)).1, .agg (dvc (ldV D (sel addr size)).2.1 b1 d1 b2 d2), .bool (ldV D (sel addr size)).2.2]) ∧ Fam B w'.heap.size w' (dvF (ldV D (sel addr size)).2.1 b1 d1 b2 d2) ∧ Below w.heap.size w w') := fun b1 d1 b2 d2 B E w h1 h2 h3 => l8Load_any D b1 d1 b2 d2 addr size B E w hbd.1 hb h1 h2 h3
    generalize ldV D (sel addr size) = R at *
    clear hs1 hs2 hb hn1 hn2 F hok hbd
    obtain ⟨t, cm, so, xs, ys, ir⟩ := D
    obtain ⟨rx, ⟨rt, rcm, rso, rxs, rys, rir⟩, rok⟩ := R
    dsimp only [dvc] at HOK HCP HLD ⊢
    generalize xs.length = n1 at *
    generalize ys.length = n2 at *
    go_enter Try.func15, Try.ntmps15
    go_wp2_with fail
    refine (HOK.out _).mono ?_
    rintro e w1 ⟨rfl, hb1⟩
    obtain ⟨r0, r1⟩ := rows2 hb1
    have R0 := dhid r0
    have R1 := dhid r1
    have B1 := dhid (below_trans below2n hb1)
    obtain ⟨p0, p1, p2, p3, p4, p5⟩ := cells6 r0
    clear r0 r1 hb1
    go_wp2_with fail
    refine (HCP.out _ B1.out).mono ?_
    rintro e w2 ⟨b1, d1, b2, d2, rfl, fm2, hb2⟩
    have FM2 := dhid fm2
    have HB2 := dhid hb2
    clear fm2 hb2
    go_wp2_with fail
    refine (HLD.out b1 d1 b2 d2 _ _ _ HB2.out.size (Nat.le_refl _) FM2.out).mono ?_
    rintro e w3 ⟨f1, g1, f2, g2, rfl, fm3, hb3⟩
    have hb23 := below_trans HB2.out hb3
    have T1 := dhid (dstays hb23 R1.out)
    have B3 := dhid (below_trans B1.out hb23)
    have FM3 := dhid fm3
    have Z1 := dhid (show w.heap.size + 1 < w1.heap.size from (Array.getElem?_eq_some_iff.1 R1.out).1)
    obtain ⟨s0, s1, s2, s3, s4, s5⟩ := cells6 T1.out
    obtain ⟨y0, y1, y2, y3, y4, y5⟩ := froz6 T1.out
    clear fm3 hb3 hb23 p0 p1 p2 p3 p4 p5
    go_wp2_with fail
    have A1 := FM3.out.put6 (w.heap.size + 1) (.inl Z1.out) (.int .u64 rt) (.int .u64 rcm) (.bool rso) (.slice f1 rxs.length g1) (.slice f2 rys.length g2) (.int .i64 rir)
    exact bodyPost_ret (results_tct8 Try.results15 _ _ _ _ _ _ _ rfl (row_put6 T1.out _ _ _ _ _ _) Try.underlying26 rfl dev_size) rfl ⟨f1, g1, f2, g2, rfl, A1.low (by have := Z1.out; omega) (by simp only [size_set]; exact Nat.le_refl _), below_put6 B3.out (by omega) _ _ _ _ _ _⟩

end Go.Proofs.Ytbkddoibefgplaa
