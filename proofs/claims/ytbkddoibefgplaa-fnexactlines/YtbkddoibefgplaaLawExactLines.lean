/- The walk of laws.FnExactLines: it returns true at every argument, and writes nothing that was there. By tools/genLawED.py. -/
import Derived.Test.YtbkddoibefgplaaDevK
import Derived.Test.YtbkddoibefgplaaDevW
import Derived.Deep.RegionHeld3
namespace Go.Proofs.Ytbkddoibefgplaa.fnExactLines
open Go.RowKit
set_option linter.unusedVariables false

set_option maxRecDepth 100000 in
set_option maxHeartbeats 6400000 in
theorem walk (t cm : Int) (so : Bool) (a1 : Option Addr) (n1 c1 : Nat) (z1 : List Int) (a2 : Option Addr) (n2 c2 : Nat) (z2 : List Int) (ir : Int) (w : World) (w1 : IsRow .u8 w a1 n1 c1 z1) (w2 : IsRow .u8 w a2 n2 c2 z2) :
    Calls Try.prog 8 #[.agg #[.int .u64 t, .int .u64 cm, .bool so, .slice a1 n1 c1, .slice a2 n2 c2, .int .i64 ir]] w fun e w' => e = .returned (.bool true) ∧ Below w.heap.size w w' := by
  obtain ⟨xs, hx, hs1, hw1, hm1⟩ := w1.sl
  obtain ⟨ys, hy, hs2, hw2, hm2⟩ := w2.sl
  unfold maxLen at hm1 hm2
  clear w1 w2
  have HSZ : Hid (∀ w, Calls Try.prog 24 #[.agg #[.int .u64 t, .int .u64 cm, .bool so, .slice a1 n1 c1, .slice a2 n2 c2, .int .i64 ir], .int .i64 1048576] w fun e w' => e = .returned (.int .i64 (szD n1 n2 1048576)) ∧ Below w.heap.size w w') := fun w => szDev_any _ _ _ _ _ _ _ _ _ _ 1048576 w (by omega) (by omega) (by omega) (by omega)
  by_cases hsm : n1 + n2 ≤ 1048576
  · have hn1 : n1 ≤ 1048576 := by omega
    have hn2 : n2 ≤ 1048576 := by omega
    have hsz : szD n1 n2 1048576 = 1048576 - n1 - n2 := by unfold szD; rw [if_pos (by omega)]
    rw [hsz] at HSZ
    have d0 : decide ((1048576 : Int) - (n1 : Int) - (n2 : Int) < 0) = false := by simp; omega
    have HTD : Hid (∀ w', Below w.heap.size w w' → Calls Try.prog 25 #[.agg #[.int .u64 t, .int .u64 cm, .bool so, .slice a1 n1 c1, .slice a2 n2 c2, .int .i64 ir]] w' fun e w'' => ∃ g1 g2 : Nat, e = .returned (.agg #[.int .u64 t, .int .u64 cm, .bool so, .slice (some ⟨g1, 0, none⟩) n1 n1, .slice (some ⟨g2, 0, none⟩) n2 n2, .int .i64 ir]) ∧ Fam w'.heap.size w''.heap.size w'' (devF (some ⟨g1, 0, none⟩) n1 n1 xs (some ⟨g2, 0, none⟩) n2 n2 ys) ∧ Below w'.heap.size w' w'') := fun w' hb => toDev_any t cm so a1 n1 c1 a2 n2 c2 ir xs ys w' hx hy hn1 hn2 (hs1.below hb) (hs2.below hb)
    obtain ⟨D, hD⟩ : ∃ D : DV, D = ⟨t, cm, so, xs, ys, ir⟩ := ⟨_, rfl⟩
    have hb : bytesOk D := by rw [hD]; exact ⟨hw1, hw2⟩
    have HS : Hid (∀ (e1 : Option Addr) (e2 : Nat) (e3 : Option Addr) (e4 : Nat) (w' : World), Below w.heap.size w w' → Sl .u8 w' e1 xs → Sl .u8 w' e3 ys → Calls Try.prog 19 #[.agg #[.int .u64 t, .int .u64 cm, .bool so, .slice e1 n1 e2, .slice e3 n2 e4, .int .i64 ir]] w' fun e w'' => e = .returned (.int .u64 (linesD D)) ∧ Below w'.heap.size w' w'') := fun e1 e2 e3 e4 w' hbw k1 k2 => (by have h := specLines_any D e1 e2 e3 e4 w' (by rw [hD]; dsimp only; omega) (by rw [hD]; dsimp only; omega); rw [hD] at h; dsimp only at h; rw [hx, hy] at h; rw [hD]; exact h)
    have HI : Hid (∀ (e1 : Option Addr) (e2 : Nat) (e3 : Option Addr) (e4 : Nat) (w' : World), Below w.heap.size w w' → Sl .u8 w' e1 xs → Sl .u8 w' e3 ys → Calls Try.prog 18 #[.agg #[.int .u64 t, .int .u64 cm, .bool so, .slice e1 n1 e2, .slice e3 n2 e4, .int .i64 ir]] w' fun e w'' => e = .returned (.int .u64 (linesD D)) ∧ Below w'.heap.size w' w'') := fun e1 e2 e3 e4 w' hbw k1 k2 => (by have h := implLines_any D e1 e2 e3 e4 w' (by rw [hD]; dsimp only; omega) (by rw [hD]; dsimp only; omega); rw [hD] at h; dsimp only at h; rw [hx, hy] at h; rw [hD]; exact h)
    generalize linesD D = rx at *
    have tx : (rx != rx) = false := by simp
    clear hD hb hw1 hw2 hsz hsm hs1 hs2

    go_enter Try.func8, Try.ntmps8
    go_wp2_with fail
    refine (HSZ.out _).mono ?_
    rintro e w0 ⟨rfl, hb0⟩
    have hx0 : Below w.heap.size w w0 := below_trans ((Below.refl _ _).alloc (Nat.le_refl _) _) hb0
    have B0 : Below w.heap.size w w0 := hx0
    have m0 : w.heap.size + 1 ≤ w0.heap.size := by have h := hb0.size; rw [World.size_alloc] at h; exact h
    have rD0 : w0.heap[w.heap.size]? = some (.cells #[.int .u64 t, .int .u64 cm, .bool so, .slice a1 n1 c1, .slice a2 n2 c2, .int .i64 ir] 42 (0, 0)) := dstays hb0 (heap_alloc_new _ _)
    obtain ⟨cD0, cD1, cD2, cD3, cD4, cD5⟩ := cells6 rD0
    go_wp2_with fail
    refine (HTD.out _ B0).mono ?_
    rintro e w1 ⟨gA, hA, rfl, fA1, hb1⟩
    have hx1 : Below w0.heap.size w0 w1 := hb1
    have m1 : w0.heap.size ≤ w1.heap.size := hb1.size
    have B1 : Below w.heap.size w w1 := below_trans B0 hx1
    have rD1 := dstays hx1 rD0
    clear cD0 cD1 cD2 cD3 cD4 cD5
    go_wp2_with fail
    refine (HS.out _ _ _ _ _ B1 fA1.in_ fA1.out_).mono ?_
    rintro e w2 ⟨rfl, hb2⟩
    have hx2 : Below w1.heap.size w1 w2 := hb2
    have m2 : w1.heap.size ≤ w2.heap.size := hb2.size
    have B2 : Below w.heap.size w w2 := below_trans B1 hx2
    have rD2 := dstays hx2 rD1
    have fA2 := fA1.below hx2
    obtain ⟨cD0, cD1, cD2, cD3, cD4, cD5⟩ := cells6 rD2
    go_wp2_with fail
    refine (HTD.out _ B2).mono ?_
    rintro e w3 ⟨gX, hX, rfl, fX3, hb3⟩
    have hx3 : Below w2.heap.size w2 w3 := hb3
    have m3 : w2.heap.size ≤ w3.heap.size := hb3.size
    have B3 : Below w.heap.size w w3 := below_trans B2 hx3
    have rD3 := dstays hx3 rD2
    clear cD0 cD1 cD2 cD3 cD4 cD5
    go_wp2_with fail
    refine (HI.out _ _ _ _ _ (B3.alloc B3.size _) (fX3.below ((Below.refl _ _).alloc (Nat.le_refl _) _)).in_ (fX3.below ((Below.refl _ _).alloc (Nat.le_refl _) _)).out_).mono ?_
    rintro e w4 ⟨rfl, hb4⟩
    have hx4 : Below w3.heap.size w3 w4 := below_trans ((Below.refl _ _).alloc (Nat.le_refl _) _) hb4
    have m4 : w3.heap.size + 1 ≤ w4.heap.size := by have h := hb4.size; rw [World.size_alloc] at h; exact h
    have B4 : Below w.heap.size w w4 := below_trans B3 hx4
    have rD4 := dstays hx4 rD3
    have rX4 : w4.heap[w3.heap.size]? = some (.cells #[.int .u64 t, .int .u64 cm, .bool so, .slice (some ⟨gX, 0, none⟩) n1 n1, .slice (some ⟨hX, 0, none⟩) n2 n2, .int .i64 ir] 26 (0, 0)) := dstays hb4 (heap_alloc_new _ _)
    have fX4 := fX3.below hx4
    obtain ⟨cX0, cX1, cX2, cX3, cX4, cX5⟩ := cells6 rX4
    obtain ⟨cD0, cD1, cD2, cD3, cD4, cD5⟩ := cells6 rD4
    have PW : Hid (∀ w', Below w4.heap.size w4 w' → (w'.cell? ⟨w3.heap.size, 0, none⟩ = some (.int .u64 t) ∧ w'.cell? ⟨w3.heap.size, 1, none⟩ = some (.int .u64 cm) ∧ w'.cell? ⟨w3.heap.size, 2, none⟩ = some (.bool so) ∧ w'.cell? ⟨w3.heap.size, 3, none⟩ = some (.slice (some ⟨gX, 0, none⟩) n1 n1) ∧ w'.cell? ⟨w3.heap.size, 4, none⟩ = some (.slice (some ⟨hX, 0, none⟩) n2 n2) ∧ w'.cell? ⟨w3.heap.size, 5, none⟩ = some (.int .i64 ir)) ∧ (w'.cell? ⟨w.heap.size, 0, none⟩ = some (.int .u64 t) ∧ w'.cell? ⟨w.heap.size, 1, none⟩ = some (.int .u64 cm) ∧ w'.cell? ⟨w.heap.size, 2, none⟩ = some (.bool so) ∧ w'.cell? ⟨w.heap.size, 3, none⟩ = some (.slice a1 n1 c1) ∧ w'.cell? ⟨w.heap.size, 4, none⟩ = some (.slice a2 n2 c2) ∧ w'.cell? ⟨w.heap.size, 5, none⟩ = some (.int .i64 ir)) ∧ Below w4.heap.size w4 w') := fun w' hb => ⟨cells6 (dstays hb rX4), cells6 (dstays hb rD4), hb⟩
    have PD : Hid (∀ w', Below w4.heap.size w4 w' → Below w4.heap.size w4 w'.drew) := fun w' hb => hb.drew
    have HTZ : Hid (∀ w', Below w4.heap.size w4 w' → Calls Try.prog 25 #[.agg #[.int .u64 t, .int .u64 cm, .bool so, .slice a1 n1 c1, .slice a2 n2 c2, .int .i64 ir]] w' fun e w'' => ∃ g1 g2 : Nat, e = .returned (.agg #[.int .u64 t, .int .u64 cm, .bool so, .slice (some ⟨g1, 0, none⟩) n1 n1, .slice (some ⟨g2, 0, none⟩) n2 n2, .int .i64 ir]) ∧ Hid (Fam w'.heap.size w''.heap.size w'' (devF (some ⟨g1, 0, none⟩) n1 n1 xs (some ⟨g2, 0, none⟩) n2 n2 ys)) ∧ Below w4.heap.size w4 w'') := fun w' hb => (HTD.out w' (below_trans B4 hb)).mono fun e w'' ⟨g1, g2, h1, h2, h3⟩ => ⟨g1, g2, h1, h2, below_trans hb h3⟩
    have HEZ : Hid (∀ (g1 g2 B E : Nat) w', Below w4.heap.size w4 w' → Fam B E w' (devF (some ⟨g1, 0, none⟩) n1 n1 xs (some ⟨g2, 0, none⟩) n2 n2 ys) → Calls Try.prog 27 #[.agg #[.int .u64 t, .int .u64 cm, .bool so, .slice (some ⟨gX, 0, none⟩) n1 n1, .slice (some ⟨hX, 0, none⟩) n2 n2, .int .i64 ir], .agg #[.int .u64 t, .int .u64 cm, .bool so, .slice (some ⟨g1, 0, none⟩) n1 n1, .slice (some ⟨g2, 0, none⟩) n2 n2, .int .i64 ir]] w' fun e w'' => e = .returned (.bool true) ∧ Below w4.heap.size w4 w'') := fun g1 g2 B E w' hb hf => (eqDev_same t cm so _ _ n1 _ _ _ _ n2 _ _ ir xs ys w' hx hy hn1 hn2 (fX4.below hb).in_ (fX4.below hb).out_ hf.in_ hf.out_).mono fun e w'' h => ⟨h.1, below_trans hb h.2⟩
    go_wp2_with fail
    go_region_held3 (fun w' => (w'.cell? ⟨w3.heap.size, 0, none⟩ = some (.int .u64 t) ∧ w'.cell? ⟨w3.heap.size, 1, none⟩ = some (.int .u64 cm) ∧ w'.cell? ⟨w3.heap.size, 2, none⟩ = some (.bool so) ∧ w'.cell? ⟨w3.heap.size, 3, none⟩ = some (.slice (some ⟨gX, 0, none⟩) n1 n1) ∧ w'.cell? ⟨w3.heap.size, 4, none⟩ = some (.slice (some ⟨hX, 0, none⟩) n2 n2) ∧ w'.cell? ⟨w3.heap.size, 5, none⟩ = some (.int .i64 ir)) ∧ (w'.cell? ⟨w.heap.size, 0, none⟩ = some (.int .u64 t) ∧ w'.cell? ⟨w.heap.size, 1, none⟩ = some (.int .u64 cm) ∧ w'.cell? ⟨w.heap.size, 2, none⟩ = some (.bool so) ∧ w'.cell? ⟨w.heap.size, 3, none⟩ = some (.slice a1 n1 c1) ∧ w'.cell? ⟨w.heap.size, 4, none⟩ = some (.slice a2 n2 c2) ∧ w'.cell? ⟨w.heap.size, 5, none⟩ = some (.int .i64 ir)) ∧ Below w4.heap.size w4 w') (first | exact PW.out _ (PD.out _ (by assumption)) | exact PW.out _ (by assumption) | exact PW.out _ (Below.refl _ _).drew) (first | (go_at_call 25; with_reducible refine (HTZ.out _ ?_).mono ?_; (first | assumption | (exact And.right (And.right (by assumption)))); rintro e w8 ⟨gz, hz, rfl, fz, hb8⟩) | (go_at_call 27; with_reducible refine (HEZ.out _ _ _ _ _ ?_ fz.out).mono ?_; (first | assumption | (exact And.right (And.right (by assumption)))); rintro e wz ⟨rfl, hbz⟩))
    obtain ⟨w5, hw5⟩ : ∃ w', w' = wz := ⟨_, rfl⟩
    rw [← hw5] at hbz ⊢
    clear hw5 PW PD HTZ HEZ
    have hb5 := hbz
    have hx5 : Below w4.heap.size w4 w5 := hb5
    have m5 : w4.heap.size ≤ w5.heap.size := hb5.size
    have B5 : Below w.heap.size w w5 := below_trans B4 hx5
    have rD5 := dstays hx5 rD4
    have rX5 := dstays hx5 rX4
    have fX5 := fX4.below hx5
    clear cX0 cX1 cX2 cX3 cX4 cX5 cD0 cD1 cD2 cD3 cD4 cD5
    go_wp2_with fail
    go_ret
    exact ⟨rfl, B5⟩
  · have hsz : szD n1 n2 1048576 = -1 := by unfold szD; rw [if_neg (by omega)]
    rw [hsz] at HSZ
    clear hs1 hs2 hx hy hw1 hw2 hm1 hm2 hsz hsm
    go_enter Try.func8, Try.ntmps8
    go_wp2_with fail
    refine (HSZ.out _).mono ?_
    rintro e w0 ⟨rfl, hb0⟩
    go_wp2_with fail
    go_ret
    exact ⟨rfl, below_trans ((Below.refl _ _).alloc (Nat.le_refl _) _) hb0⟩

end Go.Proofs.Ytbkddoibefgplaa.fnExactLines
