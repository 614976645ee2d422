/- The walk of laws.FnExactByte: it returns true at every argument, and writes nothing that was there. By tools/genLawED.py. -/
import Derived.Test.YtbkddoibefgplabDevK
import Derived.Test.YtbkddoibefgplabDevL
import Derived.Test.YtbkddoibefgplabDevX
import Derived.Deep.RegionHeld3
namespace Go.Proofs.Ytbkddoibefgplab.fnExactByte
open Go.RowKit
set_option linter.unusedVariables false

set_option maxRecDepth 100000 in
set_option maxHeartbeats 6400000 in
theorem walk (t cm : Int) (so : Bool) (a1 : Option Addr) (n1 c1 : Nat) (z1 : List Int) (a2 : Option Addr) (n2 c2 : Nat) (z2 : List Int) (ir : Int) (b : Int) (w : World) (w1 : IsRow .u8 w a1 n1 c1 z1) (w2 : IsRow .u8 w a2 n2 c2 z2) :
    Calls Try.prog 4 #[.agg #[.int .u64 t, .int .u64 cm, .bool so, .slice a1 n1 c1, .slice a2 n2 c2, .int .i64 ir], .int .u8 b] w fun e w' => e = .returned (.bool true) ∧ Below w.heap.size w w' := by
  obtain ⟨xs, hx, hs1, hw1, hm1⟩ := w1.sl
  obtain ⟨ys, hy, hs2, hw2, hm2⟩ := w2.sl
  unfold maxLen at hm1 hm2
  clear w1 w2
  have HSZ : Hid (∀ w, Calls Try.prog 5 #[.agg #[.int .u64 t, .int .u64 cm, .bool so, .slice a1 n1 c1, .slice a2 n2 c2, .int .i64 ir], .int .i64 1048576] w fun e w' => e = .returned (.int .i64 (szD n1 n2 1048576)) ∧ Below w.heap.size w w') := fun w => szDev_any _ _ _ _ _ _ _ _ _ _ 1048576 w (by omega) (by omega) (by omega) (by omega)
  by_cases hsm : n1 + n2 ≤ 1048576
  · have hn1 : n1 ≤ 1048576 := by omega
    have hn2 : n2 ≤ 1048576 := by omega
    have hsz : szD n1 n2 1048576 = 1048576 - n1 - n2 := by unfold szD; rw [if_pos (by omega)]
    rw [hsz] at HSZ
    have d0 : decide ((1048576 : Int) - (n1 : Int) - (n2 : Int) < 0) = false := by simp; omega
    have HTD : Hid (∀ w', Below w.heap.size w w' → Calls Try.prog 7 #[.agg #[.int .u64 t, .int .u64 cm, .bool so, .slice a1 n1 c1, .slice a2 n2 c2, .int .i64 ir]] w' fun e w'' => ∃ g1 g2 : Nat, e = .returned (.agg #[.int .u64 t, .int .u64 cm, .bool so, .slice (some ⟨g1, 0, none⟩) n1 n1, .slice (some ⟨g2, 0, none⟩) n2 n2, .int .i64 ir]) ∧ Fam w'.heap.size w''.heap.size w'' (devF (some ⟨g1, 0, none⟩) n1 n1 xs (some ⟨g2, 0, none⟩) n2 n2 ys) ∧ Below w'.heap.size w' w'') := fun w' hb => toDev_any t cm so a1 n1 c1 a2 n2 c2 ir xs ys w' hx hy hn1 hn2 (hs1.below hb) (hs2.below hb)
    obtain ⟨D, hD⟩ : ∃ D : DV, D = ⟨t, cm, so, xs, ys, ir⟩ := ⟨_, rfl⟩
    have hb : bytesOk D := by rw [hD]; exact ⟨hw1, hw2⟩
    have HS : Hid (∀ (e1 : Option Addr) (e2 : Nat) (e3 : Option Addr) (e4 : Nat) (w' : World), Below w.heap.size w w' → Sl .u8 w' e1 xs → Sl .u8 w' e3 ys → Calls Try.prog 12 #[.agg #[.int .u64 t, .int .u64 cm, .bool so, .slice e1 n1 e2, .slice e3 n2 e4, .int .i64 ir], .int .u8 b] w' fun e w'' => ∃ (b1 : Option Addr) (d1 : Nat) (b2 : Option Addr) (d2 : Nat), e = .returned (.agg (dvc (byteD D b) b1 d1 b2 d2)) ∧ Fam w'.heap.size w''.heap.size w'' (dvF (byteD D b) b1 d1 b2 d2) ∧ Below w'.heap.size w' w'') := fun e1 e2 e3 e4 w' hbw k1 k2 => by
      have h := specByte_any D e1 e2 e3 e4 b w' (by rw [hD]; dsimp only; omega) (by rw [hD]; dsimp only; omega) (by rw [hD]; exact k1) (by rw [hD]; exact k2)
      rw [hD] at h
      dsimp only at h
      rw [hx, hy] at h
      rw [hD]
      exact h
    have HI : Hid (∀ (e1 : Option Addr) (e2 : Nat) (e3 : Option Addr) (e4 : Nat) (w' : World), Below w.heap.size w w' → Sl .u8 w' e1 xs → Sl .u8 w' e3 ys → Calls Try.prog 13 #[.agg #[.int .u64 t, .int .u64 cm, .bool so, .slice e1 n1 e2, .slice e3 n2 e4, .int .i64 ir], .int .u8 b] w' fun e w'' => ∃ (b1 : Option Addr) (d1 : Nat) (b2 : Option Addr) (d2 : Nat), e = .returned (.agg (dvc (byteD D b) b1 d1 b2 d2)) ∧ Fam w'.heap.size w''.heap.size w'' (dvF (byteD D b) b1 d1 b2 d2) ∧ Below w'.heap.size w' w'') := fun e1 e2 e3 e4 w' hbw k1 k2 => by
      have h := implByte_any D e1 e2 e3 e4 b w' (by rw [hD]; dsimp only; omega) (by rw [hD]; dsimp only; omega) hb (by rw [hD]; exact k1) (by rw [hD]; exact k2)
      rw [hD] at h
      dsimp only at h
      rw [hx, hy] at h
      rw [hD]
      exact h
    have hr := byteD_len D b (by rw [hD]; dsimp only; omega) (by rw [hD]; dsimp only; omega)
    generalize byteD D b = R at *
    obtain ⟨rt, rcm, rso, rxs, rys, rir⟩ := R
    dsimp only [dvc, dvF] at HS HI hr
    obtain ⟨hr1, hr2⟩ := hr
    clear hD hb hw1 hw2 hsz hsm hs1 hs2

    go_enter Try.func4, Try.ntmps4
    go_wp2_with fail
    refine (HSZ.out _).mono ?_
    rintro e w0 ⟨rfl, hb0⟩
    have hx0 : Below w.heap.size w w0 := below_trans ((Below.refl _ _).alloc (Nat.le_refl _) _) hb0
    have B0 : Below w.heap.size w w0 := hx0
    have m0 : w.heap.size + 1 ≤ w0.heap.size := by have h := hb0.size; rw [World.size_alloc] at h; exact h
    have rD0 : w0.heap[w.heap.size]? = some (.cells #[.int .u64 t, .int .u64 cm, .bool so, .slice a1 n1 c1, .slice a2 n2 c2, .int .i64 ir] 25 (0, 0)) := dstays hb0 (heap_alloc_new _ _)
    obtain ⟨cD0, cD1, cD2, cD3, cD4, cD5⟩ := cells6 rD0
    go_wp2_with fail
    refine (HTD.out _ B0).mono ?_
    rintro e w1 ⟨gA, hA, rfl, fA1, hb1⟩
    have hx1 : Below w0.heap.size w0 w1 := hb1
    have m1 : w0.heap.size ≤ w1.heap.size := hb1.size
    have B1 : Below w.heap.size w w1 := below_trans B0 hx1
    have rD1 := dstays hx1 rD0
    clear cD0 cD1 cD2 cD3 cD4 cD5
    go_wp2_with fail
    refine (HS.out _ _ _ _ _ B1 fA1.in_ fA1.out_).mono ?_
    rintro e w2 ⟨aW, cW, bW, dW, rfl, fW2, hb2⟩
    have hx2 : Below w1.heap.size w1 w2 := hb2
    have m2 : w1.heap.size ≤ w2.heap.size := hb2.size
    have B2 : Below w.heap.size w w2 := below_trans B1 hx2
    have rD2 := dstays hx2 rD1
    have fA2 := fA1.below hx2
    have cD0 := fun o => (cells6 (row_al8 rD2 o)).1
    have cD1 := fun o => (cells6 (row_al8 rD2 o)).2.1
    have cD2 := fun o => (cells6 (row_al8 rD2 o)).2.2.1
    have cD3 := fun o => (cells6 (row_al8 rD2 o)).2.2.2.1
    have cD4 := fun o => (cells6 (row_al8 rD2 o)).2.2.2.2.1
    have cD5 := fun o => (cells6 (row_al8 rD2 o)).2.2.2.2.2
    go_wp2_with fail
    refine (HTD.out _ (B2.alloc B2.size _)).mono ?_
    rintro e w3 ⟨gX, hX, rfl, fX3, hb3⟩
    have hx3 : Below w2.heap.size w2 w3 := below_trans ((Below.refl _ _).alloc (Nat.le_refl _) _) hb3
    have m3 : w2.heap.size + 1 ≤ w3.heap.size := by have h := hb3.size; rw [World.size_alloc] at h; exact h
    have B3 : Below w.heap.size w w3 := below_trans B2 hx3
    have rD3 := dstays hx3 rD2
    have rW3 : w3.heap[w2.heap.size]? = some (.cells #[.int .u64 rt, .int .u64 rcm, .bool rso, .slice aW rxs.length cW, .slice bW rys.length dW, .int .i64 rir] 27 (0, 0)) := dstays hb3 (heap_alloc_new _ _)
    have fW3 := fW2.below hx3
    rw [World.size_alloc] at fX3
    clear cD0 cD1 cD2 cD3 cD4 cD5
    go_wp2_with fail
    refine (HI.out _ _ _ _ _ (B3.alloc B3.size _) (fX3.below ((Below.refl _ _).alloc (Nat.le_refl _) _)).in_ (fX3.below ((Below.refl _ _).alloc (Nat.le_refl _) _)).out_).mono ?_
    rintro e w4 ⟨aQ, cQ, bQ, dQ, rfl, fQ4, hb4⟩
    have hx4 : Below w3.heap.size w3 w4 := below_trans ((Below.refl _ _).alloc (Nat.le_refl _) _) hb4
    have m4 : w3.heap.size + 1 ≤ w4.heap.size := by have h := hb4.size; rw [World.size_alloc] at h; exact h
    have B4 : Below w.heap.size w w4 := below_trans B3 hx4
    have rD4 := dstays hx4 rD3
    have rW4 := dstays hx4 rW3
    have rX4 : w4.heap[w3.heap.size]? = some (.cells #[.int .u64 t, .int .u64 cm, .bool so, .slice (some ⟨gX, 0, none⟩) n1 n1, .slice (some ⟨hX, 0, none⟩) n2 n2, .int .i64 ir] 27 (0, 0)) := dstays hb4 (heap_alloc_new _ _)
    have fW4 := fW3.below hx4
    have fX4 := fX3.below hx4
    rw [World.size_alloc] at fQ4
    have cW0 := fun o => (cells6 (row_al8 rW4 o)).1
    have cW1 := fun o => (cells6 (row_al8 rW4 o)).2.1
    have cW2 := fun o => (cells6 (row_al8 rW4 o)).2.2.1
    have cW3 := fun o => (cells6 (row_al8 rW4 o)).2.2.2.1
    have cW4 := fun o => (cells6 (row_al8 rW4 o)).2.2.2.2.1
    have cW5 := fun o => (cells6 (row_al8 rW4 o)).2.2.2.2.2
    go_wp2_with fail
    refine (eqDev_same rt rcm rso _ _ _ _ _ _ _ _ _ _ rir rxs rys _ rfl rfl hr1 hr2 (fQ4.below ((Below.refl _ _).alloc (Nat.le_refl _) _)).in_ (fQ4.below ((Below.refl _ _).alloc (Nat.le_refl _) _)).out_ (fW4.below ((Below.refl _ _).alloc (Nat.le_refl _) _)).in_ (fW4.below ((Below.refl _ _).alloc (Nat.le_refl _) _)).out_).mono ?_
    rintro e w5 ⟨rfl, hb5⟩
    have hx5 : Below w4.heap.size w4 w5 := below_trans ((Below.refl _ _).alloc (Nat.le_refl _) _) hb5
    have m5 : w4.heap.size + 1 ≤ w5.heap.size := by have h := hb5.size; rw [World.size_alloc] at h; exact h
    have B5 : Below w.heap.size w w5 := below_trans B4 hx5
    have rD5 := dstays hx5 rD4
    have rW5 := dstays hx5 rW4
    have rX5 := dstays hx5 rX4
    have rQ5 : w5.heap[w4.heap.size]? = some (.cells #[.int .u64 rt, .int .u64 rcm, .bool rso, .slice aQ rxs.length cQ, .slice bQ rys.length dQ, .int .i64 rir] 27 (0, 0)) := dstays hb5 (heap_alloc_new _ _)
    have fW5 := fW4.below hx5
    have fX5 := fX4.below hx5
    have fQ5 := fQ4.below hx5
    clear cW0 cW1 cW2 cW3 cW4 cW5
    obtain ⟨cX0, cX1, cX2, cX3, cX4, cX5⟩ := cells6 rX5
    obtain ⟨cD0, cD1, cD2, cD3, cD4, cD5⟩ := cells6 rD5
    have PW : Hid (∀ w', Below w5.heap.size w5 w' → (w'.cell? ⟨w3.heap.size, 0, none⟩ = some (.int .u64 t) ∧ w'.cell? ⟨w3.heap.size, 1, none⟩ = some (.int .u64 cm) ∧ w'.cell? ⟨w3.heap.size, 2, none⟩ = some (.bool so) ∧ w'.cell? ⟨w3.heap.size, 3, none⟩ = some (.slice (some ⟨gX, 0, none⟩) n1 n1) ∧ w'.cell? ⟨w3.heap.size, 4, none⟩ = some (.slice (some ⟨hX, 0, none⟩) n2 n2) ∧ w'.cell? ⟨w3.heap.size, 5, none⟩ = some (.int .i64 ir)) ∧ (w'.cell? ⟨w.heap.size, 0, none⟩ = some (.int .u64 t) ∧ w'.cell? ⟨w.heap.size, 1, none⟩ = some (.int .u64 cm) ∧ w'.cell? ⟨w.heap.size, 2, none⟩ = some (.bool so) ∧ w'.cell? ⟨w.heap.size, 3, none⟩ = some (.slice a1 n1 c1) ∧ w'.cell? ⟨w.heap.size, 4, none⟩ = some (.slice a2 n2 c2) ∧ w'.cell? ⟨w.heap.size, 5, none⟩ = some (.int .i64 ir)) ∧ Below w5.heap.size w5 w') := fun w' hb => ⟨cells6 (dstays hb rX5), cells6 (dstays hb rD5), hb⟩
    have PD : Hid (∀ w', Below w5.heap.size w5 w' → Below w5.heap.size w5 w'.drew) := fun w' hb => hb.drew
    have HTZ : Hid (∀ w', Below w5.heap.size w5 w' → Calls Try.prog 7 #[.agg #[.int .u64 t, .int .u64 cm, .bool so, .slice a1 n1 c1, .slice a2 n2 c2, .int .i64 ir]] w' fun e w'' => ∃ g1 g2 : Nat, e = .returned (.agg #[.int .u64 t, .int .u64 cm, .bool so, .slice (some ⟨g1, 0, none⟩) n1 n1, .slice (some ⟨g2, 0, none⟩) n2 n2, .int .i64 ir]) ∧ Hid (Fam w'.heap.size w''.heap.size w'' (devF (some ⟨g1, 0, none⟩) n1 n1 xs (some ⟨g2, 0, none⟩) n2 n2 ys)) ∧ Below w5.heap.size w5 w'') := fun w' hb => (HTD.out w' (below_trans B5 hb)).mono fun e w'' ⟨g1, g2, h1, h2, h3⟩ => ⟨g1, g2, h1, h2, below_trans hb h3⟩
    have HEZ : Hid (∀ (g1 g2 B E : Nat) w', Below w5.heap.size w5 w' → Fam B E w' (devF (some ⟨g1, 0, none⟩) n1 n1 xs (some ⟨g2, 0, none⟩) n2 n2 ys) → Calls Try.prog 9 #[.agg #[.int .u64 t, .int .u64 cm, .bool so, .slice (some ⟨gX, 0, none⟩) n1 n1, .slice (some ⟨hX, 0, none⟩) n2 n2, .int .i64 ir], .agg #[.int .u64 t, .int .u64 cm, .bool so, .slice (some ⟨g1, 0, none⟩) n1 n1, .slice (some ⟨g2, 0, none⟩) n2 n2, .int .i64 ir]] w' fun e w'' => e = .returned (.bool true) ∧ Below w5.heap.size w5 w'') := fun g1 g2 B E w' hb hf => (eqDev_same t cm so _ _ n1 _ _ _ _ n2 _ _ ir xs ys w' hx hy hn1 hn2 (fX5.below hb).in_ (fX5.below hb).out_ hf.in_ hf.out_).mono fun e w'' h => ⟨h.1, below_trans hb h.2⟩
    go_wp2_with fail
    go_region_held3 (fun w' => (w'.cell? ⟨w3.heap.size, 0, none⟩ = some (.int .u64 t) ∧ w'.cell? ⟨w3.heap.size, 1, none⟩ = some (.int .u64 cm) ∧ w'.cell? ⟨w3.heap.size, 2, none⟩ = some (.bool so) ∧ w'.cell? ⟨w3.heap.size, 3, none⟩ = some (.slice (some ⟨gX, 0, none⟩) n1 n1) ∧ w'.cell? ⟨w3.heap.size, 4, none⟩ = some (.slice (some ⟨hX, 0, none⟩) n2 n2) ∧ w'.cell? ⟨w3.heap.size, 5, none⟩ = some (.int .i64 ir)) ∧ (w'.cell? ⟨w.heap.size, 0, none⟩ = some (.int .u64 t) ∧ w'.cell? ⟨w.heap.size, 1, none⟩ = some (.int .u64 cm) ∧ w'.cell? ⟨w.heap.size, 2, none⟩ = some (.bool so) ∧ w'.cell? ⟨w.heap.size, 3, none⟩ = some (.slice a1 n1 c1) ∧ w'.cell? ⟨w.heap.size, 4, none⟩ = some (.slice a2 n2 c2) ∧ w'.cell? ⟨w.heap.size, 5, none⟩ = some (.int .i64 ir)) ∧ Below w5.heap.size w5 w') (first | exact PW.out _ (PD.out _ (by assumption)) | exact PW.out _ (by assumption) | exact PW.out _ (Below.refl _ _).drew) (first | (go_at_call 7; with_reducible refine (HTZ.out _ ?_).mono ?_; (first | assumption | (exact And.right (And.right (by assumption)))); rintro e w8 ⟨gz, hz, rfl, fz, hb8⟩) | (go_at_call 9; with_reducible refine (HEZ.out _ _ _ _ _ ?_ fz.out).mono ?_; (first | assumption | (exact And.right (And.right (by assumption)))); rintro e wz ⟨rfl, hbz⟩))
    obtain ⟨w6, hw6⟩ : ∃ w', w' = wz := ⟨_, rfl⟩
    rw [← hw6] at hbz ⊢
    clear hw6 PW PD HTZ HEZ
    have hb6 := hbz
    have hx6 : Below w5.heap.size w5 w6 := hb6
    have m6 : w5.heap.size ≤ w6.heap.size := hb6.size
    have B6 : Below w.heap.size w w6 := below_trans B5 hx6
    have rD6 := dstays hx6 rD5
    have rW6 := dstays hx6 rW5
    have rX6 := dstays hx6 rX5
    have rQ6 := dstays hx6 rQ5
    have fW6 := fW5.below hx6
    have fX6 := fX5.below hx6
    have fQ6 := fQ5.below hx6
    clear cX0 cX1 cX2 cX3 cX4 cX5 cD0 cD1 cD2 cD3 cD4 cD5
    obtain ⟨cX0, cX1, cX2, cX3, cX4, cX5⟩ := cells6 rX6
    go_wp2_with fail
    refine (markDev_any t cm so _ n1 _ _ n2 _ ir 1 xs ys _ _ _ hn1 hn2 (by omega) (by omega) (by omega) fX6).mono ?_
    rintro e w7 ⟨rfl, fX7, kp7⟩
    have B7 : Below w.heap.size w w7 := B6.trans (kp7.below (by omega) (by omega))
    have m7 : w6.heap.size ≤ w7.heap.size := kp7.size
    have rD7 := (kp7.block _ (Array.getElem?_eq_some_iff.1 rD6).1 (by omega)).trans rD6
    have rW7 := (kp7.block _ (Array.getElem?_eq_some_iff.1 rW6).1 (by omega)).trans rW6
    have rX7 := (kp7.block _ (Array.getElem?_eq_some_iff.1 rX6).1 (by omega)).trans rX6
    have rQ7 := (kp7.block _ (Array.getElem?_eq_some_iff.1 rQ6).1 (by omega)).trans rQ6
    have fW7 := fW6.keep kp7 (by omega)
    have fQ7 := fQ6.keep kp7 (by omega)
    have hneg : decide ((1 : Int) + (n1 : Int) + (n2 : Int) < 0) = false := by simp; omega
    clear cX0 cX1 cX2 cX3 cX4 cX5
    obtain ⟨cQ0, cQ1, cQ2, cQ3, cQ4, cQ5⟩ := cells6 rQ7
    obtain ⟨cW0, cW1, cW2, cW3, cW4, cW5⟩ := cells6 rW7
    go_wp2_with fail
    refine (eqDev_same rt rcm rso _ _ _ _ _ _ _ _ _ _ rir rxs rys _ rfl rfl hr1 hr2 fQ7.in_ fQ7.out_ fW7.in_ fW7.out_).mono ?_
    rintro e w8 ⟨rfl, hb8⟩
    have hx8 : Below w7.heap.size w7 w8 := hb8
    have m8 : w7.heap.size ≤ w8.heap.size := hb8.size
    have B8 : Below w.heap.size w w8 := below_trans B7 hx8
    have rD8 := dstays hx8 rD7
    have rW8 := dstays hx8 rW7
    have rX8 := dstays hx8 rX7
    have rQ8 := dstays hx8 rQ7
    have fW8 := fW7.below hx8
    have fQ8 := fQ7.below hx8
    clear cQ0 cQ1 cQ2 cQ3 cQ4 cQ5 cW0 cW1 cW2 cW3 cW4 cW5
    obtain ⟨cQ0, cQ1, cQ2, cQ3, cQ4, cQ5⟩ := cells6 rQ8
    go_wp2_with fail
    refine (markDev_any rt rcm rso _ _ _ _ _ _ rir 1 rxs rys _ _ _ hr1 hr2 (by omega) (by omega) (by omega) fQ8).mono ?_
    rintro e w9 ⟨rfl, fQ9, kp9⟩
    have B9 : Below w.heap.size w w9 := B8.trans (kp9.below (by omega) (by omega))
    have m9 : w8.heap.size ≤ w9.heap.size := kp9.size
    have rD9 := (kp9.block _ (Array.getElem?_eq_some_iff.1 rD8).1 (by omega)).trans rD8
    have rW9 := (kp9.block _ (Array.getElem?_eq_some_iff.1 rW8).1 (by omega)).trans rW8
    have rX9 := (kp9.block _ (Array.getElem?_eq_some_iff.1 rX8).1 (by omega)).trans rX8
    have rQ9 := (kp9.block _ (Array.getElem?_eq_some_iff.1 rQ8).1 (by omega)).trans rQ8
    have fW9 := fW8.keep kp9 (by omega)
    have hneg2 : ¬ ((1 : Int) + (rxs.length : Int) + (rys.length : Int) < 0) := by omega
    have hne2 : ((1 : Int) + (rxs.length : Int) + (rys.length : Int) != 1 + (rxs.length : Int) + (rys.length : Int)) = false := by simp
    clear cQ0 cQ1 cQ2 cQ3 cQ4 cQ5
    obtain ⟨cQ0, cQ1, cQ2, cQ3, cQ4, cQ5⟩ := cells6 rQ9
    go_wp2_with fail
    refine (heldDev_any rt rcm rso _ _ _ _ _ _ rir 1 _ hr1 hr2 (by omega) (by omega) fQ9.in_ fQ9.out_).mono ?_
    rintro e w10 ⟨rfl, hb10⟩
    have hx10 : Below w9.heap.size w9 w10 := hb10
    have m10 : w9.heap.size ≤ w10.heap.size := hb10.size
    have B10 : Below w.heap.size w w10 := below_trans B9 hx10
    have rD10 := dstays hx10 rD9
    have rW10 := dstays hx10 rW9
    have rX10 := dstays hx10 rX9
    have rQ10 := dstays hx10 rQ9
    have fW10 := fW9.below hx10
    have fQ10 := fQ9.below hx10
    clear cQ0 cQ1 cQ2 cQ3 cQ4 cQ5
    obtain ⟨cD0, cD1, cD2, cD3, cD4, cD5⟩ := cells6 rD10
    go_wp2_with fail
    refine (HTD.out _ B10).mono ?_
    rintro e w11 ⟨gP, hP, rfl, fP11, hb11⟩
    have hx11 : Below w10.heap.size w10 w11 := hb11
    have m11 : w10.heap.size ≤ w11.heap.size := hb11.size
    have B11 : Below w.heap.size w w11 := below_trans B10 hx11
    have rD11 := dstays hx11 rD10
    have rW11 := dstays hx11 rW10
    have rX11 := dstays hx11 rX10
    have rQ11 := dstays hx11 rQ10
    have fW11 := fW10.below hx11
    have fQ11 := fQ10.below hx11
    clear cD0 cD1 cD2 cD3 cD4 cD5
    go_wp2_with fail
    refine (HI.out _ _ _ _ _ B11 fP11.in_ fP11.out_).mono ?_
    rintro e w12 ⟨aK, cK, bK, dK, rfl, fK12, hb12⟩
    have hx12 : Below w11.heap.size w11 w12 := hb12
    have m12 : w11.heap.size ≤ w12.heap.size := hb12.size
    have B12 : Below w.heap.size w w12 := below_trans B11 hx12
    have rD12 := dstays hx12 rD11
    have rW12 := dstays hx12 rW11
    have rX12 := dstays hx12 rX11
    have rQ12 := dstays hx12 rQ11
    have fW12 := fW11.below hx12
    have fQ12 := fQ11.below hx12
    have fP12 := fP11.below hx12
    have cW0 := fun o => (cells6 (row_al8 rW12 o)).1
    have cW1 := fun o => (cells6 (row_al8 rW12 o)).2.1
    have cW2 := fun o => (cells6 (row_al8 rW12 o)).2.2.1
    have cW3 := fun o => (cells6 (row_al8 rW12 o)).2.2.2.1
    have cW4 := fun o => (cells6 (row_al8 rW12 o)).2.2.2.2.1
    have cW5 := fun o => (cells6 (row_al8 rW12 o)).2.2.2.2.2
    go_wp2_with fail
    refine (eqDev_same rt rcm rso _ _ _ _ _ _ _ _ _ _ rir rxs rys _ rfl rfl hr1 hr2 (fK12.below ((Below.refl _ _).alloc (Nat.le_refl _) _)).in_ (fK12.below ((Below.refl _ _).alloc (Nat.le_refl _) _)).out_ (fW12.below ((Below.refl _ _).alloc (Nat.le_refl _) _)).in_ (fW12.below ((Below.refl _ _).alloc (Nat.le_refl _) _)).out_).mono ?_
    rintro e w13 ⟨rfl, hb13⟩
    have hx13 : Below w12.heap.size w12 w13 := below_trans ((Below.refl _ _).alloc (Nat.le_refl _) _) hb13
    have m13 : w12.heap.size + 1 ≤ w13.heap.size := by have h := hb13.size; rw [World.size_alloc] at h; exact h
    have B13 : Below w.heap.size w w13 := below_trans B12 hx13
    have rD13 := dstays hx13 rD12
    have rW13 := dstays hx13 rW12
    have rX13 := dstays hx13 rX12
    have rQ13 := dstays hx13 rQ12
    have rK13 : w13.heap[w12.heap.size]? = some (.cells #[.int .u64 rt, .int .u64 rcm, .bool rso, .slice aK rxs.length cK, .slice bK rys.length dK, .int .i64 rir] 27 (0, 0)) := dstays hb13 (heap_alloc_new _ _)
    have fW13 := fW12.below hx13
    have fQ13 := fQ12.below hx13
    have fK13 := fK12.below hx13
    clear cW0 cW1 cW2 cW3 cW4 cW5
    obtain ⟨cQ0, cQ1, cQ2, cQ3, cQ4, cQ5⟩ := cells6 rQ13
    go_wp2_with fail
    refine (heldDev_any rt rcm rso _ _ _ _ _ _ rir 1 _ hr1 hr2 (by omega) (by omega) fQ13.in_ fQ13.out_).mono ?_
    rintro e w14 ⟨rfl, hb14⟩
    have hx14 : Below w13.heap.size w13 w14 := hb14
    have m14 : w13.heap.size ≤ w14.heap.size := hb14.size
    have B14 : Below w.heap.size w w14 := below_trans B13 hx14
    have rD14 := dstays hx14 rD13
    have rW14 := dstays hx14 rW13
    have rX14 := dstays hx14 rX13
    have rQ14 := dstays hx14 rQ13
    have rK14 := dstays hx14 rK13
    have fQ14 := fQ13.below hx14
    clear cQ0 cQ1 cQ2 cQ3 cQ4 cQ5
    go_wp2_with fail
    go_ret
    exact ⟨rfl, B14⟩
  · have hsz : szD n1 n2 1048576 = -1 := by unfold szD; rw [if_neg (by omega)]
    rw [hsz] at HSZ
    clear hs1 hs2 hx hy hw1 hw2 hm1 hm2 hsz hsm
    go_enter Try.func4, Try.ntmps4
    go_wp2_with fail
    refine (HSZ.out _).mono ?_
    rintro e w0 ⟨rfl, hb0⟩
    go_wp2_with fail
    go_ret
    exact ⟨rfl, below_trans ((Below.refl _ _).alloc (Nat.le_refl _) _) hb0⟩

end Go.Proofs.Ytbkddoibefgplab.fnExactByte
