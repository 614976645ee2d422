/- The walk of laws.FnExactKeep: it returns true at every argument, and writes nothing that was there. By tools/genLawEC.py. -/
import Derived.Test.YtdllhjehokpefaaSlF
import Derived.Test.YtdllhjehokpefaaSlV
import Derived.Test.YtdllhjehokpefaaSlO
import Derived.Deep.RegionHeld3
namespace Go.Proofs.Ytdllhjehokpefaa.fnExactKeep
open Go.RowKit
set_option linter.unusedVariables false

set_option maxRecDepth 100000 in
set_option maxHeartbeats 6400000 in
theorem walk (a : Option Addr) (n cap : Nat) (ss : List Slt) (k p addr to : Int) (w : World) (hin : CIn w a n cap ss) (wk : (Lit.int .i64 k).wf = true) (wp : (Lit.int .i64 p).wf = true) (wa : (Lit.int .u64 addr).wf = true) (wt : (Lit.int .u64 to).wf = true) :
    Calls Try.prog 7 #[.agg #[.slice a n cap], .int .i64 k, .int .i64 p, .int .u64 addr, .int .u64 to] w fun e w' => e = .returned (.bool true) ∧ Below w.heap.size w w' := by
  obtain ⟨hx, hmx, hs1, hw1⟩ := hin
  unfold maxLen at hmx
  have HSZ := dhid (fun w => szCache_any a n cap 1048576 w (by omega) (by omega) (by omega))
  by_cases hsm : n ≤ 1048576
  · have hn : n ≤ 1048576 := hsm
    rw [if_pos (show (n : Int) ≤ 1048576 by omega)] at HSZ
    have d0 : decide ((1048576 : Int) - (n : Int) < 0) = false := by simp; omega
    have HTD : Hid (∀ w', Below w.heap.size w w' → Calls Try.prog 21 #[.agg #[.slice a n cap]] w' fun e w'' => ∃ g1 : Nat, e = .returned (.agg #[.slice (some ⟨g1, 0, none⟩) n n]) ∧ w''.ownsRow w'.heap.size 60 5 (.slice (some ⟨g1, 0, none⟩) n n) n (flatS ss) ∧ Below w'.heap.size w' w'') := fun w' hb => toCache_any a n cap ss w' hx hn (hs1.below hb)
    have ha := u64_bd wa
    have ht := u64_bd wt
    have HS : Hid (∀ (e1 : Option Addr) (e2 : Nat) (w' : World), Below w.heap.size w w' → Ss w' e1 ss → Calls Try.prog 13 #[.agg #[.slice e1 n e2], .int .i64 k, .int .i64 p, .int .u64 addr, .int .u64 to] w' fun e w'' => ∃ (a' : Option Addr) (c' : Nat), e = .returned (.agg #[.slice a' (keepS ss k p addr to).length c']) ∧ w''.ownsRow w'.heap.size 60 5 (.slice a' (keepS ss k p addr to).length c') (keepS ss k p addr to).length (flatS (keepS ss k p addr to)) ∧ Below w'.heap.size w' w'') := fun e1 e2 w' hbw k1 => specKeep_any e1 n e2 ss k p addr to w' ha ht hx hn hw1 k1
    have HI : Hid (∀ (e1 : Option Addr) (e2 : Nat) (w' : World), Below w.heap.size w w' → Ss w' e1 ss → Calls Try.prog 11 #[.agg #[.slice e1 n e2], .int .i64 k, .int .i64 p, .int .u64 addr, .int .u64 to] w' fun e w'' => ∃ (a' : Option Addr) (c' : Nat), e = .returned (.agg #[.slice a' (keepS ss k p addr to).length c']) ∧ w''.ownsRow w'.heap.size 60 5 (.slice a' (keepS ss k p addr to).length c') (keepS ss k p addr to).length (flatS (keepS ss k p addr to)) ∧ Below w'.heap.size w' w'') := fun e1 e2 w' hbw k1 => implKeep_any e1 n e2 ss k p addr to w' ha ht hx hn hw1 k1
    have hr := keepS_len ss k p addr to (by omega)
    generalize keepS ss k p addr to = R at *
    clear wk wp wa wt ha ht
    clear hw1 hsm hs1
    go_enter Try.func7, Try.ntmps7
    go_wp2_with fail
    refine (HSZ.out _).mono ?_
    rintro e w0 ⟨rfl, hb0⟩
    have hx0 : Below w.heap.size w w0 := below_trans ((Below.refl _ _).alloc (Nat.le_refl _) _) hb0
    have B0 : Below w.heap.size w w0 := hx0
    have m0 : w.heap.size + 1 ≤ w0.heap.size := by have h := hb0.size; rw [World.size_alloc] at h; exact h
    have rD0 : w0.heap[w.heap.size]? = some (.cells #[.slice a n cap] 40 (0, 0)) := dstays hb0 (heap_alloc_new _ _)
    have cD := row_at1 rD0
    go_wp2_with fail
    refine (HTD.out _ B0).mono ?_
    rintro e w1 ⟨gA, rfl, ow1, hb1⟩
    have hx1 : Below w0.heap.size w0 w1 := hb1
    have m1 : w0.heap.size ≤ w1.heap.size := hb1.size
    have B1 : Below w.heap.size w w1 := below_trans B0 hx1
    have rD1 := dstays hx1 rD0
    have fA1 := Fs.of ow1
    clear ow1
    clear cD
    go_wp2_with fail
    refine (HS.out _ _ _ B1 fA1.ss).mono ?_
    rintro e w2 ⟨aW, cW, rfl, ow2, hb2⟩
    have hx2 : Below w1.heap.size w1 w2 := hb2
    have m2 : w1.heap.size ≤ w2.heap.size := hb2.size
    have B2 : Below w.heap.size w w2 := below_trans B1 hx2
    have rD2 := dstays hx2 rD1
    have fA2 := fA1.below hx2
    have fW2 := Fs.of ow2
    clear ow2
    have cD := fun o => row_at1 (row_al1 rD2 o)
    go_wp2_with fail
    refine (HTD.out _ (B2.alloc B2.size _)).mono ?_
    rintro e w3 ⟨gX, rfl, ow3, hb3⟩
    have hx3 : Below w2.heap.size w2 w3 := below_trans ((Below.refl _ _).alloc (Nat.le_refl _) _) hb3
    have m3 : w2.heap.size + 1 ≤ w3.heap.size := by have h := hb3.size; rw [World.size_alloc] at h; exact h
    have B3 : Below w.heap.size w w3 := below_trans B2 hx3
    have rD3 := dstays hx3 rD2
    have rW3 : w3.heap[w2.heap.size]? = some (.cells #[.slice aW R.length cW] 26 (0, 0)) := dstays hb3 (heap_alloc_new _ _)
    have fW3 := fW2.below hx3
    have fX3 := Fs.of ow3
    rw [World.size_alloc] at fX3
    clear ow3
    clear cD
    go_wp2_with fail
    refine (HI.out _ _ _ (B3.alloc B3.size _) (fX3.below ((Below.refl _ _).alloc (Nat.le_refl _) _)).ss).mono ?_
    rintro e w4 ⟨aQ, cQ, rfl, ow4, hb4⟩
    have hx4 : Below w3.heap.size w3 w4 := below_trans ((Below.refl _ _).alloc (Nat.le_refl _) _) hb4
    have m4 : w3.heap.size + 1 ≤ w4.heap.size := by have h := hb4.size; rw [World.size_alloc] at h; exact h
    have B4 : Below w.heap.size w w4 := below_trans B3 hx4
    have rD4 := dstays hx4 rD3
    have rW4 := dstays hx4 rW3
    have rX4 : w4.heap[w3.heap.size]? = some (.cells #[.slice (some ⟨gX, 0, none⟩) n n] 26 (0, 0)) := dstays hb4 (heap_alloc_new _ _)
    have fW4 := fW3.below hx4
    have fX4 := fX3.below hx4
    have fQ4 := Fs.of ow4
    rw [World.size_alloc] at fQ4
    clear ow4
    have cW := fun o => row_at1 (row_al1 rW4 o)
    go_wp2_with fail
    refine (eqCache_same _ _ _ _ _ R _ rfl hr (fQ4.below ((Below.refl _ _).alloc (Nat.le_refl _) _)).ss (fW4.below ((Below.refl _ _).alloc (Nat.le_refl _) _)).ss).mono ?_
    rintro e w5 ⟨rfl, hb5⟩
    have hx5 : Below w4.heap.size w4 w5 := below_trans ((Below.refl _ _).alloc (Nat.le_refl _) _) hb5
    have m5 : w4.heap.size + 1 ≤ w5.heap.size := by have h := hb5.size; rw [World.size_alloc] at h; exact h
    have B5 : Below w.heap.size w w5 := below_trans B4 hx5
    have rD5 := dstays hx5 rD4
    have rW5 := dstays hx5 rW4
    have rX5 := dstays hx5 rX4
    have rQ5 : w5.heap[w4.heap.size]? = some (.cells #[.slice aQ R.length cQ] 26 (0, 0)) := dstays hb5 (heap_alloc_new _ _)
    have fW5 := fW4.below hx5
    have fX5 := fX4.below hx5
    have fQ5 := fQ4.below hx5
    clear cW
    have cX := row_at1 rX5
    have cD := row_at1 rD5
    have PW : Hid (∀ w', Below w5.heap.size w5 w' → w'.cell? ⟨w3.heap.size, 0, none⟩ = some (.slice (some ⟨gX, 0, none⟩) n n) ∧ w'.cell? ⟨w.heap.size, 0, none⟩ = some (.slice a n cap) ∧ Below w5.heap.size w5 w') := fun w' hb => ⟨row_at1 (dstays hb rX5), row_at1 (dstays hb rD5), hb⟩
    have PD : Hid (∀ w', Below w5.heap.size w5 w' → Below w5.heap.size w5 w'.drew) := fun w' hb => hb.drew
    have HTZ : Hid (∀ w', Below w5.heap.size w5 w' → Calls Try.prog 21 #[.agg #[.slice a n cap]] w' fun e w'' => ∃ g1 : Nat, e = .returned (.agg #[.slice (some ⟨g1, 0, none⟩) n n]) ∧ Hid (Ss w'' (some ⟨g1, 0, none⟩) ss) ∧ Below w5.heap.size w5 w'') := fun w' hb => (HTD.out w' (below_trans B5 hb)).mono fun e w'' ⟨g1, h1, h2, h3⟩ => ⟨g1, h1, own_ss h2, below_trans hb h3⟩
    have HEZ : Hid (∀ (g1 : Nat) w', Below w5.heap.size w5 w' → Ss w' (some ⟨g1, 0, none⟩) ss → Calls Try.prog 22 #[.agg #[.slice (some ⟨gX, 0, none⟩) n n], .agg #[.slice (some ⟨g1, 0, none⟩) n n]] w' fun e w'' => e = .returned (.bool true) ∧ Below w5.heap.size w5 w'') := fun g1 w' hb hf => (eqCache_same _ _ n _ _ ss w' hx hn (fX5.below hb).ss hf).mono fun e w'' h => ⟨h.1, below_trans hb h.2⟩
    go_wp2_with fail
    go_region_held3 (fun w' => w'.cell? ⟨w3.heap.size, 0, none⟩ = some (.slice (some ⟨gX, 0, none⟩) n n) ∧ w'.cell? ⟨w.heap.size, 0, none⟩ = some (.slice a n cap) ∧ Below w5.heap.size w5 w') (first | exact PW.out _ (PD.out _ (by assumption)) | exact PW.out _ (by assumption) | exact PW.out _ (Below.refl _ _).drew) (first | (go_at_call 21; with_reducible refine (HTZ.out _ ?_).mono ?_; (first | assumption | (exact And.right (And.right (by assumption)))); rintro e w8 ⟨gz, rfl, fz, hb8⟩) | (go_at_call 22; with_reducible refine (HEZ.out _ _ ?_ fz.out).mono ?_; (first | assumption | (exact And.right (And.right (by assumption)))); rintro e wz ⟨rfl, hbz⟩))
    obtain ⟨w6, hw6⟩ : ∃ w', w' = wz := ⟨_, rfl⟩
    rw [← hw6] at hbz ⊢
    clear hw6 PW PD HTZ HEZ
    have hb6 := hbz
    have hx6 : Below w5.heap.size w5 w6 := hb6
    have m6 : w5.heap.size ≤ w6.heap.size := hb6.size
    have B6 : Below w.heap.size w w6 := below_trans B5 hx6
    have rD6 := dstays hx6 rD5
    have rW6 := dstays hx6 rW5
    have rX6 := dstays hx6 rX5
    have rQ6 := dstays hx6 rQ5
    have fW6 := fW5.below hx6
    have fX6 := fX5.below hx6
    have fQ6 := fQ5.below hx6
    clear cX cD
    have cX := row_at1 rX6
    go_wp2_with fail
    refine (markCache_f _ _ _ _ _ 1 ss _ hn (by omega) (by omega) fX6).mono ?_
    rintro e w7 ⟨rfl, fX7, kp7⟩
    have B7 : Below w.heap.size w w7 := B6.trans (kp7.below (by omega) (by omega))
    have m7 : w6.heap.size ≤ w7.heap.size := kp7.size
    have rD7 := (kp7.block _ (Array.getElem?_eq_some_iff.1 rD6).1 (by omega)).trans rD6
    have rW7 := (kp7.block _ (Array.getElem?_eq_some_iff.1 rW6).1 (by omega)).trans rW6
    have rX7 := (kp7.block _ (Array.getElem?_eq_some_iff.1 rX6).1 (by omega)).trans rX6
    have rQ7 := (kp7.block _ (Array.getElem?_eq_some_iff.1 rQ6).1 (by omega)).trans rQ6
    have fW7 := fW6.keep kp7 (by omega)
    have fQ7 := fQ6.keep kp7 (by omega)
    have hneg : decide ((1 : Int) + 5 * (n : Int) < 0) = false := by simp; omega
    clear cX
    have cQ := row_at1 rQ7
    have cW := row_at1 rW7
    go_wp2_with fail
    refine (eqCache_same _ _ _ _ _ R _ rfl hr fQ7.ss fW7.ss).mono ?_
    rintro e w8 ⟨rfl, hb8⟩
    have hx8 : Below w7.heap.size w7 w8 := hb8
    have m8 : w7.heap.size ≤ w8.heap.size := hb8.size
    have B8 : Below w.heap.size w w8 := below_trans B7 hx8
    have rD8 := dstays hx8 rD7
    have rW8 := dstays hx8 rW7
    have rX8 := dstays hx8 rX7
    have rQ8 := dstays hx8 rQ7
    have fW8 := fW7.below hx8
    have fQ8 := fQ7.below hx8
    clear cQ cW
    have cQ := row_at1 rQ8
    go_wp2_with fail
    refine (markCache_f _ _ _ _ _ 1 R _ hr (by omega) (by omega) fQ8).mono ?_
    rintro e w9 ⟨rfl, fQ9, kp9⟩
    have B9 : Below w.heap.size w w9 := B8.trans (kp9.below (by omega) (by omega))
    have m9 : w8.heap.size ≤ w9.heap.size := kp9.size
    have rD9 := (kp9.block _ (Array.getElem?_eq_some_iff.1 rD8).1 (by omega)).trans rD8
    have rW9 := (kp9.block _ (Array.getElem?_eq_some_iff.1 rW8).1 (by omega)).trans rW8
    have rX9 := (kp9.block _ (Array.getElem?_eq_some_iff.1 rX8).1 (by omega)).trans rX8
    have rQ9 := (kp9.block _ (Array.getElem?_eq_some_iff.1 rQ8).1 (by omega)).trans rQ8
    have fW9 := fW8.keep kp9 (by omega)
    have hneg2 : ¬ ((1 : Int) + 5 * (R.length : Int) < 0) := by omega
    have hne2 : ((1 : Int) + 5 * (R.length : Int) != 1 + 5 * (R.length : Int)) = false := by simp
    clear cQ
    have cQ := row_at1 rQ9
    go_wp2_with fail
    refine (heldCache_any _ _ _ 1 _ hr (by omega) (by omega) fQ9.ss).mono ?_
    rintro e w10 ⟨rfl, hb10⟩
    have hx10 : Below w9.heap.size w9 w10 := hb10
    have m10 : w9.heap.size ≤ w10.heap.size := hb10.size
    have B10 : Below w.heap.size w w10 := below_trans B9 hx10
    have rD10 := dstays hx10 rD9
    have rW10 := dstays hx10 rW9
    have rX10 := dstays hx10 rX9
    have rQ10 := dstays hx10 rQ9
    have fW10 := fW9.below hx10
    have fQ10 := fQ9.below hx10
    clear cQ
    have cD := row_at1 rD10
    go_wp2_with fail
    refine (HTD.out _ B10).mono ?_
    rintro e w11 ⟨gP, rfl, ow11, hb11⟩
    have hx11 : Below w10.heap.size w10 w11 := hb11
    have m11 : w10.heap.size ≤ w11.heap.size := hb11.size
    have B11 : Below w.heap.size w w11 := below_trans B10 hx11
    have rD11 := dstays hx11 rD10
    have rW11 := dstays hx11 rW10
    have rX11 := dstays hx11 rX10
    have rQ11 := dstays hx11 rQ10
    have fW11 := fW10.below hx11
    have fQ11 := fQ10.below hx11
    have fP11 := Fs.of ow11
    clear ow11
    clear cD
    go_wp2_with fail
    refine (HI.out _ _ _ B11 fP11.ss).mono ?_
    rintro e w12 ⟨aK, cK, rfl, ow12, hb12⟩
    have hx12 : Below w11.heap.size w11 w12 := hb12
    have m12 : w11.heap.size ≤ w12.heap.size := hb12.size
    have B12 : Below w.heap.size w w12 := below_trans B11 hx12
    have rD12 := dstays hx12 rD11
    have rW12 := dstays hx12 rW11
    have rX12 := dstays hx12 rX11
    have rQ12 := dstays hx12 rQ11
    have fW12 := fW11.below hx12
    have fQ12 := fQ11.below hx12
    have fP12 := fP11.below hx12
    have fK12 := Fs.of ow12
    clear ow12
    have cW := fun o => row_at1 (row_al1 rW12 o)
    go_wp2_with fail
    refine (eqCache_same _ _ _ _ _ R _ rfl hr (fK12.below ((Below.refl _ _).alloc (Nat.le_refl _) _)).ss (fW12.below ((Below.refl _ _).alloc (Nat.le_refl _) _)).ss).mono ?_
    rintro e w13 ⟨rfl, hb13⟩
    have hx13 : Below w12.heap.size w12 w13 := below_trans ((Below.refl _ _).alloc (Nat.le_refl _) _) hb13
    have m13 : w12.heap.size + 1 ≤ w13.heap.size := by have h := hb13.size; rw [World.size_alloc] at h; exact h
    have B13 : Below w.heap.size w w13 := below_trans B12 hx13
    have rD13 := dstays hx13 rD12
    have rW13 := dstays hx13 rW12
    have rX13 := dstays hx13 rX12
    have rQ13 := dstays hx13 rQ12
    have rK13 : w13.heap[w12.heap.size]? = some (.cells #[.slice aK R.length cK] 26 (0, 0)) := dstays hb13 (heap_alloc_new _ _)
    have fW13 := fW12.below hx13
    have fQ13 := fQ12.below hx13
    have fK13 := fK12.below hx13
    clear cW
    have cQ := row_at1 rQ13
    go_wp2_with fail
    refine (heldCache_any _ _ _ 1 _ hr (by omega) (by omega) fQ13.ss).mono ?_
    rintro e w14 ⟨rfl, hb14⟩
    have hx14 : Below w13.heap.size w13 w14 := hb14
    have m14 : w13.heap.size ≤ w14.heap.size := hb14.size
    have B14 : Below w.heap.size w w14 := below_trans B13 hx14
    have rD14 := dstays hx14 rD13
    have rW14 := dstays hx14 rW13
    have rX14 := dstays hx14 rX13
    have rQ14 := dstays hx14 rQ13
    have rK14 := dstays hx14 rK13
    have fQ14 := fQ13.below hx14
    clear cQ
    go_wp2_with fail
    go_ret
    exact ⟨rfl, B14⟩
  · rw [if_neg (show ¬ (n : Int) ≤ 1048576 by omega)] at HSZ
    clear hx hmx hs1 hw1 hsm
    go_enter Try.func7, Try.ntmps7
    go_wp2_with fail
    refine (HSZ.out _).mono ?_
    rintro e w0 ⟨rfl, hb0⟩
    go_wp2_with fail
    go_ret
    exact ⟨rfl, below_trans ((Below.refl _ _).alloc (Nat.le_refl _) _) hb0⟩

end Go.Proofs.Ytdllhjehokpefaa.fnExactKeep
