/- The walk of laws.FnExactLookup: it returns true at every argument, and writes nothing that was there. By tools/genLawEC.py. -/
import Derived.Test.YtdllhjehokpefaaSlF
import Derived.Test.YtdllhjehokpefaaSlU
import Derived.Test.YtdllhjehokpefaaSlN
import Derived.Deep.RegionHeld3
namespace Go.Proofs.Ytdllhjehokpefaa.fnExactLookup
open Go.RowKit
set_option linter.unusedVariables false

set_option maxRecDepth 100000 in
set_option maxHeartbeats 6400000 in
theorem walk (a : Option Addr) (n cap : Nat) (ss : List Slt) (k p addr : Int) (w : World) (hin : CIn w a n cap ss) (wk : (Lit.int .i64 k).wf = true) (wp : (Lit.int .i64 p).wf = true) (wa : (Lit.int .u64 addr).wf = true) :
    Calls Try.prog 6 #[.agg #[.slice a n cap], .int .i64 k, .int .i64 p, .int .u64 addr] w fun e w' => e = .returned (.bool true) ∧ Below w.heap.size w w' := by
  obtain ⟨hx, hmx, hs1, hw1⟩ := hin
  unfold maxLen at hmx
  have HSZ := dhid (fun w => szCache_any a n cap 1048576 w (by omega) (by omega) (by omega))
  by_cases hsm : n ≤ 1048576
  · have hn : n ≤ 1048576 := hsm
    rw [if_pos (show (n : Int) ≤ 1048576 by omega)] at HSZ
    have d0 : decide ((1048576 : Int) - (n : Int) < 0) = false := by simp; omega
    have HTD : Hid (∀ w', Below w.heap.size w w' → Calls Try.prog 21 #[.agg #[.slice a n cap]] w' fun e w'' => ∃ g1 : Nat, e = .returned (.agg #[.slice (some ⟨g1, 0, none⟩) n n]) ∧ w''.ownsRow w'.heap.size 60 5 (.slice (some ⟨g1, 0, none⟩) n n) n (flatS ss) ∧ Below w'.heap.size w' w'') := fun w' hb => toCache_any a n cap ss w' hx hn (hs1.below hb)
    have ha := u64_bd wa
    have HS : Hid (∀ (e1 : Option Addr) (e2 : Nat) (w' : World), Below w.heap.size w w' → Ss w' e1 ss → Calls Try.prog 15 #[.agg #[.slice e1 n e2], .int .i64 k, .int .i64 p, .int .u64 addr] w' fun e w'' => e = .returned (lookV (lookS ss k p addr)) ∧ Below w'.heap.size w' w'') := fun e1 e2 w' hbw k1 => specLookup_any e1 n e2 ss k p addr w' ha hx hn hw1 k1
    have HI : Hid (∀ (e1 : Option Addr) (e2 : Nat) (w' : World), Below w.heap.size w w' → Ss w' e1 ss → Calls Try.prog 14 #[.agg #[.slice e1 n e2], .int .i64 k, .int .i64 p, .int .u64 addr] w' fun e w'' => e = .returned (lookV (lookS ss k p addr)) ∧ Below w'.heap.size w' w'') := fun e1 e2 w' hbw k1 => implLookup_any e1 n e2 ss k p addr w' ha hx hn hw1 k1
    obtain ⟨rv, rb, hrv⟩ : ∃ (rv : Int) (rb : Bool), lookV (lookS ss k p addr) = .tuple #[.int .u64 rv, .bool rb] := ⟨_, _, rfl⟩
    rw [hrv] at HS HI
    have tv : (rv != rv) = false := by simp
    have tx : (rb == rb) = true := by simp
    clear hrv wk wp wa ha
    clear hw1 hsm hs1
    go_enter Try.func6, Try.ntmps6
    go_wp2_with fail
    refine (HSZ.out _).mono ?_
    rintro e w0 ⟨rfl, hb0⟩
    have hx0 : Below w.heap.size w w0 := below_trans ((Below.refl _ _).alloc (Nat.le_refl _) _) hb0
    have B0 : Below w.heap.size w w0 := hx0
    have m0 : w.heap.size + 1 ≤ w0.heap.size := by have h := hb0.size; rw [World.size_alloc] at h; exact h
    have rD0 : w0.heap[w.heap.size]? = some (.cells #[.slice a n cap] 40 (0, 0)) := dstays hb0 (heap_alloc_new _ _)
    have cD := row_at1 rD0
    go_wp2_with fail
    refine (HTD.out _ B0).mono ?_
    rintro e w1 ⟨gA, rfl, ow1, hb1⟩
    have hx1 : Below w0.heap.size w0 w1 := hb1
    have m1 : w0.heap.size ≤ w1.heap.size := hb1.size
    have B1 : Below w.heap.size w w1 := below_trans B0 hx1
    have rD1 := dstays hx1 rD0
    have fA1 := Fs.of ow1
    clear ow1
    clear cD
    go_wp2_with fail
    refine (HS.out _ _ _ B1 fA1.ss).mono ?_
    rintro e w2 ⟨rfl, hb2⟩
    have hx2 : Below w1.heap.size w1 w2 := hb2
    have m2 : w1.heap.size ≤ w2.heap.size := hb2.size
    have B2 : Below w.heap.size w w2 := below_trans B1 hx2
    have rD2 := dstays hx2 rD1
    have fA2 := fA1.below hx2
    have cD := row_at1 rD2
    go_wp2_with fail
    refine (HTD.out _ B2).mono ?_
    rintro e w3 ⟨gX, rfl, ow3, hb3⟩
    have hx3 : Below w2.heap.size w2 w3 := hb3
    have m3 : w2.heap.size ≤ w3.heap.size := hb3.size
    have B3 : Below w.heap.size w w3 := below_trans B2 hx3
    have rD3 := dstays hx3 rD2
    have fX3 := Fs.of ow3
    clear ow3
    clear cD
    go_wp2_with fail
    refine (HI.out _ _ _ (B3.alloc B3.size _) (fX3.below ((Below.refl _ _).alloc (Nat.le_refl _) _)).ss).mono ?_
    rintro e w4 ⟨rfl, hb4⟩
    have hx4 : Below w3.heap.size w3 w4 := below_trans ((Below.refl _ _).alloc (Nat.le_refl _) _) hb4
    have m4 : w3.heap.size + 1 ≤ w4.heap.size := by have h := hb4.size; rw [World.size_alloc] at h; exact h
    have B4 : Below w.heap.size w w4 := below_trans B3 hx4
    have rD4 := dstays hx4 rD3
    have rX4 : w4.heap[w3.heap.size]? = some (.cells #[.slice (some ⟨gX, 0, none⟩) n n] 26 (0, 0)) := dstays hb4 (heap_alloc_new _ _)
    have fX4 := fX3.below hx4
    have cX := row_at1 rX4
    have cD := row_at1 rD4
    have PW : Hid (∀ w', Below w4.heap.size w4 w' → w'.cell? ⟨w3.heap.size, 0, none⟩ = some (.slice (some ⟨gX, 0, none⟩) n n) ∧ w'.cell? ⟨w.heap.size, 0, none⟩ = some (.slice a n cap) ∧ Below w4.heap.size w4 w') := fun w' hb => ⟨row_at1 (dstays hb rX4), row_at1 (dstays hb rD4), hb⟩
    have PD : Hid (∀ w', Below w4.heap.size w4 w' → Below w4.heap.size w4 w'.drew) := fun w' hb => hb.drew
    have HTZ : Hid (∀ w', Below w4.heap.size w4 w' → Calls Try.prog 21 #[.agg #[.slice a n cap]] w' fun e w'' => ∃ g1 : Nat, e = .returned (.agg #[.slice (some ⟨g1, 0, none⟩) n n]) ∧ Hid (Ss w'' (some ⟨g1, 0, none⟩) ss) ∧ Below w4.heap.size w4 w'') := fun w' hb => (HTD.out w' (below_trans B4 hb)).mono fun e w'' ⟨g1, h1, h2, h3⟩ => ⟨g1, h1, own_ss h2, below_trans hb h3⟩
    have HEZ : Hid (∀ (g1 : Nat) w', Below w4.heap.size w4 w' → Ss w' (some ⟨g1, 0, none⟩) ss → Calls Try.prog 22 #[.agg #[.slice (some ⟨gX, 0, none⟩) n n], .agg #[.slice (some ⟨g1, 0, none⟩) n n]] w' fun e w'' => e = .returned (.bool true) ∧ Below w4.heap.size w4 w'') := fun g1 w' hb hf => (eqCache_same _ _ n _ _ ss w' hx hn (fX4.below hb).ss hf).mono fun e w'' h => ⟨h.1, below_trans hb h.2⟩
    go_wp2_with fail
    go_region_held3 (fun w' => w'.cell? ⟨w3.heap.size, 0, none⟩ = some (.slice (some ⟨gX, 0, none⟩) n n) ∧ w'.cell? ⟨w.heap.size, 0, none⟩ = some (.slice a n cap) ∧ Below w4.heap.size w4 w') (first | exact PW.out _ (PD.out _ (by assumption)) | exact PW.out _ (by assumption) | exact PW.out _ (Below.refl _ _).drew) (first | (go_at_call 21; with_reducible refine (HTZ.out _ ?_).mono ?_; (first | assumption | (exact And.right (And.right (by assumption)))); rintro e w8 ⟨gz, rfl, fz, hb8⟩) | (go_at_call 22; with_reducible refine (HEZ.out _ _ ?_ fz.out).mono ?_; (first | assumption | (exact And.right (And.right (by assumption)))); rintro e wz ⟨rfl, hbz⟩))
    obtain ⟨w5, hw5⟩ : ∃ w', w' = wz := ⟨_, rfl⟩
    rw [← hw5] at hbz ⊢
    clear hw5 PW PD HTZ HEZ
    have hb5 := hbz
    have hx5 : Below w4.heap.size w4 w5 := hb5
    have m5 : w4.heap.size ≤ w5.heap.size := hb5.size
    have B5 : Below w.heap.size w w5 := below_trans B4 hx5
    have rD5 := dstays hx5 rD4
    have rX5 := dstays hx5 rX4
    have fX5 := fX4.below hx5
    clear cX cD
    go_wp2_with fail
    go_ret
    exact ⟨rfl, B5⟩
  · rw [if_neg (show ¬ (n : Int) ≤ 1048576 by omega)] at HSZ
    clear hx hmx hs1 hw1 hsm
    go_enter Try.func6, Try.ntmps6
    go_wp2_with fail
    refine (HSZ.out _).mono ?_
    rintro e w0 ⟨rfl, hb0⟩
    go_wp2_with fail
    go_ret
    exact ⟨rfl, below_trans ((Below.refl _ _).alloc (Nat.le_refl _) _) hb0⟩

end Go.Proofs.Ytdllhjehokpefaa.fnExactLookup
