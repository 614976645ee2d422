/- The program's protection: the small functions, the span of an entry. -/
import Derived.Test.YtaicnnkcdpdhaacDoorTabC
import Derived.Test.YtaicnnkcdpdhaacDoorRegQ
import Derived.Test.YtaicnnkcdpdhaacDoorLegC
import Derived.Test.YtaicnnkcdpdhaacDoorMemC
import Derived.Test.YtaicnnkcdpdhaacDoorCsrJ
namespace Go.Proofs.YtaicnnkcdpdhaacDoor
open Go.RowKit
set_option linter.unusedVariables false

theorem below_drN {B : Nat} {w w' : World} (h : Below B w w') (q : Nat) : Below B w (w'.drewN q) := ⟨h.os, h.tape, h.output, h.size, h.block⟩

def kindB (k : Int) : Bool := (k == 1) || (k == 2) || (k == 3)

theorem kind_eq (k : Int) : kindB k = decide (1 ≤ k ∧ k ≤ 3) := by
  unfold kindB
  by_cases h1 : k = 1
  · subst h1; rfl
  · by_cases h2 : k = 2
    · subst h2; rfl
    · by_cases h3 : k = 3
      · subst h3; rfl
      · have : ¬ (1 ≤ k ∧ k ≤ 3) := by omega
        rw [decide_eq_false this]
        simp [h1, h2, h3]

theorem kindOk_any (k : Int) (w : World) : Calls Tryd.prog 18 #[.int .i64 k] w fun e w' => e = .returned (.bool (kindB k)) ∧ w' = w := by
  have F : Hid (kindB k = ((k == 1) || (k == 2) || (k == 3))) := (rfl : kindB k = _)
  cases h1 : (k == 1) with
  | true =>
    rw [h1] at F
    go_enter Tryd.func18, Tryd.ntmps18
    go_wp2
    go_ret
    exact ⟨by rw [F.out]; rfl, rfl⟩
  | false =>
    rw [h1] at F
    cases h2 : (k == 2) with
    | true =>
      rw [h2] at F
      go_enter Tryd.func18, Tryd.ntmps18
      go_wp2
      go_ret
      exact ⟨by rw [F.out]; rfl, rfl⟩
    | false =>
      rw [h2] at F
      cases h3 : (k == 3) with
      | true =>
        rw [h3] at F
        go_enter Tryd.func18, Tryd.ntmps18
        go_wp2
        go_ret
        exact ⟨by rw [F.out]; rfl, rfl⟩
      | false =>
        rw [h3] at F
        go_enter Tryd.func18, Tryd.ntmps18
        go_wp2
        go_ret
        exact ⟨by rw [F.out]; rfl, rfl⟩

def kindM (k : Int) : Int := if (k == 1) = true then 4 else if (k == 2) = true then 1 else 2

theorem kindBit_any (k : Int) (w : World) : Calls Tryd.prog 35 #[.int .i64 k] w fun e w' => e = .returned (.int .u64 (kindM k)) ∧ w' = w := by
  have F : Hid (kindM k = if (k == 1) = true then 4 else if (k == 2) = true then 1 else 2) := (rfl : kindM k = _)
  cases h1 : (k == 1) with
  | true =>
    rw [h1] at F
    go_enter Tryd.func35, Tryd.ntmps35
    go_wp2
    go_ret
    exact ⟨by rw [F.out]; rfl, rfl⟩
  | false =>
    rw [h1] at F
    cases h2 : (k == 2) with
    | true =>
      rw [h2] at F
      go_enter Tryd.func35, Tryd.ntmps35
      go_wp2
      go_ret
      exact ⟨by rw [F.out]; rfl, rfl⟩
    | false =>
      rw [h2] at F
      go_enter Tryd.func35, Tryd.ntmps35
      go_wp2
      go_ret
      exact ⟨by rw [F.out]; rfl, rfl⟩

def allB (lo hi x y : Int) : Bool := decide (lo ≤ x) && decide (y ≤ hi)

theorem hasAll_any (lo hi r x y : Int) (w : World) : Calls Tryd.prog 20 #[.agg #[.int .u64 lo, .int .u64 hi, .int .u64 r], .int .u64 x, .int .u64 y] w fun e w' => e = .returned (.bool (allB lo hi x y)) ∧ Below w.heap.size w w' := by
  have F : Hid (allB lo hi x y = (decide (lo ≤ x) && decide (y ≤ hi))) := (rfl : allB lo hi x y = _)
  cases h1 : decide (lo ≤ x) with
  | true =>
    rw [h1] at F
    cases h2 : decide (y ≤ hi) with
    | true =>
      rw [h2] at F
      go_enter Tryd.func20, Tryd.ntmps20
      go_wp2
      go_ret
      exact ⟨by rw [F.out]; rfl, (Below.refl _ _).alloc (Nat.le_refl _) _⟩
    | false =>
      rw [h2] at F
      go_enter Tryd.func20, Tryd.ntmps20
      go_wp2
      go_ret
      exact ⟨by rw [F.out]; rfl, (Below.refl _ _).alloc (Nat.le_refl _) _⟩
  | false =>
    rw [h1] at F
    go_enter Tryd.func20, Tryd.ntmps20
    go_wp2
    go_ret
    exact ⟨by rw [F.out]; rfl, (Below.refl _ _).alloc (Nat.le_refl _) _⟩

def allowB (r p k : Int) : Bool := ((p == 3) && (bits .and .u64 r 128 == 0)) || (bits .and .u64 r (kindM k) != 0)

theorem allows_any (lo hi r p k : Int) (w : World) : Calls Tryd.prog 21 #[.agg #[.int .u64 lo, .int .u64 hi, .int .u64 r], .int .i64 p, .int .i64 k] w fun e w' => e = .returned (.bool (allowB r p k)) ∧ Below w.heap.size w w' := by
  have F : Hid (allowB r p k = (((p == 3) && (bits .and .u64 r 128 == 0)) || (bits .and .u64 r (kindM k) != 0))) := (rfl : allowB r p k = _)
  have HQ : Hid (∀ w, Calls Tryd.prog 35 #[.int .i64 k] w fun e w' => e = .returned (.int .u64 (kindM k)) ∧ ∃ q, w' = w.drewN q) := fun w => (kindBit_any k w).mono fun e w' h => ⟨h.1, 0, by rw [h.2]; rfl⟩
  generalize kindM k = m at *
  cases h1 : (p == 3) with
  | true =>
    rw [h1] at F
    cases h2 : (bits .and .u64 r 128 == 0) with
    | true =>
      rw [h2] at F
      go_enter Tryd.func21, Tryd.ntmps21
      go_wp2
      go_ret
      exact ⟨by rw [F.out]; rfl, (Below.refl _ _).alloc (Nat.le_refl _) _⟩
    | false =>
      rw [h2] at F
      go_enter Tryd.func21, Tryd.ntmps21
      go_wp2_with fail
      go_quiet (first | (go_at_call 35; with_reducible refine Calls.quiet_of (HQ.out _)))
      go_wp2_with fail
      go_ret
      exact ⟨by rw [F.out]; rfl, below_drN ((Below.refl _ _).alloc (Nat.le_refl _) _) _⟩
  | false =>
    rw [h1] at F
    go_enter Tryd.func21, Tryd.ntmps21
    go_wp2_with fail
    go_quiet (first | (go_at_call 35; with_reducible refine Calls.quiet_of (HQ.out _)))
    go_wp2_with fail
    go_ret
    exact ⟨by rw [F.out]; rfl, below_drN ((Below.refl _ _).alloc (Nat.le_refl _) _) _⟩

theorem endAhead_any (b off cap : Nat) (l : List Int) (i : Nat) (hi : i < 4) (w : World) (c : w.cell? ⟨b, off + (16 + i), none⟩ = some (.int .u64 (l.getD (16 + i) 0))) :
    Calls Tryd.prog 48 #[.slice (some ⟨b, off, none⟩) 22 cap, .int .i64 i] w fun e w' => e = .returned (.int .u64 (headV l i)) ∧ Below w.heap.size w w' := by
  have F : Hid (headV l i = if (i == 0) = true then 0 else IntKind.u64.wrap (4 * l.getD (16 + i) 0)) := (rfl : headV l i = _)
  rcases Nat.eq_zero_or_pos i with h | h
  · subst h
    go_enter Tryd.func48, Tryd.ntmps48
    go_wp2_with fail
    go_ret
    exact ⟨rfl, Below.refl _ _⟩
  · have h0 : ((i : Int) == 0) = false := by simp; omega
    have e17 : wrap64 (17 + (i : Int)) = ((17 + i : Nat) : Int) := by unfold wrap64; omega
    have e16 : wrap64 (((17 + i : Nat) : Int) - 1) = ((16 + i : Nat) : Int) := by unfold wrap64; omega
    have b16 : 0 ≤ ((16 + i : Nat) : Int) ∧ ((16 + i : Nat) : Int) < ((22 : Nat) : Int) := by omega
    have F2 : Hid (headV l i = IntKind.u64.wrap (4 * l.getD (16 + i) 0)) := by
      have := F.out
      rw [if_neg (by simp; omega)] at this
      exact this
    clear F
    generalize l.getD (16 + i) 0 = a at *
    go_enter Tryd.func48, Tryd.ntmps48
    go_wp2_with fail
    go_ret
    exact ⟨by rw [F2.out]; rfl, Below.refl _ _⟩

theorem bt_xor (x y : Int) (i : Nat) : bt (bits .xor .u64 x y) i = (bt x i ^^ bt y i) := by
  show (BitVec.ofInt 64 (IntKind.u64.wrap ((BitVec.ofInt 64 x ^^^ BitVec.ofInt 64 y).toNat : Int))).getLsbD i = _
  rw [ofInt_bv]; simp [bt]

theorem not_nat (a : Nat) (h : a < 18446744073709551616) : bits .xor .u64 IntKind.u64.max (a : Int) = ((18446744073709551615 - a : Nat) : Int) := by
  have e : IntKind.u64.max = 18446744073709551615 := rfl
  rw [e]
  refine bt_ext _ _ (U_bits _ _ _) ⟨by omega, by omega⟩ fun i hi => ?_
  rw [bt_xor, litAll i hi, bt_nat _ ⟨by omega, by omega⟩, bt_nat _ ⟨by omega, by omega⟩]
  have e2 : (18446744073709551615 - a : Nat) = 2 ^ 64 - (a + 1) := by omega
  simp only [Int.toNat_natCast]
  rw [e2, Nat.testBit_two_pow_sub_succ h, decide_eq_true hi]
  simp

theorem powerSpan_core (a : Int) (x z k : Nat) (ex : bits .xor .u64 IntKind.u64.max a = (x : Int)) (hk : min z 53 = k) (hk3 : k ≤ 53) (w : World)
    (HZ : Hid (Calls Tryd.prog 51 #[.int .u64 x] w fun e w' => e = .returned (.int .i64 z) ∧ w' = w)) :
    Calls Tryd.prog 49 #[.int .u64 a] w fun e w' => e = .returned (.tuple #[.int .u64 (powLo a k), .int .u64 (powHi a k)]) ∧ Below w.heap.size w w' := by
  have HK : Hid (min z 53 = k) := hk
  have hsg : IntKind.u64.signed = false := rfl
  clear hk
  go_enter Tryd.func49, Tryd.ntmps49
  go_wp2_with fail
  refine HZ.out.mono ?_
  rintro e w1 ⟨rfl, hw1⟩
  have hw2 := hw1.symm
  subst hw2
  go_wp2_with fail
  case inl =>
    rename_i hz53
    have e53 : Hid (k = 53) := by have := HK.out; show k = 53; omega
    go_quiet (fail)
    go_wp2_with fail
    go_ret2
    exact ⟨by rw [e53.out]; rfl, below_drN (Below.refl _ _) _⟩
  case inr =>
    rename_i hz53
    have ez : Hid (k = z) := by have := HK.out; show k = z; omega
    go_quiet (fail)
    go_wp2_with fail
    go_ret2
    exact ⟨by rw [ez.out]; rfl, below_drN (Below.refl _ _) _⟩

theorem powerSpan_any (a : Int) (h : U a) (w : World) (hT : Tab w) :
    Calls Tryd.prog 49 #[.int .u64 a] w fun e w' => e = .returned (.tuple #[.int .u64 (powLo a (onesI a)), .int .u64 (powHi a (onesI a))]) ∧ Below w.heap.size w w' := by
  obtain ⟨n, rfl⟩ : ∃ n : Nat, a = n := ⟨a.toNat, by have := h.1; omega⟩
  have hn : n < 18446744073709551616 := by have := h.2; omega
  have e0 : (18446744073709551615 - (n : Int)).toNat = 18446744073709551615 - n := by omega
  refine powerSpan_core (n : Int) (18446744073709551615 - n) (Lib.ctz 64 (18446744073709551615 - n)) _ (not_nat n hn) ?_ ?_ w (tz_any _ (by omega) w hT)
  · unfold onesI; rw [e0]
  · unfold onesI; exact Nat.min_le_right _ _

set_option maxRecDepth 100000 in
set_option maxHeartbeats 1600000 in
theorem span_any (b off cap : Nat) (l : List Int) (i : Nat) (hi : i < 4) (w : World) (hT : Tab w) (hl : ∀ j, U (l.getD j 0)) (c16 : w.cell? ⟨b, off + 16, none⟩ = some (.int .u64 (l.getD 16 0)))
    (c17 : w.cell? ⟨b, off + (17 + i), none⟩ = some (.int .u64 (l.getD (17 + i) 0))) (c15 : w.cell? ⟨b, off + (16 + i), none⟩ = some (.int .u64 (l.getD (16 + i) 0))) :
    Calls Tryd.prog 44 #[.slice (some ⟨b, off, none⟩) 22 cap, .int .i64 i] w fun e w' => e = .returned (.tuple #[.int .u64 (spanV l i).1, .int .u64 (spanV l i).2]) ∧ Below w.heap.size w w' := by
  have HR : Hid (Calls Tryd.prog 47 #[.int .u64 (l.getD 16 0), .int .i64 i] w fun e w' => e = .returned (.int .u64 (reachI (l.getD 16 0) i)) ∧ w' = w.drew) := pmpReach_any _ i (by omega) (hl 16).1 (hl 16).2 w
  have HE : Hid (Calls Tryd.prog 48 #[.slice (some ⟨b, off, none⟩) 22 cap, .int .i64 i] w.drew fun e w' => e = .returned (.int .u64 (headV l i)) ∧ Below w.heap.size w.drew w') := endAhead_any b off cap l i hi w.drew (by rw [World.cell?_drew]; exact c15)
  have HP : Hid (Calls Tryd.prog 49 #[.int .u64 (l.getD (17 + i) 0)] w.drew fun e w' => e = .returned (.tuple #[.int .u64 (powLo (l.getD (17 + i) 0) (onesI (l.getD (17 + i) 0))), .int .u64 (powHi (l.getD (17 + i) 0) (onesI (l.getD (17 + i) 0)))]) ∧ Below w.heap.size w.drew w') := powerSpan_any _ (hl (17 + i)) w.drew (fun j hj => by rw [World.cell?_drew]; exact hT j hj)
  have F0 : spanV l i = if (reachI (l.getD 16 0) i == 1) = true then (headV l i, IntKind.u64.wrap (4 * l.getD (17 + i) 0))
    else if (reachI (l.getD 16 0) i == 2) = true then (IntKind.u64.wrap (4 * l.getD (17 + i) 0), IntKind.u64.wrap (IntKind.u64.wrap (4 * l.getD (17 + i) 0) + 4))
    else if (reachI (l.getD 16 0) i == 3) = true then (powLo (l.getD (17 + i) 0) (onesI (l.getD (17 + i) 0)), powHi (l.getD (17 + i) 0) (onesI (l.getD (17 + i) 0)))
    else (0, 0) := rfl
  have HD : Hid (Below w.heap.size w w.drew) := (Below.refl _ _).drew
  have e17 : wrap64 (17 + (i : Int)) = ((17 + i : Nat) : Int) := by unfold wrap64; omega
  have b17 : 0 ≤ ((17 + i : Nat) : Int) ∧ ((17 + i : Nat) : Int) < ((22 : Nat) : Int) := by omega
  generalize spanV l i = r at *
  generalize headV l i = hv at *
  generalize onesI (l.getD (17 + i) 0) = on at *
  generalize powLo (l.getD (17 + i) 0) on = pl at *
  generalize powHi (l.getD (17 + i) 0) on = ph at *
  generalize reachI (l.getD 16 0) i = q at *
  generalize l.getD (17 + i) 0 = a at *
  generalize l.getD 16 0 = cf at *
  clear hT hl c15
  cases h1 : (q == 1) with
  | true =>
    rw [h1, if_pos rfl] at F0
    have F : Hid (r = (hv, IntKind.u64.wrap (4 * a))) := F0
    clear F0
    go_enter Tryd.func44, Tryd.ntmps44
    go_wp2_with fail
    refine HR.out.mono ?_
    rintro e w1 ⟨rfl, hw1⟩
    subst hw1
    go_wp2_with fail
    refine HE.out.mono ?_
    rintro e w2 ⟨rfl, hb⟩
    go_wp2_with fail
    go_ret2
    exact ⟨by rw [F.out]; rfl, HD.out.trans hb⟩
  | false =>
    rw [h1, if_neg (by decide)] at F0
    cases h2 : (q == 2) with
    | true =>
      rw [h2, if_pos rfl] at F0
      have F : Hid (r = (IntKind.u64.wrap (4 * a), IntKind.u64.wrap (IntKind.u64.wrap (4 * a) + 4))) := F0
      clear F0
      go_enter Tryd.func44, Tryd.ntmps44
      go_wp2_with fail
      refine HR.out.mono ?_
      rintro e w1 ⟨rfl, hw1⟩
      subst hw1
      go_wp2_with fail
      go_ret2
      exact ⟨by rw [F.out]; rfl, HD.out⟩
    | false =>
      rw [h2, if_neg (by decide)] at F0
      cases h3 : (q == 3) with
      | true =>
        rw [h3, if_pos rfl] at F0
        have F : Hid (r = (pl, ph)) := F0
        clear F0
        go_enter Tryd.func44, Tryd.ntmps44
        go_wp2_with fail
        refine HR.out.mono ?_
        rintro e w1 ⟨rfl, hw1⟩
        subst hw1
        go_wp2_with fail
        refine HP.out.mono ?_
        rintro e w2 ⟨rfl, hb⟩
        go_wp2_with fail
        go_ret2
        exact ⟨by rw [F.out]; rfl, HD.out.trans hb⟩
      | false =>
        rw [h3, if_neg (by decide)] at F0
        have F : Hid (r = (0, 0)) := F0
        clear F0
        go_enter Tryd.func44, Tryd.ntmps44
        go_wp2_with fail
        refine HR.out.mono ?_
        rintro e w1 ⟨rfl, hw1⟩
        subst hw1
        go_wp2_with fail
        go_ret2
        exact ⟨by rw [F.out]; rfl, HD.out⟩

end Go.Proofs.YtaicnnkcdpdhaacDoor
