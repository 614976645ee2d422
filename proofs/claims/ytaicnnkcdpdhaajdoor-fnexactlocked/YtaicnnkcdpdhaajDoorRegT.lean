/- The model's Region, Locked and Permits. -/
import Derived.Test.YtaicnnkcdpdhaajDoorRegS
import Derived.Test.YtaicnnkcdpdhaajDoorCsrT
import Derived.Test.YtaicnnkcdpdhaajDoorMemC
namespace Go.Proofs.YtaicnnkcdpdhaajDoor
open Go.RowKit
set_option linter.unusedVariables false

theorem l1In_d (x a b : Int) (w : World) : Calls Tryd.prog 15 #[.int .i64 x, .int .i64 a, .int .i64 b] w fun e w' => e = .returned (.bool (decide (a ≤ x ∧ x ≤ b))) ∧ w' = w := by
  by_cases h1 : a ≤ x
  · by_cases h2 : x ≤ b
    · have F : Hid (decide (a ≤ x ∧ x ≤ b) = true) := by show decide (a ≤ x ∧ x ≤ b) = true; simp [h1, h2]
      have d1 : decide (a ≤ x) = true := by simpa using h1
      have d2 : decide (x ≤ b) = true := by simpa using h2
      clear h1 h2
      go_enter Tryd.func15, Tryd.ntmps15
      go_wp2
      go_ret
      exact ⟨by rw [F.out]; rfl, rfl⟩
    · have F : Hid (decide (a ≤ x ∧ x ≤ b) = false) := by show decide (a ≤ x ∧ x ≤ b) = false; simp [h2]
      have d1 : decide (a ≤ x) = true := by simpa using h1
      have d2 : decide (x ≤ b) = false := by simpa using h2
      clear h1 h2
      go_enter Tryd.func15, Tryd.ntmps15
      go_wp2
      go_ret
      exact ⟨by rw [F.out]; rfl, rfl⟩
  · have F : Hid (decide (a ≤ x ∧ x ≤ b) = false) := by show decide (a ≤ x ∧ x ≤ b) = false; simp [h1]
    have d1 : decide (a ≤ x) = false := by simpa using h1
    clear h1
    go_enter Tryd.func15, Tryd.ntmps15
    go_wp2
    go_ret
    exact ⟨by rw [F.out]; rfl, rfl⟩

def regB (n : Nat) (l : List Int) (i : Int) : Bool := csrsOk n l && decide (0 ≤ i ∧ i ≤ 3)

def regR (n : Nat) (l : List Int) (i : Int) : Int × Int × Bool := match regB n l i with | true => regionV l i.toNat | false => (0, 0, false)

set_option maxHeartbeats 800000 in
theorem specRegion_any (a : Option Addr) (n cap : Nat) (l : List Int) (i : Int) (w : World) (hz : l.length = n) (hs : Sl .u64 w a l) :
    Calls Tryd.prog 6 #[.slice a n cap, .int .i64 i] w fun e w' => e = .returned (.tuple #[.int .u64 (regR n l i).1, .int .u64 (regR n l i).2.1, .bool (regR n l i).2.2]) ∧ w' = w := by
  have HO : Hid (Calls Tryd.prog 14 #[.slice a n cap] w fun e w' => e = .returned (.bool (csrsOk n l)) ∧ w' = w) := specCsrsOk_any a n cap l w hz hs
  have HI : Hid (∀ w, Calls Tryd.prog 15 #[.int .i64 i, .int .i64 0, .int .i64 3] w fun e w' => e = .returned (.bool (decide (0 ≤ i ∧ i ≤ 3))) ∧ w' = w) := l1In_d i 0 3
  cases ho : csrsOk n l with
  | false =>
    have F : Hid (regR n l i = (0, 0, false)) := by show _ = _; simp [regR, regB, ho]
    rw [ho] at HO
    clear hs hz ho
    go_enter Tryd.func6, Tryd.ntmps6
    go_wp2_with fail
    refine HO.out.mono ?_
    rintro e w1 ⟨rfl, hw1⟩
    have hw2 := hw1.symm
    subst hw2
    go_wp2_with fail
    go_ret3
    exact ⟨by rw [F.out]; rfl, rfl⟩
  | true =>
    have hn : n = 22 := by simp only [csrsOk, Bool.and_eq_true, decide_eq_true_eq] at ho; exact ho.1
    subst hn
    cases hin : decide (0 ≤ i ∧ i ≤ 3) with
    | false =>
      have F : Hid (regR 22 l i = (0, 0, false)) := by show _ = _; simp only [regR, regB, hin, Bool.and_false]
      rw [ho] at HO
      rw [hin] at HI
      clear hs hz ho hin
      go_enter Tryd.func6, Tryd.ntmps6
      go_wp2_with fail
      refine HO.out.mono ?_
      rintro e w1 ⟨rfl, hw1⟩
      have hw2 := hw1.symm
      subst hw2
      go_wp2_with fail
      refine (HI.out _).mono ?_
      rintro e w1 ⟨rfl, hw1⟩
      have hw2 := hw1.symm
      subst hw2
      go_wp2_with fail
      go_ret3
      exact ⟨by rw [F.out]; rfl, rfl⟩
    | true =>
      have hk : 0 ≤ i ∧ i ≤ 3 := of_decide_eq_true hin
      obtain ⟨j, rfl⟩ : ∃ j : Nat, i = (j : Int) := ⟨i.toNat, by omega⟩
      have F : Hid (regR 22 l j = regionV l j) := by show _ = _; simp only [regR, regB, hin, ho, Bool.and_true, Int.toNat_natCast]
      have HR : Hid (Calls Tryd.prog 16 #[.slice a 22 cap, .int .i64 j] w fun e w' => e = .returned (.tuple #[.int .u64 (regionV l j).1, .int .u64 (regionV l j).2.1, .bool (regionV l j).2.2]) ∧ w' = w) := l6Region_any a cap l j (by omega) w hz hs
      rw [ho] at HO
      rw [hin] at HI
      generalize regionV l j = r at *
      obtain ⟨r1, r2, r3⟩ := r
      simp only at HR
      clear hs hz ho hin hk
      go_enter Tryd.func6, Tryd.ntmps6
      go_wp2_with fail
      refine HO.out.mono ?_
      rintro e w1 ⟨rfl, hw1⟩
      have hw2 := hw1.symm
      subst hw2
      go_wp2_with fail
      refine (HI.out _).mono ?_
      rintro e w1 ⟨rfl, hw1⟩
      have hw2 := hw1.symm
      subst hw2
      go_wp2_with fail
      refine HR.out.mono ?_
      rintro e w1 ⟨rfl, hw1⟩
      have hw2 := hw1.symm
      subst hw2
      go_wp2_with fail
      go_ret3
      exact ⟨by rw [F.out]; rfl, rfl⟩

/-- Is the address locked by entry k or one behind it, n being left. -/
def hitB (r : Int × Int × Bool) (x : Int) : Bool := r.2.2 && decide (r.1 ≤ x) && decide (x ≤ r.2.1)

def lockRest (l : List Int) (x : Int) : Nat → Nat → Bool
  | 0, _ => false
  | n + 1, k => if hitB (regionV l k) x = true then ((cfgAt l k / 128 == 1) && (bits .and .u64 (cfgAt l k / 2) 1 == 0)) else lockRest l x n (k + 1)

def lockedV (n : Nat) (l : List Int) (x : Int) : Bool := csrsOk n l && lockRest l x 4 0

theorem lockRest_hit (l : List Int) (x : Int) (k : Nat) (hk : k < 4) (h : hitB (regionV l k) x = true) : lockRest l x (4 - k) k = ((cfgAt l k / 128 == 1) && (bits .and .u64 (cfgAt l k / 2) 1 == 0)) := by
  rw [show 4 - k = (4 - (k + 1)) + 1 from by omega, lockRest, if_pos h]

theorem lockRest_miss (l : List Int) (x : Int) (k : Nat) (hk : k < 4) (h : hitB (regionV l k) x = false) : lockRest l x (4 - k) k = lockRest l x (4 - (k + 1)) (k + 1) := by
  rw [show 4 - k = (4 - (k + 1)) + 1 from by omega, lockRest, if_neg (by rw [h]; decide)]

set_option maxHeartbeats 1600000 in
theorem specLocked_any (a : Option Addr) (n cap : Nat) (l : List Int) (x : Int) (w : World) (hz : l.length = n) (hs : Sl .u64 w a l) :
    Calls Tryd.prog 12 #[.slice a n cap, .int .u64 x] w fun e w' => e = .returned (.bool (lockedV n l x)) ∧ w' = w := by
  have HO : Hid (Calls Tryd.prog 14 #[.slice a n cap] w fun e w' => e = .returned (.bool (csrsOk n l)) ∧ w' = w) := specCsrsOk_any a n cap l w hz hs
  cases ho : csrsOk n l with
  | false =>
    have F : Hid (lockedV n l x = false) := by show _ = _; simp [lockedV, ho]
    rw [ho] at HO
    clear hs hz ho
    go_enter Tryd.func12, Tryd.ntmps12
    go_wp2_with fail
    refine HO.out.mono ?_
    rintro e w1 ⟨rfl, hw1⟩
    have hw2 := hw1.symm
    subst hw2
    go_wp2_with fail
    go_ret
    exact ⟨by rw [F.out]; rfl, rfl⟩
  | true =>
    have hn : n = 22 := by simp only [csrsOk, Bool.and_eq_true, decide_eq_true_eq] at ho; exact ho.1
    subst hn
    have F0 : Hid (lockedV 22 l x = lockRest l x 4 0) := by show _ = _; simp [lockedV, ho]
    rw [ho] at HO
    have HS : Hid (Sl .u64 w a l) := hs
    have HZ : Hid (l.length = 22) := hz
    clear hs hz ho
    go_enter Tryd.func12, Tryd.ntmps12
    go_wp2_with fail
    refine HO.out.mono ?_
    rintro e w1 ⟨rfl, hw1⟩
    have hw2 := hw1.symm
    subst hw2
    go_wp2_with fail
    go_loopw [5] (fun v wr => ∃ k : Nat, k ≤ 4 ∧ v = .int .i64 k ∧ Hid (lockRest l x (4 - k) k = lockRest l x 4 0) ∧ wr = w)
      (fun v _ => 4 - (intOf v).toNat)
    case atStart => exact ⟨0, by omega, rfl, (rfl : lockRest l x (4 - 0) 0 = lockRest l x 4 0), rfl⟩
    case round =>
      obtain ⟨k, hk, rfl, hf, rfl⟩ := hrel
      by_cases hlt : k < 4
      · have dk : decide ((k : Int) < 4) = true := by simp; omega
        have HR : Hid (Calls Tryd.prog 16 #[.slice a 22 cap, .int .i64 k] wr fun e w' => e = .returned (.tuple #[.int .u64 (regionV l k).1, .int .u64 (regionV l k).2.1, .bool (regionV l k).2.2]) ∧ w' = wr) := l6Region_any a cap l k hlt wr HZ.out HS.out
        have HB : Hid (Calls Tryd.prog 29 #[.slice a 22 cap, .int .i64 k] wr fun e w' => e = .returned (.int .u64 (cfgAt l k)) ∧ w' = wr) := l4Byte_any a cap l k hlt wr HZ.out HS.out
        have Hit : hitB (regionV l k) x = true → Hid (lockRest l x 4 0 = ((cfgAt l k / 128 == 1) && (bits .and .u64 (cfgAt l k / 2) 1 == 0))) := fun h => hf.out.symm.trans (lockRest_hit l x k hlt h)
        have Miss : hitB (regionV l k) x = false → Hid (lockRest l x (4 - (k + 1)) (k + 1) = lockRest l x 4 0) := fun h => (lockRest_miss l x k hlt h).symm.trans hf.out
        generalize regionV l k = r at *
        generalize cfgAt l k = cf at *
        obtain ⟨r1, r2, r3⟩ := r
        simp only at HR
        have hh : hitB (r1, r2, r3) x = (r3 && decide (r1 ≤ x) && decide (x ≤ r2)) := rfl
        rw [hh] at Hit Miss
        clear hh
        go_wp2_with fail
        refine HR.out.mono ?_
        rintro e w1 ⟨rfl, hw1⟩
        have hw2 := hw1.symm
        subst hw2
        cases r3 with
        | false =>
          have F1 := Miss rfl
          clear Hit Miss
          go_wp2_with fail
          go_roundw
          case rel => exact ⟨k + 1, by omega, by go_num, F1, trivial⟩
          case measure => simp [intOf]; omega
        | true =>
          cases h1 : decide (r1 ≤ x) with
          | false =>
            have F1 := Miss (by rw [h1]; rfl)
            clear Hit Miss
            go_wp2_with fail
            go_roundw
            case rel => exact ⟨k + 1, by omega, by go_num, F1, trivial⟩
            case measure => simp [intOf]; omega
          | true =>
            cases h2 : decide (x ≤ r2) with
            | false =>
              have F1 := Miss (by rw [h1, h2]; rfl)
              clear Hit Miss
              go_wp2_with fail
              go_roundw
              case rel => exact ⟨k + 1, by omega, by go_num, F1, trivial⟩
              case measure => simp [intOf]; omega
            | true =>
              have F1 := Hit (by rw [h1, h2]; rfl)
              clear Hit Miss
              go_wp2_with fail
              refine HB.out.mono ?_
              rintro e w1 ⟨rfl, hw1⟩
              have hw2 := hw1.symm
              subst hw2
              cases h7 : (cf / 128 == 1) with
              | false =>
                go_wp2_with fail
                go_ret
                exact ⟨by rw [F0.out, F1.out, h7]; rfl, rfl⟩
              | true =>
                obtain ⟨q, hq⟩ : ∃ q, (bits .and .u64 (cf / 2) 1 == 0) = q := ⟨_, rfl⟩
                go_wp2_with fail
                go_ret
                exact ⟨by rw [F0.out, F1.out, h7, hq]; rfl, rfl⟩
      · have hk4 : k = 4 := by omega
        subst hk4
        have F1 : Hid (lockRest l x 4 0 = false) := hf.out.symm
        go_wp2_with fail
        go_ret
        exact ⟨by rw [F0.out, F1.out]; rfl, rfl⟩

end Go.Proofs.YtaicnnkcdpdhaajDoor
