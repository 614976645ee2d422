/- Protected regions, in plain numbers. The model's regions. The model's Region, Locked and Permits. The model's Permits. -/
import Derived.Test.YtaicnnkcdpdhaabDoorCsrP
import Derived.Test.YtaicnnkcdpdhaabDoorCsrW
import Derived.Test.YtaicnnkcdpdhaabDoorCsrT
import Derived.Test.YtaicnnkcdpdhaabDoorMemC
import Derived.OwnWalk
namespace Go.Proofs.YtaicnnkcdpdhaabDoor
open Go.RowKit
set_option linter.unusedVariables false

def kindOf (l : List Int) (i : Nat) : Int := bits .and .u64 (cfgAt l i / 8) 3

/-- How many of the low bits are 1, from bit k on, n being left. -/
def trailN (a : Int) : Nat → Nat → Nat
  | 0, k => k
  | n + 1, k => if (bits .and .u64 (a / 2 ^ k) 1 == 1) = true then trailN a n (k + 1) else k

theorem trail_go (a : Int) (k : Nat) (hk : k < 53) (h : (bits .and .u64 (a / 2 ^ k) 1 == 1) = true) : trailN a (53 - k) k = trailN a (53 - (k + 1)) (k + 1) := by
  rw [show 53 - k = (53 - (k + 1)) + 1 from by omega, trailN, if_pos h]

theorem trail_stop (a : Int) (k : Nat) (hk : k < 53) (h : (bits .and .u64 (a / 2 ^ k) 1 == 1) = false) : trailN a (53 - k) k = k := by
  rw [show 53 - k = (53 - (k + 1)) + 1 from by omega, trailN, if_neg (by rw [h]; decide)]

def regLo (a : Int) (k : Nat) : Int := IntKind.u64.wrap (bits .andNot .u64 a (IntKind.u64.wrap (IntKind.u64.wrap (2 ^ (k + 1)) - 1)) * 4)

def regHi (a : Int) (k : Nat) : Int := IntKind.u64.wrap (IntKind.u64.wrap (regLo a k + IntKind.u64.wrap (2 ^ (k + 3))) - 1)

def regFrom (l : List Int) (i : Nat) : Int := if 0 < i then IntKind.u64.wrap (l.getD (16 + i) 0 * 4) else 0

/-- The region of entry i: its first and last address, and whether there is one. -/
def regionV (l : List Int) (i : Nat) : Int × Int × Bool :=
  if (kindOf l i == 1) = true then (if IntKind.u64.wrap (l.getD (17 + i) 0 * 4) ≤ regFrom l i then (0, 0, false) else (regFrom l i, IntKind.u64.wrap (IntKind.u64.wrap (l.getD (17 + i) 0 * 4) - 1), true))
  else if (kindOf l i == 2) = true then (IntKind.u64.wrap (l.getD (17 + i) 0 * 4), IntKind.u64.wrap (IntKind.u64.wrap (l.getD (17 + i) 0 * 4) + 3), true)
  else if (kindOf l i == 3) = true then (regLo (l.getD (17 + i) 0) (trailN (l.getD (17 + i) 0) 53 0), regHi (l.getD (17 + i) 0) (trailN (l.getD (17 + i) 0) 53 0), true)
  else (0, 0, false)

end Go.Proofs.YtaicnnkcdpdhaabDoor

namespace Go.Proofs.YtaicnnkcdpdhaabDoor
open Go.RowKit
set_option linter.unusedVariables false

set_option maxRecDepth 100000 in
set_option maxHeartbeats 1600000 in
theorem l6Region_any (a : Option Addr) (cap : Nat) (l : List Int) (i : Nat) (hi : i < 4) (w : World) (hz : l.length = 22) (hs : Sl .u64 w a l) :
    Calls Tryd.prog 17 #[.slice a 22 cap, .int .i64 i] w fun e w' => e = .returned (.tuple #[.int .u64 (regionV l i).1, .int .u64 (regionV l i).2.1, .bool (regionV l i).2.2]) ∧ w' = w := by
  obtain ⟨b, off, rfl, hb, hc17⟩ := hs (17 + i) (by omega)
  obtain ⟨b', off', eb, _, hc16⟩ := hs (16 + i) (by omega)
  simp only [Option.some.injEq, Addr.mk.injEq, and_true] at eb
  obtain ⟨rfl, rfl⟩ := eb
  have HB : Hid (Calls Tryd.prog 31 #[.slice (some ⟨b, off, none⟩) 22 cap, .int .i64 i] w fun e w' => e = .returned (.int .u64 (cfgAt l i)) ∧ w' = w) := l4Byte_any _ cap l i hi w hz hs
  have hk0 : bits .and .u64 (cfgAt l i / 8) 3 = kindOf l i := rfl
  have F0 : regionV l i = if (kindOf l i == 1) = true then (if IntKind.u64.wrap (l.getD (17 + i) 0 * 4) ≤ regFrom l i then (0, 0, false) else (regFrom l i, IntKind.u64.wrap (IntKind.u64.wrap (l.getD (17 + i) 0 * 4) - 1), true))
    else if (kindOf l i == 2) = true then (IntKind.u64.wrap (l.getD (17 + i) 0 * 4), IntKind.u64.wrap (IntKind.u64.wrap (l.getD (17 + i) 0 * 4) + 3), true)
    else if (kindOf l i == 3) = true then (regLo (l.getD (17 + i) 0) (trailN (l.getD (17 + i) 0) 53 0), regHi (l.getD (17 + i) 0) (trailN (l.getD (17 + i) 0) 53 0), true)
    else (0, 0, false) := rfl
  have hf0 : regFrom l i = if 0 < i then IntKind.u64.wrap (l.getD (16 + i) 0 * 4) else 0 := rfl
  have e17 : wrap64 (17 + (i : Int)) = ((17 + i : Nat) : Int) := by unfold wrap64; omega
  have e16 : wrap64 (16 + (i : Int)) = ((16 + i : Nat) : Int) := by unfold wrap64; omega
  have b17 : 0 ≤ ((17 + i : Nat) : Int) ∧ ((17 + i : Nat) : Int) < ((22 : Nat) : Int) := by omega
  have b16 : 0 ≤ ((16 + i : Nat) : Int) ∧ ((16 + i : Nat) : Int) < ((22 : Nat) : Int) := by omega
  generalize regionV l i = r at *
  generalize kindOf l i = kd at *
  generalize cfgAt l i = cf at *
  generalize regFrom l i = fr at *
  generalize l.getD (17 + i) 0 = x at *
  generalize l.getD (16 + i) 0 = y at *
  clear hs
  cases h1 : (kd == 1) with
  | true =>
    rw [if_pos h1] at F0
    have di : (decide (0 < i) = true ∧ fr = IntKind.u64.wrap (y * 4)) ∨ (decide (0 < i) = false ∧ fr = 0) := by
      by_cases hi0 : 0 < i
      · rw [if_pos hi0] at hf0
        exact Or.inl ⟨by simpa using hi0, hf0⟩
      · rw [if_neg hi0] at hf0
        exact Or.inr ⟨by simpa using hi0, hf0⟩
    obtain ⟨t, ht⟩ : ∃ t, IntKind.u64.wrap (x * 4) = t := ⟨_, rfl⟩
    rw [ht] at F0
    clear hf0
    rcases di with ⟨di, hfr⟩ | ⟨di, hfr⟩
    · rw [hfr] at F0
      obtain ⟨f4, hf4⟩ : ∃ t, IntKind.u64.wrap (y * 4) = t := ⟨_, rfl⟩
      rw [hf4] at F0
      clear hfr
      by_cases hle : t ≤ f4
      · have d : decide (t ≤ f4) = true := by simpa using hle
        rw [if_pos hle] at F0
        have F : Hid (r = (0, 0, false)) := F0
        clear F0 hle
        go_enter Tryd.func17, Tryd.ntmps17
        go_wp2_with fail
        refine HB.out.mono ?_
        rintro e w1 ⟨rfl, hw1⟩
        have hw2 := hw1.symm
        subst hw2
        go_wp2_with fail
        go_ret3
        exact ⟨by rw [F.out]; rfl, rfl⟩
      · have d : decide (t ≤ f4) = false := by simpa using hle
        rw [if_neg hle] at F0
        have F : Hid (r = (f4, IntKind.u64.wrap (t - 1), true)) := F0
        clear F0 hle
        go_enter Tryd.func17, Tryd.ntmps17
        go_wp2_with fail
        refine HB.out.mono ?_
        rintro e w1 ⟨rfl, hw1⟩
        have hw2 := hw1.symm
        subst hw2
        go_wp2_with fail
        go_ret3
        exact ⟨by rw [F.out]; rfl, rfl⟩
    · subst hfr
      by_cases hle : t ≤ 0
      · have d : decide (t ≤ 0) = true := by simpa using hle
        rw [if_pos hle] at F0
        have F : Hid (r = (0, 0, false)) := F0
        clear F0 hle
        go_enter Tryd.func17, Tryd.ntmps17
        go_wp2_with fail
        refine HB.out.mono ?_
        rintro e w1 ⟨rfl, hw1⟩
        have hw2 := hw1.symm
        subst hw2
        go_wp2_with fail
        go_ret3
        exact ⟨by rw [F.out]; rfl, rfl⟩
      · have d : decide (t ≤ 0) = false := by simpa using hle
        rw [if_neg hle] at F0
        have F : Hid (r = (0, IntKind.u64.wrap (t - 1), true)) := F0
        clear F0 hle
        go_enter Tryd.func17, Tryd.ntmps17
        go_wp2_with fail
        refine HB.out.mono ?_
        rintro e w1 ⟨rfl, hw1⟩
        have hw2 := hw1.symm
        subst hw2
        go_wp2_with fail
        go_ret3
        exact ⟨by rw [F.out]; rfl, rfl⟩
  | false =>
    rw [if_neg (by rw [h1]; decide)] at F0
    cases h2 : (kd == 2) with
    | true =>
      rw [if_pos h2] at F0
      have F : Hid (r = (IntKind.u64.wrap (x * 4), IntKind.u64.wrap (IntKind.u64.wrap (x * 4) + 3), true)) := F0
      clear F0 hf0
      go_enter Tryd.func17, Tryd.ntmps17
      go_wp2_with fail
      refine HB.out.mono ?_
      rintro e w1 ⟨rfl, hw1⟩
      have hw2 := hw1.symm
      subst hw2
      go_wp2_with fail
      go_ret3
      exact ⟨by rw [F.out]; rfl, rfl⟩
    | false =>
      rw [if_neg (by rw [h2]; decide)] at F0
      cases h3 : (kd == 3) with
      | true =>
        rw [if_pos h3] at F0
        have F : Hid (r = (regLo x (trailN x 53 0), regHi x (trailN x 53 0), true)) := F0
        clear F0 hf0
        go_enter Tryd.func17, Tryd.ntmps17
        go_wp2_with fail
        refine HB.out.mono ?_
        rintro e w1 ⟨rfl, hw1⟩
        have hw2 := hw1.symm
        subst hw2
        go_wp2_with fail
        go_loopw [9] (fun v wr => ∃ k : Nat, k ≤ 53 ∧ v = .int .u64 k ∧ Hid (trailN x (53 - k) k = trailN x 53 0) ∧ wr = w)
          (fun v _ => 53 - (intOf v).toNat)
        case atStart => exact ⟨0, by omega, rfl, (rfl : trailN x (53 - 0) 0 = trailN x 53 0), rfl⟩
        case round =>
          obtain ⟨k, hk, rfl, hf, rfl⟩ := hrel
          have fin : Hid (trailN x 53 0 = k) → Hid (r = (regLo x k, regHi x k, true)) := fun h => by
            show r = _
            rw [F.out, h.out]
          have d3 : ((k : Int) + 1) = ((k + 1 : Nat) : Int) := by omega
          have u1 : IntKind.u64.wrap ((k : Int) + 1) = ((k + 1 : Nat) : Int) := by rw [IntKind.wrap_u64]; omega
          have u3 : IntKind.u64.wrap ((k : Int) + 3) = ((k + 3 : Nat) : Int) := by rw [IntKind.wrap_u64]; omega
          clear d3
          by_cases hlt : k < 53
          · have dk : decide ((k : Int) < 53) = true := by simp; omega
            cases hbit : (bits .and .u64 (x / 2 ^ k) 1 == 1) with
            | true =>
              have F1 : Hid (trailN x (53 - (k + 1)) (k + 1) = trailN x 53 0) := (trail_go x k hlt hbit).symm.trans hf.out
              clear fin u1 u3
              go_wp2_with fail
              go_roundw
              case rel => exact ⟨k + 1, by omega, by go_num, F1, trivial⟩
              case measure => simp [intOf]; omega
            | false =>
              have F1 := fin (hf.out.symm.trans (trail_stop x k hlt hbit))
              clear fin
              go_wp2_with fail
              go_ret3
              exact ⟨by rw [F1.out]; rfl, rfl⟩
          · have hk53 : k = 53 := by omega
            have F1 := fin (hf.out.symm.trans (by rw [hk53]; rfl))
            have dk : decide ((k : Int) < 53) = false := by simp; omega
            clear fin hk53
            go_wp2_with fail
            go_ret3
            exact ⟨by rw [F1.out]; rfl, rfl⟩
      | false =>
        rw [if_neg (by rw [h3]; decide)] at F0
        have F : Hid (r = (0, 0, false)) := F0
        clear F0 hf0
        go_enter Tryd.func17, Tryd.ntmps17
        go_wp2_with fail
        refine HB.out.mono ?_
        rintro e w1 ⟨rfl, hw1⟩
        have hw2 := hw1.symm
        subst hw2
        go_wp2_with fail
        go_ret3
        exact ⟨by rw [F.out]; rfl, rfl⟩

end Go.Proofs.YtaicnnkcdpdhaabDoor

namespace Go.Proofs.YtaicnnkcdpdhaabDoor
open Go.RowKit
set_option linter.unusedVariables false

theorem l1In_d (x a b : Int) (w : World) : Calls Tryd.prog 16 #[.int .i64 x, .int .i64 a, .int .i64 b] w fun e w' => e = .returned (.bool (decide (a ≤ x ∧ x ≤ b))) ∧ w' = w := by
  by_cases h1 : a ≤ x
  · by_cases h2 : x ≤ b
    · have F : Hid (decide (a ≤ x ∧ x ≤ b) = true) := by show decide (a ≤ x ∧ x ≤ b) = true; simp [h1, h2]
      have d1 : decide (a ≤ x) = true := by simpa using h1
      have d2 : decide (x ≤ b) = true := by simpa using h2
      clear h1 h2
      go_enter Tryd.func16, Tryd.ntmps16
      go_wp2
      go_ret
      exact ⟨by rw [F.out]; rfl, rfl⟩
    · have F : Hid (decide (a ≤ x ∧ x ≤ b) = false) := by show decide (a ≤ x ∧ x ≤ b) = false; simp [h2]
      have d1 : decide (a ≤ x) = true := by simpa using h1
      have d2 : decide (x ≤ b) = false := by simpa using h2
      clear h1 h2
      go_enter Tryd.func16, Tryd.ntmps16
      go_wp2
      go_ret
      exact ⟨by rw [F.out]; rfl, rfl⟩
  · have F : Hid (decide (a ≤ x ∧ x ≤ b) = false) := by show decide (a ≤ x ∧ x ≤ b) = false; simp [h1]
    have d1 : decide (a ≤ x) = false := by simpa using h1
    clear h1
    go_enter Tryd.func16, Tryd.ntmps16
    go_wp2
    go_ret
    exact ⟨by rw [F.out]; rfl, rfl⟩

def regB (n : Nat) (l : List Int) (i : Int) : Bool := csrsOk n l && decide (0 ≤ i ∧ i ≤ 3)

def regR (n : Nat) (l : List Int) (i : Int) : Int × Int × Bool := match regB n l i with | true => regionV l i.toNat | false => (0, 0, false)

set_option maxHeartbeats 800000 in
theorem specRegion_any (a : Option Addr) (n cap : Nat) (l : List Int) (i : Int) (w : World) (hz : l.length = n) (hs : Sl .u64 w a l) :
    Calls Tryd.prog 7 #[.slice a n cap, .int .i64 i] w fun e w' => e = .returned (.tuple #[.int .u64 (regR n l i).1, .int .u64 (regR n l i).2.1, .bool (regR n l i).2.2]) ∧ w' = w := by
  have HO : Hid (Calls Tryd.prog 15 #[.slice a n cap] w fun e w' => e = .returned (.bool (csrsOk n l)) ∧ w' = w) := specCsrsOk_any a n cap l w hz hs
  have HI : Hid (∀ w, Calls Tryd.prog 16 #[.int .i64 i, .int .i64 0, .int .i64 3] w fun e w' => e = .returned (.bool (decide (0 ≤ i ∧ i ≤ 3))) ∧ w' = w) := l1In_d i 0 3
  cases ho : csrsOk n l with
  | false =>
    have F : Hid (regR n l i = (0, 0, false)) := by show _ = _; simp [regR, regB, ho]
    rw [ho] at HO
    clear hs hz ho
    go_enter Tryd.func7, Tryd.ntmps7
    go_wp2_with fail
    refine HO.out.mono ?_
    rintro e w1 ⟨rfl, hw1⟩
    have hw2 := hw1.symm
    subst hw2
    go_wp2_with fail
    go_ret3
    exact ⟨by rw [F.out]; rfl, rfl⟩
  | true =>
    have hn : n = 22 := by simp only [csrsOk, Bool.and_eq_true, decide_eq_true_eq] at ho; exact ho.1
    subst hn
    cases hin : decide (0 ≤ i ∧ i ≤ 3) with
    | false =>
      have F : Hid (regR 22 l i = (0, 0, false)) := by show _ = _; simp only [regR, regB, hin, Bool.and_false]
      rw [ho] at HO
      rw [hin] at HI
      clear hs hz ho hin
      go_enter Tryd.func7, Tryd.ntmps7
      go_wp2_with fail
      refine HO.out.mono ?_
      rintro e w1 ⟨rfl, hw1⟩
      have hw2 := hw1.symm
      subst hw2
      go_wp2_with fail
      refine (HI.out _).mono ?_
      rintro e w1 ⟨rfl, hw1⟩
      have hw2 := hw1.symm
      subst hw2
      go_wp2_with fail
      go_ret3
      exact ⟨by rw [F.out]; rfl, rfl⟩
    | true =>
      have hk : 0 ≤ i ∧ i ≤ 3 := of_decide_eq_true hin
      obtain ⟨j, rfl⟩ : ∃ j : Nat, i = (j : Int) := ⟨i.toNat, by omega⟩
      have F : Hid (regR 22 l j = regionV l j) := by show _ = _; simp only [regR, regB, hin, ho, Bool.and_true, Int.toNat_natCast]
      have HR : Hid (Calls Tryd.prog 17 #[.slice a 22 cap, .int .i64 j] w fun e w' => e = .returned (.tuple #[.int .u64 (regionV l j).1, .int .u64 (regionV l j).2.1, .bool (regionV l j).2.2]) ∧ w' = w) := l6Region_any a cap l j (by omega) w hz hs
      rw [ho] at HO
      rw [hin] at HI
      generalize regionV l j = r at *
      obtain ⟨r1, r2, r3⟩ := r
      simp only at HR
      clear hs hz ho hin hk
      go_enter Tryd.func7, Tryd.ntmps7
      go_wp2_with fail
      refine HO.out.mono ?_
      rintro e w1 ⟨rfl, hw1⟩
      have hw2 := hw1.symm
      subst hw2
      go_wp2_with fail
      refine (HI.out _).mono ?_
      rintro e w1 ⟨rfl, hw1⟩
      have hw2 := hw1.symm
      subst hw2
      go_wp2_with fail
      refine HR.out.mono ?_
      rintro e w1 ⟨rfl, hw1⟩
      have hw2 := hw1.symm
      subst hw2
      go_wp2_with fail
      go_ret3
      exact ⟨by rw [F.out]; rfl, rfl⟩

/-- Is the address locked by entry k or one behind it, n being left. -/
def hitB (r : Int × Int × Bool) (x : Int) : Bool := r.2.2 && decide (r.1 ≤ x) && decide (x ≤ r.2.1)

def lockRest (l : List Int) (x : Int) : Nat → Nat → Bool
  | 0, _ => false
  | n + 1, k => if hitB (regionV l k) x = true then ((cfgAt l k / 128 == 1) && (bits .and .u64 (cfgAt l k / 2) 1 == 0)) else lockRest l x n (k + 1)

def lockedV (n : Nat) (l : List Int) (x : Int) : Bool := csrsOk n l && lockRest l x 4 0

theorem lockRest_hit (l : List Int) (x : Int) (k : Nat) (hk : k < 4) (h : hitB (regionV l k) x = true) : lockRest l x (4 - k) k = ((cfgAt l k / 128 == 1) && (bits .and .u64 (cfgAt l k / 2) 1 == 0)) := by
  rw [show 4 - k = (4 - (k + 1)) + 1 from by omega, lockRest, if_pos h]

theorem lockRest_miss (l : List Int) (x : Int) (k : Nat) (hk : k < 4) (h : hitB (regionV l k) x = false) : lockRest l x (4 - k) k = lockRest l x (4 - (k + 1)) (k + 1) := by
  rw [show 4 - k = (4 - (k + 1)) + 1 from by omega, lockRest, if_neg (by rw [h]; decide)]

end Go.Proofs.YtaicnnkcdpdhaabDoor

namespace Go.Proofs.YtaicnnkcdpdhaabDoor
open Go.RowKit
set_option linter.unusedVariables false

def lastOf (x s : Int) : Int := IntKind.u64.wrap (IntKind.u64.wrap (x + IntKind.u64.wrap s) - 1)

def skipB (r : Int × Int × Bool) (x y : Int) : Bool := !r.2.2 || decide (y < r.1) || decide (r.2.1 < x)

def outB (r : Int × Int × Bool) (x y : Int) : Bool := decide (x < r.1) || decide (r.2.1 < y)

/-- What an entry's byte lets: at privilege 3 where it isn't locked, all; else by its bits. -/
def letB (b p kind : Int) : Bool :=
  if ((p == 3) && (b / 128 == 0)) = true then true else if (kind == 1) = true then (bits .and .u64 (b / 4) 1 == 1) else if (kind == 2) = true then (bits .and .u64 b 1 == 1) else (bits .and .u64 (b / 2) 1 == 1)

def permRest (l : List Int) (p x y kind : Int) : Nat → Nat → Bool
  | 0, _ => (p == 3)
  | n + 1, k => if skipB (regionV l k) x y = true then permRest l p x y kind n (k + 1) else !outB (regionV l k) x y && letB (cfgAt l k) p kind

theorem perm_skip (l : List Int) (p x y kind : Int) (k : Nat) (hk : k < 4) (h : skipB (regionV l k) x y = true) : permRest l p x y kind (4 - k) k = permRest l p x y kind (4 - (k + 1)) (k + 1) := by
  rw [show 4 - k = (4 - (k + 1)) + 1 from by omega, permRest, if_pos h]

theorem perm_hit (l : List Int) (p x y kind : Int) (k : Nat) (hk : k < 4) (h : skipB (regionV l k) x y = false) : permRest l p x y kind (4 - k) k = (!outB (regionV l k) x y && letB (cfgAt l k) p kind) := by
  rw [show 4 - k = (4 - (k + 1)) + 1 from by omega, permRest, if_neg (by rw [h]; decide)]

/-- May it be touched. -/
def permV (n : Nat) (l : List Int) (p x s kind : Int) : Bool := legalB n l p && sizeB s && decide (1 ≤ kind ∧ kind ≤ 3) && !decide (lastOf x s < x) && permRest l p x (lastOf x s) kind 4 0

end Go.Proofs.YtaicnnkcdpdhaabDoor
