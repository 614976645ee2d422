/- Protected regions, in plain numbers. The model's regions. The model's Region, Locked and Permits. The model's Permits. -/
import Derived.Test.YtldjmphflgecjajCsrP
import Derived.Test.YtldjmphflgecjajCsrW
import Derived.Test.YtldjmphflgecjajCsrT
import Derived.Test.YtldjmphflgecjajMemC
import Derived.OwnWalk
namespace Go.Proofs.Ytldjmphflgecjaj
open Go.RowKit
set_option linter.unusedVariables false

def kindOf (l : List Int) (i : Nat) : Int := bits .and .u64 (cfgAt l i / 8) 3

/-- How many of the low bits are 1, from bit k on, n being left. -/
def trailN (a : Int) : Nat → Nat → Nat
  | 0, k => k
  | n + 1, k => if (bits .and .u64 (a / 2 ^ k) 1 == 1) = true then trailN a n (k + 1) else k

theorem trail_go (a : Int) (k : Nat) (hk : k < 53) (h : (bits .and .u64 (a / 2 ^ k) 1 == 1) = true) : trailN a (53 - k) k = trailN a (53 - (k + 1)) (k + 1) := by
  rw [show 53 - k = (53 - (k + 1)) + 1 from by omega, trailN, if_pos h]

theorem trail_stop (a : Int) (k : Nat) (hk : k < 53) (h : (bits .and .u64 (a / 2 ^ k) 1 == 1) = false) : trailN a (53 - k) k = k := by
  rw [show 53 - k = (53 - (k + 1)) + 1 from by omega, trailN, if_neg (by rw [h]; decide)]

def regLo (a : Int) (k : Nat) : Int := IntKind.u64.wrap (bits .andNot .u64 a (IntKind.u64.wrap (IntKind.u64.wrap (2 ^ (k + 1)) - 1)) * 4)

def regHi (a : Int) (k : Nat) : Int := IntKind.u64.wrap (IntKind.u64.wrap (regLo a k + IntKind.u64.wrap (2 ^ (k + 3))) - 1)

def regFrom (l : List Int) (i : Nat) : Int := if 0 < i then IntKind.u64.wrap (l.getD (16 + i) 0 * 4) else 0

/-- The region of entry i: its first and last address, and whether there is one. -/
def regionV (l : List Int) (i : Nat) : Int × Int × Bool :=
  if (kindOf l i == 1) = true then (if IntKind.u64.wrap (l.getD (17 + i) 0 * 4) ≤ regFrom l i then (0, 0, false) else (regFrom l i, IntKind.u64.wrap (IntKind.u64.wrap (l.getD (17 + i) 0 * 4) - 1), true))
  else if (kindOf l i == 2) = true then (IntKind.u64.wrap (l.getD (17 + i) 0 * 4), IntKind.u64.wrap (IntKind.u64.wrap (l.getD (17 + i) 0 * 4) + 3), true)
  else if (kindOf l i == 3) = true then (regLo (l.getD (17 + i) 0) (trailN (l.getD (17 + i) 0) 53 0), regHi (l.getD (17 + i) 0) (trailN (l.getD (17 + i) 0) 53 0), true)
  else (0, 0, false)

end Go.Proofs.Ytldjmphflgecjaj

namespace Go.Proofs.Ytldjmphflgecjaj
open Go.RowKit
set_option linter.unusedVariables false

end Go.Proofs.Ytldjmphflgecjaj

namespace Go.Proofs.Ytldjmphflgecjaj
open Go.RowKit
set_option linter.unusedVariables false

theorem l1In_d (x a b : Int) (w : World) : Calls Try.prog 18 #[.int .i64 x, .int .i64 a, .int .i64 b] w fun e w' => e = .returned (.bool (decide (a ≤ x ∧ x ≤ b))) ∧ w' = w := by
  by_cases h1 : a ≤ x
  · by_cases h2 : x ≤ b
    · have F : Hid (decide (a ≤ x ∧ x ≤ b) = true) := by show decide (a ≤ x ∧ x ≤ b) = true; simp [h1, h2]
      have d1 : decide (a ≤ x) = true := by simpa using h1
      have d2 : decide (x ≤ b) = true := by simpa using h2
      clear h1 h2
      go_enter Try.func18, Try.ntmps18
      go_wp2
      go_ret
      exact ⟨by rw [F.out]; rfl, rfl⟩
    · have F : Hid (decide (a ≤ x ∧ x ≤ b) = false) := by show decide (a ≤ x ∧ x ≤ b) = false; simp [h2]
      have d1 : decide (a ≤ x) = true := by simpa using h1
      have d2 : decide (x ≤ b) = false := by simpa using h2
      clear h1 h2
      go_enter Try.func18, Try.ntmps18
      go_wp2
      go_ret
      exact ⟨by rw [F.out]; rfl, rfl⟩
  · have F : Hid (decide (a ≤ x ∧ x ≤ b) = false) := by show decide (a ≤ x ∧ x ≤ b) = false; simp [h1]
    have d1 : decide (a ≤ x) = false := by simpa using h1
    clear h1
    go_enter Try.func18, Try.ntmps18
    go_wp2
    go_ret
    exact ⟨by rw [F.out]; rfl, rfl⟩

def regB (n : Nat) (l : List Int) (i : Int) : Bool := csrsOk n l && decide (0 ≤ i ∧ i ≤ 3)

def regR (n : Nat) (l : List Int) (i : Int) : Int × Int × Bool := match regB n l i with | true => regionV l i.toNat | false => (0, 0, false)

/-- Is the address locked by entry k or one behind it, n being left. -/
def hitB (r : Int × Int × Bool) (x : Int) : Bool := r.2.2 && decide (r.1 ≤ x) && decide (x ≤ r.2.1)

def lockRest (l : List Int) (x : Int) : Nat → Nat → Bool
  | 0, _ => false
  | n + 1, k => if hitB (regionV l k) x = true then ((cfgAt l k / 128 == 1) && (bits .and .u64 (cfgAt l k / 2) 1 == 0)) else lockRest l x n (k + 1)

def lockedV (n : Nat) (l : List Int) (x : Int) : Bool := csrsOk n l && lockRest l x 4 0

theorem lockRest_hit (l : List Int) (x : Int) (k : Nat) (hk : k < 4) (h : hitB (regionV l k) x = true) : lockRest l x (4 - k) k = ((cfgAt l k / 128 == 1) && (bits .and .u64 (cfgAt l k / 2) 1 == 0)) := by
  rw [show 4 - k = (4 - (k + 1)) + 1 from by omega, lockRest, if_pos h]

theorem lockRest_miss (l : List Int) (x : Int) (k : Nat) (hk : k < 4) (h : hitB (regionV l k) x = false) : lockRest l x (4 - k) k = lockRest l x (4 - (k + 1)) (k + 1) := by
  rw [show 4 - k = (4 - (k + 1)) + 1 from by omega, lockRest, if_neg (by rw [h]; decide)]

end Go.Proofs.Ytldjmphflgecjaj

namespace Go.Proofs.Ytldjmphflgecjaj
open Go.RowKit
set_option linter.unusedVariables false

def lastOf (x s : Int) : Int := IntKind.u64.wrap (IntKind.u64.wrap (x + IntKind.u64.wrap s) - 1)

def skipB (r : Int × Int × Bool) (x y : Int) : Bool := !r.2.2 || decide (y < r.1) || decide (r.2.1 < x)

def outB (r : Int × Int × Bool) (x y : Int) : Bool := decide (x < r.1) || decide (r.2.1 < y)

/-- What an entry's byte lets: at privilege 3 where it isn't locked, all; else by its bits. -/
def letB (b p kind : Int) : Bool :=
  if ((p == 3) && (b / 128 == 0)) = true then true else if (kind == 1) = true then (bits .and .u64 (b / 4) 1 == 1) else if (kind == 2) = true then (bits .and .u64 b 1 == 1) else (bits .and .u64 (b / 2) 1 == 1)

def permRest (l : List Int) (p x y kind : Int) : Nat → Nat → Bool
  | 0, _ => (p == 3)
  | n + 1, k => if skipB (regionV l k) x y = true then permRest l p x y kind n (k + 1) else !outB (regionV l k) x y && letB (cfgAt l k) p kind

theorem perm_skip (l : List Int) (p x y kind : Int) (k : Nat) (hk : k < 4) (h : skipB (regionV l k) x y = true) : permRest l p x y kind (4 - k) k = permRest l p x y kind (4 - (k + 1)) (k + 1) := by
  rw [show 4 - k = (4 - (k + 1)) + 1 from by omega, permRest, if_pos h]

theorem perm_hit (l : List Int) (p x y kind : Int) (k : Nat) (hk : k < 4) (h : skipB (regionV l k) x y = false) : permRest l p x y kind (4 - k) k = (!outB (regionV l k) x y && letB (cfgAt l k) p kind) := by
  rw [show 4 - k = (4 - (k + 1)) + 1 from by omega, permRest, if_neg (by rw [h]; decide)]

/-- May it be touched. -/
def permV (n : Nat) (l : List Int) (p x s kind : Int) : Bool := legalB n l p && sizeB s && decide (1 ≤ kind ∧ kind ≤ 3) && !decide (lastOf x s < x) && permRest l p x (lastOf x s) kind 4 0

theorem l6Kind_any (k : Int) (w : World) : Calls Try.prog 12 #[.int .i64 k] w fun e w' => e = .returned (.bool (decide (1 ≤ k ∧ k ≤ 3))) ∧ w' = w := by
  have HI : Hid (∀ w, Calls Try.prog 18 #[.int .i64 k, .int .i64 1, .int .i64 3] w fun e w' => e = .returned (.bool (decide (1 ≤ k ∧ k ≤ 3))) ∧ w' = w) := l1In_d k 1 3
  generalize decide (1 ≤ k ∧ k ≤ 3) = c at *
  go_enter Try.func12, Try.ntmps12
  go_wp2_with fail
  refine (HI.out _).mono ?_
  rintro e w1 ⟨rfl, hw1⟩
  have hw2 := hw1.symm
  subst hw2
  go_wp2_with fail
  go_ret
  exact ⟨rfl, rfl⟩

end Go.Proofs.Ytldjmphflgecjaj
