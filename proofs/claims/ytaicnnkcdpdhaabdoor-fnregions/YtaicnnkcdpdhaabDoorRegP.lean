/- Protected regions, in plain numbers. -/
import Derived.Test.YtaicnnkcdpdhaabDoorCsrP
namespace Go.Proofs.YtaicnnkcdpdhaabDoor
open Go.RowKit
set_option linter.unusedVariables false

def kindOf (l : List Int) (i : Nat) : Int := bits .and .u64 (cfgAt l i / 8) 3

/-- How many of the low bits are 1, from bit k on, n being left. -/
def trailN (a : Int) : Nat → Nat → Nat
  | 0, k => k
  | n + 1, k => if (bits .and .u64 (a / 2 ^ k) 1 == 1) = true then trailN a n (k + 1) else k

theorem trail_go (a : Int) (k : Nat) (hk : k < 53) (h : (bits .and .u64 (a / 2 ^ k) 1 == 1) = true) : trailN a (53 - k) k = trailN a (53 - (k + 1)) (k + 1) := by
  rw [show 53 - k = (53 - (k + 1)) + 1 from by omega, trailN, if_pos h]

theorem trail_stop (a : Int) (k : Nat) (hk : k < 53) (h : (bits .and .u64 (a / 2 ^ k) 1 == 1) = false) : trailN a (53 - k) k = k := by
  rw [show 53 - k = (53 - (k + 1)) + 1 from by omega, trailN, if_neg (by rw [h]; decide)]

def regLo (a : Int) (k : Nat) : Int := IntKind.u64.wrap (bits .andNot .u64 a (IntKind.u64.wrap (IntKind.u64.wrap (2 ^ (k + 1)) - 1)) * 4)

def regHi (a : Int) (k : Nat) : Int := IntKind.u64.wrap (IntKind.u64.wrap (regLo a k + IntKind.u64.wrap (2 ^ (k + 3))) - 1)

def regFrom (l : List Int) (i : Nat) : Int := if 0 < i then IntKind.u64.wrap (l.getD (16 + i) 0 * 4) else 0

/-- The region of entry i: its first and last address, and whether there is one. -/
def regionV (l : List Int) (i : Nat) : Int × Int × Bool :=
  if (kindOf l i == 1) = true then (if IntKind.u64.wrap (l.getD (17 + i) 0 * 4) ≤ regFrom l i then (0, 0, false) else (regFrom l i, IntKind.u64.wrap (IntKind.u64.wrap (l.getD (17 + i) 0 * 4) - 1), true))
  else if (kindOf l i == 2) = true then (IntKind.u64.wrap (l.getD (17 + i) 0 * 4), IntKind.u64.wrap (IntKind.u64.wrap (l.getD (17 + i) 0 * 4) + 3), true)
  else if (kindOf l i == 3) = true then (regLo (l.getD (17 + i) 0) (trailN (l.getD (17 + i) 0) 53 0), regHi (l.getD (17 + i) 0) (trailN (l.getD (17 + i) 0) 53 0), true)
  else (0, 0, false)

end Go.Proofs.YtaicnnkcdpdhaabDoor
