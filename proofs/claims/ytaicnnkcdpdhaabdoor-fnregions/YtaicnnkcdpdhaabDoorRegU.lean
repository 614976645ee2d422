/- The model's Permits. -/
import Derived.Test.YtaicnnkcdpdhaabDoorRegT
namespace Go.Proofs.YtaicnnkcdpdhaabDoor
open Go.RowKit
set_option linter.unusedVariables false

def lastOf (x s : Int) : Int := IntKind.u64.wrap (IntKind.u64.wrap (x + IntKind.u64.wrap s) - 1)

def skipB (r : Int × Int × Bool) (x y : Int) : Bool := !r.2.2 || decide (y < r.1) || decide (r.2.1 < x)

def outB (r : Int × Int × Bool) (x y : Int) : Bool := decide (x < r.1) || decide (r.2.1 < y)

/-- What an entry's byte lets: at privilege 3 where it isn't locked, all; else by its bits. -/
def letB (b p kind : Int) : Bool :=
  if ((p == 3) && (b / 128 == 0)) = true then true else if (kind == 1) = true then (bits .and .u64 (b / 4) 1 == 1) else if (kind == 2) = true then (bits .and .u64 b 1 == 1) else (bits .and .u64 (b / 2) 1 == 1)

def permRest (l : List Int) (p x y kind : Int) : Nat → Nat → Bool
  | 0, _ => (p == 3)
  | n + 1, k => if skipB (regionV l k) x y = true then permRest l p x y kind n (k + 1) else !outB (regionV l k) x y && letB (cfgAt l k) p kind

theorem perm_skip (l : List Int) (p x y kind : Int) (k : Nat) (hk : k < 4) (h : skipB (regionV l k) x y = true) : permRest l p x y kind (4 - k) k = permRest l p x y kind (4 - (k + 1)) (k + 1) := by
  rw [show 4 - k = (4 - (k + 1)) + 1 from by omega, permRest, if_pos h]

theorem perm_hit (l : List Int) (p x y kind : Int) (k : Nat) (hk : k < 4) (h : skipB (regionV l k) x y = false) : permRest l p x y kind (4 - k) k = (!outB (regionV l k) x y && letB (cfgAt l k) p kind) := by
  rw [show 4 - k = (4 - (k + 1)) + 1 from by omega, permRest, if_neg (by rw [h]; decide)]

/-- May it be touched. -/
def permV (n : Nat) (l : List Int) (p x s kind : Int) : Bool := legalB n l p && sizeB s && decide (1 ≤ kind ∧ kind ≤ 3) && !decide (lastOf x s < x) && permRest l p x (lastOf x s) kind 4 0

end Go.Proofs.YtaicnnkcdpdhaabDoor
