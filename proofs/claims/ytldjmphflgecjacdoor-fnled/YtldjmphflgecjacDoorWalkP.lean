/- A walk through tables, in plain numbers. -/
import Derived.Test.YtldjmphflgecjacDoorRegU
import Derived.Test.YtldjmphflgecjacDoorDecP
import Derived.Test.YtldjmphflgecjacDoorTrapP
namespace Go.Proofs.YtldjmphflgecjacDoor
open Go.RowKit
set_option linter.unusedVariables false

/-- What a walk comes to: an address, a code, whether an entry is marked, where, and what it is then. -/
structure Fd where
  addr : Int
  code : Int
  marked : Bool
  at_ : Int
  entry : Int

def Fd.cells (f : Fd) : Array Value := #[.int .u64 f.addr, .int .i64 f.code, .bool f.marked, .int .u64 f.at_, .int .u64 f.entry]

def pageC (k : Int) : Int := if k = 1 then 12 else if k = 2 then 13 else 15

def faultC (k : Int) : Int := if k = 1 then 1 else if k = 2 then 5 else 7

def pageF (k : Int) : Fd := ⟨0, pageC k, false, 0, 0⟩

def faultF (k : Int) : Fd := ⟨0, faultC k, false, 0, 0⟩

def pteAt (T va : Int) (lv : Nat) : Int := IntKind.u64.wrap (T + IntKind.u64.wrap (8 * bits .and .u64 (va / 2 ^ (12 + 9 * lv)) 511))

def pteV (zs : List Int) (x : Int) : Int := le zs (x - 2147483648).toNat 8

def badB (e : Int) : Bool := (bits .and .u64 e 1 == 0) || ((bitAt e 1 == 0) && (bitAt e 2 == 1)) || (e / 18014398509481984 != 0)

def frameV (e : Int) : Int := bits .and .u64 (e / 1024) 17592186044415

def ptrB (e : Int) : Bool := (bitAt e 1 == 0) && (bitAt e 3 == 0)

def stopB (e : Int) (lv : Nat) : Bool := ((lv : Int) == 0) || (bits .and .u64 (e / 16) 1 == 1) || (bits .and .u64 (e / 64) 3 != 0)

def lowM (m : Nat) : Int := IntKind.u64.wrap (IntKind.u64.wrap (2 ^ m) - 1)

def offB (e : Int) (lv : Nat) : Bool := bits .and .u64 (frameV e) (lowM (9 * lv)) != 0

/-- By kind: fetch, load, store. -/
def noKind (l : List Int) (kind e : Int) : Bool :=
  ((kind == 1) && (bitAt e 3 == 0)) || ((kind == 2) && (bitAt e 1 == 0) && ((bitAt e 3 == 0) || (bitAt (l.getD 0 0) 19 == 0))) || ((kind == 3) && (bitAt e 2 == 0))

/-- By privilege. -/
def noPriv (l : List Int) (p kind e : Int) : Bool :=
  ((p == 0) && (bitAt e 4 == 0)) || ((p == 1) && (bitAt e 4 == 1) && ((kind == 1) || (bitAt (l.getD 0 0) 18 == 0)))

def leadV (e va : Int) (lv : Nat) : Int := bits .or .u64 (bits .andNot .u64 (IntKind.u64.wrap (frameV e * 4096)) (lowM (12 + 9 * lv))) (bits .and .u64 va (lowM (12 + 9 * lv)))

def wantV (e kind : Int) : Int := if (kind == 3) = true then bits .or .u64 (bits .or .u64 e 64) 128 else bits .or .u64 e 64

def leafV (l : List Int) (p va kind e x : Int) (lv : Nat) : Fd :=
  if offB e lv = true then pageF kind else if noKind l kind e = true then pageF kind else if noPriv l p kind e = true then pageF kind
  else if (wantV e kind != e) = true then (if permRest l 1 x (lastOf x 8) 3 4 0 = true then ⟨leadV e va lv, 0, true, x, wantV e kind⟩ else faultF kind) else ⟨leadV e va lv, 0, false, 0, 0⟩

def walkL (zs : List Int) (n : Nat) (l : List Int) (p va kind : Int) : Nat → Int → Fd
  | 0, T => if okB n (pteAt T va 0) 8 = true then (if permRest l 1 (pteAt T va 0) (lastOf (pteAt T va 0) 8) 2 4 0 = true then
      (if badB (pteV zs (pteAt T va 0)) = true then pageF kind else if ptrB (pteV zs (pteAt T va 0)) = true then pageF kind else leafV l p va kind (pteV zs (pteAt T va 0)) (pteAt T va 0) 0) else faultF kind) else faultF kind
  | lv + 1, T => if okB n (pteAt T va (lv + 1)) 8 = true then (if permRest l 1 (pteAt T va (lv + 1)) (lastOf (pteAt T va (lv + 1)) 8) 2 4 0 = true then
      (if badB (pteV zs (pteAt T va (lv + 1))) = true then pageF kind else if ptrB (pteV zs (pteAt T va (lv + 1))) = true then (if stopB (pteV zs (pteAt T va (lv + 1))) (lv + 1) = true then pageF kind else walkL zs n l p va kind lv (IntKind.u64.wrap (frameV (pteV zs (pteAt T va (lv + 1))) * 4096))) else leafV l p va kind (pteV zs (pteAt T va (lv + 1))) (pteAt T va (lv + 1)) (lv + 1)) else faultF kind) else faultF kind

def topT (l : List Int) : Int := IntKind.u64.wrap (bits .and .u64 (l.getD 15 0) 17592186044415 * 4096)

def walkV (zs : List Int) (n : Nat) (l : List Int) (p va kind : Int) : Fd :=
  if ((p == 3) || (l.getD 15 0 / 1152921504606846976 == 0)) = true then ⟨va, 0, false, 0, 0⟩ else if (widen 39 va != va) = true then pageF kind else walkL zs n l p va kind 2 (topT l)

/-- A step of the walk at whatever level. -/
theorem walkL_step (zs : List Int) (n : Nat) (l : List Int) (p va kind : Int) (lv : Nat) (T : Int) : walkL zs n l p va kind lv T =
    (if okB n (pteAt T va lv) 8 = true then (if permRest l 1 (pteAt T va lv) (lastOf (pteAt T va lv) 8) 2 4 0 = true then
      (if badB (pteV zs (pteAt T va lv)) = true then pageF kind else if ptrB (pteV zs (pteAt T va lv)) = true then (if stopB (pteV zs (pteAt T va lv)) lv = true then pageF kind else walkL zs n l p va kind (lv - 1) (IntKind.u64.wrap (frameV (pteV zs (pteAt T va lv)) * 4096))) else leafV l p va kind (pteV zs (pteAt T va lv)) (pteAt T va lv) lv) else faultF kind) else faultF kind) := by
  cases lv with
  | zero =>
    rw [walkL]
    have : stopB (pteV zs (pteAt T va 0)) 0 = true := rfl
    rw [this, if_pos rfl]
  | succ lv => rw [walkL]; rfl

end Go.Proofs.YtldjmphflgecjacDoor
