/- Traps, in plain numbers: what entering and leaving make of the registers. -/
import Derived.Test.YtldjmphflgecjacDoorCsrP
namespace Go.Proofs.YtldjmphflgecjacDoor
open Go.RowKit
set_option linter.unusedVariables false

def bitAt (x : Int) (i : Nat) : Int := bits .and .u64 (x / 2 ^ i) 1

/-- The cause as it is told. -/
def toldV (k : Int) (intr : Bool) : Int := match intr with | true => bits .or .u64 k 9223372036854775808 | false => k

/-- To the supervisor? -/
def delegB (l : List Int) (p : Int) (k : Nat) (intr : Bool) : Bool := !(p == 3) && (bitAt (match intr with | true => l.getD 2 0 | false => l.getD 1 0) k == 1)

/-- mstatus behind a trap: to the supervisor (p1: from there), to the machine. -/
def statS (s : Int) (p1 : Bool) : Int := match p1 with
  | true => bits .or .u64 (bits .or .u64 (bits .andNot .u64 s 290) (IntKind.u64.wrap (bitAt s 1 * 32))) 256
  | false => bits .or .u64 (bits .andNot .u64 s 290) (IntKind.u64.wrap (bitAt s 1 * 32))

def statM (s p : Int) : Int := bits .or .u64 (bits .or .u64 (bits .andNot .u64 s 6280) (IntKind.u64.wrap (bitAt s 3 * 128))) (IntKind.u64.wrap (p * 2048))

def enterL (l : List Int) (d : Bool) (p t pc v : Int) : List Int := match d with
  | true => (((l.set 13 t).set 12 (bits .andNot .u64 pc 3)).set 14 v).set 0 (statS (l.getD 0 0) (p == 1))
  | false => (((l.set 7 t).set 6 (bits .andNot .u64 pc 3)).set 8 v).set 0 (statM (l.getD 0 0) p)

def vecV (l : List Int) (d : Bool) : Int := match d with | true => l.getD 10 0 | false => l.getD 4 0

def enterAt (to k : Int) (jump : Bool) : Int := match jump with
  | true => IntKind.u64.wrap (bits .andNot .u64 to 1 + IntKind.u64.wrap (4 * k))
  | false => bits .andNot .u64 to 1

def nextV (d : Bool) : Int := match d with | true => 1 | false => 3

end Go.Proofs.YtldjmphflgecjacDoor
