/- What stays of a write, and how a register is seen: the program's methods. -/
import Derived.Test.YtaicnnkcdpdhaajDoorCsrJ
namespace Go.Proofs.YtaicnnkcdpdhaajDoor
open Go.RowKit
set_option linter.unusedVariables false

theorem sl_cell {w : World} {a : Option Addr} {l : List Int} (hs : Sl .u64 w a l) (j : Nat) (hj : j < l.length) : ∃ b off, a = some ⟨b, off, none⟩ ∧ b < w.heap.size ∧ w.cell? ⟨b, off + j, none⟩ = some (.int .u64 (l.getD j 0)) := hs j hj

/-- How a register is seen by its view: the view's number, what is read, what may be turned. -/
def CK.sees : CK → Bool
  | .mst => true | .mie => true | .mip => true | _ => false

def CK.holds : CK → Bool
  | .mip => true | .satp => true | .cfg => true | .addr _ => true | _ => false

def viewN : CK → Int
  | .mst => 256 | .mie => 260 | .mip => 324 | _ => 0

def viewR (m : Int) : CK → Int
  | .mst => 786722 | .mie => m | .mip => m | _ => 0

def viewW (m : Int) : CK → Int
  | .mst => 786722 | .mie => m | .mip => bits .and .u64 m 2 | _ => 0

end Go.Proofs.YtaicnnkcdpdhaajDoor
