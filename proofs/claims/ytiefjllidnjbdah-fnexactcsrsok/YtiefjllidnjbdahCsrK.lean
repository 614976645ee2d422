/- What stays of a write, and how a register is seen: the program's methods. -/
import Derived.Test.YtiefjllidnjbdahCsrJ
namespace Go.Proofs.Ytiefjllidnjbdah
open Go.RowKit
set_option linter.unusedVariables false

theorem sl_cell {w : World} {a : Option Addr} {l : List Int} (hs : Sl .u64 w a l) (j : Nat) (hj : j < l.length) : ∃ b off, a = some ⟨b, off, none⟩ ∧ b < w.heap.size ∧ w.cell? ⟨b, off + j, none⟩ = some (.int .u64 (l.getD j 0)) := hs j hj

/-- How a register is seen by its view: the view's number, what is read, what may be turned. -/
def CK.sees : CK → Bool
  | .mst => true | .mie => true | .mip => true | _ => false

def CK.holds : CK → Bool
  | .mip => true | .satp => true | .cfg => true | .addr _ => true | _ => false

def viewN : CK → Int
  | .mst => 256 | .mie => 260 | .mip => 324 | _ => 0

def viewR (m : Int) : CK → Int
  | .mst => 786722 | .mie => m | .mip => m | _ => 0

def viewW (m : Int) : CK → Int
  | .mst => 786722 | .mie => m | .mip => bits .and .u64 m 2 | _ => 0

theorem view_any (k : CK) (hk : k.sees = true) (m : Int) (w : World) : Calls Try.prog k.viewF #[k.val, .int .u64 m] w fun e w' => e = .returned (.agg #[.int .i64 (viewN k), .int .u64 (viewR m k), .int .u64 (viewW m k)]) ∧ Below w.heap.size w w' := by
  cases k with
  | plain b => cases hk
  | satp => cases hk
  | cfg => cases hk
  | addr e => cases hk
  | mst =>
    simp only [CK.viewF, CK.val, viewN, viewR, viewW]
    go_enter Try.func74, Try.ntmps74
    go_wp2_with fail
    go_returns
    exact ⟨rfl, by go_grown⟩
  | mie =>
    simp only [CK.viewF, CK.val, viewN, viewR, viewW]
    go_enter Try.func77, Try.ntmps77
    go_wp2_with fail
    go_returns
    exact ⟨rfl, by go_grown⟩
  | mip =>
    simp only [CK.viewF, CK.val, viewN, viewR, viewW]
    go_enter Try.func79, Try.ntmps79
    go_wp2_with fail
    go_returns
    exact ⟨rfl, by go_grown⟩

end Go.Proofs.Ytiefjllidnjbdah
