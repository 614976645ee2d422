/- Contracts of the parts of decoding: the program's and the model's. -/
import Derived.Test.YtdcihpbggknhgaaRNameC
import Derived.Test.YtdcihpbggknhgaaRDecP
import Derived.BigQuiet
namespace Go.Proofs.YtdcihpbggknhgaaR
open Go.RowKit
set_option linter.unusedVariables false

theorem bitsAt_any (x : Int) (k n : Nat) (h0 : 0 ≤ x) (h1 : x < 18446744073709551616) (hk : k < 64) (hn : n < 64) (w : World) :
    Calls Try.prog 39 #[.int .u64 x, .int .i64 k, .int .i64 n] w fun e w' => e = .returned (.int .u64 (fld x k n)) ∧ w' = w.drew := by
  have F : Hid (bits .and .u64 (x / 2 ^ k) (IntKind.u64.wrap (IntKind.u64.wrap (2 ^ n) - 1)) = fld x k n) := bitsAt_eq x k n h0 h1 hn
  go_enter Try.func39, Try.ntmps39
  go_wp2_with fail
  go_region
  all_goals go_wp2_with fail
  all_goals go_ret
  all_goals exact ⟨by rw [← F.out]; rfl, rfl⟩

/-- The bits that a row settles, and what they are. -/
def maskI (op : Int) (f : Fm) : Int := if op = 98 then bits .or .u64 f.mask 3968 else if op = 63 ∨ op = 74 then bits .or .u64 f.mask 32505856 else f.mask

def bitsI (f : Fm) (o z m : Int) : Int := bits .or .u64 (bits .or .u64 o (IntKind.u64.wrap (z * 4096))) (IntKind.u64.wrap (m * 2 ^ f.at))

end Go.Proofs.YtdcihpbggknhgaaR
