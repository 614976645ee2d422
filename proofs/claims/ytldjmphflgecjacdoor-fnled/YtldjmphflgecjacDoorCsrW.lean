/- The model's state registers: what is written. -/
import Derived.Test.YtldjmphflgecjacDoorCsrT
import Derived.BigQuiet
namespace Go.Proofs.YtldjmphflgecjacDoor
open Go.RowKit
set_option linter.unusedVariables false

theorem l4Byte_any (a : Option Addr) (cap : Nat) (l : List Int) (i : Nat) (hi : i < 4) (w : World) (hz : l.length = 22) (hs : Sl .u64 w a l) :
    Calls Tryd.prog 37 #[.slice a 22 cap, .int .i64 i] w fun e w' => e = .returned (.int .u64 (cfgAt l i)) ∧ w' = w := by
  obtain ⟨b, off, rfl, hb, hc⟩ := hs 16 (by omega)
  have hm : wrap64 (8 * (i : Int)) = ((8 * i : Nat) : Int) := by unfold wrap64; omega
  have hm2 : IntKind.u64.wrap ((8 * i : Nat) : Int) = ((8 * i : Nat) : Int) := by rw [IntKind.wrap_u64]; omega
  have hm3 : 8 * i < 64 := by omega
  have F : Hid (cfgAt l i = bits .and .u64 (l.getD 16 0 / 2 ^ (8 * i)) 255) := (rfl : cfgAt l i = _)
  generalize l.getD 16 0 = x at *
  go_enter Tryd.func37, Tryd.ntmps37
  go_wp2_with fail
  go_ret
  exact ⟨by rw [F.out]; rfl, rfl⟩

end Go.Proofs.YtldjmphflgecjacDoor
