/- The model's traps. -/
import Derived.Test.YtldjmphflgecjacDoorOwnP
import Derived.Test.YtldjmphflgecjacDoorTrapP
namespace Go.Proofs.YtldjmphflgecjacDoor
open Go.RowKit
set_option linter.unusedVariables false

theorem l5Bit_any (x : Int) (i : Nat) (hi : i < 64) (w : World) : Calls Tryd.prog 78 #[.int .u64 x, .int .u64 i] w fun e w' => e = .returned (.int .u64 (bitAt x i)) ∧ w' = w := by
  go_enter Tryd.func78, Tryd.ntmps78
  go_wp2_with fail
  go_ret
  exact ⟨rfl, rfl⟩

theorem set_get (l : List Int) (i j : Nat) (x : Int) (h : i ≠ j) : (l.set i x).getD j 0 = l.getD j 0 := by
  simp [List.getD, List.getElem?_set_ne h]

theorem l5Bit1 (x : Int) (w : World) : Calls Tryd.prog 78 #[.int .u64 x, .int .u64 1] w fun e w' => e = .returned (.int .u64 (bitAt x 1)) ∧ w' = w := l5Bit_any x 1 (by omega) w

theorem l5Bit3 (x : Int) (w : World) : Calls Tryd.prog 78 #[.int .u64 x, .int .u64 3] w fun e w' => e = .returned (.int .u64 (bitAt x 3)) ∧ w' = w := l5Bit_any x 3 (by omega) w

theorem l5Bit5 (x : Int) (w : World) : Calls Tryd.prog 78 #[.int .u64 x, .int .u64 5] w fun e w' => e = .returned (.int .u64 (bitAt x 5)) ∧ w' = w := l5Bit_any x 5 (by omega) w

theorem l5Bit7 (x : Int) (w : World) : Calls Tryd.prog 78 #[.int .u64 x, .int .u64 7] w fun e w' => e = .returned (.int .u64 (bitAt x 7)) ∧ w' = w := l5Bit_any x 7 (by omega) w

theorem l5Bit8 (x : Int) (w : World) : Calls Tryd.prog 78 #[.int .u64 x, .int .u64 8] w fun e w' => e = .returned (.int .u64 (bitAt x 8)) ∧ w' = w := l5Bit_any x 8 (by omega) w

/-- Does the pc jump by the cause? -/
def jumpB (l : List Int) (d intr : Bool) : Bool := intr && (bits .and .u64 (vecV l d) 1 == 1)

end Go.Proofs.YtldjmphflgecjacDoor
