/- The program's Entry. -/
import Derived.Test.YtldjmphflgecjacDoorWalkS
namespace Go.Proofs.YtldjmphflgecjacDoor
open Go.RowKit
set_option linter.unusedVariables false

theorem implEntry_any (f b : Int) (hf : 0 ≤ f) (w : World) : Calls Tryd.prog 16 #[.int .u64 f, .int .i64 b] w fun e w' => e = .returned (.int .u64 (entryV f b)) ∧ Below w.heap.size w w' := by
  have F : Hid (entryV f b = if (f / 17592186044416 != 0) = true then 0 else if decide (0 ≤ b ∧ b ≤ 255) = true then bits .or .u64 (IntKind.u64.wrap (f * 1024)) (IntKind.u64.wrap b) else 0) := (rfl : entryV f b = _)
  generalize entryV f b = v at *
  by_cases h1 : f < 17592186044416
  · have e1 : (f / 17592186044416 != 0) = false := by
      have : f / 17592186044416 = 0 := by omega
      rw [this]; rfl
    have d1 : decide (f ≥ 17592186044416) = false := by simp; omega
    have d1' : decide (17592186044416 ≤ f) = false := by simp; omega
    by_cases h2 : b < 0
    · have F2 : Hid (v = 0) := by show v = 0; rw [F.out, e1, if_neg (by decide), if_neg (by simp; omega)]
      have d2 : decide (b < 0) = true := by simp; omega
      clear F e1 h1 h2 hf
      go_enter Tryd.func16, Tryd.ntmps16
      go_wp2_with fail
      go_ret
      exact ⟨by rw [F2.out]; rfl, Below.refl _ _⟩
    · have d2 : decide (b < 0) = false := by simp; omega
      by_cases h3 : 255 < b
      · have F2 : Hid (v = 0) := by show v = 0; rw [F.out, e1, if_neg (by decide), if_neg (by simp; omega)]
        have d3 : decide (b > 255) = true := by simp; omega
        have d3' : decide (255 < b) = true := by simp; omega
        clear F e1 h1 h2 h3 hf
        go_enter Tryd.func16, Tryd.ntmps16
        go_wp2_with fail
        go_ret
        exact ⟨by rw [F2.out]; rfl, Below.refl _ _⟩
      · have F2 : Hid (v = bits .or .u64 (IntKind.u64.wrap (f * 1024)) (IntKind.u64.wrap b)) := by show v = _; rw [F.out, e1, if_neg (by decide), if_pos (by simp; omega)]
        have d3 : decide (b > 255) = false := by simp; omega
        have d3' : decide (255 < b) = false := by simp; omega
        clear F e1 h1 h2 h3 hf
        go_enter Tryd.func16, Tryd.ntmps16
        go_wp2_with fail
        go_ret
        exact ⟨by rw [F2.out]; rfl, Below.refl _ _⟩
  · have e1 : (f / 17592186044416 != 0) = true := by
      have : f / 17592186044416 ≠ 0 := by omega
      simpa using this
    have d1 : decide (f ≥ 17592186044416) = true := by simp; omega
    have d1' : decide (17592186044416 ≤ f) = true := by simp; omega
    have F2 : Hid (v = 0) := by show v = 0; rw [F.out, e1]; exact if_pos rfl
    clear F e1 h1 hf
    go_enter Tryd.func16, Tryd.ntmps16
    go_wp2_with fail
    go_ret
    exact ⟨by rw [F2.out]; rfl, Below.refl _ _⟩

end Go.Proofs.YtldjmphflgecjacDoor
