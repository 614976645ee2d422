/- The model's state registers: what is written. -/
import Derived.Test.YtgcbdlfljplkbabCsrT
import Derived.BigQuiet
namespace Go.Proofs.Ytgcbdlfljplkbab
open Go.RowKit
set_option linter.unusedVariables false

theorem l4Byte_any (a : Option Addr) (cap : Nat) (l : List Int) (i : Nat) (hi : i < 4) (w : World) (hz : l.length = 22) (hs : Sl .u64 w a l) :
    Calls Try.prog 88 #[.slice a 22 cap, .int .i64 i] w fun e w' => e = .returned (.int .u64 (cfgAt l i)) ∧ w' = w := by
  obtain ⟨b, off, rfl, hb, hc⟩ := hs 16 (by omega)
  have hm : wrap64 (8 * (i : Int)) = ((8 * i : Nat) : Int) := by unfold wrap64; omega
  have hm2 : IntKind.u64.wrap ((8 * i : Nat) : Int) = ((8 * i : Nat) : Int) := by rw [IntKind.wrap_u64]; omega
  have hm3 : 8 * i < 64 := by omega
  have F : Hid (cfgAt l i = bits .and .u64 (l.getD 16 0 / 2 ^ (8 * i)) 255) := (rfl : cfgAt l i = _)
  generalize l.getD 16 0 = x at *
  go_enter Try.func88, Try.ntmps88
  go_wp2_with fail
  go_ret
  exact ⟨by rw [F.out]; rfl, rfl⟩

set_option maxHeartbeats 800000 in
theorem l4Locked_any (a : Option Addr) (cap : Nat) (l : List Int) (i : Nat) (hi : i < 4) (w : World) (hz : l.length = 22) (hs : Sl .u64 w a l) :
    Calls Try.prog 89 #[.slice a 22 cap, .int .i64 i] w fun e w' => e = .returned (.bool (lockB l i)) ∧ w' = w := by
  have HB : Hid (Calls Try.prog 88 #[.slice a 22 cap, .int .i64 i] w fun e w' => e = .returned (.int .u64 (cfgAt l i)) ∧ w' = w) := l4Byte_any a cap l i hi w hz hs
  have F0 : lockB l i = ((cfgAt l i / 128 == 1) || (decide (i < 3) && (cfgAt l (i + 1) / 128 == 1) && (bits .and .u64 (cfgAt l (i + 1) / 8) 3 == 1))) := rfl
  cases h7 : (cfgAt l i / 128 == 1) with
  | true =>
    have F : Hid (lockB l i = true) := by show _ = _; rw [F0, h7]; rfl
    clear F0
    generalize cfgAt l i = y at *
    go_enter Try.func89, Try.ntmps89
    go_wp2_with fail
    refine HB.out.mono ?_
    rintro e w1 ⟨rfl, hw1⟩
    subst hw1
    go_wp2_with fail
    go_ret
    exact ⟨by rw [F.out]; rfl, rfl⟩
  | false =>
    rw [h7, Bool.false_or] at F0
    by_cases hi3 : i < 3
    · have d3 : decide (i < 3) = true := by simpa using hi3
      have dk : decide ((i : Int) < 3) = true := by simp; omega
      rw [d3, Bool.true_and] at F0
      have e1 : wrap64 ((i : Int) + 1) = ((i + 1 : Nat) : Int) := by unfold wrap64; omega
      have HB2 : Hid (Calls Try.prog 88 #[.slice a 22 cap, .int .i64 ((i + 1 : Nat) : Int)] w fun e w' => e = .returned (.int .u64 (cfgAt l (i + 1))) ∧ w' = w) := l4Byte_any a cap l (i + 1) (by omega) w hz hs
      clear hs
      generalize cfgAt l i = y at *
      generalize cfgAt l (i + 1) = z at *
      cases hz7 : (z / 128 == 1) with
      | true =>
        obtain ⟨c, hc⟩ : ∃ c, (bits .and .u64 (z / 8) 3 == 1) = c := ⟨_, rfl⟩
        have F : Hid (lockB l i = c) := by show _ = _; rw [F0, hz7, hc, Bool.true_and]
        clear F0
        go_enter Try.func89, Try.ntmps89
        go_wp2_with fail
        refine HB.out.mono ?_
        rintro e w1 ⟨rfl, hw1⟩
        subst hw1
        go_wp2_with (go_at_call 88; refine HB2.out.mono ?_; rintro e w1 ⟨rfl, hw1⟩; subst hw1)
        go_ret
        exact ⟨by rw [F.out]; rfl, rfl⟩
      | false =>
        have F : Hid (lockB l i = false) := by show _ = _; rw [F0, hz7, Bool.false_and]
        clear F0
        go_enter Try.func89, Try.ntmps89
        go_wp2_with fail
        refine HB.out.mono ?_
        rintro e w1 ⟨rfl, hw1⟩
        subst hw1
        go_wp2_with (go_at_call 88; refine HB2.out.mono ?_; rintro e w1 ⟨rfl, hw1⟩; subst hw1)
        go_ret
        exact ⟨by rw [F.out]; rfl, rfl⟩
    · have d3 : decide (i < 3) = false := by simpa using hi3
      have dk : decide ((i : Int) < 3) = false := by simp; omega
      have F : Hid (lockB l i = false) := by show _ = _; rw [F0, d3]; rfl
      clear F0 d3
      generalize cfgAt l i = y at *
      go_enter Try.func89, Try.ntmps89
      go_wp2_with fail
      refine HB.out.mono ?_
      rintro e w1 ⟨rfl, hw1⟩
      subst hw1
      go_wp2_with fail
      go_ret
      exact ⟨by rw [F.out]; rfl, rfl⟩

end Go.Proofs.Ytgcbdlfljplkbab
