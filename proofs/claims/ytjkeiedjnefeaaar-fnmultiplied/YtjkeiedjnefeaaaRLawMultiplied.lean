/- The walk of laws.FnMultiplied: the high half of a product goes both ways, and the signed ones are it less what the signs take, at every code. -/
import Derived.Test.YtjkeiedjnefeaaaRAluJ
import Derived.Test.YtjkeiedjnefeaaaRLawC
namespace Go.Proofs.YtjkeiedjnefeaaaR.fnMultiplied
open Go.RowKit
set_option linter.unusedVariables false

theorem alu_s (x y : Int) (x0 : 0 ≤ x) (x1 : x < 18446744073709551616) (y0 : 0 ≤ y) (y1 : y < 18446744073709551616) (w : World) : Calls Try.prog 15 #[.int .i64 51, .int .u64 x, .int .u64 y] w fun e w' => e = .returned (.tuple #[.int .u64 (highSV x y), .bool true]) ∧ Below w.heap.size w w' := implAlu_any 51 x y (by decide) x0 x1 y0 y1 w

theorem op_s (w : World) : Calls Try.prog 17 #[.string ⟨#[109, 117, 108, 104]⟩] w fun e w' => e = .returned (.int .i64 51) ∧ Below w.heap.size w w' := opOf_c _ _ (by kernel_rfl) w

theorem alu_m (x y : Int) (x0 : 0 ≤ x) (x1 : x < 18446744073709551616) (y0 : 0 ≤ y) (y1 : y < 18446744073709551616) (w : World) : Calls Try.prog 15 #[.int .i64 52, .int .u64 x, .int .u64 y] w fun e w' => e = .returned (.tuple #[.int .u64 (highSuV x y), .bool true]) ∧ Below w.heap.size w w' := implAlu_any 52 x y (by decide) x0 x1 y0 y1 w

theorem op_m (w : World) : Calls Try.prog 17 #[.string ⟨#[109, 117, 108, 104, 115, 117]⟩] w fun e w' => e = .returned (.int .i64 52) ∧ Below w.heap.size w w' := opOf_c _ _ (by kernel_rfl) w

theorem alu_u (x y : Int) (x0 : 0 ≤ x) (x1 : x < 18446744073709551616) (y0 : 0 ≤ y) (y1 : y < 18446744073709551616) (w : World) : Calls Try.prog 15 #[.int .i64 53, .int .u64 x, .int .u64 y] w fun e w' => e = .returned (.tuple #[.int .u64 (highV x y), .bool true]) ∧ Below w.heap.size w w' := implAlu_any 53 x y (by decide) x0 x1 y0 y1 w

theorem op_u (w : World) : Calls Try.prog 17 #[.string ⟨#[109, 117, 108, 104, 117]⟩] w fun e w' => e = .returned (.int .i64 53) ∧ Below w.heap.size w w' := opOf_c _ _ (by kernel_rfl) w

theorem top_bit {x : Int} (x0 : 0 ≤ x) (x1 : x < 18446744073709551616) : (wrap64 x < 0 ∧ (x / 9223372036854775808 == 1) = true) ∨ (¬ wrap64 x < 0 ∧ (x / 9223372036854775808 == 1) = false) := by
  by_cases h : x < 9223372036854775808
  · right
    refine ⟨by unfold wrap64; omega, ?_⟩
    have e : ¬ x / 9223372036854775808 = 1 := by omega
    simpa using e
  · left
    refine ⟨by unfold wrap64; omega, ?_⟩
    have e : x / 9223372036854775808 = 1 := by omega
    simpa using e

theorem high_one {x : Int} (x0 : 0 ≤ x) (x1 : x < 18446744073709551616) : highV x 1 = 0 := by unfold highV; omega

theorem high_two {x : Int} (x0 : 0 ≤ x) (x1 : x < 18446744073709551616) : highV x 2 = x / 9223372036854775808 := by unfold highV; omega

set_option maxRecDepth 100000 in
set_option maxHeartbeats 3200000 in
theorem walk (a0 : Option Addr) (len0 cap0 : Nat) (z0 : List Int) (w : World) (w0 : IsRow .u8 w a0 len0 cap0 z0) :
    Calls Try.prog 5 #[.slice a0 len0 cap0] w fun e w' => e = .returned (.bool true) ∧ Below w.heap.size w w' := by
  by_cases hbig : 4096 < len0
  · have hb : decide (4096 < len0) = true := by simpa using hbig
    go_enter Try.func5, Try.ntmps5
    go_wp2_with fail
    refine (big_any a0 len0 cap0 _).mono ?_
    rintro e w1 ⟨rfl, hw1⟩
    subst hw1
    rw [hb]
    go_wp2_with fail
    go_ret
    exact ⟨rfl, Below.refl _ _⟩
  · have hb : decide (4096 < len0) = false := by simpa using hbig
    obtain ⟨zs, hcd⟩ := code_of w0 (by omega)
    have HD : Hid (Code w a0 len0 zs) := hcd
    clear hcd w0 hbig
    go_enter Try.func5, Try.ntmps5
    go_wp2_with fail
    refine (big_any a0 len0 cap0 _).mono ?_
    rintro e w1 ⟨rfl, hw1⟩
    subst hw1
    rw [hb]
    clear hb
    go_wp2_with fail
    refine (DrawHigh_c cap0 _ HD.out).mono ?_
    rintro e w2 ⟨x, y, rfl, ⟨x0, x1⟩, ⟨y0, y1⟩, hb2⟩
    have HB2 : Hid (Below w1.heap.size w1 w2) := hb2
    have HI : Hid (∀ w, Calls Try.prog 19 #[.int .u64 x, .int .u64 y] w fun e w' => e = .returned (.int .u64 (highV x y)) ∧ w' = w) := implHigh_any x y x0 x1 y0 y1
    have HS : Hid (∀ w, Calls Try.prog 20 #[.int .u64 x, .int .u64 y] w fun e w' => e = .returned (.int .u64 (highV x y)) ∧ w' = w) := specHigh_any x y x0 x1 y0 y1
    have HJ : Hid (∀ w, Calls Try.prog 19 #[.int .u64 y, .int .u64 x] w fun e w' => e = .returned (.int .u64 (highV x y)) ∧ w' = w) := by
      have e : highV x y = highV y x := by simp only [highV, Int.mul_comm]
      rw [e]; exact implHigh_any y x y0 y1 x0 x1
    have H1 : Hid (∀ w, Calls Try.prog 19 #[.int .u64 x, .int .u64 1] w fun e w' => e = .returned (.int .u64 0) ∧ w' = w) := by
      have h := implHigh_any x 1 x0 x1 (by omega) (by omega)
      rw [high_one x0 x1] at h; exact h
    have H2 : Hid (∀ w, Calls Try.prog 19 #[.int .u64 x, .int .u64 2] w fun e w' => e = .returned (.int .u64 (x / 9223372036854775808)) ∧ w' = w) := by
      have h := implHigh_any x 2 x0 x1 (by omega) (by omega)
      rw [high_two x0 x1] at h; exact h
    have As : Hid (∀ w, Calls Try.prog 15 #[.int .i64 51, .int .u64 x, .int .u64 y] w fun e w' => e = .returned (.tuple #[.int .u64 (highSV x y), .bool true]) ∧ Below w.heap.size w w') := alu_s x y x0 x1 y0 y1
    have Am : Hid (∀ w, Calls Try.prog 15 #[.int .i64 52, .int .u64 x, .int .u64 y] w fun e w' => e = .returned (.tuple #[.int .u64 (highSuV x y), .bool true]) ∧ Below w.heap.size w w') := alu_m x y x0 x1 y0 y1
    have Au : Hid (∀ w, Calls Try.prog 15 #[.int .i64 53, .int .u64 x, .int .u64 y] w fun e w' => e = .returned (.tuple #[.int .u64 (highV x y), .bool true]) ∧ Below w.heap.size w w') := alu_u x y x0 x1 y0 y1
    have Tx := top_bit x0 x1
    have Ty := top_bit y0 y1
    have V1 : highSuV x y = if wrap64 x < 0 then IntKind.u64.wrap (highV x y - y) else highV x y := rfl
    have V2 : highSV x y = if wrap64 y < 0 then IntKind.u64.wrap (highSuV x y - x) else highSuV x y := rfl
    generalize highSV x y = s at *
    generalize highSuV x y = m at *
    generalize highV x y = h at *
    have HV1 : Hid (m = if wrap64 x < 0 then IntKind.u64.wrap (h - y) else h) := V1
    have HV2 : Hid (s = if wrap64 y < 0 then IntKind.u64.wrap (m - x) else m) := V2
    clear V1 V2
    have hd : (h != h) = false := by simp
    have hd2 : (h == h) = true := by simp
    have hd3 : (x / 9223372036854775808 == x / 9223372036854775808) = true := by simp
    clear hb2 x0 x1 y0 y1
    go_wp2_with fail
    with_reducible refine (HI.out _).mono ?_
    rintro e w3 ⟨rfl, hw3⟩
    subst hw3
    go_wp2_with (first | (go_at_call 20; with_reducible refine (HS.out _).mono ?_; rintro e wx ⟨rfl, hwx⟩; subst hwx) | (go_at_call 19; with_reducible refine (HJ.out _).mono ?_; rintro e wx ⟨rfl, hwx⟩; subst hwx))
    refine (op_s _).mono ?_
    rintro e u5 ⟨rfl, hb5⟩
    have Hhb5 : Hid (Below _ _ u5) := hb5
    clear hb5
    go_wp2_with fail
    with_reducible refine (As.out _).mono ?_
    rintro e u6 ⟨rfl, hb6⟩
    have Hhb6 : Hid (Below _ _ u6) := hb6
    clear hb6
    go_wp2_with fail
    refine (op_m _).mono ?_
    rintro e u7 ⟨rfl, hb7⟩
    have Hhb7 : Hid (Below _ _ u7) := hb7
    clear hb7
    go_wp2_with fail
    with_reducible refine (Am.out _).mono ?_
    rintro e u8 ⟨rfl, hb8⟩
    have Hhb8 : Hid (Below _ _ u8) := hb8
    clear hb8
    go_wp2_with fail
    refine (op_u _).mono ?_
    rintro e u9 ⟨rfl, hb9⟩
    have Hhb9 : Hid (Below _ _ u9) := hb9
    clear hb9
    go_wp2_with fail
    with_reducible refine (Au.out _).mono ?_
    rintro e u10 ⟨rfl, hb10⟩
    have Hhb10 : Hid (Below _ _ u10) := hb10
    clear hb10
    have HB : Hid (Below w1.heap.size w1 u10) := (below_trans (below_trans (below_trans (below_trans (below_trans (below_trans HB2.out Hhb5.out) Hhb6.out) Hhb7.out) Hhb8.out) Hhb9.out) Hhb10.out)
    clear HB2 Hhb5 Hhb6 Hhb7 Hhb8 Hhb9 Hhb10 HS HI HJ As Am Au
    rcases Tx with ⟨tx, dx⟩ | ⟨tx, dx⟩
    · rcases Ty with ⟨ty, dy⟩ | ⟨ty, dy⟩
      · have V1 := HV1.out
        have V2 := HV2.out
        rw [if_pos tx] at V1
        rw [if_pos ty, V1] at V2
        have q1 : (m == IntKind.u64.wrap (h - y)) = true := by simpa using V1
        have q2 : (s == IntKind.u64.wrap (IntKind.u64.wrap (h - y) - x)) = true := by simpa using V2
        clear V1 V2 tx ty HV1 HV2
        go_wp2_with (first | (go_at_call 19; with_reducible refine (H1.out _).mono ?_; rintro e wx ⟨rfl, hwx⟩; subst hwx) | (go_at_call 19; with_reducible refine (H2.out _).mono ?_; rintro e wx ⟨rfl, hwx⟩; subst hwx))
        go_ret
        exact ⟨rfl, HB.out⟩
      · have V1 := HV1.out
        have V2 := HV2.out
        rw [if_pos tx] at V1
        rw [if_neg (by omega), V1] at V2
        have q1 : (m == IntKind.u64.wrap (h - y)) = true := by simpa using V1
        have q2 : (s == IntKind.u64.wrap (h - y)) = true := by simpa using V2
        clear V1 V2 tx ty HV1 HV2
        go_wp2_with (first | (go_at_call 19; with_reducible refine (H1.out _).mono ?_; rintro e wx ⟨rfl, hwx⟩; subst hwx) | (go_at_call 19; with_reducible refine (H2.out _).mono ?_; rintro e wx ⟨rfl, hwx⟩; subst hwx))
        go_ret
        exact ⟨rfl, HB.out⟩
    · rcases Ty with ⟨ty, dy⟩ | ⟨ty, dy⟩
      · have V1 := HV1.out
        have V2 := HV2.out
        rw [if_neg (by omega)] at V1
        rw [if_pos ty, V1] at V2
        have q1 : (m == h) = true := by simpa using V1
        have q2 : (s == IntKind.u64.wrap (h - x)) = true := by simpa using V2
        clear V1 V2 tx ty HV1 HV2
        go_wp2_with (first | (go_at_call 19; with_reducible refine (H1.out _).mono ?_; rintro e wx ⟨rfl, hwx⟩; subst hwx) | (go_at_call 19; with_reducible refine (H2.out _).mono ?_; rintro e wx ⟨rfl, hwx⟩; subst hwx))
        go_ret
        exact ⟨rfl, HB.out⟩
      · have V1 := HV1.out
        have V2 := HV2.out
        rw [if_neg (by omega)] at V1
        rw [if_neg (by omega), V1] at V2
        have q1 : (m == h) = true := by simpa using V1
        have q2 : (s == h) = true := by simpa using V2
        clear V1 V2 tx ty HV1 HV2
        go_wp2_with (first | (go_at_call 19; with_reducible refine (H1.out _).mono ?_; rintro e wx ⟨rfl, hwx⟩; subst hwx) | (go_at_call 19; with_reducible refine (H2.out _).mono ?_; rintro e wx ⟨rfl, hwx⟩; subst hwx))
        go_ret
        exact ⟨rfl, HB.out⟩

end Go.Proofs.YtjkeiedjnefeaaaR.fnMultiplied
