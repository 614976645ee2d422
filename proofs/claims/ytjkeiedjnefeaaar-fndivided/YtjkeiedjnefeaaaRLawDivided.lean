/- The walk of laws.FnDivided: a quotient times the divisor, and what is left, are the number, at every code. -/
import Derived.Test.YtjkeiedjnefeaaaRAluJ
import Derived.Test.YtjkeiedjnefeaaaRAluS
import Derived.Test.YtjkeiedjnefeaaaRLawC
import Derived.Test.YtjkeiedjnefeaaaRDivP
namespace Go.Proofs.YtjkeiedjnefeaaaR.fnDivided
open Go.RowKit
set_option linter.unusedVariables false

theorem alu_div (x y : Int) (x0 : 0 ≤ x) (x1 : x < 18446744073709551616) (y0 : 0 ≤ y) (y1 : y < 18446744073709551616) (w : World) : Calls Try.prog 15 #[.int .i64 54, .int .u64 x, .int .u64 y] w fun e w' => e = .returned (.tuple #[.int .u64 (AF.div.v x y), .bool true]) ∧ Below w.heap.size w w' := implAlu_any 54 x y (by decide) x0 x1 y0 y1 w

theorem op_div (w : World) : Calls Try.prog 17 #[.string ⟨#[100, 105, 118]⟩] w fun e w' => e = .returned (.int .i64 54) ∧ Below w.heap.size w w' := opOf_c _ _ (by kernel_rfl) w

theorem alu_rem (x y : Int) (x0 : 0 ≤ x) (x1 : x < 18446744073709551616) (y0 : 0 ≤ y) (y1 : y < 18446744073709551616) (w : World) : Calls Try.prog 15 #[.int .i64 56, .int .u64 x, .int .u64 y] w fun e w' => e = .returned (.tuple #[.int .u64 (AF.rem.v x y), .bool true]) ∧ Below w.heap.size w w' := implAlu_any 56 x y (by decide) x0 x1 y0 y1 w

theorem op_rem (w : World) : Calls Try.prog 17 #[.string ⟨#[114, 101, 109]⟩] w fun e w' => e = .returned (.int .i64 56) ∧ Below w.heap.size w w' := opOf_c _ _ (by kernel_rfl) w

theorem alu_divu (x y : Int) (x0 : 0 ≤ x) (x1 : x < 18446744073709551616) (y0 : 0 ≤ y) (y1 : y < 18446744073709551616) (w : World) : Calls Try.prog 15 #[.int .i64 55, .int .u64 x, .int .u64 y] w fun e w' => e = .returned (.tuple #[.int .u64 (AF.divu.v x y), .bool true]) ∧ Below w.heap.size w w' := implAlu_any 55 x y (by decide) x0 x1 y0 y1 w

theorem op_divu (w : World) : Calls Try.prog 17 #[.string ⟨#[100, 105, 118, 117]⟩] w fun e w' => e = .returned (.int .i64 55) ∧ Below w.heap.size w w' := opOf_c _ _ (by kernel_rfl) w

theorem alu_remu (x y : Int) (x0 : 0 ≤ x) (x1 : x < 18446744073709551616) (y0 : 0 ≤ y) (y1 : y < 18446744073709551616) (w : World) : Calls Try.prog 15 #[.int .i64 57, .int .u64 x, .int .u64 y] w fun e w' => e = .returned (.tuple #[.int .u64 (AF.remu.v x y), .bool true]) ∧ Below w.heap.size w w' := implAlu_any 57 x y (by decide) x0 x1 y0 y1 w

theorem op_remu (w : World) : Calls Try.prog 17 #[.string ⟨#[114, 101, 109, 117]⟩] w fun e w' => e = .returned (.int .i64 57) ∧ Below w.heap.size w w' := opOf_c _ _ (by kernel_rfl) w

theorem alu_divw (x y : Int) (x0 : 0 ≤ x) (x1 : x < 18446744073709551616) (y0 : 0 ≤ y) (y1 : y < 18446744073709551616) (w : World) : Calls Try.prog 15 #[.int .i64 59, .int .u64 x, .int .u64 y] w fun e w' => e = .returned (.tuple #[.int .u64 (widen 32 (AF.div.v (widen 32 x) (widen 32 y))), .bool true]) ∧ Below w.heap.size w w' := implAlu_any 59 x y (by decide) x0 x1 y0 y1 w

theorem op_divw (w : World) : Calls Try.prog 17 #[.string ⟨#[100, 105, 118, 119]⟩] w fun e w' => e = .returned (.int .i64 59) ∧ Below w.heap.size w w' := opOf_c _ _ (by kernel_rfl) w

theorem alu_remw (x y : Int) (x0 : 0 ≤ x) (x1 : x < 18446744073709551616) (y0 : 0 ≤ y) (y1 : y < 18446744073709551616) (w : World) : Calls Try.prog 15 #[.int .i64 61, .int .u64 x, .int .u64 y] w fun e w' => e = .returned (.tuple #[.int .u64 (widen 32 (AF.rem.v (widen 32 x) (widen 32 y))), .bool true]) ∧ Below w.heap.size w w' := implAlu_any 61 x y (by decide) x0 x1 y0 y1 w

theorem op_remw (w : World) : Calls Try.prog 17 #[.string ⟨#[114, 101, 109, 119]⟩] w fun e w' => e = .returned (.int .i64 61) ∧ Below w.heap.size w w' := opOf_c _ _ (by kernel_rfl) w

theorem implWiden32 (x : Int) (w : World) : Calls Try.prog 12 #[.int .u64 x, .int .i64 32] w fun e w' => e = .returned (.int .u64 (widen 32 x)) ∧ w' = w := implWiden_any x 32 (by omega) (by omega) w

set_option maxRecDepth 100000 in
set_option maxHeartbeats 3200000 in
theorem walk (a0 : Option Addr) (len0 cap0 : Nat) (z0 : List Int) (w : World) (w0 : IsRow .u8 w a0 len0 cap0 z0) :
    Calls Try.prog 4 #[.slice a0 len0 cap0] w fun e w' => e = .returned (.bool true) ∧ Below w.heap.size w w' := by
  by_cases hbig : 4096 < len0
  · have hb : decide (4096 < len0) = true := by simpa using hbig
    go_enter Try.func4, Try.ntmps4
    go_wp2_with fail
    refine (big_any a0 len0 cap0 _).mono ?_
    rintro e w1 ⟨rfl, hw1⟩
    subst hw1
    rw [hb]
    go_wp2_with fail
    go_ret
    exact ⟨rfl, Below.refl _ _⟩
  · have hb : decide (4096 < len0) = false := by simpa using hbig
    obtain ⟨zs, hcd⟩ := code_of w0 (by omega)
    have HD : Hid (Code w a0 len0 zs) := hcd
    clear hcd w0 hbig
    go_enter Try.func4, Try.ntmps4
    go_wp2_with fail
    refine (big_any a0 len0 cap0 _).mono ?_
    rintro e w1 ⟨rfl, hw1⟩
    subst hw1
    rw [hb]
    clear hb
    go_wp2_with fail
    refine (DrawAlu_c cap0 _ HD.out).mono ?_
    rintro e w2 ⟨op, x, y, rfl, wop, ⟨x0, x1⟩, ⟨y0, y1⟩, hb2⟩
    have HB2 : Hid (Below w1.heap.size w1 w2) := hb2
    have HS : Hid (∀ w, Calls Try.prog 16 #[.int .i64 op, .int .u64 x, .int .u64 y] w fun e w' => e = .returned (.tuple #[.int .u64 (aluV op x y), .bool (aluB op)]) ∧ Below w.heap.size w w') := specAlu_any op x y wop x0 x1 y0 y1
    have HI : Hid (∀ w, Calls Try.prog 15 #[.int .i64 op, .int .u64 x, .int .u64 y] w fun e w' => e = .returned (.tuple #[.int .u64 (aluV op x y), .bool (aluB op)]) ∧ Below w.heap.size w w') := implAlu_any op x y wop x0 x1 y0 y1
    obtain ⟨p, hp⟩ : ∃ p, p = aluV op x y := ⟨_, rfl⟩
    obtain ⟨c, hc⟩ : ∃ c, c = aluB op := ⟨_, rfl⟩
    rw [← hp, ← hc] at HS HI
    have hd : (p != p) = false := by simp
    have hd2 : (c != c) = false := by simp
    have E1 := div_back x0 x1 y0 y1
    have E2 := divu_back x0 x1 y0 y1
    have E3 := divw_back x0 x1 y0 y1
    have E4 := fun h => remu_lt (b := y) x0 y0 h
    have Aq : Hid (∀ w, Calls Try.prog 15 #[.int .i64 54, .int .u64 x, .int .u64 y] w fun e w' => e = .returned (.tuple #[.int .u64 (AF.div.v x y), .bool true]) ∧ Below w.heap.size w w') := alu_div x y x0 x1 y0 y1
    have Ar : Hid (∀ w, Calls Try.prog 15 #[.int .i64 56, .int .u64 x, .int .u64 y] w fun e w' => e = .returned (.tuple #[.int .u64 (AF.rem.v x y), .bool true]) ∧ Below w.heap.size w w') := alu_rem x y x0 x1 y0 y1
    have As : Hid (∀ w, Calls Try.prog 15 #[.int .i64 55, .int .u64 x, .int .u64 y] w fun e w' => e = .returned (.tuple #[.int .u64 (AF.divu.v x y), .bool true]) ∧ Below w.heap.size w w') := alu_divu x y x0 x1 y0 y1
    have At : Hid (∀ w, Calls Try.prog 15 #[.int .i64 57, .int .u64 x, .int .u64 y] w fun e w' => e = .returned (.tuple #[.int .u64 (AF.remu.v x y), .bool true]) ∧ Below w.heap.size w w') := alu_remu x y x0 x1 y0 y1
    have Au : Hid (∀ w, Calls Try.prog 15 #[.int .i64 59, .int .u64 x, .int .u64 y] w fun e w' => e = .returned (.tuple #[.int .u64 (widen 32 (AF.div.v (widen 32 x) (widen 32 y))), .bool true]) ∧ Below w.heap.size w w') := alu_divw x y x0 x1 y0 y1
    have Av : Hid (∀ w, Calls Try.prog 15 #[.int .i64 61, .int .u64 x, .int .u64 y] w fun e w' => e = .returned (.tuple #[.int .u64 (widen 32 (AF.rem.v (widen 32 x) (widen 32 y))), .bool true]) ∧ Below w.heap.size w w') := alu_remw x y x0 x1 y0 y1
    have Z : y = 0 → AF.div.v x y = 18446744073709551615 ∧ AF.divu.v x y = 18446744073709551615 ∧ AF.rem.v x y = x ∧ AF.remu.v x y = x := fun h => by simp [AF.v, h]
    generalize AF.div.v x y = q at *
    generalize AF.rem.v x y = r at *
    generalize AF.divu.v x y = s at *
    generalize AF.remu.v x y = t at *
    generalize widen 32 (AF.div.v (widen 32 x) (widen 32 y)) = u at *
    generalize widen 32 (AF.rem.v (widen 32 x) (widen 32 y)) = v at *
    have d1 : (IntKind.u64.wrap (IntKind.u64.wrap (q * y) + r) == x) = true := by simpa using E1
    have d2 : (IntKind.u64.wrap (IntKind.u64.wrap (s * y) + t) == x) = true := by simpa using E2
    have d3 : (widen 32 (IntKind.u64.wrap (IntKind.u64.wrap (u * y) + v)) == widen 32 x) = true := by simpa using E3
    clear hp hc hb2 E1 E2 E3 wop x0 x1 y0 y1
    go_wp2_with fail
    refine (HI.out _).mono ?_
    rintro e w3 ⟨rfl, hb3⟩
    have Hhb3 : Hid (Below w2.heap.size w2 w3) := hb3
    clear hb3
    go_wp2_with fail
    refine (HS.out _).mono ?_
    rintro e w4 ⟨rfl, hb4⟩
    have Hhb4 : Hid (Below w3.heap.size w3 w4) := hb4
    clear hb4
    go_wp2_with fail
    refine (op_div _).mono ?_
    rintro e w5 ⟨rfl, hb5⟩
    have Hhb5 : Hid (Below w4.heap.size w4 w5) := hb5
    clear hb5
    go_wp2_with fail
    refine (Aq.out _).mono ?_
    rintro e w6 ⟨rfl, hb6⟩
    have Hhb6 : Hid (Below w5.heap.size w5 w6) := hb6
    clear hb6
    go_wp2_with fail
    refine (op_rem _).mono ?_
    rintro e w7 ⟨rfl, hb7⟩
    have Hhb7 : Hid (Below w6.heap.size w6 w7) := hb7
    clear hb7
    go_wp2_with fail
    refine (Ar.out _).mono ?_
    rintro e w8 ⟨rfl, hb8⟩
    have Hhb8 : Hid (Below w7.heap.size w7 w8) := hb8
    clear hb8
    go_wp2_with fail
    refine (op_divu _).mono ?_
    rintro e w9 ⟨rfl, hb9⟩
    have Hhb9 : Hid (Below w8.heap.size w8 w9) := hb9
    clear hb9
    go_wp2_with fail
    refine (As.out _).mono ?_
    rintro e w10 ⟨rfl, hb10⟩
    have Hhb10 : Hid (Below w9.heap.size w9 w10) := hb10
    clear hb10
    go_wp2_with fail
    refine (op_remu _).mono ?_
    rintro e w11 ⟨rfl, hb11⟩
    have Hhb11 : Hid (Below w10.heap.size w10 w11) := hb11
    clear hb11
    go_wp2_with fail
    refine (At.out _).mono ?_
    rintro e w12 ⟨rfl, hb12⟩
    have Hhb12 : Hid (Below w11.heap.size w11 w12) := hb12
    clear hb12
    go_wp2_with fail
    refine (op_divw _).mono ?_
    rintro e w13 ⟨rfl, hb13⟩
    have Hhb13 : Hid (Below w12.heap.size w12 w13) := hb13
    clear hb13
    go_wp2_with fail
    refine (Au.out _).mono ?_
    rintro e w14 ⟨rfl, hb14⟩
    have Hhb14 : Hid (Below w13.heap.size w13 w14) := hb14
    clear hb14
    go_wp2_with fail
    refine (op_remw _).mono ?_
    rintro e w15 ⟨rfl, hb15⟩
    have Hhb15 : Hid (Below w14.heap.size w14 w15) := hb15
    clear hb15
    go_wp2_with fail
    refine (Av.out _).mono ?_
    rintro e w16 ⟨rfl, hb16⟩
    have Hhb16 : Hid (Below w15.heap.size w15 w16) := hb16
    clear hb16
    have HB : Hid (Below w1.heap.size w1 w16) := (below_trans (below_trans (below_trans (below_trans (below_trans (below_trans (below_trans (below_trans (below_trans (below_trans (below_trans (below_trans (below_trans (below_trans HB2.out Hhb3.out) Hhb4.out) Hhb5.out) Hhb6.out) Hhb7.out) Hhb8.out) Hhb9.out) Hhb10.out) Hhb11.out) Hhb12.out) Hhb13.out) Hhb14.out) Hhb15.out) Hhb16.out)
    clear HB2 Hhb3 Hhb4 Hhb5 Hhb6 Hhb7 Hhb8 Hhb9 Hhb10 Hhb11 Hhb12 Hhb13 Hhb14 Hhb15 Hhb16 HS HI Aq Ar As At Au Av hd hd2
    by_cases hy : y = 0
    · obtain ⟨z1, z2, z3, z4⟩ := Z hy
      have d4 : (y == 0) = true := by simpa using hy
      have d5 : (q != 18446744073709551615) = false := by simp [z1]
      have d6 : (s != q) = false := by simp [z1, z2]
      have d7 : (r != x) = false := by simp [z3]
      have d8 : (t != x) = false := by simp [z4]
      clear Z E4 z1 z2 z3 z4 hy
      go_wp2_with (go_at_call 12; with_reducible refine (implWiden32 _ _).mono ?_; rintro e wx ⟨rfl, hwx⟩; subst hwx)
      go_ret
      exact ⟨rfl, HB.out⟩
    · have d4 : (y == 0) = false := by simpa using hy
      have d5 : decide (t < y) = true := by simpa using E4 hy
      clear Z E4 hy
      go_wp2_with (go_at_call 12; with_reducible refine (implWiden32 _ _).mono ?_; rintro e wx ⟨rfl, hwx⟩; subst hwx)
      go_ret
      exact ⟨rfl, HB.out⟩

end Go.Proofs.YtjkeiedjnefeaaaR.fnDivided
