/- The walk of laws.FnAmos: the less and the greater of two are these two, and what is swapped in is there, at every code. -/
import Derived.Test.YtjkeiedjnefeaabAmoC
import Derived.Test.YtjkeiedjnefeaabLawC
namespace Go.Proofs.Ytjkeiedjnefeaab.fnAmos
open Go.RowKit
set_option linter.unusedVariables false

theorem amo_lo (x y : Int) (x0 : 0 ≤ x) (x1 : x < 18446744073709551616) (y0 : 0 ≤ y) (y1 : y < 18446744073709551616) (w : World) : Calls Try.prog 6 #[.int .i64 81, .int .u64 x, .int .u64 y] w fun e w' => e = .returned (.tuple #[.int .u64 (MF.smin.v x y), .bool true]) ∧ Below w.heap.size w w' := implAmo_any 81 x y (by decide) x0 x1 y0 y1 w

theorem op_lo (w : World) : Calls Try.prog 8 #[.string ⟨#[97, 109, 111, 109, 105, 110, 46, 100]⟩] w fun e w' => e = .returned (.int .i64 81) ∧ Below w.heap.size w w' := opOf_c _ _ (by kernel_rfl) w

theorem amo_hi (x y : Int) (x0 : 0 ≤ x) (x1 : x < 18446744073709551616) (y0 : 0 ≤ y) (y1 : y < 18446744073709551616) (w : World) : Calls Try.prog 6 #[.int .i64 82, .int .u64 x, .int .u64 y] w fun e w' => e = .returned (.tuple #[.int .u64 (MF.smax.v x y), .bool true]) ∧ Below w.heap.size w w' := implAmo_any 82 x y (by decide) x0 x1 y0 y1 w

theorem op_hi (w : World) : Calls Try.prog 8 #[.string ⟨#[97, 109, 111, 109, 97, 120, 46, 100]⟩] w fun e w' => e = .returned (.int .i64 82) ∧ Below w.heap.size w w' := opOf_c _ _ (by kernel_rfl) w

theorem amo_ul (x y : Int) (x0 : 0 ≤ x) (x1 : x < 18446744073709551616) (y0 : 0 ≤ y) (y1 : y < 18446744073709551616) (w : World) : Calls Try.prog 6 #[.int .i64 72, .int .u64 x, .int .u64 y] w fun e w' => e = .returned (.tuple #[.int .u64 (MF.umin.v (widen 32 x) (widen 32 y) % 4294967296), .bool true]) ∧ Below w.heap.size w w' := implAmo_any 72 x y (by decide) x0 x1 y0 y1 w

theorem op_ul (w : World) : Calls Try.prog 8 #[.string ⟨#[97, 109, 111, 109, 105, 110, 117, 46, 119]⟩] w fun e w' => e = .returned (.int .i64 72) ∧ Below w.heap.size w w' := opOf_c _ _ (by kernel_rfl) w

theorem amo_uh (x y : Int) (x0 : 0 ≤ x) (x1 : x < 18446744073709551616) (y0 : 0 ≤ y) (y1 : y < 18446744073709551616) (w : World) : Calls Try.prog 6 #[.int .i64 73, .int .u64 x, .int .u64 y] w fun e w' => e = .returned (.tuple #[.int .u64 (MF.umax.v (widen 32 x) (widen 32 y) % 4294967296), .bool true]) ∧ Below w.heap.size w w' := implAmo_any 73 x y (by decide) x0 x1 y0 y1 w

theorem op_uh (w : World) : Calls Try.prog 8 #[.string ⟨#[97, 109, 111, 109, 97, 120, 117, 46, 119]⟩] w fun e w' => e = .returned (.int .i64 73) ∧ Below w.heap.size w w' := opOf_c _ _ (by kernel_rfl) w

theorem amo_ws (x y : Int) (x0 : 0 ≤ x) (x1 : x < 18446744073709551616) (y0 : 0 ≤ y) (y1 : y < 18446744073709551616) (w : World) : Calls Try.prog 6 #[.int .i64 76, .int .u64 x, .int .u64 y] w fun e w' => e = .returned (.tuple #[.int .u64 (y), .bool true]) ∧ Below w.heap.size w w' := implAmo_any 76 x y (by decide) x0 x1 y0 y1 w

theorem op_ws (w : World) : Calls Try.prog 8 #[.string ⟨#[97, 109, 111, 115, 119, 97, 112, 46, 100]⟩] w fun e w' => e = .returned (.int .i64 76) ∧ Below w.heap.size w w' := opOf_c _ _ (by kernel_rfl) w

theorem pair_d {x y : Int} (x0 : 0 ≤ x) (x1 : x < 18446744073709551616) (y0 : 0 ≤ y) (y1 : y < 18446744073709551616) : (MF.smin.v x y = x ∧ MF.smax.v x y = y) ∨ (¬ MF.smin.v x y = x ∧ MF.smin.v x y = y ∧ MF.smax.v x y = x) := by
  simp only [MF.v]
  by_cases h : wrap64 y < wrap64 x
  · rw [if_pos h, if_neg (by omega)]
    exact Or.inr ⟨fun e => by rw [e] at h; omega, rfl, rfl⟩
  · rw [if_neg h]
    by_cases h2 : wrap64 x < wrap64 y
    · rw [if_pos h2]; exact Or.inl ⟨rfl, rfl⟩
    · rw [if_neg h2]; exact Or.inl ⟨rfl, wrap64_inj x0 x1 y0 y1 (by omega)⟩

theorem pair_w (x y : Int) : MF.umin.v (widen 32 x) (widen 32 y) % 4294967296 ≤ MF.umax.v (widen 32 x) (widen 32 y) % 4294967296 ∧ MF.umin.v (widen 32 x) (widen 32 y) % 4294967296 + MF.umax.v (widen 32 x) (widen 32 y) % 4294967296 = x % 4294967296 + y % 4294967296 := by
  rw [low_umin, low_umax]
  split <;> omega

set_option maxRecDepth 100000 in
set_option maxHeartbeats 3200000 in
theorem walk (a0 : Option Addr) (len0 cap0 : Nat) (z0 : List Int) (w : World) (w0 : IsRow .u8 w a0 len0 cap0 z0) :
    Calls Try.prog 3 #[.slice a0 len0 cap0] w fun e w' => e = .returned (.bool true) ∧ Below w.heap.size w w' := by
  by_cases hbig : 4096 < len0
  · have hb : decide (4096 < len0) = true := by simpa using hbig
    go_enter Try.func3, Try.ntmps3
    go_wp2_with fail
    refine (big_any a0 len0 cap0 _).mono ?_
    rintro e w1 ⟨rfl, hw1⟩
    subst hw1
    rw [hb]
    go_wp2_with fail
    go_ret
    exact ⟨rfl, Below.refl _ _⟩
  · have hb : decide (4096 < len0) = false := by simpa using hbig
    obtain ⟨zs, hcd⟩ := code_of w0 (by omega)
    have HD : Hid (Code w a0 len0 zs) := hcd
    clear hcd w0 hbig
    go_enter Try.func3, Try.ntmps3
    go_wp2_with fail
    refine (big_any a0 len0 cap0 _).mono ?_
    rintro e w1 ⟨rfl, hw1⟩
    subst hw1
    rw [hb]
    clear hb
    go_wp2_with fail
    refine (DrawAmo_c cap0 _ HD.out).mono ?_
    rintro e w2 ⟨op, x, y, rfl, wop, ⟨x0, x1⟩, ⟨y0, y1⟩, hb2⟩
    have HB2 : Hid (Below w1.heap.size w1 w2) := hb2
    have HS : Hid (∀ w, Calls Try.prog 7 #[.int .i64 op, .int .u64 x, .int .u64 y] w fun e w' => e = .returned (.tuple #[.int .u64 (amoV op x y), .bool (amoB op)]) ∧ w' = w) := specAmo_any op x y x0 x1 y0 y1
    have HI : Hid (∀ w, Calls Try.prog 6 #[.int .i64 op, .int .u64 x, .int .u64 y] w fun e w' => e = .returned (.tuple #[.int .u64 (amoV op x y), .bool (amoB op)]) ∧ Below w.heap.size w w') := implAmo_any op x y wop x0 x1 y0 y1
    obtain ⟨p, hp⟩ : ∃ p, p = amoV op x y := ⟨_, rfl⟩
    obtain ⟨c, hc⟩ : ∃ c, c = amoB op := ⟨_, rfl⟩
    rw [← hp, ← hc] at HS HI
    have hd : (p != p) = false := by simp
    have hd2 : (c != c) = false := by simp
    have E1 := pair_d x0 x1 y0 y1
    have E2 := pair_w x y
    have Alo : Hid (∀ w, Calls Try.prog 6 #[.int .i64 81, .int .u64 x, .int .u64 y] w fun e w' => e = .returned (.tuple #[.int .u64 (MF.smin.v x y), .bool true]) ∧ Below w.heap.size w w') := amo_lo x y x0 x1 y0 y1
    have Ahi : Hid (∀ w, Calls Try.prog 6 #[.int .i64 82, .int .u64 x, .int .u64 y] w fun e w' => e = .returned (.tuple #[.int .u64 (MF.smax.v x y), .bool true]) ∧ Below w.heap.size w w') := amo_hi x y x0 x1 y0 y1
    have Aul : Hid (∀ w, Calls Try.prog 6 #[.int .i64 72, .int .u64 x, .int .u64 y] w fun e w' => e = .returned (.tuple #[.int .u64 (MF.umin.v (widen 32 x) (widen 32 y) % 4294967296), .bool true]) ∧ Below w.heap.size w w') := amo_ul x y x0 x1 y0 y1
    have Auh : Hid (∀ w, Calls Try.prog 6 #[.int .i64 73, .int .u64 x, .int .u64 y] w fun e w' => e = .returned (.tuple #[.int .u64 (MF.umax.v (widen 32 x) (widen 32 y) % 4294967296), .bool true]) ∧ Below w.heap.size w w') := amo_uh x y x0 x1 y0 y1
    have Aws : Hid (∀ w, Calls Try.prog 6 #[.int .i64 76, .int .u64 x, .int .u64 y] w fun e w' => e = .returned (.tuple #[.int .u64 (y), .bool true]) ∧ Below w.heap.size w w') := amo_ws x y x0 x1 y0 y1
    have bl : 0 ≤ MF.umin.v (widen 32 x) (widen 32 y) % 4294967296 ∧ MF.umin.v (widen 32 x) (widen 32 y) % 4294967296 < 4294967296 := by omega
    have bh : 0 ≤ MF.umax.v (widen 32 x) (widen 32 y) % 4294967296 ∧ MF.umax.v (widen 32 x) (widen 32 y) % 4294967296 < 4294967296 := by omega
    generalize MF.smin.v x y = lo at *
    generalize MF.smax.v x y = hi at *
    generalize MF.umin.v (widen 32 x) (widen 32 y) % 4294967296 = ul at *
    generalize MF.umax.v (widen 32 x) (widen 32 y) % 4294967296 = uh at *
    have dy : (y == y) = true := by simp
    have dl : decide (ul ≤ uh) = true := by simpa using E2.1
    have ds : (ul + uh == x % 4294967296 + y % 4294967296) = true := by simpa using E2.2
    clear hp hc hb2 E2 wop
    go_wp2_with fail
    refine (HI.out _).mono ?_
    rintro e w3 ⟨rfl, hb3⟩
    have Hhb3 : Hid (Below w2.heap.size w2 w3) := hb3
    clear hb3
    go_wp2_with fail
    refine (HS.out _).mono ?_
    rintro e w4 ⟨rfl, hw4⟩
    subst hw4
    go_wp2_with fail
    refine (op_lo _).mono ?_
    rintro e w5 ⟨rfl, hb5⟩
    have Hhb5 : Hid (Below w4.heap.size w4 w5) := hb5
    clear hb5
    go_wp2_with fail
    refine (Alo.out _).mono ?_
    rintro e w6 ⟨rfl, hb6⟩
    have Hhb6 : Hid (Below w5.heap.size w5 w6) := hb6
    clear hb6
    go_wp2_with fail
    refine (op_hi _).mono ?_
    rintro e w7 ⟨rfl, hb7⟩
    have Hhb7 : Hid (Below w6.heap.size w6 w7) := hb7
    clear hb7
    go_wp2_with fail
    refine (Ahi.out _).mono ?_
    rintro e w8 ⟨rfl, hb8⟩
    have Hhb8 : Hid (Below w7.heap.size w7 w8) := hb8
    clear hb8
    go_wp2_with fail
    refine (op_ul _).mono ?_
    rintro e w9 ⟨rfl, hb9⟩
    have Hhb9 : Hid (Below w8.heap.size w8 w9) := hb9
    clear hb9
    go_wp2_with fail
    refine (Aul.out _).mono ?_
    rintro e w10 ⟨rfl, hb10⟩
    have Hhb10 : Hid (Below w9.heap.size w9 w10) := hb10
    clear hb10
    go_wp2_with fail
    refine (op_uh _).mono ?_
    rintro e w11 ⟨rfl, hb11⟩
    have Hhb11 : Hid (Below w10.heap.size w10 w11) := hb11
    clear hb11
    go_wp2_with fail
    refine (Auh.out _).mono ?_
    rintro e w12 ⟨rfl, hb12⟩
    have Hhb12 : Hid (Below w11.heap.size w11 w12) := hb12
    clear hb12
    go_wp2_with fail
    refine (op_ws _).mono ?_
    rintro e w13 ⟨rfl, hb13⟩
    have Hhb13 : Hid (Below w12.heap.size w12 w13) := hb13
    clear hb13
    go_wp2_with fail
    refine (Aws.out _).mono ?_
    rintro e w14 ⟨rfl, hb14⟩
    have Hhb14 : Hid (Below w13.heap.size w13 w14) := hb14
    clear hb14
    have HB : Hid (Below w1.heap.size w1 w14) := (below_trans (below_trans (below_trans (below_trans (below_trans (below_trans (below_trans (below_trans (below_trans (below_trans (below_trans HB2.out Hhb3.out) Hhb5.out) Hhb6.out) Hhb7.out) Hhb8.out) Hhb9.out) Hhb10.out) Hhb11.out) Hhb12.out) Hhb13.out) Hhb14.out)
    clear HB2 Hhb3 Hhb5 Hhb6 Hhb7 Hhb8 Hhb9 Hhb10 Hhb11 Hhb12 Hhb13 Hhb14 HS HI Alo Ahi Aul Auh Aws hd hd2
    rcases E1 with ⟨z1, z2⟩ | ⟨z1, z2, z3⟩
    · have d5 : (lo == x) = true := by simpa using z1
      have d6 : (hi == y) = true := by simpa using z2
      clear z1 z2
      go_wp2_with fail
      go_ret
      exact ⟨rfl, HB.out⟩
    · have d5 : (lo == x) = false := by simpa using z1
      have d6 : (lo == y) = true := by simpa using z2
      have d7 : (hi == x) = true := by simpa using z3
      clear z1 z2 z3
      go_wp2_with fail
      go_ret
      exact ⟨rfl, HB.out⟩

end Go.Proofs.Ytjkeiedjnefeaab.fnAmos
