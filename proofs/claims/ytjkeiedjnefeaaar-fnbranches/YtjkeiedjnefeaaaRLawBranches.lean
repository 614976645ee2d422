/- The walk of laws.FnBranches: branches and their opposites are unlike, at every code. -/
import Derived.Test.YtjkeiedjnefeaaaRAluJ
import Derived.Test.YtjkeiedjnefeaaaRBrC
import Derived.Test.YtjkeiedjnefeaaaRLawC
namespace Go.Proofs.YtjkeiedjnefeaaaR.fnBranches
open Go.RowKit
set_option linter.unusedVariables false

theorem alu_slt (x y : Int) (x0 : 0 ≤ x) (x1 : x < 18446744073709551616) (y0 : 0 ≤ y) (y1 : y < 18446744073709551616) (w : World) : Calls Try.prog 15 #[.int .i64 38, .int .u64 x, .int .u64 y] w fun e w' => e = .returned (.tuple #[.int .u64 (bitV (decide (wrap64 x < wrap64 y))), .bool true]) ∧ Below w.heap.size w w' := implAlu_any 38 x y (by decide) x0 x1 y0 y1 w

theorem op_slt (w : World) : Calls Try.prog 17 #[.string ⟨#[115, 108, 116]⟩] w fun e w' => e = .returned (.int .i64 38) ∧ Below w.heap.size w w' := opOf_c _ _ (by kernel_rfl) w

theorem pair_no (j : Nat) (hj : j < 3) (x y : Int) : (brV (5 + 2 * (j : Int)) x y == brV (5 + 2 * (j : Int) + 1) x y) = false := by
  have h : ∀ c : Bool, (c == !c) = false := by intro c; cases c <;> rfl
  match j, hj with
  | 0, _ => exact h _
  | 1, _ => exact h _
  | 2, _ => exact h _
  | j + 3, h => exact absurd h (by omega)

theorem br_at (op : Int) (h0 : 5 ≤ op) (h1 : op ≤ 10) (x y : Int) (w : World) : Calls Try.prog 22 #[.int .i64 op, .int .u64 x, .int .u64 y] w fun e w' => e = .returned (.tuple #[.bool (brV op x y), .bool true]) ∧ Below w.heap.size w w' :=
  implBranch_some op x y (by simp [brB]; omega) w

set_option maxRecDepth 100000 in
set_option maxHeartbeats 1600000 in
theorem walk (a0 : Option Addr) (len0 cap0 : Nat) (z0 : List Int) (w : World) (w0 : IsRow .u8 w a0 len0 cap0 z0) :
    Calls Try.prog 6 #[.slice a0 len0 cap0] w fun e w' => e = .returned (.bool true) ∧ Below w.heap.size w w' := by
  by_cases hbig : 4096 < len0
  · have hb : decide (4096 < len0) = true := by simpa using hbig
    go_enter Try.func6, Try.ntmps6
    go_wp2_with fail
    refine (big_any a0 len0 cap0 _).mono ?_
    rintro e w1 ⟨rfl, hw1⟩
    subst hw1
    rw [hb]
    go_wp2_with fail
    go_ret
    exact ⟨rfl, Below.refl _ _⟩
  · have hb : decide (4096 < len0) = false := by simpa using hbig
    obtain ⟨zs, hcd⟩ := code_of w0 (by omega)
    have HD : Hid (Code w a0 len0 zs) := hcd
    clear hcd w0 hbig
    go_enter Try.func6, Try.ntmps6
    go_wp2_with fail
    refine (big_any a0 len0 cap0 _).mono ?_
    rintro e w1 ⟨rfl, hw1⟩
    subst hw1
    rw [hb]
    clear hb
    go_wp2_with fail
    refine (DrawBranch_c cap0 _ HD.out).mono ?_
    rintro e w2 ⟨op, x, y, rfl, wop, ⟨x0, x1⟩, ⟨y0, y1⟩, hb2⟩
    have HB2 : Hid (Below w1.heap.size w1 w2) := hb2
    have HS : Hid (∀ w, Calls Try.prog 23 #[.int .i64 op, .int .u64 x, .int .u64 y] w fun e w' => e = .returned (.tuple #[.bool (brV op x y), .bool (brB op)]) ∧ w' = w) := specBranch_any op x y
    have HI : Hid (∀ w, Calls Try.prog 22 #[.int .i64 op, .int .u64 x, .int .u64 y] w fun e w' => e = .returned (.tuple #[.bool (brV op x y), .bool (brB op)]) ∧ Below w.heap.size w w') := implBranch_any op x y wop
    obtain ⟨p, hp⟩ : ∃ p, p = brV op x y := ⟨_, rfl⟩
    obtain ⟨c, hc⟩ : ∃ c, c = brB op := ⟨_, rfl⟩
    rw [← hp, ← hc] at HS HI
    have hd : (p != p) = false := by simp
    have hd2 : (c != c) = false := by simp
    have PN : Hid (∀ j : Nat, j < 3 → (brV (5 + 2 * (j : Int)) x y == brV (5 + 2 * (j : Int) + 1) x y) = false) := fun j hj => pair_no j hj x y
    have BR : Hid (∀ op : Int, 5 ≤ op → op ≤ 10 → ∀ w, Calls Try.prog 22 #[.int .i64 op, .int .u64 x, .int .u64 y] w fun e w' => e = .returned (.tuple #[.bool (brV op x y), .bool true]) ∧ Below w.heap.size w w') := fun op h0 h1 w => br_at op h0 h1 x y w
    have B9 : Hid (∀ w, Calls Try.prog 22 #[.int .i64 9, .int .u64 x, .int .u64 y] w fun e w' => e = .returned (.tuple #[.bool (decide (x < y)), .bool true]) ∧ Below w.heap.size w w') := fun w => br_at 9 (by omega) (by omega) x y w
    have B7 : Hid (∀ w, Calls Try.prog 22 #[.int .i64 7, .int .u64 x, .int .u64 y] w fun e w' => e = .returned (.tuple #[.bool (decide (wrap64 x < wrap64 y)), .bool true]) ∧ Below w.heap.size w w') := fun w => br_at 7 (by omega) (by omega) x y w
    have AL : Hid (∀ w, Calls Try.prog 15 #[.int .i64 38, .int .u64 x, .int .u64 y] w fun e w' => e = .returned (.tuple #[.int .u64 (bitV (decide (wrap64 x < wrap64 y))), .bool true]) ∧ Below w.heap.size w w') := alu_slt x y x0 x1 y0 y1
    obtain ⟨c9, h9⟩ : ∃ c, decide (x < y) = c := ⟨_, rfl⟩
    obtain ⟨c7, h7⟩ : ∃ c, decide (wrap64 x < wrap64 y) = c := ⟨_, rfl⟩
    rw [h9] at B9
    rw [h7] at B7 AL
    have hs1 : (bitV c7 == 1) = c7 := by cases c7 <;> rfl
    clear hp hc hb2 wop x0 x1 y0 y1 h7
    go_wp2_with fail
    with_reducible refine (HI.out _).mono ?_
    rintro e w3 ⟨rfl, hb3⟩
    have Hhb3 : Hid (Below w2.heap.size w2 w3) := hb3
    clear hb3
    go_wp2_with fail
    with_reducible refine (HS.out _).mono ?_
    rintro e w4 ⟨rfl, hw4⟩
    subst hw4
    go_wp2_with fail
    go_loopw [10] (fun i wr => ∃ j : Nat, j ≤ 3 ∧ i = .int .i64 (5 + 2 * (j : Int)) ∧ Hid (Below w1.heap.size w1 wr))
      (fun i _ => 11 - (intOf i).toNat)
    case atStart => exact ⟨0, by omega, rfl, below_trans HB2.out Hhb3.out⟩
    case round =>
      obtain ⟨j, hj, rfl, hbel⟩ := hrel
      by_cases hlt : j < 3
      · have d1 : decide (5 + 2 * (j : Int) ≤ 9) = true := by simp; omega
        have pn := PN.out j hlt
        have C1 : Hid (∀ w, Calls Try.prog 22 #[.int .i64 (5 + 2 * (j : Int)), .int .u64 x, .int .u64 y] w fun e w' => e = .returned (.tuple #[.bool (brV (5 + 2 * (j : Int)) x y), .bool true]) ∧ Below w.heap.size w w') := BR.out _ (by omega) (by omega)
        have C2 : Hid (∀ w, Calls Try.prog 22 #[.int .i64 (5 + 2 * (j : Int) + 1), .int .u64 x, .int .u64 y] w fun e w' => e = .returned (.tuple #[.bool (brV (5 + 2 * (j : Int) + 1) x y), .bool true]) ∧ Below w.heap.size w w') := BR.out _ (by omega) (by omega)
        generalize brV (5 + 2 * (j : Int)) x y = v1 at *
        generalize brV (5 + 2 * (j : Int) + 1) x y = v2 at *
        go_wp2_with fail
        with_reducible refine (C1.out _).mono ?_
        rintro e w5 ⟨rfl, hb5⟩
        have Hhb5 : Hid (Below wr.heap.size wr w5) := hb5
        clear hb5
        go_wp2_with fail
        with_reducible refine (C2.out _).mono ?_
        rintro e w6 ⟨rfl, hb6⟩
        have Hhb6 : Hid (Below w5.heap.size w5 w6) := hb6
        clear hb6
        go_wp2_with fail
        go_roundw
        case rel => exact ⟨j + 1, by omega, by go_num, below_trans (below_trans hbel.out Hhb5.out) Hhb6.out⟩
        case measure => simp [intOf]; omega
      · have d1 : decide (5 + 2 * (j : Int) ≤ 9) = false := by simp; omega
        go_wp2_with fail
        refine (B9.out _).mono ?_
        rintro e w5 ⟨rfl, hb5⟩
        have Hhb5 : Hid (Below wr.heap.size wr w5) := hb5
        clear hb5
        go_wp2_with fail
        refine (op_slt _).mono ?_
        rintro e w6 ⟨rfl, hb6⟩
        have Hhb6 : Hid (Below w5.heap.size w5 w6) := hb6
        clear hb6
        go_wp2_with fail
        refine (AL.out _).mono ?_
        rintro e w7 ⟨rfl, hb7⟩
        have Hhb7 : Hid (Below w6.heap.size w6 w7) := hb7
        clear hb7
        go_wp2_with fail
        refine (B7.out _).mono ?_
        rintro e w8 ⟨rfl, hb8⟩
        have Hhb8 : Hid (Below w7.heap.size w7 w8) := hb8
        clear hb8
        have q1 : (c9 == c9) = true := by simp
        have q2 : (c7 == c7) = true := by simp
        go_wp2_with fail
        go_ret
        exact ⟨rfl, below_trans (below_trans (below_trans (below_trans hbel.out Hhb5.out) Hhb6.out) Hhb7.out) Hhb8.out⟩

end Go.Proofs.YtjkeiedjnefeaaaR.fnBranches
