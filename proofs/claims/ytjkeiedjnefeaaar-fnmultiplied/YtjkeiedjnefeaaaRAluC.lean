/- Contracts of the small functions under the arithmetic. -/
import Derived.Test.YtjkeiedjnefeaaaRDecC
import Derived.Test.YtjkeiedjnefeaaaRAluP
import Derived.Test.YtjkeiedjnefeaaaRPlain
namespace Go.Proofs.YtjkeiedjnefeaaaR
open Go.RowKit
set_option linter.unusedVariables false

theorem below_dN {B : Nat} {a w : World} (h : Below B a w) (n : Nat) : Below B a (w.drewN n) := ⟨h.os, h.tape, h.output, h.size, h.block⟩

theorem quiet_same {P : Program} {f : FuncId} {args : Array Value} {w : World} {v : Value} (h : Calls P f args w fun e w' => e = .returned v ∧ w' = w) : Calls P f args w fun e w' => e = .returned v ∧ ∃ m, w' = w.drewN m :=
  h.mono fun _ _ h => ⟨h.1, 0, h.2⟩

theorem quiet_drew {P : Program} {f : FuncId} {args : Array Value} {w : World} {v : Value} (h : Calls P f args w fun e w' => e = .returned v ∧ w' = w.drew) : Calls P f args w fun e w' => e = .returned v ∧ ∃ m, w' = w.drewN m :=
  h.mono fun _ _ h => ⟨h.1, 1, h.2⟩

/-- The function has a body, so that a call of it by its value enters it. -/
theorem enters_b {n : Nat} (h : (Try.prog.funcs[n]?).map (fun fn => (fn.name == "runtime.NumGoroutine", fn.body.isSome)) = some (false, true)) (args : Array Value) (w : World) : (callFunc n args).run Try.prog w = .ok (.enter n args) w := by
  cases hf : Try.prog.funcs[n]? with
  | none => rw [hf] at h; cases h
  | some fn =>
    rw [hf] at h
    simp only [Option.map_some, Option.some.injEq, Prod.mk.injEq] at h
    have h1 : fn.name ≠ "runtime.NumGoroutine" := by simpa using h.1
    obtain ⟨c, hc⟩ := Option.isSome_iff_exists.mp h.2
    simp [callFunc, hf, h1, hc, mark]

theorem i64_bd {x : Int} (h : (Lit.int .i64 x).wf = true) : -9223372036854775808 ≤ x ∧ x ≤ 9223372036854775807 := by
  have hmin : IntKind.i64.min = -9223372036854775808 := rfl
  have hmax : IntKind.i64.max = 9223372036854775807 := rfl
  simp only [Lit.wf, Bool.and_eq_true, decide_eq_true_eq] at h
  omega

theorem bits6 (x : Int) (h0 : 0 ≤ x) (h1 : x < 18446744073709551616) (w : World) : Calls Try.prog 78 #[.int .u64 x, .int .i64 0, .int .i64 6] w fun e w' => e = .returned (.int .u64 (sh x)) ∧ w' = w.drew := by
  have h := bitsAt_any x 0 6 h0 h1 (by omega) (by omega) w
  have e : fld x 0 6 = sh x := by rw [← sh_eq]; simp [fld]
  rw [e] at h
  exact h

theorem lowFive_any (x : Int) (h0 : 0 ≤ x) (h1 : x < 18446744073709551616) (w : World) : Calls Try.prog 60 #[.int .u64 x] w fun e w' => e = .returned (.int .u64 (x % 32)) ∧ w' = w.drew := by
  have h : ∀ w, Calls Try.prog 78 #[.int .u64 x, .int .i64 0, .int .i64 5] w fun e w' => e = .returned (.int .u64 (fld x 0 5)) ∧ w' = w.drew := fun w => bitsAt_any x 0 5 h0 h1 (by omega) (by omega) w
  have e : fld x 0 5 = x % 32 := by simp [fld]
  rw [e] at h
  go_enter Try.func60, Try.ntmps60
  go_wp2_with fail
  refine (h _).mono ?_
  rintro e w1 ⟨rfl, rfl⟩
  go_wp2_with fail
  go_ret
  exact ⟨rfl, rfl⟩

theorem lowBytes4 (x : Int) (h0 : 0 ≤ x) (w : World) : Calls Try.prog 35 #[.int .u64 x, .int .i64 4] w fun e w' => e = .returned (.int .u64 (x % 4294967296)) ∧ w' = w := by
  have F : Hid (IntKind.u64.wrap (x * 2 ^ 32) / 2 ^ 32 = x % 4294967296) := low_bytes x 4 (by omega) (by omega) h0
  go_enter Try.func35, Try.ntmps35
  go_wp2_with fail
  go_ret
  exact ⟨by rw [← F.out]; rfl, rfl⟩

theorem lowHalf_any (x : Int) (h0 : 0 ≤ x) (w : World) : Calls Try.prog 59 #[.int .u64 x] w fun e w' => e = .returned (.int .u64 (x % 4294967296)) ∧ w' = w := by
  go_enter Try.func59, Try.ntmps59
  go_wp2_with fail
  refine (lowBytes4 x h0 _).mono ?_
  rintro e w1 ⟨rfl, rfl⟩
  go_wp2_with fail
  go_ret
  exact ⟨rfl, rfl⟩

theorem signedLow_any (x : Int) (w : World) : Calls Try.prog 61 #[.int .u64 x] w fun e w' => e = .returned (.int .u64 (widen 32 x)) ∧ w' = w := by
  go_enter Try.func61, Try.ntmps61
  go_wp2_with fail
  refine (implWiden_any x 32 (by omega) (by omega) _).mono ?_
  rintro e w1 ⟨rfl, hw⟩
  subst hw
  go_wp2_with fail
  go_ret
  exact ⟨rfl, rfl⟩

theorem sumOf_any (a b : Int) (w : World) : Calls Try.prog 50 #[.int .u64 a, .int .u64 b] w fun e w' => e = .returned (.int .u64 (IntKind.u64.wrap (a + b))) ∧ w' = w := by
  go_enter Try.func50, Try.ntmps50
  go_wp2_with fail
  go_ret
  exact ⟨rfl, rfl⟩

theorem differenceOf_any (a b : Int) (w : World) : Calls Try.prog 62 #[.int .u64 a, .int .u64 b] w fun e w' => e = .returned (.int .u64 (IntKind.u64.wrap (a - b))) ∧ w' = w := by
  go_enter Try.func62, Try.ntmps62
  go_wp2_with fail
  go_ret
  exact ⟨rfl, rfl⟩

theorem productOf_any (a b : Int) (w : World) : Calls Try.prog 63 #[.int .u64 a, .int .u64 b] w fun e w' => e = .returned (.int .u64 (IntKind.u64.wrap (a * b))) ∧ w' = w := by
  go_enter Try.func63, Try.ntmps63
  go_wp2_with fail
  go_ret
  exact ⟨rfl, rfl⟩

theorem xorOf_any (a b : Int) (w : World) : Calls Try.prog 53 #[.int .u64 a, .int .u64 b] w fun e w' => e = .returned (.int .u64 (bits .xor .u64 a b)) ∧ w' = w := by
  go_enter Try.func53, Try.ntmps53
  go_wp2_with fail
  go_ret
  exact ⟨rfl, rfl⟩

theorem orOf_any (a b : Int) (w : World) : Calls Try.prog 54 #[.int .u64 a, .int .u64 b] w fun e w' => e = .returned (.int .u64 (bits .or .u64 a b)) ∧ w' = w := by
  go_enter Try.func54, Try.ntmps54
  go_wp2_with fail
  go_ret
  exact ⟨rfl, rfl⟩

theorem andOf_any (a b : Int) (w : World) : Calls Try.prog 55 #[.int .u64 a, .int .u64 b] w fun e w' => e = .returned (.int .u64 (bits .and .u64 a b)) ∧ w' = w := by
  go_enter Try.func55, Try.ntmps55
  go_wp2_with fail
  go_ret
  exact ⟨rfl, rfl⟩

theorem movedLeft_any (a b : Int) (h0 : 0 ≤ b) (h1 : b < 18446744073709551616) (w : World) : Calls Try.prog 56 #[.int .u64 a, .int .u64 b] w fun e w' => e = .returned (.int .u64 (IntKind.u64.wrap (a * 2 ^ sh b))) ∧ w' = w.drew := by
  have hlt := sh_lt b
  go_enter Try.func56, Try.ntmps56
  go_wp2_with fail
  refine (bits6 b h0 h1 _).mono ?_
  rintro e w1 ⟨rfl, rfl⟩
  go_wp2_with fail
  go_ret
  exact ⟨rfl, rfl⟩

theorem movedRight_any (a b : Int) (h0 : 0 ≤ b) (h1 : b < 18446744073709551616) (w : World) : Calls Try.prog 57 #[.int .u64 a, .int .u64 b] w fun e w' => e = .returned (.int .u64 (a / 2 ^ sh b)) ∧ w' = w.drew := by
  have hlt := sh_lt b
  go_enter Try.func57, Try.ntmps57
  go_wp2_with fail
  refine (bits6 b h0 h1 _).mono ?_
  rintro e w1 ⟨rfl, rfl⟩
  go_wp2_with fail
  go_ret
  exact ⟨rfl, rfl⟩

theorem movedRightSigned_any (a b : Int) (h0 : 0 ≤ b) (h1 : b < 18446744073709551616) (w : World) : Calls Try.prog 58 #[.int .u64 a, .int .u64 b] w fun e w' => e = .returned (.int .u64 (IntKind.u64.wrap (wrap64 a / 2 ^ sh b))) ∧ w' = w.drew := by
  have hlt := sh_lt b
  go_enter Try.func58, Try.ntmps58
  go_wp2_with fail
  refine (bits6 b h0 h1 _).mono ?_
  rintro e w1 ⟨rfl, rfl⟩
  go_wp2_with fail
  go_ret
  exact ⟨rfl, rfl⟩

theorem isEqual_any (a b : Int) (w : World) : Calls Try.prog 74 #[.int .u64 a, .int .u64 b] w fun e w' => e = .returned (.bool (a == b)) ∧ w' = w := by
  go_enter Try.func74, Try.ntmps74
  go_wp2_with fail
  go_ret
  exact ⟨rfl, rfl⟩

theorem isSignedLess_any (a b : Int) (w : World) : Calls Try.prog 75 #[.int .u64 a, .int .u64 b] w fun e w' => e = .returned (.bool (decide (wrap64 a < wrap64 b))) ∧ w' = w := by
  go_enter Try.func75, Try.ntmps75
  go_wp2_with fail
  go_ret
  exact ⟨rfl, rfl⟩

theorem isWordLess_any (a b : Int) (w : World) : Calls Try.prog 76 #[.int .u64 a, .int .u64 b] w fun e w' => e = .returned (.bool (decide (a < b))) ∧ w' = w := by
  go_enter Try.func76, Try.ntmps76
  go_wp2_with fail
  go_ret
  exact ⟨rfl, rfl⟩

theorem bitOf_any (c : Bool) (w : World) : Calls Try.prog 77 #[.bool c] w fun e w' => e = .returned (.int .u64 (bitV c)) ∧ w' = w := by
  cases c
  all_goals go_enter Try.func77, Try.ntmps77
  all_goals go_wp2_with fail
  all_goals go_ret
  all_goals exact ⟨rfl, rfl⟩

theorem l3If_any (c : Bool) (w : World) : Calls Try.prog 70 #[.bool c] w fun e w' => e = .returned (.int .u64 (bitV c)) ∧ w' = w := by
  cases c
  all_goals go_enter Try.func70, Try.ntmps70
  all_goals go_wp2_with fail
  all_goals go_ret
  all_goals exact ⟨rfl, rfl⟩

theorem signedLess_any (a b : Int) (w : World) : Calls Try.prog 51 #[.int .u64 a, .int .u64 b] w fun e w' => e = .returned (.int .u64 (bitV (decide (wrap64 a < wrap64 b)))) ∧ w' = w := by
  go_enter Try.func51, Try.ntmps51
  go_wp2_with fail
  refine (isSignedLess_any a b _).mono ?_
  rintro e w1 ⟨rfl, rfl⟩
  go_wp2_with fail
  refine (bitOf_any _ _).mono ?_
  rintro e w2 ⟨rfl, rfl⟩
  go_wp2_with fail
  go_ret
  exact ⟨rfl, rfl⟩

theorem wordLess_any (a b : Int) (w : World) : Calls Try.prog 52 #[.int .u64 a, .int .u64 b] w fun e w' => e = .returned (.int .u64 (bitV (decide (a < b)))) ∧ w' = w := by
  go_enter Try.func52, Try.ntmps52
  go_wp2_with fail
  refine (isWordLess_any a b _).mono ?_
  rintro e w1 ⟨rfl, rfl⟩
  go_wp2_with fail
  refine (bitOf_any _ _).mono ?_
  rintro e w2 ⟨rfl, rfl⟩
  go_wp2_with fail
  go_ret
  exact ⟨rfl, rfl⟩

theorem Mul64_any (a b : Int) (a0 : 0 ≤ a) (a1 : a < 18446744073709551616) (b0 : 0 ≤ b) (b1 : b < 18446744073709551616) (w : World) :
    Calls Try.prog 45 #[.int .u64 a, .int .u64 b] w fun e w' => e = .returned (.tuple #[.int .u64 (highV a b), .int .u64 (IntKind.u64.wrap (a * b))]) ∧ w' = w := by
  obtain ⟨ll, lh, hl, hh, t, u, v, e1, e2, e3, e4, e5, e6, e7, e8, e9⟩ := high_parts a b a0 a1 b0 b1
  have m1 := mask32 a a0 a1
  have m2 := mask32 b b0 b1
  go_enter Try.func45, Try.ntmps45
  go_wp2
  go_ret2
  exact ⟨rfl, rfl⟩

theorem implHigh_any (a b : Int) (a0 : 0 ≤ a) (a1 : a < 18446744073709551616) (b0 : 0 ≤ b) (b1 : b < 18446744073709551616) (w : World) :
    Calls Try.prog 19 #[.int .u64 a, .int .u64 b] w fun e w' => e = .returned (.int .u64 (highV a b)) ∧ w' = w := by
  go_enter Try.func19, Try.ntmps19
  go_wp2_with fail
  refine (Mul64_any a b a0 a1 b0 b1 _).mono ?_
  rintro e w1 ⟨rfl, rfl⟩
  go_wp2_with fail
  go_ret
  exact ⟨rfl, rfl⟩

theorem specHigh_any (a b : Int) (a0 : 0 ≤ a) (a1 : a < 18446744073709551616) (b0 : 0 ≤ b) (b1 : b < 18446744073709551616) (w : World) :
    Calls Try.prog 20 #[.int .u64 a, .int .u64 b] w fun e w' => e = .returned (.int .u64 (highV a b)) ∧ w' = w := by
  obtain ⟨ll, lh, hl, hh, t, u, v, e1, e2, e3, e4, e5, e6, e7, e8, e9⟩ := high_parts b a b0 b1 a0 a1
  have ec : highV b a = highV a b := by simp only [highV, Int.mul_comm]
  rw [Int.mul_comm] at e1 e2 e3 e4
  rw [Int.add_comm] at e7
  rw [ec] at e9
  clear ec
  have m1 := mask32 a a0 a1
  have m2 := mask32 b b0 b1
  go_enter Try.func20, Try.ntmps20
  go_wp2
  go_ret
  exact ⟨rfl, rfl⟩

theorem highSignedWord_any (a b : Int) (a0 : 0 ≤ a) (a1 : a < 18446744073709551616) (b0 : 0 ≤ b) (b1 : b < 18446744073709551616) (w : World) :
    Calls Try.prog 65 #[.int .u64 a, .int .u64 b] w fun e w' => e = .returned (.int .u64 (highSuV a b)) ∧ w' = w := by
  by_cases h : wrap64 a < 0
  · have F : Hid (highSuV a b = IntKind.u64.wrap (highV a b - b)) := by show _ = _; unfold highSuV; rw [if_pos h]
    have d : decide (wrap64 a < 0) = true := by simpa using h
    clear h
    go_enter Try.func65, Try.ntmps65
    go_wp2_with fail
    refine (implHigh_any a b a0 a1 b0 b1 _).mono ?_
    rintro e w1 ⟨rfl, rfl⟩
    go_wp2_with fail
    go_ret
    exact ⟨by rw [F.out]; rfl, rfl⟩
  · have F : Hid (highSuV a b = highV a b) := by show _ = _; unfold highSuV; rw [if_neg h]
    have d : decide (wrap64 a < 0) = false := by simpa using h
    clear h
    go_enter Try.func65, Try.ntmps65
    go_wp2_with fail
    refine (implHigh_any a b a0 a1 b0 b1 _).mono ?_
    rintro e w1 ⟨rfl, rfl⟩
    go_wp2_with fail
    go_ret
    exact ⟨by rw [F.out]; rfl, rfl⟩

theorem highSigned_any (a b : Int) (a0 : 0 ≤ a) (a1 : a < 18446744073709551616) (b0 : 0 ≤ b) (b1 : b < 18446744073709551616) (w : World) :
    Calls Try.prog 64 #[.int .u64 a, .int .u64 b] w fun e w' => e = .returned (.int .u64 (highSV a b)) ∧ w' = w := by
  by_cases h : wrap64 b < 0
  · have F : Hid (highSV a b = IntKind.u64.wrap (highSuV a b - a)) := by show _ = _; unfold highSV; rw [if_pos h]
    have d : decide (wrap64 b < 0) = true := by simpa using h
    clear h
    go_enter Try.func64, Try.ntmps64
    go_wp2_with fail
    refine (highSignedWord_any a b a0 a1 b0 b1 _).mono ?_
    rintro e w1 ⟨rfl, rfl⟩
    go_wp2_with fail
    go_ret
    exact ⟨by rw [F.out]; rfl, rfl⟩
  · have F : Hid (highSV a b = highSuV a b) := by show _ = _; unfold highSV; rw [if_neg h]
    have d : decide (wrap64 b < 0) = false := by simpa using h
    clear h
    go_enter Try.func64, Try.ntmps64
    go_wp2_with fail
    refine (highSignedWord_any a b a0 a1 b0 b1 _).mono ?_
    rintro e w1 ⟨rfl, rfl⟩
    go_wp2_with fail
    go_ret
    exact ⟨by rw [F.out]; rfl, rfl⟩

theorem signedQuotient_any (a b : Int) (b0 : 0 ≤ b) (b1 : b < 18446744073709551616) (w : World) :
    Calls Try.prog 66 #[.int .u64 a, .int .u64 b] w fun e w' => e = .returned (.int .u64 (AF.div.v a b)) ∧ w' = w := by
  by_cases h : b = 0
  · have F : Hid (AF.div.v a b = 18446744073709551615) := by show _ = _; simp [AF.v, h]
    have d : (b == 0) = true := by simpa using h
    clear h
    go_enter Try.func66, Try.ntmps66
    go_wp2_with fail
    go_ret
    exact ⟨by rw [F.out]; rfl, rfl⟩
  · have F : Hid (AF.div.v a b = IntKind.u64.wrap (wrap64 ((wrap64 a).tdiv (wrap64 b)))) := by show _ = _; simp [AF.v, h]
    have d : (b == 0) = false := by simpa using h
    have d2 : ¬ wrap64 b = 0 := by rw [wrap64_zero b0 b1]; exact h
    clear h
    go_enter Try.func66, Try.ntmps66
    go_wp2_with fail
    go_ret
    exact ⟨by rw [F.out]; rfl, rfl⟩

theorem signedRest_any (a b : Int) (b0 : 0 ≤ b) (b1 : b < 18446744073709551616) (w : World) :
    Calls Try.prog 68 #[.int .u64 a, .int .u64 b] w fun e w' => e = .returned (.int .u64 (AF.rem.v a b)) ∧ w' = w := by
  by_cases h : b = 0
  · have F : Hid (AF.rem.v a b = a) := by show _ = _; simp [AF.v, h]
    have d : (b == 0) = true := by simpa using h
    clear h
    go_enter Try.func68, Try.ntmps68
    go_wp2_with fail
    go_ret
    exact ⟨by rw [F.out]; rfl, rfl⟩
  · have F : Hid (AF.rem.v a b = IntKind.u64.wrap ((wrap64 a).tmod (wrap64 b))) := by show _ = _; simp [AF.v, h]
    have d : (b == 0) = false := by simpa using h
    have d2 : ¬ wrap64 b = 0 := by rw [wrap64_zero b0 b1]; exact h
    clear h
    go_enter Try.func68, Try.ntmps68
    go_wp2_with fail
    go_ret
    exact ⟨by rw [F.out]; rfl, rfl⟩

theorem wordQuotient_any (a b : Int) (w : World) :
    Calls Try.prog 67 #[.int .u64 a, .int .u64 b] w fun e w' => e = .returned (.int .u64 (AF.divu.v a b)) ∧ w' = w := by
  by_cases h : b = 0
  · have F : Hid (AF.divu.v a b = 18446744073709551615) := by show _ = _; simp [AF.v, h]
    have d : (b == 0) = true := by simpa using h
    clear h
    go_enter Try.func67, Try.ntmps67
    go_wp2_with fail
    go_ret
    exact ⟨by rw [F.out]; rfl, rfl⟩
  · have F : Hid (AF.divu.v a b = IntKind.u64.wrap (a.tdiv b)) := by show _ = _; simp [AF.v, h]
    have d : (b == 0) = false := by simpa using h
    go_enter Try.func67, Try.ntmps67
    go_wp2_with fail
    go_ret
    exact ⟨by rw [F.out]; rfl, rfl⟩

theorem wordRest_any (a b : Int) (w : World) :
    Calls Try.prog 69 #[.int .u64 a, .int .u64 b] w fun e w' => e = .returned (.int .u64 (AF.remu.v a b)) ∧ w' = w := by
  by_cases h : b = 0
  · have F : Hid (AF.remu.v a b = a) := by show _ = _; simp [AF.v, h]
    have d : (b == 0) = true := by simpa using h
    clear h
    go_enter Try.func69, Try.ntmps69
    go_wp2_with fail
    go_ret
    exact ⟨by rw [F.out]; rfl, rfl⟩
  · have F : Hid (AF.remu.v a b = a.tmod b) := by show _ = _; simp [AF.v, h]
    have d : (b == 0) = false := by simpa using h
    go_enter Try.func69, Try.ntmps69
    go_wp2_with fail
    go_ret
    exact ⟨by rw [F.out]; rfl, rfl⟩

end Go.Proofs.YtjkeiedjnefeaaaR
