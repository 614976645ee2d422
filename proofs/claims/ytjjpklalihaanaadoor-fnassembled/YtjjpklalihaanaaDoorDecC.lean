/- Contracts of the parts of decoding: the program's and the model's. -/
import Derived.Test.YtjjpklalihaanaaDoorNameC
import Derived.Test.YtjjpklalihaanaaDoorDecP
import Derived.BigQuiet
namespace Go.Proofs.YtjjpklalihaanaaDoor
open Go.RowKit
set_option linter.unusedVariables false

theorem bitsAt_any (x : Int) (k n : Nat) (h0 : 0 ≤ x) (h1 : x < 18446744073709551616) (hk : k < 64) (hn : n < 64) (w : World) :
    Calls Tryd.prog 57 #[.int .u64 x, .int .i64 k, .int .i64 n] w fun e w' => e = .returned (.int .u64 (fld x k n)) ∧ w' = w.drew := by
  have F : Hid (bits .and .u64 (x / 2 ^ k) (IntKind.u64.wrap (IntKind.u64.wrap (2 ^ n) - 1)) = fld x k n) := bitsAt_eq x k n h0 h1 hn
  go_enter Tryd.func57, Tryd.ntmps57
  go_wp2_with fail
  go_region
  all_goals go_wp2_with fail
  all_goals go_ret
  all_goals exact ⟨by rw [← F.out]; rfl, rfl⟩

set_option maxHeartbeats 800000 in
theorem settledBits_any (f : Fm) (w : World) :
    Calls Tryd.prog 55 #[.string f.str] w fun e w' => e = .returned (.tuple #[.int .u64 f.mask, .int .i64 f.at]) ∧ w' = w := by
  cases f <;> simp only [Fm.str, Fm.mask, Fm.at]
  all_goals go_enter Tryd.func55, Tryd.ntmps55
  all_goals go_wp2_with fail
  all_goals go_ret2
  all_goals exact ⟨rfl, rfl⟩

theorem implWiden_any (x : Int) (n : Nat) (h1 : 1 ≤ n) (h2 : n ≤ 64) (w : World) :
    Calls Tryd.prog 58 #[.int .u64 x, .int .i64 n] w fun e w' => e = .returned (.int .u64 (widen n x)) ∧ w' = w := by
  have d1 : decide ((n : Int) < 1) = false := by simp; omega
  have d2 : decide ((64 : Int) < (n : Int)) = false := by simp; omega
  obtain ⟨m, hm, hm0⟩ : ∃ m : Nat, (64 : Int) - (n : Int) = (m : Int) ∧ m = 64 - n := ⟨64 - n, by omega, rfl⟩
  have F : Hid (IntKind.u64.wrap (wrap64 (IntKind.u64.wrap (x * 2 ^ m)) / 2 ^ m) = widen n x) := by
    show _ = _
    rw [hm0]; rfl
  clear hm0
  go_enter Tryd.func58, Tryd.ntmps58
  go_wp2_with fail
  go_ret
  exact ⟨by rw [← F.out]; rfl, rfl⟩

theorem l1Widen_any (x : Int) (n : Nat) (h1 : 1 ≤ n) (h2 : n ≤ 64) (w : World) :
    Calls Tryd.prog 71 #[.int .u64 x, .int .u64 n] w fun e w' => e = .returned (.int .u64 (widen n x)) ∧ w' = w := by
  obtain ⟨m, hm, hm0⟩ : ∃ m : Nat, (64 : Int) - (n : Int) = (m : Int) ∧ m = 64 - n := ⟨64 - n, by omega, rfl⟩
  have F : Hid (IntKind.u64.wrap (wrap64 (IntKind.u64.wrap (x * 2 ^ m)) / 2 ^ m) = widen n x) := by
    show _ = _
    rw [hm0]; rfl
  clear hm0
  have hm2 : IntKind.u64.wrap (m : Int) = m := by rw [IntKind.wrap_u64]; omega
  go_enter Tryd.func71, Tryd.ntmps71
  go_wp2_with fail
  go_ret
  exact ⟨by rw [← F.out]; rfl, rfl⟩

/-- The bits that a row settles, and what they are. -/
def maskI (op : Int) (f : Fm) : Int := if op = 98 then bits .or .u64 f.mask 3968 else if op = 63 ∨ op = 74 then bits .or .u64 f.mask 32505856 else f.mask

def bitsI (f : Fm) (o z m : Int) : Int := bits .or .u64 (bits .or .u64 o (IntKind.u64.wrap (z * 4096))) (IntKind.u64.wrap (m * 2 ^ f.at))

set_option maxHeartbeats 800000 in
theorem rowPattern_any (op : Int) (nm : ByteArray) (f : Fm) (o z m : Int) (w : World) :
    Calls Tryd.prog 26 #[.int .i64 op, .agg #[.string nm, .string f.str, .int .u64 o, .int .u64 z, .int .u64 m]] w fun e w' => e = .returned (.tuple #[.int .u64 (maskI op f), .int .u64 (bitsI f o z m)]) ∧ Below w.heap.size w w' := by
  have hs := settledBits_any f
  obtain ⟨M, hM⟩ : ∃ M, M = f.mask := ⟨_, rfl⟩
  obtain ⟨t, ht⟩ : ∃ t, t = f.at := ⟨_, rfl⟩
  obtain ⟨s, hf⟩ : ∃ s, s = f.str := ⟨_, rfl⟩
  have FB : Hid (bitsI f o z m = bits .or .u64 (bits .or .u64 o (IntKind.u64.wrap (z * 4096))) (IntKind.u64.wrap (m * 2 ^ t))) := by
    show _ = _
    rw [bitsI, ht]
  rw [← hf, ← hM, ← ht] at hs
  rw [← hf]
  have ht64 : t < 64 := by rw [ht]; cases f <;> decide
  by_cases h98 : op = 98
  · subst h98
    have FM : Hid (maskI 98 f = bits .or .u64 M 3968) := by show _ = _; rw [maskI, if_pos rfl, hM]
    clear hM ht hf
    go_enter Tryd.func26, Tryd.ntmps26
    go_wp2_with fail
    refine (hs _).mono ?_
    rintro e w1 ⟨rfl, rfl⟩
    go_wp2_with fail
    go_region
    all_goals go_wp2_with fail
    all_goals go_ret2
    all_goals exact ⟨by rw [FM.out, FB.out]; rfl, ((Below.refl _ _).alloc (Nat.le_refl _) _).drew⟩
  · have d98 : (op == 98) = false := by simpa using h98
    by_cases h63 : op = 63
    · subst h63
      have FM : Hid (maskI 63 f = bits .or .u64 M 32505856) := by show _ = _; rw [maskI, if_neg (by decide), if_pos (by decide), hM]
      clear hM ht hf h98 d98
      go_enter Tryd.func26, Tryd.ntmps26
      go_wp2_with fail
      refine (hs _).mono ?_
      rintro e w1 ⟨rfl, rfl⟩
      go_wp2_with fail
      go_region
      all_goals go_wp2_with fail
      all_goals go_ret2
      all_goals exact ⟨by rw [FM.out, FB.out]; rfl, ((Below.refl _ _).alloc (Nat.le_refl _) _).drew⟩
    · have d63 : (op == 63) = false := by simpa using h63
      by_cases h74 : op = 74
      · subst h74
        have FM : Hid (maskI 74 f = bits .or .u64 M 32505856) := by show _ = _; rw [maskI, if_neg (by decide), if_pos (by decide), hM]
        clear hM ht hf h98 d98 h63 d63
        go_enter Tryd.func26, Tryd.ntmps26
        go_wp2_with fail
        refine (hs _).mono ?_
        rintro e w1 ⟨rfl, rfl⟩
        go_wp2_with fail
        go_region
        all_goals go_wp2_with fail
        all_goals go_ret2
        all_goals exact ⟨by rw [FM.out, FB.out]; rfl, ((Below.refl _ _).alloc (Nat.le_refl _) _).drew⟩
      · have d74 : (op == 74) = false := by simpa using h74
        have FM : Hid (maskI op f = M) := by show _ = _; rw [maskI, if_neg h98, if_neg (by omega), hM]
        clear hM ht hf h98 h63 h74
        go_enter Tryd.func26, Tryd.ntmps26
        go_wp2_with fail
        refine (hs _).mono ?_
        rintro e w1 ⟨rfl, rfl⟩
        go_wp2_with fail
        go_region
        all_goals go_wp2_with fail
        all_goals go_ret2
        all_goals exact ⟨by rw [FM.out, FB.out]; rfl, ((Below.refl _ _).alloc (Nat.le_refl _) _).drew⟩

end Go.Proofs.YtjjpklalihaanaaDoor
