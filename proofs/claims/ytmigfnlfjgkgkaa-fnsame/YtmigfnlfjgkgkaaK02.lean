/- Own lemmas. -/
import Derived.Test.YtmigfnlfjgkgkaaK01
import Derived.WalkKit
import Derived.BigQuiet
import Derived.OwnWalk
import Derived.Test.YtmigfnlfjgkgkaaProg
import Derived.Great.BuildSlice
import Derived.Laws.BitsAllLaws
namespace Go.Proofs.Ytmigfnlfjgkgkaa
open Go.RowKit
set_option linter.unusedVariables false

def mst (x : Int) : Int := if (bits .and .u64 (bits .and .u64 x 924074 / 2048) 3 == 2) = true then bits .andNot .u64 (bits .and .u64 x 924074) 6144 else bits .and .u64 x 924074

def cfgByte (x : Int) (k : Nat) : Int :=
  if (bits .and .u64 (bits .and .u64 (x / 2 ^ (8 * k)) 159) 1 == 0) = true then bits .andNot .u64 (bits .and .u64 (x / 2 ^ (8 * k)) 159) 2 else bits .and .u64 (x / 2 ^ (8 * k)) 159

def cfgSum (x : Int) : Nat → Int
  | 0 => 0
  | k + 1 => bits .or .u64 (cfgSum x k) (IntKind.u64.wrap (cfgByte x k * 2 ^ (8 * k)))

def legal (p x : Int) : Int :=
  if p = 0 then mst x else if p = 1 then bits .and .u64 x 46079 else if p = 2 then bits .and .u64 x 546 else if p = 3 then bits .and .u64 x 2730
  else if p = 4 ∨ p = 10 then bits .andNot .u64 x 2 else if p = 6 ∨ p = 12 then bits .andNot .u64 x 3 else if p = 7 ∨ p = 13 then bits .and .u64 x 9223372036854775823
  else if p = 16 then cfgSum x 4 else if p = 17 ∨ p = 18 ∨ p = 19 ∨ p = 20 then bits .and .u64 x 18014398509481983 else x

def okAt (k : Nat) (x : Int) : Bool :=
  if k = 9 then (bits .and .u64 x 2730 == x) else if k = 15 then (x / 1152921504606846976 == 0) || (x / 1152921504606846976 == 8) else (legal k x == x)

def okRest (l : List Int) : Nat → Nat → Bool
  | 0, _ => true
  | n + 1, k => okAt k (l.getD k 0) && okRest l n (k + 1)

def csrsOk (n : Nat) (l : List Int) : Bool := decide (n = 22) && okRest l 22 0

theorem okRest_yes (l : List Int) (k : Nat) (hk : k < 22) (h : okAt k (l.getD k 0) = true) : okRest l (22 - k) k = okRest l (22 - (k + 1)) (k + 1) := by
  rw [show 22 - k = (22 - (k + 1)) + 1 from by omega, okRest, h, Bool.true_and]

theorem okRest_no (l : List Int) (k : Nat) (hk : k < 22) (h : okAt k (l.getD k 0) = false) : okRest l (22 - k) k = false := by
  rw [show 22 - k = (22 - (k + 1)) + 1 from by omega, okRest, h, Bool.false_and]

def csrNumbers : List Int := [768, 770, 771, 772, 773, 832, 833, 834, 835, 836, 261, 320, 321, 322, 323, 384, 928, 944, 945, 946, 947, 2818]

def privB (p : Int) : Bool := (p == 0) || (p == 1) || (p == 3)

def legalB (n : Nat) (l : List Int) (p : Int) : Bool := csrsOk n l && privB p

theorem l4Numbers_any (w : World) : Calls Try.prog 64 #[] w fun e w' => e = .returned (.slice (some ⟨w.heap.size, 0, none⟩) 22 22) ∧ w' = w.alloc (.cells (csrNumbers.map (Value.int .i64)).toArray 2) := by
  go_enter Try.func64, Try.ntmps64
  go_wp2_with fail
  go_ret
  exact ⟨rfl, rfl⟩

theorem l4Legal_1 (x : Int) (w : World) : Calls Try.prog 60 #[.int .i64 1, .int .u64 x] w fun e w' => e = .returned (.int .u64 (legal 1 x)) ∧ w' = w := by
  go_enter Try.func60, Try.ntmps60
  go_wp2_with fail
  go_ret
  exact ⟨rfl, rfl⟩

theorem l4Legal_2 (x : Int) (w : World) : Calls Try.prog 60 #[.int .i64 2, .int .u64 x] w fun e w' => e = .returned (.int .u64 (legal 2 x)) ∧ w' = w := by
  go_enter Try.func60, Try.ntmps60
  go_wp2_with fail
  go_ret
  exact ⟨rfl, rfl⟩

theorem l4Legal_3 (x : Int) (w : World) : Calls Try.prog 60 #[.int .i64 3, .int .u64 x] w fun e w' => e = .returned (.int .u64 (legal 3 x)) ∧ w' = w := by
  go_enter Try.func60, Try.ntmps60
  go_wp2_with fail
  go_ret
  exact ⟨rfl, rfl⟩

theorem l4Legal_4 (x : Int) (w : World) : Calls Try.prog 60 #[.int .i64 4, .int .u64 x] w fun e w' => e = .returned (.int .u64 (legal 4 x)) ∧ w' = w := by
  go_enter Try.func60, Try.ntmps60
  go_wp2_with fail
  go_ret
  exact ⟨rfl, rfl⟩

theorem l4Legal_10 (x : Int) (w : World) : Calls Try.prog 60 #[.int .i64 10, .int .u64 x] w fun e w' => e = .returned (.int .u64 (legal 10 x)) ∧ w' = w := by
  go_enter Try.func60, Try.ntmps60
  go_wp2_with fail
  go_ret
  exact ⟨rfl, rfl⟩

theorem l4Legal_6 (x : Int) (w : World) : Calls Try.prog 60 #[.int .i64 6, .int .u64 x] w fun e w' => e = .returned (.int .u64 (legal 6 x)) ∧ w' = w := by
  go_enter Try.func60, Try.ntmps60
  go_wp2_with fail
  go_ret
  exact ⟨rfl, rfl⟩

theorem l4Legal_12 (x : Int) (w : World) : Calls Try.prog 60 #[.int .i64 12, .int .u64 x] w fun e w' => e = .returned (.int .u64 (legal 12 x)) ∧ w' = w := by
  go_enter Try.func60, Try.ntmps60
  go_wp2_with fail
  go_ret
  exact ⟨rfl, rfl⟩

theorem l4Legal_7 (x : Int) (w : World) : Calls Try.prog 60 #[.int .i64 7, .int .u64 x] w fun e w' => e = .returned (.int .u64 (legal 7 x)) ∧ w' = w := by
  go_enter Try.func60, Try.ntmps60
  go_wp2_with fail
  go_ret
  exact ⟨rfl, rfl⟩

theorem l4Legal_13 (x : Int) (w : World) : Calls Try.prog 60 #[.int .i64 13, .int .u64 x] w fun e w' => e = .returned (.int .u64 (legal 13 x)) ∧ w' = w := by
  go_enter Try.func60, Try.ntmps60
  go_wp2_with fail
  go_ret
  exact ⟨rfl, rfl⟩

theorem l4Legal_17 (x : Int) (w : World) : Calls Try.prog 60 #[.int .i64 17, .int .u64 x] w fun e w' => e = .returned (.int .u64 (legal 17 x)) ∧ w' = w := by
  go_enter Try.func60, Try.ntmps60
  go_wp2_with fail
  go_ret
  exact ⟨rfl, rfl⟩

theorem l4Legal_18 (x : Int) (w : World) : Calls Try.prog 60 #[.int .i64 18, .int .u64 x] w fun e w' => e = .returned (.int .u64 (legal 18 x)) ∧ w' = w := by
  go_enter Try.func60, Try.ntmps60
  go_wp2_with fail
  go_ret
  exact ⟨rfl, rfl⟩

theorem l4Legal_19 (x : Int) (w : World) : Calls Try.prog 60 #[.int .i64 19, .int .u64 x] w fun e w' => e = .returned (.int .u64 (legal 19 x)) ∧ w' = w := by
  go_enter Try.func60, Try.ntmps60
  go_wp2_with fail
  go_ret
  exact ⟨rfl, rfl⟩

theorem l4Legal_20 (x : Int) (w : World) : Calls Try.prog 60 #[.int .i64 20, .int .u64 x] w fun e w' => e = .returned (.int .u64 (legal 20 x)) ∧ w' = w := by
  go_enter Try.func60, Try.ntmps60
  go_wp2_with fail
  go_ret
  exact ⟨rfl, rfl⟩

theorem l4Legal_0 (x : Int) (w : World) : Calls Try.prog 60 #[.int .i64 0, .int .u64 x] w fun e w' => e = .returned (.int .u64 (legal 0 x)) ∧ w' = w := by
  have F0 : legal 0 x = mst x := rfl
  unfold mst at F0
  obtain ⟨y, hy⟩ : ∃ y, bits .and .u64 x 924074 = y := ⟨_, rfl⟩
  rw [hy] at F0
  cases hc : (bits .and .u64 (y / 2048) 3 == 2) with
  | true =>
    have F : Hid (legal 0 x = bits .andNot .u64 y 6144) := by show _ = _; rw [F0, if_pos hc]
    clear F0
    go_enter Try.func60, Try.ntmps60
    go_wp2_with fail
    go_ret
    exact ⟨by rw [F.out]; rfl, rfl⟩
  | false =>
    have F : Hid (legal 0 x = y) := by show _ = _; rw [F0, if_neg (by rw [hc]; decide)]
    clear F0
    go_enter Try.func60, Try.ntmps60
    go_wp2_with fail
    go_ret
    exact ⟨by rw [F.out]; rfl, rfl⟩

set_option maxHeartbeats 800000 in
theorem l4Legal_16 (x : Int) (w : World) : Calls Try.prog 60 #[.int .i64 16, .int .u64 x] w fun e w' => e = .returned (.int .u64 (legal 16 x)) ∧ w' = w := by
  go_enter Try.func60, Try.ntmps60
  go_wp2_with fail
  go_loopw [5, 6] (fun y i wr => ∃ k : Nat, k ≤ 4 ∧ i = .int .u64 k ∧ y = .int .u64 (cfgSum x k) ∧ wr = w)
    (fun _ i _ => 4 - (intOf i).toNat)
  case atStart => exact ⟨0, by omega, rfl, rfl, rfl⟩
  case round =>
    obtain ⟨k, hk, rfl, rfl, rfl⟩ := hrel
    by_cases hlt : k < 4
    · have F0 : cfgSum x (k + 1) = bits .or .u64 (cfgSum x k) (IntKind.u64.wrap (cfgByte x k * 2 ^ (8 * k))) := rfl
      unfold cfgByte at F0
      have hk8 : IntKind.u64.wrap (8 * (k : Int)) = ((8 * k : Nat) : Int) := by rw [IntKind.wrap_u64]; omega
      have hlt8 : 8 * k < 64 := by omega
      have d : decide ((k : Int) < 4) = true := by simp; omega
      obtain ⟨b, hb⟩ : ∃ b, bits .and .u64 (x / 2 ^ (8 * k)) 159 = b := ⟨_, rfl⟩
      obtain ⟨y, hy⟩ : ∃ y, y = cfgSum x k := ⟨_, rfl⟩
      rw [hb, ← hy] at F0
      rw [← hy]
      cases hc : (bits .and .u64 b 1 == 0) with
      | true =>
        rw [if_pos hc] at F0
        have F : Hid (cfgSum x (k + 1) = bits .or .u64 y (IntKind.u64.wrap (bits .andNot .u64 b 2 * 2 ^ (8 * k)))) := F0
        clear F0 hy
        go_wp2_with fail
        go_roundw
        case rel => exact ⟨k + 1, by omega, by go_num, by rw [F.out], trivial⟩
        case measure => simp [intOf]; omega
      | false =>
        rw [if_neg (by rw [hc]; decide)] at F0
        have F : Hid (cfgSum x (k + 1) = bits .or .u64 y (IntKind.u64.wrap (b * 2 ^ (8 * k)))) := F0
        clear F0 hy
        go_wp2_with fail
        go_roundw
        case rel => exact ⟨k + 1, by omega, by go_num, by rw [F.out], trivial⟩
        case measure => simp [intOf]; omega
    · have hk4 : k = 4 := by omega
      subst hk4
      have F : Hid (legal 16 x = cfgSum x 4) := (rfl : legal 16 x = cfgSum x 4)
      generalize cfgSum x 4 = y at *
      go_wp2_with fail
      go_ret
      exact ⟨by rw [F.out]; rfl, rfl⟩

theorem legal_other {p : Int} (h : ¬ (p = 0 ∨ p = 1 ∨ p = 2 ∨ p = 3 ∨ p = 4 ∨ p = 10 ∨ p = 6 ∨ p = 12 ∨ p = 7 ∨ p = 13 ∨ p = 16 ∨ p = 17 ∨ p = 18 ∨ p = 19 ∨ p = 20)) (x : Int) : legal p x = x := by
  unfold legal
  rw [if_neg (by omega), if_neg (by omega), if_neg (by omega), if_neg (by omega), if_neg (by omega), if_neg (by omega), if_neg (by omega), if_neg (by omega), if_neg (by omega)]

set_option maxHeartbeats 800000 in
theorem l4Legal_any (p x : Int) (w : World) : Calls Try.prog 60 #[.int .i64 p, .int .u64 x] w fun e w' => e = .returned (.int .u64 (legal p x)) ∧ w' = w := by
  by_cases h : p = 0 ∨ p = 1 ∨ p = 2 ∨ p = 3 ∨ p = 4 ∨ p = 10 ∨ p = 6 ∨ p = 12 ∨ p = 7 ∨ p = 13 ∨ p = 16 ∨ p = 17 ∨ p = 18 ∨ p = 19 ∨ p = 20
  · rcases h with rfl | rfl | rfl | rfl | rfl | rfl | rfl | rfl | rfl | rfl | rfl | rfl | rfl | rfl | rfl
    · exact l4Legal_0 x w
    · exact l4Legal_1 x w
    · exact l4Legal_2 x w
    · exact l4Legal_3 x w
    · exact l4Legal_4 x w
    · exact l4Legal_10 x w
    · exact l4Legal_6 x w
    · exact l4Legal_12 x w
    · exact l4Legal_7 x w
    · exact l4Legal_13 x w
    · exact l4Legal_16 x w
    · exact l4Legal_17 x w
    · exact l4Legal_18 x w
    · exact l4Legal_19 x w
    · exact l4Legal_20 x w
  · have F : Hid (legal p x = x) := legal_other h x
    have d0 : (p == 0) = false := by simp; omega
    have d1 : (p == 1) = false := by simp; omega
    have d2 : (p == 2) = false := by simp; omega
    have d3 : (p == 3) = false := by simp; omega
    have d4 : (p == 4) = false := by simp; omega
    have d10 : (p == 10) = false := by simp; omega
    have d6 : (p == 6) = false := by simp; omega
    have d12 : (p == 12) = false := by simp; omega
    have d7 : (p == 7) = false := by simp; omega
    have d13 : (p == 13) = false := by simp; omega
    have d16 : (p == 16) = false := by simp; omega
    have d17 : (p == 17) = false := by simp; omega
    have d18 : (p == 18) = false := by simp; omega
    have d19 : (p == 19) = false := by simp; omega
    have d20 : (p == 20) = false := by simp; omega
    clear h
    go_enter Try.func60, Try.ntmps60
    go_wp2_with fail
    go_ret
    exact ⟨by rw [F.out]; rfl, rfl⟩

set_option maxHeartbeats 800000 in
theorem specCsrsOk_any (a : Option Addr) (n cap : Nat) (l : List Int) (w : World) (hz : l.length = n) (hs : Sl .u64 w a l) :
    Calls Try.prog 49 #[.slice a n cap] w fun e w' => e = .returned (.bool (csrsOk n l)) ∧ w' = w := by
  by_cases hn : n = 22
  · have hok : csrsOk n l = okRest l 22 0 := by simp [csrsOk, hn]
    rw [hok]
    have HZ : Hid (l.length = n) := hz
    subst hn
    clear hz hok
    go_enter Try.func49, Try.ntmps49
    go_wp2_with fail
    go_loopw [3] (fun i wr => ∃ k : Nat, k ≤ 22 ∧ i = .int .i64 k ∧ Hid (okRest l (22 - k) k = okRest l 22 0) ∧ wr = w)
      (fun i _ => 22 - (intOf i).toNat)
    case atStart => exact ⟨0, by omega, rfl, (rfl : okRest l (22 - 0) 0 = okRest l 22 0), rfl⟩
    case round =>
      obtain ⟨k, hk, rfl, hf, rfl⟩ := hrel
      by_cases hlt : k < 22
      · obtain ⟨b, off, rfl, hb, hc⟩ := hs k (by rw [HZ.out]; exact hlt)
        have Yes : okAt k (l.getD k 0) = true → Hid (okRest l (22 - (k + 1)) (k + 1) = okRest l 22 0) := fun h => (okRest_yes l k hlt h).symm.trans hf.out
        have No : okAt k (l.getD k 0) = false → Hid (okRest l 22 0 = false) := fun h => hf.out.symm.trans (okRest_no l k hlt h)
        generalize l.getD k 0 = x at *
        have dk : decide ((k : Int) < 22) = true := by simp; omega
        by_cases h9 : k = 9
        · subst h9
          cases ho : (bits .and .u64 x 2730 == x) with
          | true =>
            have F := Yes (by simpa [okAt] using ho)
            have d : (bits .and .u64 x 2730 != x) = false := by simp [bne, ho]
            clear Yes No
            go_wp2_with fail
            go_roundw
            case rel => exact ⟨9 + 1, by omega, by go_num, F, trivial⟩
            case measure => simp [intOf]
          | false =>
            have F := No (by simpa [okAt] using ho)
            have d : (bits .and .u64 x 2730 != x) = true := by simp [bne, ho]
            clear Yes No
            go_wp2_with fail
            go_ret
            exact ⟨by rw [F.out]; rfl, rfl⟩
        · have d9 : ((k : Int) == 9) = false := by simp; omega
          by_cases h15 : k = 15
          · subst h15
            have eo : okAt 15 x = ((x / 1152921504606846976 == 0) || (x / 1152921504606846976 == 8)) := by simp [okAt]
            obtain ⟨y, hy⟩ : ∃ y, x / 1152921504606846976 = y := ⟨_, rfl⟩
            rw [hy] at eo
            cases h0 : (y == 0) with
            | true =>
              have F := Yes (by rw [eo, h0]; rfl)
              have d : (y != 0) = false := by simp [bne, h0]
              clear Yes No eo
              go_wp2_with fail
              go_roundw
              case rel => exact ⟨15 + 1, by omega, by go_num, F, trivial⟩
              case measure => simp [intOf]
            | false =>
              have d : (y != 0) = true := by simp [bne, h0]
              cases h8 : (y == 8) with
              | true =>
                have F := Yes (by rw [eo, h0, h8]; rfl)
                have d2 : (y != 8) = false := by simp [bne, h8]
                clear Yes No eo
                go_wp2_with fail
                go_roundw
                case rel => exact ⟨15 + 1, by omega, by go_num, F, trivial⟩
                case measure => simp [intOf]
              | false =>
                have F := No (by rw [eo, h0, h8]; rfl)
                have d2 : (y != 8) = true := by simp [bne, h8]
                clear Yes No eo
                go_wp2_with fail
                go_ret
                exact ⟨by rw [F.out]; rfl, rfl⟩
          · have d15 : ((k : Int) == 15) = false := by simp; omega
            have ek : okAt k x = (legal k x == x) := by simp [okAt, h9, h15]
            cases ho : (legal k x == x) with
            | true =>
              have F := Yes (ek.trans ho)
              have d : (legal k x != x) = false := by simp [bne, ho]
              clear Yes No ek
              go_wp2_with fail
              refine (l4Legal_any _ _ _).mono ?_
              rintro e w1 ⟨rfl, hw1⟩
              subst hw1
              generalize legal k x = y at *
              go_wp2_with fail
              go_roundw
              case rel => exact ⟨k + 1, by omega, by go_num, F, trivial⟩
              case measure => simp [intOf]; omega
            | false =>
              have F := No (ek.trans ho)
              have d : (legal k x != x) = true := by simp [bne, ho]
              clear Yes No ek
              go_wp2_with fail
              refine (l4Legal_any _ _ _).mono ?_
              rintro e w1 ⟨rfl, hw1⟩
              subst hw1
              generalize legal k x = y at *
              go_wp2_with fail
              go_ret
              exact ⟨by rw [F.out]; rfl, rfl⟩
      · have hk2 : k = 22 := by omega
        subst hk2
        have F : Hid (okRest l 22 0 = true) := hf.out.symm
        go_wp2_with fail
        go_ret
        exact ⟨by rw [F.out]; rfl, rfl⟩
  · have F : Hid (csrsOk n l = false) := by show _ = _; simp [csrsOk, hn]
    have d : ((n : Int) != 22) = true := by simp; omega
    go_enter Try.func49, Try.ntmps49
    go_wp2_with fail
    go_ret
    exact ⟨by rw [F.out]; rfl, rfl⟩

end Go.Proofs.Ytmigfnlfjgkgkaa

namespace Go.Proofs.Ytmigfnlfjgkgkaa
open Go.RowKit
set_option linter.unusedVariables false

theorem l4Priv_any (p : Int) (w : World) : Calls Try.prog 50 #[.int .i64 p] w fun e w' => e = .returned (.bool (privB p)) ∧ w' = w := by
  cases h0 : (p == 0) with
  | true =>
    have F : Hid (privB p = true) := by show _ = _; simp [privB, h0]
    go_enter Try.func50, Try.ntmps50
    go_wp2_with fail
    go_ret
    exact ⟨by rw [F.out]; rfl, rfl⟩
  | false =>
    cases h1 : (p == 1) with
    | true =>
      have F : Hid (privB p = true) := by show _ = _; simp [privB, h1]
      go_enter Try.func50, Try.ntmps50
      go_wp2_with fail
      go_ret
      exact ⟨by rw [F.out]; rfl, rfl⟩
    | false =>
      have F : Hid (privB p = (p == 3)) := by show _ = _; simp [privB, h0, h1]
      obtain ⟨c, hc⟩ : ∃ c, (p == 3) = c := ⟨_, rfl⟩
      rw [hc] at F
      go_enter Try.func50, Try.ntmps50
      go_wp2_with fail
      go_ret
      exact ⟨by rw [F.out]; rfl, rfl⟩

theorem specLegal_any (a : Option Addr) (n cap : Nat) (l : List Int) (p : Int) (w : World) (hz : l.length = n) (hs : Sl .u64 w a l) :
    Calls Try.prog 33 #[.slice a n cap, .int .i64 p] w fun e w' => e = .returned (.bool (legalB n l p)) ∧ w' = w := by
  have HO : Hid (Calls Try.prog 49 #[.slice a n cap] w fun e w' => e = .returned (.bool (csrsOk n l)) ∧ w' = w) := specCsrsOk_any a n cap l w hz hs
  have HP : Hid (∀ w, Calls Try.prog 50 #[.int .i64 p] w fun e w' => e = .returned (.bool (privB p)) ∧ w' = w) := l4Priv_any p
  have F : Hid (legalB n l p = (csrsOk n l && privB p)) := (rfl : legalB n l p = _)
  generalize csrsOk n l = o at *
  generalize privB p = q at *
  clear hz hs
  cases o with
  | false =>
    go_enter Try.func33, Try.ntmps33
    go_wp2_with fail
    refine HO.out.mono ?_
    rintro e w1 ⟨rfl, hw1⟩
    subst hw1
    go_wp2_with fail
    go_ret
    exact ⟨by rw [F.out]; rfl, rfl⟩
  | true =>
    go_enter Try.func33, Try.ntmps33
    go_wp2_with fail
    refine HO.out.mono ?_
    rintro e w1 ⟨rfl, hw1⟩
    subst hw1
    go_wp2_with fail
    refine (HP.out _).mono ?_
    rintro e w2 ⟨rfl, hw2⟩
    subst hw2
    go_wp2_with fail
    go_ret
    exact ⟨by rw [F.out]; rfl, rfl⟩

end Go.Proofs.Ytmigfnlfjgkgkaa

namespace Go.Proofs.Ytmigfnlfjgkgkaa
open Go.RowKit
set_option linter.unusedVariables false

end Go.Proofs.Ytmigfnlfjgkgkaa

namespace Go.Proofs.Ytmigfnlfjgkgkaa
open Go.RowKit
set_option linter.unusedVariables false

theorem l1In_d (x a b : Int) (w : World) : Calls Try.prog 51 #[.int .i64 x, .int .i64 a, .int .i64 b] w fun e w' => e = .returned (.bool (decide (a ≤ x ∧ x ≤ b))) ∧ w' = w := by
  by_cases h1 : a ≤ x
  · by_cases h2 : x ≤ b
    · have F : Hid (decide (a ≤ x ∧ x ≤ b) = true) := by show decide (a ≤ x ∧ x ≤ b) = true; simp [h1, h2]
      have d1 : decide (a ≤ x) = true := by simpa using h1
      have d2 : decide (x ≤ b) = true := by simpa using h2
      clear h1 h2
      go_enter Try.func51, Try.ntmps51
      go_wp2
      go_ret
      exact ⟨by rw [F.out]; rfl, rfl⟩
    · have F : Hid (decide (a ≤ x ∧ x ≤ b) = false) := by show decide (a ≤ x ∧ x ≤ b) = false; simp [h2]
      have d1 : decide (a ≤ x) = true := by simpa using h1
      have d2 : decide (x ≤ b) = false := by simpa using h2
      clear h1 h2
      go_enter Try.func51, Try.ntmps51
      go_wp2
      go_ret
      exact ⟨by rw [F.out]; rfl, rfl⟩
  · have F : Hid (decide (a ≤ x ∧ x ≤ b) = false) := by show decide (a ≤ x ∧ x ≤ b) = false; simp [h1]
    have d1 : decide (a ≤ x) = false := by simpa using h1
    clear h1
    go_enter Try.func51, Try.ntmps51
    go_wp2
    go_ret
    exact ⟨by rw [F.out]; rfl, rfl⟩

end Go.Proofs.Ytmigfnlfjgkgkaa

namespace Go.Proofs.Ytmigfnlfjgkgkaa
open Go.RowKit
set_option linter.unusedVariables false

end Go.Proofs.Ytmigfnlfjgkgkaa

namespace Go.Proofs.Ytmigfnlfjgkgkaa
set_option linter.unusedVariables false

inductive Fm where | r | i | h | w | s | b | u | j | a | c | x
deriving DecidableEq

def Fm.str : Fm → ByteArray
  | .r => ⟨#[82]⟩ | .i => ⟨#[73]⟩ | .h => ⟨#[72]⟩ | .w => ⟨#[87]⟩ | .s => ⟨#[83]⟩ | .b => ⟨#[66]⟩ | .u => ⟨#[85]⟩ | .j => ⟨#[74]⟩ | .a => ⟨#[65]⟩ | .c => ⟨#[67]⟩ | .x => ⟨#[88]⟩

structure Row where
  name : ByteArray
  fm : Fm
  op : Int
  f3 : Int
  more : Int

def rows : List Row := [
  ⟨⟨#[108, 117, 105]⟩, .u, 55, (-1), 0⟩,
  ⟨⟨#[97, 117, 105, 112, 99]⟩, .u, 23, (-1), 0⟩,
  ⟨⟨#[106, 97, 108]⟩, .j, 111, (-1), 0⟩,
  ⟨⟨#[106, 97, 108, 114]⟩, .i, 103, 0, 0⟩,
  ⟨⟨#[98, 101, 113]⟩, .b, 99, 0, 0⟩,
  ⟨⟨#[98, 110, 101]⟩, .b, 99, 1, 0⟩,
  ⟨⟨#[98, 108, 116]⟩, .b, 99, 4, 0⟩,
  ⟨⟨#[98, 103, 101]⟩, .b, 99, 5, 0⟩,
  ⟨⟨#[98, 108, 116, 117]⟩, .b, 99, 6, 0⟩,
  ⟨⟨#[98, 103, 101, 117]⟩, .b, 99, 7, 0⟩,
  ⟨⟨#[108, 98]⟩, .i, 3, 0, 0⟩,
  ⟨⟨#[108, 104]⟩, .i, 3, 1, 0⟩,
  ⟨⟨#[108, 119]⟩, .i, 3, 2, 0⟩,
  ⟨⟨#[108, 100]⟩, .i, 3, 3, 0⟩,
  ⟨⟨#[108, 98, 117]⟩, .i, 3, 4, 0⟩,
  ⟨⟨#[108, 104, 117]⟩, .i, 3, 5, 0⟩,
  ⟨⟨#[108, 119, 117]⟩, .i, 3, 6, 0⟩,
  ⟨⟨#[115, 98]⟩, .s, 35, 0, 0⟩,
  ⟨⟨#[115, 104]⟩, .s, 35, 1, 0⟩,
  ⟨⟨#[115, 119]⟩, .s, 35, 2, 0⟩,
  ⟨⟨#[115, 100]⟩, .s, 35, 3, 0⟩,
  ⟨⟨#[97, 100, 100, 105]⟩, .i, 19, 0, 0⟩,
  ⟨⟨#[115, 108, 116, 105]⟩, .i, 19, 2, 0⟩,
  ⟨⟨#[115, 108, 116, 105, 117]⟩, .i, 19, 3, 0⟩,
  ⟨⟨#[120, 111, 114, 105]⟩, .i, 19, 4, 0⟩,
  ⟨⟨#[111, 114, 105]⟩, .i, 19, 6, 0⟩,
  ⟨⟨#[97, 110, 100, 105]⟩, .i, 19, 7, 0⟩,
  ⟨⟨#[115, 108, 108, 105]⟩, .h, 19, 1, 0⟩,
  ⟨⟨#[115, 114, 108, 105]⟩, .h, 19, 5, 0⟩,
  ⟨⟨#[115, 114, 97, 105]⟩, .h, 19, 5, 16⟩,
  ⟨⟨#[97, 100, 100, 105, 119]⟩, .i, 27, 0, 0⟩,
  ⟨⟨#[115, 108, 108, 105, 119]⟩, .w, 27, 1, 0⟩,
  ⟨⟨#[115, 114, 108, 105, 119]⟩, .w, 27, 5, 0⟩,
  ⟨⟨#[115, 114, 97, 105, 119]⟩, .w, 27, 5, 32⟩,
  ⟨⟨#[97, 100, 100]⟩, .r, 51, 0, 0⟩,
  ⟨⟨#[115, 117, 98]⟩, .r, 51, 0, 32⟩,
  ⟨⟨#[115, 108, 108]⟩, .r, 51, 1, 0⟩,
  ⟨⟨#[115, 108, 116]⟩, .r, 51, 2, 0⟩,
  ⟨⟨#[115, 108, 116, 117]⟩, .r, 51, 3, 0⟩,
  ⟨⟨#[120, 111, 114]⟩, .r, 51, 4, 0⟩,
  ⟨⟨#[115, 114, 108]⟩, .r, 51, 5, 0⟩,
  ⟨⟨#[115, 114, 97]⟩, .r, 51, 5, 32⟩,
  ⟨⟨#[111, 114]⟩, .r, 51, 6, 0⟩,
  ⟨⟨#[97, 110, 100]⟩, .r, 51, 7, 0⟩,
  ⟨⟨#[97, 100, 100, 119]⟩, .r, 59, 0, 0⟩,
  ⟨⟨#[115, 117, 98, 119]⟩, .r, 59, 0, 32⟩,
  ⟨⟨#[115, 108, 108, 119]⟩, .r, 59, 1, 0⟩,
  ⟨⟨#[115, 114, 108, 119]⟩, .r, 59, 5, 0⟩,
  ⟨⟨#[115, 114, 97, 119]⟩, .r, 59, 5, 32⟩,
  ⟨⟨#[109, 117, 108]⟩, .r, 51, 0, 1⟩,
  ⟨⟨#[109, 117, 108, 104]⟩, .r, 51, 1, 1⟩,
  ⟨⟨#[109, 117, 108, 104, 115, 117]⟩, .r, 51, 2, 1⟩,
  ⟨⟨#[109, 117, 108, 104, 117]⟩, .r, 51, 3, 1⟩,
  ⟨⟨#[100, 105, 118]⟩, .r, 51, 4, 1⟩,
  ⟨⟨#[100, 105, 118, 117]⟩, .r, 51, 5, 1⟩,
  ⟨⟨#[114, 101, 109]⟩, .r, 51, 6, 1⟩,
  ⟨⟨#[114, 101, 109, 117]⟩, .r, 51, 7, 1⟩,
  ⟨⟨#[109, 117, 108, 119]⟩, .r, 59, 0, 1⟩,
  ⟨⟨#[100, 105, 118, 119]⟩, .r, 59, 4, 1⟩,
  ⟨⟨#[100, 105, 118, 117, 119]⟩, .r, 59, 5, 1⟩,
  ⟨⟨#[114, 101, 109, 119]⟩, .r, 59, 6, 1⟩,
  ⟨⟨#[114, 101, 109, 117, 119]⟩, .r, 59, 7, 1⟩,
  ⟨⟨#[108, 114, 46, 119]⟩, .a, 47, 2, 2⟩,
  ⟨⟨#[115, 99, 46, 119]⟩, .a, 47, 2, 3⟩,
  ⟨⟨#[97, 109, 111, 115, 119, 97, 112, 46, 119]⟩, .a, 47, 2, 1⟩,
  ⟨⟨#[97, 109, 111, 97, 100, 100, 46, 119]⟩, .a, 47, 2, 0⟩,
  ⟨⟨#[97, 109, 111, 120, 111, 114, 46, 119]⟩, .a, 47, 2, 4⟩,
  ⟨⟨#[97, 109, 111, 97, 110, 100, 46, 119]⟩, .a, 47, 2, 12⟩,
  ⟨⟨#[97, 109, 111, 111, 114, 46, 119]⟩, .a, 47, 2, 8⟩,
  ⟨⟨#[97, 109, 111, 109, 105, 110, 46, 119]⟩, .a, 47, 2, 16⟩,
  ⟨⟨#[97, 109, 111, 109, 97, 120, 46, 119]⟩, .a, 47, 2, 20⟩,
  ⟨⟨#[97, 109, 111, 109, 105, 110, 117, 46, 119]⟩, .a, 47, 2, 24⟩,
  ⟨⟨#[97, 109, 111, 109, 97, 120, 117, 46, 119]⟩, .a, 47, 2, 28⟩,
  ⟨⟨#[108, 114, 46, 100]⟩, .a, 47, 3, 2⟩,
  ⟨⟨#[115, 99, 46, 100]⟩, .a, 47, 3, 3⟩,
  ⟨⟨#[97, 109, 111, 115, 119, 97, 112, 46, 100]⟩, .a, 47, 3, 1⟩,
  ⟨⟨#[97, 109, 111, 97, 100, 100, 46, 100]⟩, .a, 47, 3, 0⟩,
  ⟨⟨#[97, 109, 111, 120, 111, 114, 46, 100]⟩, .a, 47, 3, 4⟩,
  ⟨⟨#[97, 109, 111, 97, 110, 100, 46, 100]⟩, .a, 47, 3, 12⟩,
  ⟨⟨#[97, 109, 111, 111, 114, 46, 100]⟩, .a, 47, 3, 8⟩,
  ⟨⟨#[97, 109, 111, 109, 105, 110, 46, 100]⟩, .a, 47, 3, 16⟩,
  ⟨⟨#[97, 109, 111, 109, 97, 120, 46, 100]⟩, .a, 47, 3, 20⟩,
  ⟨⟨#[97, 109, 111, 109, 105, 110, 117, 46, 100]⟩, .a, 47, 3, 24⟩,
  ⟨⟨#[97, 109, 111, 109, 97, 120, 117, 46, 100]⟩, .a, 47, 3, 28⟩,
  ⟨⟨#[102, 101, 110, 99, 101]⟩, .i, 15, 0, 0⟩,
  ⟨⟨#[102, 101, 110, 99, 101, 46, 105]⟩, .i, 15, 1, 0⟩,
  ⟨⟨#[99, 115, 114, 114, 119]⟩, .c, 115, 1, 0⟩,
  ⟨⟨#[99, 115, 114, 114, 115]⟩, .c, 115, 2, 0⟩,
  ⟨⟨#[99, 115, 114, 114, 99]⟩, .c, 115, 3, 0⟩,
  ⟨⟨#[99, 115, 114, 114, 119, 105]⟩, .c, 115, 5, 0⟩,
  ⟨⟨#[99, 115, 114, 114, 115, 105]⟩, .c, 115, 6, 0⟩,
  ⟨⟨#[99, 115, 114, 114, 99, 105]⟩, .c, 115, 7, 0⟩,
  ⟨⟨#[101, 99, 97, 108, 108]⟩, .x, 115, 0, 0⟩,
  ⟨⟨#[101, 98, 114, 101, 97, 107]⟩, .x, 115, 0, 1⟩,
  ⟨⟨#[115, 114, 101, 116]⟩, .x, 115, 0, 258⟩,
  ⟨⟨#[109, 114, 101, 116]⟩, .x, 115, 0, 770⟩,
  ⟨⟨#[119, 102, 105]⟩, .x, 115, 0, 261⟩,
  ⟨⟨#[115, 102, 101, 110, 99, 101, 46, 118, 109, 97]⟩, .r, 115, 0, 9⟩]

def Row.cellsS (r : Row) : List Value := [.string r.name, .string r.fm.str, .int .u64 r.op, .int .i64 r.f3, .int .u64 r.more]

def cellsS : Array Value := (rows.flatMap Row.cellsS).toArray

theorem rows_len : rows.length = 98 := by rfl

theorem flat_drop {α β : Type} (f : α → List β) (m : Nat) : ∀ (l : List α), (∀ x ∈ l, (f x).length = m) → ∀ k (h : k < l.length), ((l.flatMap f).drop (k * m)).take m = f l[k] := by
  intro l
  induction l with
  | nil => intro _ k h; simp at h
  | cons x l ih =>
    intro hl k h
    have hx : (f x).length = m := hl x (by simp)
    cases k with
    | zero => simp [← hx]
    | succ k =>
      have e : (k + 1) * m = (f x).length + k * m := by rw [hx, Nat.succ_mul]; omega
      rw [e, List.flatMap_cons, List.drop_append, List.drop_of_length_le (by omega), Nat.add_sub_cancel_left]
      exact ih (fun y hy => hl y (by simp [hy])) k (by simpa using h)

theorem flat_get {α β : Type} (f : α → List β) (m : Nat) (l : List α) (hl : ∀ x ∈ l, (f x).length = m) (k : Nat) (h : k < l.length) (j : Nat) (hj : j < m) : (l.flatMap f)[k * m + j]? = (f l[k])[j]? := by
  rw [← flat_drop f m l hl k h]
  simp [hj]

def rowAt (k : Nat) : Row := rows.getD k ⟨⟨#[]⟩, .x, 0, 0, 0⟩

theorem rowAt_get (k : Nat) (h : k < 98) : rows[k]'(by rw [rows_len]; exact h) = rowAt k := by
  simp [rowAt, List.getD, List.getElem?_eq_getElem (show k < rows.length by rw [rows_len]; exact h)]

theorem cellsS_at (k : Nat) (h : k < 98) (j : Nat) (hj : j < 5) : cellsS[k * 5 + j]? = (rowAt k).cellsS[j]? := by
  have := flat_get Row.cellsS 5 rows (by intro x _; rfl) k (by rw [rows_len]; exact h) j hj
  rw [rowAt_get k h] at this
  rw [← this]
  simp [cellsS]

section
variable {P : Program}

def builds (P : Program) : List Oper → Act → Option Act
  | [], a => some a
  | o :: l, a =>
    match o.guard, o.op with
    | none, .build t parts =>
      match P.built t (parts.map fun (i, x) => (i, a.eval x)).toList with
      | some cells => builds P l (a.put o.dst (.agg cells))
      | none => none
    | _, _ => none

theorem wpList_builds {ops : Array Oper} {Q : Exit → Act → World → Prop} {w : World} : ∀ (l rest : List Oper) (a a' : Act), builds P l a = some a' → wpList P ops Q rest a' w → wpList P ops Q (l ++ rest) a w := by
  intro l
  induction l with
  | nil => intro rest a a' h hr; simp [builds] at h; subst h; exact hr
  | cons o l ih =>
    intro rest a a' h hr
    unfold builds at h
    split at h
    · rename_i t parts hg ho
      split at h
      · rename_i cells hc
        exact wpList_buildTo hg t parts ho o.dst rfl cells hc (ih _ _ _ h hr)
      · cases h
    · cases h

end

end Go.Proofs.Ytmigfnlfjgkgkaa

namespace Go.Proofs.Ytmigfnlfjgkgkaa
open Go.RowKit
set_option linter.unusedVariables false

theorem run_zero {P : Program} {t : TypeId} {z : Value} (h : (P.info? t).bind (·.zero) = some z) (w : World) : (zeroValue t).run P w = .ok z w := by
  cases hi : P.info? t with
  | none => rw [hi] at h; cases h
  | some i => rw [hi] at h; simp at h; simp [zeroValue, typeInfo, hi, h]

theorem wpList_allocZ {P : Program} {ops : Array Oper} {rest : List Oper} {o : Oper} {a : Act} {w : World} {Q : Exit → Act → World → Prop} (hg : o.guard = none) (t : TypeId) (ho : o.op = .alloc t) (d : Option Tmp) (hd : o.dst = d) (z : Value) (hz : (P.info? t).bind (·.zero) = some z)
    (h : wpList P ops Q rest (a.put d (.pointer (some ⟨w.heap.size, 0, none⟩))) (w.alloc (.cells z.cells t))) : wpList P ops Q (o :: rest) a w := by
  subst hd
  refine wpList_plain hg fun K hK => ?_
  have hrun : (execOp a.eval o).run P w = .ok (.value (.pointer (some ⟨w.heap.size, 0, none⟩))) (w.alloc (.cells z.cells t)) := by
    simp [execOp, ho, Instr.alloc, Sem.run_bind, run_zero hz, newVar, newRow]
  unfold Oper.wp
  rw [hrun, Oper.upon_value]
  exact hK _ _ h

theorem wpList_valTo {P : Program} {ops : Array Oper} {rest : List Oper} {o : Oper} {a : Act} {w : World} {Q : Exit → Act → World → Prop} (hg : o.guard = none) (d : Option Tmp) (hd : o.dst = d)
    (v : Value) (hrun : (execOp a.eval o).run P w = .ok (.value v) w)
    (h : wpList P ops Q rest (a.put d v) w) : wpList P ops Q (o :: rest) a w := by
  subst hd
  refine wpList_plain hg fun K hK => ?_
  unfold Oper.wp
  rw [hrun, Oper.upon_value]
  exact hK _ _ h

theorem below_setRow {B : Nat} {a w : World} (h : Below B a w) {g : Nat} (hg : B ≤ g) (cs : Array Value) : Below B a (w.setRow g cs) :=
  ⟨h.os, h.tape, h.output, by rw [setRow_size]; exact h.size, fun k hk => (setRow_other w g k cs (by omega)).trans (h.block k hk)⟩

theorem l2Row_info : (Try.prog.info? 82).map (fun i => (i.zero, i.size, i.bytes)) = some (some (.agg #[.string ⟨#[]⟩, .string ⟨#[]⟩, .int .u64 0, .int .i64 0, .int .u64 0]), 5, 56) := by kernel_rfl

def partsOf (rs : List (List Value)) : List (Nat × Value) := (rs.map fun c => Value.agg c.toArray).zipIdx.map fun (v, i) => (i, v)

theorem fillS : Instr.fill (fun i => some (i * 5, 5)) ((Array.range (98 * 5)).map ((Value.agg #[.string ⟨#[]⟩, .string ⟨#[]⟩, .int .u64 0, .int .i64 0, .int .u64 0]).cells[· % 5]!)) (partsOf (rows.map Row.cellsS)) = some cellsS := by kernel_rfl

theorem wpList_buildsSlice {P : Program} {ops : Array Oper} {Q : Exit → Act → World → Prop} {w : World} {l : List Oper} {a : Act} (n t e len : Nat) (d : Option Tmp) (ps : Array (Nat × Operand)) (vs : List (Nat × Value)) (cells : Array Value) (ie : TypeInfo) (z : Value)
    (h : (builds P (l.take n) a).map (fun a' => ((ps.map fun (i, x) => (i, a'.eval x)).toList, a'.tmps.size, a'.defers)) = some (vs, a.tmps.size, []))
    (hu : P.underlying t = some (.slice e)) (hie : P.info? e = some ie) (hz : ie.zero = some z) (hsmall : ¬ len * ie.size > 2 ^ 24) (hpos : ¬ len * ie.size = 0)
    (hf : Instr.fill (fun i => some (i * ie.size, ie.size)) ((Array.range (len * ie.size)).map (z.cells[· % z.cells.size]!)) vs = some cells)
    (ho : ((l.drop n)[0]?.map fun o => (o.guard, o.op, o.dst)) = some (none, .buildSlice t len ps, d))
    (hr : ∀ a' : Act, a'.tmps.size = a.tmps.size → a'.defers = [] → wpList P ops Q (l.drop (n + 1)) (a'.put d (.slice (some ⟨w.heap.size, 0, none⟩) len len)) (w.alloc (.cells cells e))) : wpList P ops Q l a w := by
  rw [← List.take_append_drop n l]
  cases hb : builds P (l.take n) a with
  | none => rw [hb] at h; cases h
  | some a' =>
    rw [hb] at h
    simp only [Option.map_some, Option.some.injEq, Prod.mk.injEq] at h
    refine wpList_builds _ _ _ _ hb ?_
    cases hd : l.drop n with
    | nil => rw [hd] at ho; cases ho
    | cons o rest =>
      rw [hd] at ho
      simp only [List.getElem?_cons_zero, Option.map_some, Option.some.injEq, Prod.mk.injEq] at ho
      have e1 : l.drop (n + 1) = rest := by rw [← List.drop_drop, hd]; rfl
      refine wpList_buildSlice ho.1 t e len ps ho.2.1 cells ie z hu hie hz hsmall hpos (by rw [h.1]; exact hf) ?_
      rw [ho.2.2, ← e1]
      exact hr a' h.2.1 h.2.2

set_option maxRecDepth 100000 in
set_option maxHeartbeats 4000000 in
theorem l2Rows_any (w : World) : Calls Try.prog 54 #[] w fun e w' => e = .returned (.slice (some ⟨w.heap.size, 0, none⟩) 98 98) ∧ w' = w.alloc (.cells cellsS 82) := by
  obtain ⟨i0, hi, hz0, hz1, hz2⟩ := info_parts l2Row_info
  go_enter Try.func54, Try.ntmps54
  apply wp_seq_k; intro K0 hK0
  apply wp_region_list
  refine wpList_valTo rfl (some 0) rfl (.slice none 0 0) (by kernel_rfl) ?_
  apply wpList_nil
  refine hK0 _ _ ?_
  clear hK0 K0
  apply wp_seq_k; intro K0 hK0
  apply wp_region_lit
  refine wpList_buildsSlice 98 79 82 98 (some 99) ((List.range 98).map fun i => (i, Operand.tmp (i + 1))).toArray (partsOf (rows.map Row.cellsS)) cellsS i0 _ (by kernel_rfl) Try.underlying79 hi hz0 (by rw [hz1]; decide) (by rw [hz1]; decide) (by rw [hz1]; exact fillS) (by kernel_rfl) ?_
  intro a' hs hd
  have hs2 : a'.tmps.size = 100 := hs
  clear hs
  refine wpList_valTo rfl (some 0) rfl (.slice (some ⟨w.heap.size, 0, none⟩) 98 98) ?_ ?_
  · have e : (a'.put (some 99) (.slice (some ⟨w.heap.size, 0, none⟩) 98 98)).eval (.tmp 99) = .slice (some ⟨w.heap.size, 0, none⟩) 98 98 := by
      simp [Act.put, Act.eval, hs2]
    simp [execOp, e]
  apply wpList_nil
  refine hK0 _ _ ?_
  clear hK0 K0
  apply wp_ret
  refine bodyPost_ret (results_tmp Try.results54 _ _ _) hd ⟨?_, rfl⟩
  simp [Act.put, hs2]

end Go.Proofs.Ytmigfnlfjgkgkaa

namespace Go.Proofs.Ytmigfnlfjgkgkaa
open Go.RowKit
set_option linter.unusedVariables false

def opB (op : Int) : Bool := decide (1 ≤ op ∧ op ≤ 98)

def formOf (op : Int) : ByteArray := if opB op then (rowAt (op - 1).toNat).fm.str else ⟨#[]⟩

theorem results_row2 {P : Program} {fn : Func} {p u : Tmp} {ty : TypeId} (h : fn.results = #[.cell p ty, .tmp u]) (tmps : Array Value) (w : World) (g : Nat) (t : TypeId) (cs : Array Value) (fr : Nat × Nat) (d : TypeDesc)
    (hp : tmps.getD p undef = .pointer (some ⟨g, 0, none⟩)) (hg : w.heap[g]? = some (.cells cs t fr))
    (hu : P.underlying ty = some d) (hd : (match d with | .struct _ | .array _ _ => true | _ => false) = true) (hi : (P.info? ty).map (·.size) = some cs.size) :
    (results fn tmps).run P w = .ok (.tuple #[.agg cs, tmps.getD u undef]) w := by
  rw [results_cell_tmp h, hp]
  simp [asAddr, run_loadVar_row w g t ty cs fr d hg hu hd hi]

theorem l1In_any (x a b : Int) (w : World) : Calls Try.prog 51 #[.int .i64 x, .int .i64 a, .int .i64 b] w fun e w' => e = .returned (.bool (decide (a ≤ x ∧ x ≤ b))) ∧ w' = w := by
  by_cases h1 : a ≤ x
  · by_cases h2 : x ≤ b
    · have F : Hid (decide (a ≤ x ∧ x ≤ b) = true) := by show decide (a ≤ x ∧ x ≤ b) = true; simp [h1, h2]
      have d1 : decide (a ≤ x) = true := by simpa using h1
      have d2 : decide (x ≤ b) = true := by simpa using h2
      clear h1 h2
      go_enter Try.func51, Try.ntmps51
      go_wp2
      go_ret
      exact ⟨by rw [F.out]; rfl, rfl⟩
    · have F : Hid (decide (a ≤ x ∧ x ≤ b) = false) := by show decide (a ≤ x ∧ x ≤ b) = false; simp [h2]
      have d1 : decide (a ≤ x) = true := by simpa using h1
      have d2 : decide (x ≤ b) = false := by simpa using h2
      clear h1 h2
      go_enter Try.func51, Try.ntmps51
      go_wp2
      go_ret
      exact ⟨by rw [F.out]; rfl, rfl⟩
  · have F : Hid (decide (a ≤ x ∧ x ≤ b) = false) := by show decide (a ≤ x ∧ x ≤ b) = false; simp [h1]
    have d1 : decide (a ≤ x) = false := by simpa using h1
    clear h1
    go_enter Try.func51, Try.ntmps51
    go_wp2
    go_ret
    exact ⟨by rw [F.out]; rfl, rfl⟩

def TabS (w : World) (g : Nat) : Prop := g < w.heap.size ∧ ∀ k, k < 98 → ∀ r, r = rowAt k → w.cell? ⟨g, k * 5, none⟩ = some (.string r.name) ∧ w.cell? ⟨g, k * 5 + 1, none⟩ = some (.string r.fm.str) ∧
  w.cell? ⟨g, k * 5 + 2, none⟩ = some (.int .u64 r.op) ∧ w.cell? ⟨g, k * 5 + 3, none⟩ = some (.int .i64 r.f3) ∧ w.cell? ⟨g, k * 5 + 4, none⟩ = some (.int .u64 r.more)

theorem TabS.below {w w' : World} {g : Nat} (h : TabS w g) {B : Nat} (hg : g < B) (hb : Below B w w') : TabS w' g := by
  refine ⟨Nat.lt_of_lt_of_le h.1 hb.size, fun k hk r hr => ?_⟩
  have H := h.2 k hk r hr
  have e : ∀ o, w'.cell? ⟨g, o, none⟩ = w.cell? ⟨g, o, none⟩ := fun o => hb.cell (p := ⟨g, o, none⟩) hg
  rw [e, e, e, e, e]; exact H

theorem l2Rows_T (w : World) : Calls Try.prog 54 #[] w fun e w' => e = .returned (.slice (some ⟨w.heap.size, 0, none⟩) 98 98) ∧ Hid (TabS w' w.heap.size) ∧ Below w.heap.size w w' :=
  (l2Rows_any w).mono fun e w' h => by
    obtain ⟨h1, rfl⟩ := h
    refine ⟨h1, ?_, (Below.refl _ _).alloc (Nat.le_refl _) _⟩
    show TabS _ _
    refine ⟨by simp, fun k hk r hr => ?_⟩
    subst hr
    have hg : (w.alloc (.cells cellsS 82)).heap[w.heap.size]? = some (.cells cellsS 82 (0, 0)) := heap_alloc_new _ _
    have e : ∀ j, j < 5 → (w.alloc (.cells cellsS 82)).cell? ⟨w.heap.size, k * 5 + j, none⟩ = (rowAt k).cellsS[j]? := by
      intro j hj
      rw [cell_of_row _ _ _ _ _ _ hg]
      exact cellsS_at k hk j hj
    exact ⟨e 0 (by decide), e 1 (by decide), e 2 (by decide), e 3 (by decide), e 4 (by decide)⟩

set_option maxHeartbeats 400000 in
theorem specForm_any (op : Int) (hw : (Lit.int .i64 op).wf = true) (w : World) : Calls Try.prog 57 #[.int .i64 op] w fun e w' => e = .returned (.string (formOf op)) ∧ Below w.heap.size w w' := by
  cases h : opB op with
  | false =>
    have F : Hid (opB op = false) := h
    have F2 : decide (1 ≤ op ∧ op ≤ 98) = false := h
    clear h
    go_enter Try.func57, Try.ntmps57
    go_wp2_with fail
    refine (l1In_any op 1 98 _).mono ?_
    rintro e w1 ⟨rfl, rfl⟩
    rw [F2]
    clear F2
    go_wp2_with fail
    go_ret
    exact ⟨by simp [formOf, F.out], Below.refl _ _⟩
  | true =>
    have F2 : decide (1 ≤ op ∧ op ≤ 98) = true := h
    have F3 : 1 ≤ op ∧ op ≤ 98 := of_decide_eq_true F2
    obtain ⟨k, hk⟩ : ∃ k : Nat, op = (k : Int) + 1 := ⟨(op - 1).toNat, by omega⟩
    have hk2 : k < 98 := by omega
    subst hk
    have F : Hid (opB ((k : Int) + 1) = true) := h
    clear h F3
    go_enter Try.func57, Try.ntmps57
    go_wp2_with fail
    refine (l1In_any _ 1 98 _).mono ?_
    rintro e w1 ⟨rfl, hw'⟩
    have hw2 := hw'.symm
    subst hw2
    rw [F2]
    clear F2 hw'
    go_wp2_with fail
    refine (l2Rows_T _).mono ?_
    rintro e w2 ⟨rfl, hT, hb⟩
    obtain ⟨r, hr0⟩ : ∃ r, r = rowAt k := ⟨_, rfl⟩
    have hr : Hid (r = rowAt k) := hr0
    clear hr0
    obtain ⟨c0, c1, c2, c3, c4⟩ := hT.out.2 k hk2 r hr.out
    go_wp2_with fail
    go_ret
    exact ⟨by simp [formOf, F.out, hr.out], hb⟩

def Fm.hasRd : Fm → Bool
  | .r => true | .i => true | .h => true | .w => true | .s => false | .b => false | .u => true | .j => true | .a => true | .c => true | .x => false

def Fm.hasA : Fm → Bool
  | .r => true | .i => true | .h => true | .w => true | .s => true | .b => true | .u => false | .j => false | .a => true | .c => true | .x => false

def Fm.hasB : Fm → Bool
  | .r => true | .i => false | .h => false | .w => false | .s => true | .b => true | .u => false | .j => false | .a => true | .c => false | .x => false

def Fm.width : Fm → Nat
  | .r => 64 | .i => 12 | .h => 64 | .w => 64 | .s => 12 | .b => 13 | .u => 32 | .j => 21 | .a => 64 | .c => 64 | .x => 64

structure Ins where
  op : Int
  rd : Int
  a : Int
  b : Int
  imm : Int
deriving DecidableEq

def Ins.val (i : Ins) : Value := .agg #[.int .i64 i.op, .int .i64 i.rd, .int .i64 i.a, .int .i64 i.b, .int .i64 i.imm]

def fld (x : Int) (k n : Nat) : Int := x / 2 ^ k % 2 ^ n

theorem fld_bd (x : Int) (k n : Nat) : 0 ≤ fld x k n ∧ fld x k n < 2 ^ n := by
  have hp : (0 : Int) < 2 ^ n := Int.pow_pos (by omega)
  exact ⟨Int.emod_nonneg _ (by omega), Int.emod_lt_of_pos _ hp⟩

theorem pow_le (m n : Nat) (h : m ≤ n) : (2 : Int) ^ m ≤ 2 ^ n := by
  obtain ⟨d, rfl⟩ := Nat.exists_eq_add_of_le h
  rw [Int.pow_add]
  have h1 : (0 : Int) < 2 ^ m := Int.pow_pos (by omega)
  have h2 : (0 : Int) < 2 ^ d := Int.pow_pos (by omega)
  have h3 : (2 : Int) ^ m * 1 ≤ 2 ^ m * 2 ^ d := Int.mul_le_mul_of_nonneg_left (by omega) (by omega)
  omega

theorem bitsAt_eq (x : Int) (k n : Nat) (h0 : 0 ≤ x) (h1 : x < 18446744073709551616) (hn : n < 64) :
    bits .and .u64 (x / 2 ^ k) (IntKind.u64.wrap (IntKind.u64.wrap (2 ^ n) - 1)) = fld x k n := by
  have hp : (0 : Int) < 2 ^ n := Int.pow_pos (by omega)
  have hk : (0 : Int) < 2 ^ k := Int.pow_pos (by omega)
  have hb : (2 : Int) ^ n ≤ 2 ^ 63 := pow_le n 63 (by omega)
  have e63 : (2 : Int) ^ 63 = 9223372036854775808 := by decide
  have e1 : IntKind.u64.wrap (2 ^ n) = 2 ^ n := by rw [IntKind.wrap_u64]; omega
  have e2 : IntKind.u64.wrap (2 ^ n - 1) = 2 ^ n - 1 := by rw [IntKind.wrap_u64]; omega
  have d0 : 0 ≤ x / 2 ^ k := Int.ediv_nonneg h0 (by omega)
  have d1 : x / 2 ^ k ≤ x := Int.ediv_le_self _ h0
  rw [e1, e2, u64_and _ _ d0 (by omega) (by omega) (by omega)]
  have e3 : (2 ^ n - 1 : Int).toNat = 2 ^ n - 1 := by
    have : (2 : Int) ^ n = ((2 ^ n : Nat) : Int) := by simp
    rw [this]; omega
  rw [e3, Nat.and_two_pow_sub_one_eq_mod]
  unfold fld
  have e4 : ((x / 2 ^ k).toNat : Int) = x / 2 ^ k := Int.toNat_of_nonneg d0
  rw [Int.natCast_emod, e4]
  simp

theorem or_field (a x k m : Nat) (h : a / 2 ^ k % 2 ^ m = 0) (hx : x < 2 ^ m) : a ||| x * 2 ^ k = a + x * 2 ^ k := by
  have hk : 0 < 2 ^ k := Nat.two_pow_pos k
  have hm : 0 < 2 ^ m := Nat.two_pow_pos m
  have e1 : a = a / 2 ^ k / 2 ^ m * 2 ^ (k + m) + a % 2 ^ k := by
    have h1 := Nat.div_add_mod a (2 ^ k)
    have h2 := Nat.div_add_mod (a / 2 ^ k) (2 ^ m)
    rw [h, Nat.add_zero] at h2
    rw [← h2] at h1
    rw [Nat.pow_add, ← Nat.mul_assoc, Nat.mul_right_comm, Nat.mul_comm _ (2 ^ k), Nat.mul_comm _ (2 ^ m)] 
    omega
  have hlo : a % 2 ^ k < 2 ^ k := Nat.mod_lt _ hk
  have j1 : a / 2 ^ k / 2 ^ m * 2 ^ (k + m) ||| a % 2 ^ k = a / 2 ^ k / 2 ^ m * 2 ^ (k + m) + a % 2 ^ k := by
    refine nat_join k _ _ ?_ hlo
    rw [Nat.pow_add, Nat.mul_comm (2 ^ k), ← Nat.mul_assoc]; exact Nat.mul_mod_left _ _
  have j2 : x * 2 ^ k ||| a % 2 ^ k = x * 2 ^ k + a % 2 ^ k := nat_join k _ _ (Nat.mul_mod_left _ _) hlo
  have hsm : x * 2 ^ k + a % 2 ^ k < 2 ^ (k + m) := by
    rw [Nat.pow_add, Nat.mul_comm (2 ^ k)]
    have : (x + 1) * 2 ^ k ≤ 2 ^ m * 2 ^ k := Nat.mul_le_mul_right _ hx
    rw [Nat.add_mul] at this
    omega
  have j3 : a / 2 ^ k / 2 ^ m * 2 ^ (k + m) ||| (x * 2 ^ k + a % 2 ^ k) = a / 2 ^ k / 2 ^ m * 2 ^ (k + m) + (x * 2 ^ k + a % 2 ^ k) := nat_join (k + m) _ _ (Nat.mul_mod_left _ _) hsm
  have e2 : a ||| x * 2 ^ k = a / 2 ^ k / 2 ^ m * 2 ^ (k + m) ||| (x * 2 ^ k ||| a % 2 ^ k) := by
    conv => lhs; rw [e1, ← j1]
    rw [Nat.or_assoc, Nat.or_comm (a % 2 ^ k)]
  rw [e2, j2, j3]
  omega

def matchP (i : Nat) (f : Fm) (o z m x : Int) : Prop := x % 128 = o ∧ (0 ≤ z → x / 4096 % 8 = z) ∧
  (match f with
  | .r => x / 33554432 = m ∧ (i = 97 → x / 128 % 32 = 0)
  | .h => x / 67108864 = m
  | .w => x / 33554432 = m
  | .a => x / 134217728 = m ∧ (i = 62 ∨ i = 73 → x / 1048576 % 32 = 0)
  | .x => x = m * 1048576 + o
  | _ => True)

instance (i : Nat) (f : Fm) (o z m x : Int) : Decidable (matchP i f o z m x) := by
  unfold matchP; cases f <;> infer_instance

theorem and_low (x : Int) (k : Nat) (h0 : 0 ≤ x) (h1 : x < 18446744073709551616) (hk : k < 64) : bits .and .u64 x (2 ^ k - 1) = x % 2 ^ k := by
  have h := bitsAt_eq x 0 k h0 h1 hk
  have hp : (0 : Int) < 2 ^ k := Int.pow_pos (by omega)
  have hb : (2 : Int) ^ k ≤ 2 ^ 63 := pow_le k 63 (by omega)
  have e63 : (2 : Int) ^ 63 = 9223372036854775808 := by decide
  have e1 : IntKind.u64.wrap (2 ^ k) = 2 ^ k := by rw [IntKind.wrap_u64]; omega
  have e2 : IntKind.u64.wrap (2 ^ k - 1) = 2 ^ k - 1 := by rw [IntKind.wrap_u64]; omega
  rw [e1, e2] at h
  simpa [fld] using h

def widen (n : Nat) (x : Int) : Int := IntKind.u64.wrap (RowKit.wrap64 (IntKind.u64.wrap (x * 2 ^ (64 - n))) / 2 ^ (64 - n))

def immU (f : Fm) (x : Int) : Int :=
  match f with
  | .i => x / 1048576
  | .h => x / 1048576 % 64
  | .w => x / 1048576 % 32
  | .s => x / 33554432 * 32 + x / 128 % 32
  | .b => x / 2147483648 * 4096 + x / 128 % 2 * 2048 + x / 33554432 % 64 * 32 + x / 256 % 16 * 2
  | .u => x / 4096 * 4096
  | .j => x / 2147483648 * 1048576 + x / 4096 % 256 * 4096 + x / 1048576 % 2 * 2048 + x / 2097152 % 1024 * 2
  | .a => x / 33554432 % 4
  | .c => x / 1048576
  | .r => 0
  | .x => 0

def immV (f : Fm) (x : Int) : Int := RowKit.wrap64 (widen f.width (immU f x))

theorem widen64 (u : Int) (h0 : 0 ≤ u) (h1 : u < 9223372036854775808) : RowKit.wrap64 (widen 64 u) = u := by
  have e : (2 : Int) ^ (64 - 64) = 1 := by decide
  unfold widen
  rw [e, IntKind.wrap_u64, IntKind.wrap_u64]
  unfold RowKit.wrap64
  omega

theorem or64 (a x : Int) (k m : Nat) (h0 : 0 ≤ a) (h1 : a < 18446744073709551616) (hx : 0 ≤ x) (hx2 : x < 2 ^ m) (hkm : k + m ≤ 64) (h : a / 2 ^ k % 2 ^ m = 0) : bits .or .u64 a (x * 2 ^ k) = a + x * 2 ^ k := by
  obtain ⟨A, rfl⟩ := Int.eq_ofNat_of_zero_le h0
  obtain ⟨X, rfl⟩ := Int.eq_ofNat_of_zero_le hx
  have hX : X < 2 ^ m := by
    have : ((X : Nat) : Int) < ((2 ^ m : Nat) : Int) := by simpa using hx2
    omega
  have hA : A / 2 ^ k % 2 ^ m = 0 := by
    have : (((A / 2 ^ k % 2 ^ m : Nat)) : Int) = 0 := by simpa using h
    omega
  have e : ((X : Int) * 2 ^ k) = ((X * 2 ^ k : Nat) : Int) := by simp
  have hb : X * 2 ^ k < 18446744073709551616 := by
    have h2 : X * 2 ^ k < 2 ^ m * 2 ^ k := Nat.mul_lt_mul_of_pos_right hX (Nat.two_pow_pos k)
    rw [← Nat.pow_add] at h2
    have h3 : 2 ^ (m + k) ≤ 2 ^ 64 := Nat.pow_le_pow_right (by omega) (by omega)
    have e64 : 2 ^ 64 = 18446744073709551616 := by decide
    omega
  rw [e, u64_or_nat A (X * 2 ^ k) (by omega) hb, or_field A X k m hA hX]
  simp

end Go.Proofs.Ytmigfnlfjgkgkaa

namespace Go.Proofs.Ytmigfnlfjgkgkaa
open Go.RowKit
set_option linter.unusedVariables false

def entryV (f b : Int) : Int := if (f / 17592186044416 != 0) = true then 0 else if decide (0 ≤ b ∧ b ≤ 255) = true then bits .or .u64 (IntKind.u64.wrap (f * 1024)) (IntKind.u64.wrap b) else 0

theorem specEntry_any (f b : Int) (w : World) : Calls Try.prog 61 #[.int .u64 f, .int .i64 b] w fun e w' => e = .returned (.int .u64 (entryV f b)) ∧ w' = w := by
  have HI : Hid (∀ w, Calls Try.prog 51 #[.int .i64 b, .int .i64 0, .int .i64 255] w fun e w' => e = .returned (.bool (decide (0 ≤ b ∧ b ≤ 255))) ∧ w' = w) := l1In_d b 0 255
  have F : Hid (entryV f b = if (f / 17592186044416 != 0) = true then 0 else if decide (0 ≤ b ∧ b ≤ 255) = true then bits .or .u64 (IntKind.u64.wrap (f * 1024)) (IntKind.u64.wrap b) else 0) := (rfl : entryV f b = _)
  generalize entryV f b = v at *
  generalize decide (0 ≤ b ∧ b ≤ 255) = q at *
  cases d : (f / 17592186044416 != 0) with
  | true =>
    have F2 : Hid (v = 0) := by show v = 0; rw [F.out, d]; exact if_pos rfl
    clear F
    go_enter Try.func61, Try.ntmps61
    go_wp2_with fail
    go_ret
    exact ⟨by rw [F2.out]; rfl, rfl⟩
  | false =>
    have F1 : v = if q = true then bits .or .u64 (IntKind.u64.wrap (f * 1024)) (IntKind.u64.wrap b) else 0 := by rw [F.out, d]; exact if_neg (by decide)
    clear F
    cases q with
    | false =>
      have F2 : Hid (v = 0) := F1.trans (if_neg (by decide))
      clear F1
      go_enter Try.func61, Try.ntmps61
      go_wp2_with fail
      refine (HI.out _).mono ?_
      rintro e wx ⟨rfl, hwx⟩
      have hwy := hwx.symm
      subst hwy
      go_wp2_with fail
      go_ret
      exact ⟨by rw [F2.out]; rfl, rfl⟩
    | true =>
      have F2 : Hid (v = bits .or .u64 (IntKind.u64.wrap (f * 1024)) (IntKind.u64.wrap b)) := F1.trans (if_pos rfl)
      clear F1
      go_enter Try.func61, Try.ntmps61
      go_wp2_with fail
      refine (HI.out _).mono ?_
      rintro e wx ⟨rfl, hwx⟩
      have hwy := hwx.symm
      subst hwy
      go_wp2_with fail
      go_ret
      exact ⟨by rw [F2.out]; rfl, rfl⟩

theorem bitsAt_any (x : Int) (k n : Nat) (h0 : 0 ≤ x) (h1 : x < 18446744073709551616) (hk : k < 64) (hn : n < 64) (w : World) :
    Calls Try.prog 21 #[.int .u64 x, .int .i64 k, .int .i64 n] w fun e w' => e = .returned (.int .u64 (fld x k n)) ∧ w' = w.drew := by
  have F : Hid (bits .and .u64 (x / 2 ^ k) (IntKind.u64.wrap (IntKind.u64.wrap (2 ^ n) - 1)) = fld x k n) := bitsAt_eq x k n h0 h1 hn
  go_enter Try.func21, Try.ntmps21
  go_wp2_with fail
  go_region
  all_goals go_wp2_with fail
  all_goals go_ret
  all_goals exact ⟨by rw [← F.out]; rfl, rfl⟩

theorem l1Widen_any (x : Int) (n : Nat) (h1 : 1 ≤ n) (h2 : n ≤ 64) (w : World) :
    Calls Try.prog 65 #[.int .u64 x, .int .u64 n] w fun e w' => e = .returned (.int .u64 (widen n x)) ∧ w' = w := by
  obtain ⟨m, hm, hm0⟩ : ∃ m : Nat, (64 : Int) - (n : Int) = (m : Int) ∧ m = 64 - n := ⟨64 - n, by omega, rfl⟩
  have F : Hid (IntKind.u64.wrap (wrap64 (IntKind.u64.wrap (x * 2 ^ m)) / 2 ^ m) = widen n x) := by
    show _ = _
    rw [hm0]; rfl
  clear hm0
  have hm2 : IntKind.u64.wrap (m : Int) = m := by rw [IntKind.wrap_u64]; omega
  go_enter Try.func65, Try.ntmps65
  go_wp2_with fail
  go_ret
  exact ⟨by rw [← F.out]; rfl, rfl⟩

def U (x : Int) : Prop := 0 ≤ x ∧ x < 18446744073709551616

def bt (x : Int) (i : Nat) : Bool := (BitVec.ofInt 64 x).getLsbD i

theorem U_wrap (x : Int) : U (IntKind.u64.wrap x) := by
  rw [IntKind.wrap_u64]; exact ⟨Int.emod_nonneg _ (by omega), Int.emod_lt_of_pos _ (by omega)⟩

theorem U_bits (o : BinOp) (x y : Int) : U (bits o .u64 x y) := U_wrap _

theorem ofInt_wrap (x : Int) : BitVec.ofInt 64 (IntKind.u64.wrap x) = BitVec.ofInt 64 x := by
  rw [IntKind.wrap_u64]
  apply BitVec.eq_of_toInt_eq
  rw [BitVec.toInt_ofInt, BitVec.toInt_ofInt]
  exact Int.emod_bmod x (2 ^ 64)

theorem ofInt_bv (v : BitVec 64) : BitVec.ofInt 64 (IntKind.u64.wrap (v.toNat : Int)) = v := by
  rw [ofInt_wrap]
  simp

theorem bt_and (x y : Int) (i : Nat) : bt (bits .and .u64 x y) i = (bt x i && bt y i) := by
  show (BitVec.ofInt 64 (IntKind.u64.wrap ((BitVec.ofInt 64 x &&& BitVec.ofInt 64 y).toNat : Int))).getLsbD i = _
  rw [ofInt_bv]; simp [bt]

theorem bt_andNot (x y : Int) (i : Nat) (hi : i < 64) : bt (bits .andNot .u64 x y) i = (bt x i && !bt y i) := by
  show (BitVec.ofInt 64 (IntKind.u64.wrap ((BitVec.ofInt 64 x &&& ~~~BitVec.ofInt 64 y).toNat : Int))).getLsbD i = _
  rw [ofInt_bv]; simp [bt, hi]

theorem bt_nat (x : Int) (h : U x) (i : Nat) : bt x i = x.toNat.testBit i := by
  obtain ⟨h0, h1⟩ := h
  obtain ⟨n, rfl⟩ := Int.eq_ofNat_of_zero_le h0
  have hn : n < 2 ^ 64 := by omega
  unfold bt
  rw [← BitVec.testBit_toNat, ofInt_u64 n (by omega), Int.toNat_natCast]

theorem bt_ext (x y : Int) (hx : U x) (hy : U y) (h : ∀ i, i < 64 → bt x i = bt y i) : x = y := by
  have e : BitVec.ofInt 64 x = BitVec.ofInt 64 y := BitVec.eq_of_getLsbD_eq (fun i hi => h i hi)
  have e2 := congrArg BitVec.toNat e
  obtain ⟨h0, h1⟩ := hx
  obtain ⟨h2, h3⟩ := hy
  obtain ⟨n, rfl⟩ := Int.eq_ofNat_of_zero_le h0
  obtain ⟨m, rfl⟩ := Int.eq_ofNat_of_zero_le h2
  rw [ofInt_u64 n (by omega), ofInt_u64 m (by omega)] at e2
  rw [e2]

theorem U_div (x : Int) (h : U x) (k : Nat) : U (x / 2 ^ k) := by
  have hk : (0 : Int) < 2 ^ k := Int.pow_pos (by omega)
  exact ⟨Int.ediv_nonneg h.1 (by omega), Int.lt_of_le_of_lt (Int.ediv_le_self _ h.1) h.2⟩

theorem toNat_div (x : Int) (h : 0 ≤ x) (k : Nat) : (x / 2 ^ k).toNat = x.toNat / 2 ^ k := by
  obtain ⟨n, rfl⟩ := Int.eq_ofNat_of_zero_le h
  have : ((n : Int) / 2 ^ k) = ((n / 2 ^ k : Nat) : Int) := by simp
  rw [this, Int.toNat_natCast, Int.toNat_natCast]

theorem bt_div (x : Int) (h : U x) (k i : Nat) : bt (x / 2 ^ k) i = bt x (i + k) := by
  rw [bt_nat _ (U_div x h k), bt_nat _ h, toNat_div _ h.1, Nat.testBit_div_two_pow]

theorem U_fld (x : Int) (k n : Nat) (hn : n < 64) : U (fld x k n) := by
  have := fld_bd x k n
  have h2 := pow_le n 63 (by omega)
  have e63 : (2 : Int) ^ 63 = 9223372036854775808 := by decide
  exact ⟨this.1, by omega⟩

theorem bt_fld (x : Int) (h : U x) (k n i : Nat) (hn : n < 64) : bt (fld x k n) i = (decide (i < n) && bt x (i + k)) := by
  rw [bt_nat _ (U_fld x k n hn), ← bt_div x h, bt_nat _ (U_div x h k)]
  unfold fld
  have hd := (U_div x h k).1
  obtain ⟨m, hm⟩ := Int.eq_ofNat_of_zero_le hd
  rw [hm]
  have : ((m : Int) % 2 ^ n) = ((m % 2 ^ n : Nat) : Int) := by simp
  rw [this, Int.toNat_natCast, Int.toNat_natCast, Nat.testBit_mod_two_pow]

def memM (M : MV) (R : List Int) : MV := ⟨M.pc, M.x, M.pr, M.cs, R, M.d, M.hd, M.hl, M.wt⟩

def devM (M : MV) (D : DV) : MV := ⟨M.pc, M.x, M.pr, M.cs, M.ram, D, M.hd, M.hl, M.wt⟩

theorem Fam.sub {B E : Nat} {w : World} {L L' : List FRow} (h : Fam B E w L) (hs : L'.Sublist L) : Fam B E w L' :=
  ⟨fun q hq => h.own q (hs.subset hq), fun q hq => h.hi q (hs.subset hq), h.ne.sublist hs⟩

theorem Fam.ins {B E E' : Nat} {w : World} {L1 L2 : List FRow} {q : FRow} (h : Fam B E w (L1 ++ L2)) (hq : w.ownsRow E q.t 1 q.v q.n q.xs) (h1 : B ≤ E) (h2 : w.heap.size ≤ E') (h3 : E ≤ E') : Fam B E' w (L1 ++ q :: L2) := by
  have hne := List.pairwise_append.1 h.ne
  have hi : ∀ s ∈ L1 ++ L2, ∀ k, s.v.ownBlock = some k → k < E := fun s hs k e => h.hi s hs k e
  have lo : ∀ k, q.v.ownBlock = some k → E ≤ k ∧ k < w.heap.size := fun k e => hq.lt k e
  refine ⟨fun s hs => ?_, fun s hs k e => ?_, List.pairwise_append.2 ⟨hne.1, List.pairwise_cons.2 ⟨fun s hs k e e2 => ?_, hne.2.1⟩, fun s hs t ht k e e2 => ?_⟩⟩
  · rcases List.mem_append.1 hs with hs | hs
    · exact h.own s (List.mem_append_left _ hs)
    · rcases List.mem_cons.1 hs with rfl | hs
      · exact own_low hq h1
      · exact h.own s (List.mem_append_right _ hs)
  · rcases List.mem_append.1 hs with hs | hs
    · have := hi s (List.mem_append_left _ hs) k e; omega
    · rcases List.mem_cons.1 hs with rfl | hs
      · have := lo k e; omega
      · have := hi s (List.mem_append_right _ hs) k e; omega
  · have := lo k e
    have := hi s (List.mem_append_right _ hs) k e2
    omega
  · rcases List.mem_cons.1 ht with rfl | ht
    · have := lo k e2
      have := hi s (List.mem_append_left _ hs) k e
      omega
    · exact hne.2.2 s hs t ht k e e2

theorem Fam.app {B E E' : Nat} {w : World} {L1 L2 : List FRow} (h : Fam B E w L1) (h2 : Fam E E' w L2) (h1 : B ≤ E) (h3 : E ≤ E') : Fam B E' w (L1 ++ L2) := by
  refine ⟨fun s hs => ?_, fun s hs k e => ?_, List.pairwise_append.2 ⟨h.ne, h2.ne, fun s hs t ht k e e2 => ?_⟩⟩
  · rcases List.mem_append.1 hs with hs | hs
    · exact h.own s hs
    · exact own_low (h2.own s hs) h1
  · rcases List.mem_append.1 hs with hs | hs
    · have := h.hi s hs k e; omega
    · exact h2.hi s hs k e
  · have := h.hi s hs k e
    have := ((h2.own t ht).lt k e2).1
    omega

def devA (A : MA) (b1 : Option Addr) (d1 : Nat) (b2 : Option Addr) (d2 : Nat) : MA := ⟨A.ax, A.cx, A.ac, A.cc, A.ar, A.cr, b1, d1, b2, d2⟩

theorem Mp.fam_set {B r : Nat} {L : List FRow} {w : World} (h : Fam B w.heap.size w L) (hne : ∀ q ∈ L, q.v.ownBlock ≠ some r) (i : Nat) (v : Value) : Fam B (w.setCell ⟨r, i, none⟩ v).heap.size (w.setCell ⟨r, i, none⟩ v) L :=
  ⟨fun q hq => fown_of (h.own q hq) (fun k e => Below.heap_setCell w ⟨r, i, none⟩ v k (fun e2 => hne q hq (by rw [show r = k from e2.symm]; exact e))), fun q hq k e => by rw [size_set]; exact h.hi q hq k e, h.ne⟩

theorem l1Put_mp (M : MV) (A : MA) (B r : Nat) (addr size x : Int) (w : World) (hl : M.ram.length ≤ 1048576) (hok : okB M.ram.length addr size = true) (hx0 : 0 ≤ x) (hx1 : x ≤ 18446744073709551615) (h : Mp B r M A w) :
    Calls Try.prog 43 #[.slice A.ar M.ram.length A.cr, .int .u64 addr, .int .i64 size, .int .u64 x] w fun e w' => e = .returned (.tuple #[]) ∧ Mp B r (memM M (put M.ram (addr - 2147483648).toNat x size.toNat)) A w' ∧ Kx r (mvF M A) (mvF (memM M (put M.ram (addr - 2147483648).toNat x size.toNat)) A) w w' := by
  have hb := okB_true hok
  obtain ⟨f, hf⟩ : ∃ f : Nat, f = (addr - 2147483648).toNat := ⟨_, rfl⟩
  obtain ⟨m, hm⟩ : ∃ m : Nat, m = size.toNat := ⟨_, rfl⟩
  have ea : addr = 2147483648 + (f : Int) := by omega
  have es : size = (m : Int) := by omega
  have hmem : bRow A.ar M.ram.length A.cr M.ram ∈ mvF M A := by simp [mvF]
  have ho := h.fam.own _ hmem
  have hfm : f + m ≤ M.ram.length := by omega
  have hg : ∃ g, A.ar = some ⟨g, 0, none⟩ := by
    rcases ho.2 with ⟨e, e0⟩ | ⟨g', cap, cur, e, _⟩
    · have : M.ram.length = 0 := e0; omega
    · have e2 : Value.slice A.ar M.ram.length A.cr = .slice (some ⟨g', 0, none⟩) M.ram.length cap := e
      injection e2 with e3
      exact ⟨g', e3⟩
  obtain ⟨g, hg⟩ := hg
  have hplen : (put M.ram f x m).length = M.ram.length := put_len _ _ _ _
  rw [← hf, ← hm]
  rw [ea, es]
  have ho2 : w.ownsRow B 5 1 (.slice (some ⟨g, 0, none⟩) M.ram.length A.cr) M.ram.length (M.ram.map (Value.int .u8)) := by rw [← hg]; exact ho
  rw [hg]
  refine (l1Put_any g M.ram.length A.cr f m B M.ram x w hl (by omega) hfm hx0 hx1 ho2).mono fun e w' ⟨h1, h2, h3⟩ => ⟨h1, ?_⟩
  have hgr : w.grownBy w' (bRow A.ar M.ram.length A.cr M.ram).v.ownBlock := by
    have e : (bRow A.ar M.ram.length A.cr M.ram).v.ownBlock = some g := by show (Value.slice A.ar M.ram.length A.cr).ownBlock = _; rw [hg]; rfl
    rw [e]; exact h3
  have hst : w'.ownsRow B 5 1 (bRow A.ar M.ram.length A.cr M.ram).v M.ram.length ((put M.ram f x m).map (Value.int .u8)) := by
    show w'.ownsRow B 5 1 (.slice A.ar M.ram.length A.cr) _ _
    rw [hg]; exact h2
  have hmk := Fam.markL (L1 := [wRow A.ax M.x.length A.cx M.x, wRow A.ac M.cs.length A.cc M.cs]) (L2 := [bRow A.ai M.d.xs.length A.ci M.d.xs, bRow A.ao M.d.ys.length A.co M.d.ys]) (r := bRow A.ar M.ram.length A.cr M.ram) h.fam hgr _ hst
  have hsame := mvF_same (M := M) (M' := memM M (put M.ram f x m)) (A := A) rfl rfl hplen rfl rfl
  have hF : Fam B w.heap.size w' (mvF (memM M (put M.ram f x m)) A) := by
    unfold mvF memM
    dsimp only
    rw [hplen]
    exact hmk.1
  refine ⟨⟨?_, hF.low (Nat.le_refl _) h3.size, fun q hq e => ?_, h.lo⟩, Kx.of_keepL hmk.2 hsame⟩
  · have hr : w'.heap[r]? = w.heap[r]? := hmk.2.block r h.lt (fun q hq e => h.ne q hq e)
    rw [hr, h.row]
    unfold mvc memM
    dsimp only
    rw [hplen]
  · obtain ⟨q0, h0, e0⟩ := hsame q hq
    exact h.ne q0 h0 (by rw [e0]; exact e)

theorem and_i64 (z : Int) (m : Nat) (hm : m < 9223372036854775808) : 0 ≤ bits .and .i64 z (m : Int) ∧ bits .and .i64 z (m : Int) ≤ m := by
  have e : bits .and .i64 z (m : Int) = wrap64 (((BitVec.ofInt 64 z).toNat &&& m : Nat) : Int) := by
    show IntKind.i64.wrap ((BitVec.ofInt 64 z &&& BitVec.ofInt 64 (m : Int)).toNat : Int) = _
    rw [BitVec.toNat_and, BitVec.ofInt_natCast, BitVec.toNat_ofNat, Nat.mod_eq_of_lt (show m < 2 ^ 64 by omega)]
    rw [IntKind.wrap_i64]; unfold wrap64; rfl
  have h : (BitVec.ofInt 64 z).toNat &&& m ≤ m := Nat.and_le_right
  rw [e]
  unfold wrap64
  omega

structure Code (w0 : World) (a : Option Addr) (n : Nat) (zs : List Int) : Prop where
  len : zs.length = n
  few : n ≤ 4096
  sl : Sl .u8 w0 a zs
  bd : ∀ y ∈ zs, (Lit.int .u8 y).wf = true

structure Cur (w0 w : World) (g : Nat) (a : Option Addr) (n cap : Nat) : Prop where
  new : w0.heap.size ≤ g
  below : Below w0.heap.size w0 w
  row : ∃ (i : Nat) (h : Int), i ≤ n ∧ w.heap[g]? = some (.cells #[.slice a n cap, .int .i64 (i : Int), .int .i64 h] 49 (0, 0))

theorem grown_set (w : World) (g i : Nat) (v : Value) : w.grownBy (w.setCell ⟨g, i, none⟩ v) (some g) :=
  ⟨rfl, rfl, rfl, by simp, fun k _ hk => heap_setCell_other _ _ _ _ (by intro h; exact hk (by rw [h]))⟩

theorem grown_dN (w : World) (n : Nat) (row : Option Nat) : w.grownBy (w.drewN n) row := ⟨rfl, rfl, rfl, Nat.le_refl _, fun _ _ _ => rfl⟩

theorem grown_alloc (w : World) (o : Obj) (row : Option Nat) : w.grownBy (w.alloc o) row :=
  ⟨rfl, rfl, rfl, by simp, fun k hk _ => heap_alloc_old w o hk⟩

theorem Cur.grown {w0 w w' : World} {g : Nat} {a : Option Addr} {n cap : Nat} (hc : Cur w0 w g a n cap) (hw : w.grownBy w' none) : Cur w0 w' g a n cap := by
  obtain ⟨i, h, hi, hrow⟩ := hc.row
  have lt : ∀ k o, w.heap[k]? = some o → k < w.heap.size := by
    intro k o hk
    by_cases hl : k < w.heap.size
    · exact hl
    · rw [Array.getElem?_eq_none (by omega)] at hk; cases hk
  refine ⟨hc.new, ?_, i, h, hi, ?_⟩
  · exact ⟨hw.os.trans hc.below.os, hw.tape.trans hc.below.tape, hw.output.trans hc.below.output, Nat.le_trans hc.below.size hw.size, fun k hk => (hw.block k (Nat.lt_of_lt_of_le hk hc.below.size) (by simp)).trans (hc.below.block k hk)⟩
  · rw [hw.block g (lt _ _ hrow) (by simp)]; exact hrow

theorem Cur.set2 {w0 w : World} {g : Nat} {a : Option Addr} {n cap : Nat} (hc : Cur w0 w g a n cap) (v : Int) : Cur w0 (w.setCell ⟨g, 2, none⟩ (.int .i64 v)) g a n cap := by
  obtain ⟨i, h, hi, hrow⟩ := hc.row
  exact ⟨hc.new, hc.below.setCell hc.new _, i, v, hi, heap_setCell_same w g 2 _ _ _ hrow⟩

theorem Cur.set1 {w0 w : World} {g : Nat} {a : Option Addr} {n cap : Nat} (hc : Cur w0 w g a n cap) (j : Nat) (hj : j ≤ n) : Cur w0 (w.setCell ⟨g, 1, none⟩ (.int .i64 (j : Int))) g a n cap := by
  obtain ⟨i, h, hi, hrow⟩ := hc.row
  exact ⟨hc.new, hc.below.setCell hc.new _, j, h, hj, heap_setCell_same w g 1 _ _ _ hrow⟩

theorem Cur.dN {w0 w : World} {g : Nat} {a : Option Addr} {n cap : Nat} (hc : Cur w0 w g a n cap) (m : Nat) : Cur w0 (w.drewN m) g a n cap := hc.grown (grown_dN w m none)

set_option maxHeartbeats 1600000 in
theorem l1Byte_any {w0 : World} {g : Nat} {a : Option Addr} {n cap : Nat} {zs : List Int} (hcd : Code w0 a n zs) (w : World) (hc : Cur w0 w g a n cap) :
    Calls Try.prog 31 #[.pointer (some ⟨g, 0, none⟩)] w fun e w' => ∃ x : Int, e = .returned (.int .i64 x) ∧ 0 ≤ x ∧ x ≤ 255 ∧ Cur w0 w' g a n cap ∧ w.grownBy w' (some g) := by
  obtain ⟨i, h, hi, hrow⟩ := hc.row
  have c2 := cell_of_row w g 2 _ _ _ hrow
  have f2 := frozen_of_row w g 2 _ _ hrow
  simp at c2
  have R : ∀ v, (w.setCell ⟨g, 2, none⟩ v).heap[g]? = some (.cells #[.slice a n cap, .int .i64 (i : Int), v] 49 (0, 0)) := fun v => heap_setCell_same w g 2 _ _ v hrow
  have K0 : ∀ v, (w.setCell ⟨g, 2, none⟩ v).cell? ⟨g, 0, none⟩ = some (.slice a n cap) := fun v => cell_of_row _ _ _ _ _ _ (R v)
  have K1 : ∀ v, (w.setCell ⟨g, 2, none⟩ v).cell? ⟨g, 1, none⟩ = some (.int .i64 (i : Int)) := fun v => cell_of_row _ _ _ _ _ _ (R v)
  have K2 : ∀ v, (w.setCell ⟨g, 2, none⟩ v).cell? ⟨g, 2, none⟩ = some v := fun v => cell_of_row _ _ _ _ _ _ (R v)
  have F1 : ∀ v, (w.setCell ⟨g, 2, none⟩ v).frozen? ⟨g, 1, none⟩ = false := fun v => frozen_of_row _ _ _ _ _ (R v)
  have HR : Hid (∀ v, (w.setCell ⟨g, 2, none⟩ v).heap[g]? = some (.cells #[.slice a n cap, .int .i64 (i : Int), v] 49 (0, 0))) := R
  have HC : Hid (Cur w0 w g a n cap) := hc
  have HD : Hid (Code w0 a n zs) := hcd
  clear R hrow hc hcd
  by_cases hlt : i < n
  · obtain ⟨b, off, rfl, hb, hcl⟩ := HD.out.sl i (by rw [HD.out.len]; exact hlt)
    have KC : ∀ v, (w.setCell ⟨g, 2, none⟩ v).cell? ⟨b, off + i, none⟩ = some (.int .u8 (zs.getD i 0)) := fun v => ((HC.out.below.setCell HC.out.new v).cell (by exact hb)).trans hcl
    obtain ⟨y, hy⟩ : ∃ y, y = zs.getD i 0 := ⟨_, rfl⟩
    rw [← hy] at KC
    clear hcl hy
    go_enter Try.func31, Try.ntmps31
    go_wp2_with fail
    go_quiet (fail)
    go_wp2_with fail
    go_quiet (fail)
    go_wp2_with fail
    go_quiet (fail)
    go_wp2_with fail
    have hi1 : wrap64 ((i : Int) + 1) = ((i + 1 : Nat) : Int) := by
      have := HD.out.few
      unfold wrap64; omega
    rw [hi1]
    go_ret
    refine ⟨_, rfl, (and_i64 _ 255 (by omega)).1, (and_i64 _ 255 (by omega)).2, ?_, ?_⟩
    · exact ((HC.out.set2 _).dN _).set1 _ (by omega)
    · exact grown_trans (grown_trans (grown_set _ _ _ _) (grown_dN _ _ _)) (grown_set _ _ _ _)
  · go_enter Try.func31, Try.ntmps31
    go_wp2_with fail
    go_quiet (fail)
    go_wp2_with fail
    go_quiet (fail)
    go_wp2_with fail
    go_ret
    refine ⟨_, rfl, (and_i64 _ 255 (by omega)).1, (and_i64 _ 255 (by omega)).2, ?_, ?_⟩
    · exact ((HC.out.set2 _).dN _).dN _
    · exact grown_trans (grown_trans (grown_set _ _ _ _) (grown_dN _ _ _)) (grown_dN _ _ _)

def Cs (w0 : World) (g : Nat) (a : Option Addr) (n cap : Nat) (w w' : World) : Prop := Cur w0 w' g a n cap ∧ w.grownBy w' (some g)

theorem Cs.trans {w0 w1 w2 w3 : World} {g : Nat} {a : Option Addr} {n cap : Nat} (h : Cs w0 g a n cap w1 w2) (k : Cs w0 g a n cap w2 w3) : Cs w0 g a n cap w1 w3 := ⟨k.1, grown_trans h.2 k.2⟩

theorem Cs.refl {w0 w : World} {g : Nat} {a : Option Addr} {n cap : Nat} (h : Cur w0 w g a n cap) : Cs w0 g a n cap w w := ⟨h, grown_refl _ _⟩

theorem l1Byte_c {w0 : World} {g : Nat} {a : Option Addr} {n cap : Nat} {zs : List Int} (hcd : Code w0 a n zs) (w : World) (hc : Cur w0 w g a n cap) :
    Calls Try.prog 31 #[.pointer (some ⟨g, 0, none⟩)] w fun e w' => ∃ x : Int, e = .returned (.int .i64 x) ∧ (0 ≤ x ∧ x ≤ 255) ∧ Hid (Cs w0 g a n cap w w') :=
  (l1Byte_any hcd w hc).mono fun e w' ⟨x, h1, h2, h3, h4, h5⟩ => ⟨x, h1, ⟨h2, h3⟩, ⟨h4, h5⟩⟩

set_option maxHeartbeats 1600000 in
theorem l1Below_c {w0 : World} {g : Nat} {a : Option Addr} {n cap : Nat} {zs : List Int} (hcd : Code w0 a n zs) (m : Int) (hm : 0 < m) (w : World) (hc : Cur w0 w g a n cap) :
    Calls Try.prog 14 #[.pointer (some ⟨g, 0, none⟩), .int .i64 m] w fun e w' => ∃ x : Int, e = .returned (.int .i64 x) ∧ (0 ≤ x ∧ x < m) ∧ Hid (Cs w0 g a n cap w w') := by
  have HD : Hid (Code w0 a n zs) := hcd
  have HC : Hid (Cur w0 w g a n cap) := hc
  have d1 : decide (m ≤ 0) = false := by simp; omega
  have dz : ¬ m = 0 := by omega
  clear hcd hc
  by_cases hle : m ≤ 256
  · have d2 : decide (m ≤ 256) = true := by simpa using hle
    go_enter Try.func14, Try.ntmps14
    go_wp2_with fail
    refine (l1Byte_c HD.out _ HC.out).mono ?_
    rintro e w1 ⟨x, rfl, ⟨hx0, hx1⟩, hs⟩
    go_wp2_with fail
    go_ret
    refine ⟨_, rfl, ?_, hs⟩
    exact ⟨Int.emod_nonneg _ dz, Int.emod_lt_of_pos _ hm⟩
  · have d2 : decide (m ≤ 256) = false := by simpa using hle
    go_enter Try.func14, Try.ntmps14
    go_wp2_with fail
    refine (l1Byte_c HD.out _ HC.out).mono ?_
    rintro e w1 ⟨x, rfl, ⟨hx0, hx1⟩, hs1⟩
    go_wp2_with fail
    refine (l1Byte_c HD.out _ hs1.out.1).mono ?_
    rintro e w2 ⟨y, rfl, ⟨hy0, hy1⟩, hs2⟩
    go_wp2_with fail
    refine (l1Byte_c HD.out _ hs2.out.1).mono ?_
    rintro e w3 ⟨z, rfl, ⟨hz0, hz1⟩, hs3⟩
    go_wp2_with fail
    refine (l1Byte_c HD.out _ hs3.out.1).mono ?_
    rintro e w4 ⟨u, rfl, ⟨hu0, hu1⟩, hs4⟩
    go_wp2_with fail
    go_ret
    refine ⟨_, rfl, ?_, hs1.out.trans (hs2.out.trans (hs3.out.trans hs4.out))⟩
    exact ⟨Int.emod_nonneg _ dz, Int.emod_lt_of_pos _ hm⟩

theorem l1Once_c {w0 : World} {g : Nat} {a : Option Addr} {n cap : Nat} {zs : List Int} (hcd : Code w0 a n zs) (m : Int) (hm : 0 < m) (w : World) (hc : Cur w0 w g a n cap) :
    Calls Try.prog 12 #[.pointer (some ⟨g, 0, none⟩), .int .i64 m] w fun e w' => ∃ c : Bool, e = .returned (.bool c) ∧ Hid (Cs w0 g a n cap w w') := by
  have HD : Hid (Code w0 a n zs) := hcd
  have HC : Hid (Cur w0 w g a n cap) := hc
  clear hcd hc
  go_enter Try.func12, Try.ntmps12
  go_wp2_with fail
  refine (l1Below_c HD.out m hm _ HC.out).mono ?_
  rintro e w1 ⟨x, rfl, ⟨hx0, hx1⟩, hs⟩
  go_wp2_with fail
  go_ret
  exact ⟨_, rfl, hs⟩

set_option maxHeartbeats 1600000 in
theorem l1New_c {a : Option Addr} {n : Nat} (cap : Nat) {zs : List Int} (w : World) (hcd : Code w a n zs) :
    Calls Try.prog 10 #[.slice a n cap] w fun e w' => ∃ g, e = .returned (.pointer (some ⟨g, 0, none⟩)) ∧ Hid (Cur w w' g a n cap) := by
  have HD : Hid (Code w a n zs) := hcd
  have hn := hcd.few
  clear hcd
  go_enter Try.func10, Try.ntmps10
  go_wp2_with fail
  go_loopw [3, 4] (fun h i wr => ∃ (k : Nat) (x : Int), k ≤ n ∧ h = .int .i64 x ∧ i = .int .i64 k ∧ Hid (Below w.heap.size w wr))
    (fun _ i _ => n - (intOf i).toNat)
  case atStart => exact ⟨0, _, Nat.zero_le _, rfl, rfl, Below.refl _ _⟩
  case round =>
    obtain ⟨k, x, hk, rfl, rfl, hbel⟩ := hrel
    by_cases hlt : k < n
    · obtain ⟨b, off, rfl, hb, hcl⟩ := HD.out.sl k (by rw [HD.out.len]; exact hlt)
      have KC : wr.cell? ⟨b, off + k, none⟩ = some (.int .u8 (zs.getD k 0)) := (hbel.out.cell (by exact hb)).trans hcl
      clear hcl
      go_wp2_with fail
      go_roundw
      case rel => exact ⟨k + 1, _, by omega, rfl, by go_num, hbel⟩
      case measure => simp [intOf]; omega
    · go_wp2_with fail
      go_ret
      refine ⟨_, rfl, ?_⟩
      exact ⟨hbel.out.size, hbel.out.alloc hbel.out.size _, 0, x, Nat.zero_le _, heap_alloc_new _ _⟩

end Go.Proofs.Ytmigfnlfjgkgkaa
