/- The model's state registers: what they answer. The model's state registers: who may, what is read. -/
import Derived.Test.YtdcihpbggknhgaaRWordsC
import Derived.Test.YtdcihpbggknhgaaRCsrP
namespace Go.Proofs.YtdcihpbggknhgaaR
open Go.RowKit
set_option linter.unusedVariables false

/-- The table of numbers lies in block g. -/
def NumS (w : World) (g : Nat) : Prop := g < w.heap.size ∧ ∀ k, k < 22 → w.cell? ⟨g, k, none⟩ = some (.int .i64 (csrNumbers.getD k 0))

theorem l4Legal_1 (x : Int) (w : World) : Calls Try.prog 52 #[.int .i64 1, .int .u64 x] w fun e w' => e = .returned (.int .u64 (legal 1 x)) ∧ w' = w := by
  go_enter Try.func52, Try.ntmps52
  go_wp2_with fail
  go_ret
  exact ⟨rfl, rfl⟩

theorem l4Legal_2 (x : Int) (w : World) : Calls Try.prog 52 #[.int .i64 2, .int .u64 x] w fun e w' => e = .returned (.int .u64 (legal 2 x)) ∧ w' = w := by
  go_enter Try.func52, Try.ntmps52
  go_wp2_with fail
  go_ret
  exact ⟨rfl, rfl⟩

theorem l4Legal_3 (x : Int) (w : World) : Calls Try.prog 52 #[.int .i64 3, .int .u64 x] w fun e w' => e = .returned (.int .u64 (legal 3 x)) ∧ w' = w := by
  go_enter Try.func52, Try.ntmps52
  go_wp2_with fail
  go_ret
  exact ⟨rfl, rfl⟩

theorem l4Legal_4 (x : Int) (w : World) : Calls Try.prog 52 #[.int .i64 4, .int .u64 x] w fun e w' => e = .returned (.int .u64 (legal 4 x)) ∧ w' = w := by
  go_enter Try.func52, Try.ntmps52
  go_wp2_with fail
  go_ret
  exact ⟨rfl, rfl⟩

theorem l4Legal_10 (x : Int) (w : World) : Calls Try.prog 52 #[.int .i64 10, .int .u64 x] w fun e w' => e = .returned (.int .u64 (legal 10 x)) ∧ w' = w := by
  go_enter Try.func52, Try.ntmps52
  go_wp2_with fail
  go_ret
  exact ⟨rfl, rfl⟩

theorem l4Legal_6 (x : Int) (w : World) : Calls Try.prog 52 #[.int .i64 6, .int .u64 x] w fun e w' => e = .returned (.int .u64 (legal 6 x)) ∧ w' = w := by
  go_enter Try.func52, Try.ntmps52
  go_wp2_with fail
  go_ret
  exact ⟨rfl, rfl⟩

theorem l4Legal_12 (x : Int) (w : World) : Calls Try.prog 52 #[.int .i64 12, .int .u64 x] w fun e w' => e = .returned (.int .u64 (legal 12 x)) ∧ w' = w := by
  go_enter Try.func52, Try.ntmps52
  go_wp2_with fail
  go_ret
  exact ⟨rfl, rfl⟩

theorem l4Legal_7 (x : Int) (w : World) : Calls Try.prog 52 #[.int .i64 7, .int .u64 x] w fun e w' => e = .returned (.int .u64 (legal 7 x)) ∧ w' = w := by
  go_enter Try.func52, Try.ntmps52
  go_wp2_with fail
  go_ret
  exact ⟨rfl, rfl⟩

theorem l4Legal_13 (x : Int) (w : World) : Calls Try.prog 52 #[.int .i64 13, .int .u64 x] w fun e w' => e = .returned (.int .u64 (legal 13 x)) ∧ w' = w := by
  go_enter Try.func52, Try.ntmps52
  go_wp2_with fail
  go_ret
  exact ⟨rfl, rfl⟩

theorem l4Legal_17 (x : Int) (w : World) : Calls Try.prog 52 #[.int .i64 17, .int .u64 x] w fun e w' => e = .returned (.int .u64 (legal 17 x)) ∧ w' = w := by
  go_enter Try.func52, Try.ntmps52
  go_wp2_with fail
  go_ret
  exact ⟨rfl, rfl⟩

theorem l4Legal_18 (x : Int) (w : World) : Calls Try.prog 52 #[.int .i64 18, .int .u64 x] w fun e w' => e = .returned (.int .u64 (legal 18 x)) ∧ w' = w := by
  go_enter Try.func52, Try.ntmps52
  go_wp2_with fail
  go_ret
  exact ⟨rfl, rfl⟩

theorem l4Legal_19 (x : Int) (w : World) : Calls Try.prog 52 #[.int .i64 19, .int .u64 x] w fun e w' => e = .returned (.int .u64 (legal 19 x)) ∧ w' = w := by
  go_enter Try.func52, Try.ntmps52
  go_wp2_with fail
  go_ret
  exact ⟨rfl, rfl⟩

theorem l4Legal_20 (x : Int) (w : World) : Calls Try.prog 52 #[.int .i64 20, .int .u64 x] w fun e w' => e = .returned (.int .u64 (legal 20 x)) ∧ w' = w := by
  go_enter Try.func52, Try.ntmps52
  go_wp2_with fail
  go_ret
  exact ⟨rfl, rfl⟩

theorem l4Legal_0 (x : Int) (w : World) : Calls Try.prog 52 #[.int .i64 0, .int .u64 x] w fun e w' => e = .returned (.int .u64 (legal 0 x)) ∧ w' = w := by
  have F0 : legal 0 x = mst x := rfl
  unfold mst at F0
  obtain ⟨y, hy⟩ : ∃ y, bits .and .u64 x 924074 = y := ⟨_, rfl⟩
  rw [hy] at F0
  cases hc : (bits .and .u64 (y / 2048) 3 == 2) with
  | true =>
    have F : Hid (legal 0 x = bits .andNot .u64 y 6144) := by show _ = _; rw [F0, if_pos hc]
    clear F0
    go_enter Try.func52, Try.ntmps52
    go_wp2_with fail
    go_ret
    exact ⟨by rw [F.out]; rfl, rfl⟩
  | false =>
    have F : Hid (legal 0 x = y) := by show _ = _; rw [F0, if_neg (by rw [hc]; decide)]
    clear F0
    go_enter Try.func52, Try.ntmps52
    go_wp2_with fail
    go_ret
    exact ⟨by rw [F.out]; rfl, rfl⟩

set_option maxHeartbeats 800000 in
theorem l4Legal_16 (x : Int) (w : World) : Calls Try.prog 52 #[.int .i64 16, .int .u64 x] w fun e w' => e = .returned (.int .u64 (legal 16 x)) ∧ w' = w := by
  go_enter Try.func52, Try.ntmps52
  go_wp2_with fail
  go_loopw [5, 6] (fun y i wr => ∃ k : Nat, k ≤ 4 ∧ i = .int .u64 k ∧ y = .int .u64 (cfgSum x k) ∧ wr = w)
    (fun _ i _ => 4 - (intOf i).toNat)
  case atStart => exact ⟨0, by omega, rfl, rfl, rfl⟩
  case round =>
    obtain ⟨k, hk, rfl, rfl, rfl⟩ := hrel
    by_cases hlt : k < 4
    · have F0 : cfgSum x (k + 1) = bits .or .u64 (cfgSum x k) (IntKind.u64.wrap (cfgByte x k * 2 ^ (8 * k))) := rfl
      unfold cfgByte at F0
      have hk8 : IntKind.u64.wrap (8 * (k : Int)) = ((8 * k : Nat) : Int) := by rw [IntKind.wrap_u64]; omega
      have hlt8 : 8 * k < 64 := by omega
      have d : decide ((k : Int) < 4) = true := by simp; omega
      obtain ⟨b, hb⟩ : ∃ b, bits .and .u64 (x / 2 ^ (8 * k)) 159 = b := ⟨_, rfl⟩
      obtain ⟨y, hy⟩ : ∃ y, y = cfgSum x k := ⟨_, rfl⟩
      rw [hb, ← hy] at F0
      rw [← hy]
      cases hc : (bits .and .u64 b 1 == 0) with
      | true =>
        rw [if_pos hc] at F0
        have F : Hid (cfgSum x (k + 1) = bits .or .u64 y (IntKind.u64.wrap (bits .andNot .u64 b 2 * 2 ^ (8 * k)))) := F0
        clear F0 hy
        go_wp2_with fail
        go_roundw
        case rel => exact ⟨k + 1, by omega, by go_num, by rw [F.out], trivial⟩
        case measure => simp [intOf]; omega
      | false =>
        rw [if_neg (by rw [hc]; decide)] at F0
        have F : Hid (cfgSum x (k + 1) = bits .or .u64 y (IntKind.u64.wrap (b * 2 ^ (8 * k)))) := F0
        clear F0 hy
        go_wp2_with fail
        go_roundw
        case rel => exact ⟨k + 1, by omega, by go_num, by rw [F.out], trivial⟩
        case measure => simp [intOf]; omega
    · have hk4 : k = 4 := by omega
      subst hk4
      have F : Hid (legal 16 x = cfgSum x 4) := (rfl : legal 16 x = cfgSum x 4)
      generalize cfgSum x 4 = y at *
      go_wp2_with fail
      go_ret
      exact ⟨by rw [F.out]; rfl, rfl⟩

theorem legal_other {p : Int} (h : ¬ (p = 0 ∨ p = 1 ∨ p = 2 ∨ p = 3 ∨ p = 4 ∨ p = 10 ∨ p = 6 ∨ p = 12 ∨ p = 7 ∨ p = 13 ∨ p = 16 ∨ p = 17 ∨ p = 18 ∨ p = 19 ∨ p = 20)) (x : Int) : legal p x = x := by
  unfold legal
  rw [if_neg (by omega), if_neg (by omega), if_neg (by omega), if_neg (by omega), if_neg (by omega), if_neg (by omega), if_neg (by omega), if_neg (by omega), if_neg (by omega)]

set_option maxHeartbeats 800000 in
theorem l4Legal_any (p x : Int) (w : World) : Calls Try.prog 52 #[.int .i64 p, .int .u64 x] w fun e w' => e = .returned (.int .u64 (legal p x)) ∧ w' = w := by
  by_cases h : p = 0 ∨ p = 1 ∨ p = 2 ∨ p = 3 ∨ p = 4 ∨ p = 10 ∨ p = 6 ∨ p = 12 ∨ p = 7 ∨ p = 13 ∨ p = 16 ∨ p = 17 ∨ p = 18 ∨ p = 19 ∨ p = 20
  · rcases h with rfl | rfl | rfl | rfl | rfl | rfl | rfl | rfl | rfl | rfl | rfl | rfl | rfl | rfl | rfl
    · exact l4Legal_0 x w
    · exact l4Legal_1 x w
    · exact l4Legal_2 x w
    · exact l4Legal_3 x w
    · exact l4Legal_4 x w
    · exact l4Legal_10 x w
    · exact l4Legal_6 x w
    · exact l4Legal_12 x w
    · exact l4Legal_7 x w
    · exact l4Legal_13 x w
    · exact l4Legal_16 x w
    · exact l4Legal_17 x w
    · exact l4Legal_18 x w
    · exact l4Legal_19 x w
    · exact l4Legal_20 x w
  · have F : Hid (legal p x = x) := legal_other h x
    have d0 : (p == 0) = false := by simp; omega
    have d1 : (p == 1) = false := by simp; omega
    have d2 : (p == 2) = false := by simp; omega
    have d3 : (p == 3) = false := by simp; omega
    have d4 : (p == 4) = false := by simp; omega
    have d10 : (p == 10) = false := by simp; omega
    have d6 : (p == 6) = false := by simp; omega
    have d12 : (p == 12) = false := by simp; omega
    have d7 : (p == 7) = false := by simp; omega
    have d13 : (p == 13) = false := by simp; omega
    have d16 : (p == 16) = false := by simp; omega
    have d17 : (p == 17) = false := by simp; omega
    have d18 : (p == 18) = false := by simp; omega
    have d19 : (p == 19) = false := by simp; omega
    have d20 : (p == 20) = false := by simp; omega
    clear h
    go_enter Try.func52, Try.ntmps52
    go_wp2_with fail
    go_ret
    exact ⟨by rw [F.out]; rfl, rfl⟩

set_option maxHeartbeats 800000 in
theorem specCsrsOk_any (a : Option Addr) (n cap : Nat) (l : List Int) (w : World) (hz : l.length = n) (hs : Sl .u64 w a l) :
    Calls Try.prog 45 #[.slice a n cap] w fun e w' => e = .returned (.bool (csrsOk n l)) ∧ w' = w := by
  by_cases hn : n = 22
  · have hok : csrsOk n l = okRest l 22 0 := by simp [csrsOk, hn]
    rw [hok]
    have HZ : Hid (l.length = n) := hz
    subst hn
    clear hz hok
    go_enter Try.func45, Try.ntmps45
    go_wp2_with fail
    go_loopw [3] (fun i wr => ∃ k : Nat, k ≤ 22 ∧ i = .int .i64 k ∧ Hid (okRest l (22 - k) k = okRest l 22 0) ∧ wr = w)
      (fun i _ => 22 - (intOf i).toNat)
    case atStart => exact ⟨0, by omega, rfl, (rfl : okRest l (22 - 0) 0 = okRest l 22 0), rfl⟩
    case round =>
      obtain ⟨k, hk, rfl, hf, rfl⟩ := hrel
      by_cases hlt : k < 22
      · obtain ⟨b, off, rfl, hb, hc⟩ := hs k (by rw [HZ.out]; exact hlt)
        have Yes : okAt k (l.getD k 0) = true → Hid (okRest l (22 - (k + 1)) (k + 1) = okRest l 22 0) := fun h => (okRest_yes l k hlt h).symm.trans hf.out
        have No : okAt k (l.getD k 0) = false → Hid (okRest l 22 0 = false) := fun h => hf.out.symm.trans (okRest_no l k hlt h)
        generalize l.getD k 0 = x at *
        have dk : decide ((k : Int) < 22) = true := by simp; omega
        by_cases h9 : k = 9
        · subst h9
          cases ho : (bits .and .u64 x 2730 == x) with
          | true =>
            have F := Yes (by simpa [okAt] using ho)
            have d : (bits .and .u64 x 2730 != x) = false := by simp [bne, ho]
            clear Yes No
            go_wp2_with fail
            go_roundw
            case rel => exact ⟨9 + 1, by omega, by go_num, F, trivial⟩
            case measure => simp [intOf]
          | false =>
            have F := No (by simpa [okAt] using ho)
            have d : (bits .and .u64 x 2730 != x) = true := by simp [bne, ho]
            clear Yes No
            go_wp2_with fail
            go_ret
            exact ⟨by rw [F.out]; rfl, rfl⟩
        · have d9 : ((k : Int) == 9) = false := by simp; omega
          by_cases h15 : k = 15
          · subst h15
            have eo : okAt 15 x = ((x / 1152921504606846976 == 0) || (x / 1152921504606846976 == 8)) := by simp [okAt]
            obtain ⟨y, hy⟩ : ∃ y, x / 1152921504606846976 = y := ⟨_, rfl⟩
            rw [hy] at eo
            cases h0 : (y == 0) with
            | true =>
              have F := Yes (by rw [eo, h0]; rfl)
              have d : (y != 0) = false := by simp [bne, h0]
              clear Yes No eo
              go_wp2_with fail
              go_roundw
              case rel => exact ⟨15 + 1, by omega, by go_num, F, trivial⟩
              case measure => simp [intOf]
            | false =>
              have d : (y != 0) = true := by simp [bne, h0]
              cases h8 : (y == 8) with
              | true =>
                have F := Yes (by rw [eo, h0, h8]; rfl)
                have d2 : (y != 8) = false := by simp [bne, h8]
                clear Yes No eo
                go_wp2_with fail
                go_roundw
                case rel => exact ⟨15 + 1, by omega, by go_num, F, trivial⟩
                case measure => simp [intOf]
              | false =>
                have F := No (by rw [eo, h0, h8]; rfl)
                have d2 : (y != 8) = true := by simp [bne, h8]
                clear Yes No eo
                go_wp2_with fail
                go_ret
                exact ⟨by rw [F.out]; rfl, rfl⟩
          · have d15 : ((k : Int) == 15) = false := by simp; omega
            have ek : okAt k x = (legal k x == x) := by simp [okAt, h9, h15]
            cases ho : (legal k x == x) with
            | true =>
              have F := Yes (ek.trans ho)
              have d : (legal k x != x) = false := by simp [bne, ho]
              clear Yes No ek
              go_wp2_with fail
              refine (l4Legal_any _ _ _).mono ?_
              rintro e w1 ⟨rfl, hw1⟩
              subst hw1
              generalize legal k x = y at *
              go_wp2_with fail
              go_roundw
              case rel => exact ⟨k + 1, by omega, by go_num, F, trivial⟩
              case measure => simp [intOf]; omega
            | false =>
              have F := No (ek.trans ho)
              have d : (legal k x != x) = true := by simp [bne, ho]
              clear Yes No ek
              go_wp2_with fail
              refine (l4Legal_any _ _ _).mono ?_
              rintro e w1 ⟨rfl, hw1⟩
              subst hw1
              generalize legal k x = y at *
              go_wp2_with fail
              go_ret
              exact ⟨by rw [F.out]; rfl, rfl⟩
      · have hk2 : k = 22 := by omega
        subst hk2
        have F : Hid (okRest l 22 0 = true) := hf.out.symm
        go_wp2_with fail
        go_ret
        exact ⟨by rw [F.out]; rfl, rfl⟩
  · have F : Hid (csrsOk n l = false) := by show _ = _; simp [csrsOk, hn]
    have d : ((n : Int) != 22) = true := by simp; omega
    go_enter Try.func45, Try.ntmps45
    go_wp2_with fail
    go_ret
    exact ⟨by rw [F.out]; rfl, rfl⟩

end Go.Proofs.YtdcihpbggknhgaaR

namespace Go.Proofs.YtdcihpbggknhgaaR
open Go.RowKit
set_option linter.unusedVariables false

theorem l4Priv_any (p : Int) (w : World) : Calls Try.prog 46 #[.int .i64 p] w fun e w' => e = .returned (.bool (privB p)) ∧ w' = w := by
  cases h0 : (p == 0) with
  | true =>
    have F : Hid (privB p = true) := by show _ = _; simp [privB, h0]
    go_enter Try.func46, Try.ntmps46
    go_wp2_with fail
    go_ret
    exact ⟨by rw [F.out]; rfl, rfl⟩
  | false =>
    cases h1 : (p == 1) with
    | true =>
      have F : Hid (privB p = true) := by show _ = _; simp [privB, h1]
      go_enter Try.func46, Try.ntmps46
      go_wp2_with fail
      go_ret
      exact ⟨by rw [F.out]; rfl, rfl⟩
    | false =>
      have F : Hid (privB p = (p == 3)) := by show _ = _; simp [privB, h0, h1]
      obtain ⟨c, hc⟩ : ∃ c, (p == 3) = c := ⟨_, rfl⟩
      rw [hc] at F
      go_enter Try.func46, Try.ntmps46
      go_wp2_with fail
      go_ret
      exact ⟨by rw [F.out]; rfl, rfl⟩

theorem specLegal_any (a : Option Addr) (n cap : Nat) (l : List Int) (p : Int) (w : World) (hz : l.length = n) (hs : Sl .u64 w a l) :
    Calls Try.prog 35 #[.slice a n cap, .int .i64 p] w fun e w' => e = .returned (.bool (legalB n l p)) ∧ w' = w := by
  have HO : Hid (Calls Try.prog 45 #[.slice a n cap] w fun e w' => e = .returned (.bool (csrsOk n l)) ∧ w' = w) := specCsrsOk_any a n cap l w hz hs
  have HP : Hid (∀ w, Calls Try.prog 46 #[.int .i64 p] w fun e w' => e = .returned (.bool (privB p)) ∧ w' = w) := l4Priv_any p
  have F : Hid (legalB n l p = (csrsOk n l && privB p)) := (rfl : legalB n l p = _)
  generalize csrsOk n l = o at *
  generalize privB p = q at *
  clear hz hs
  cases o with
  | false =>
    go_enter Try.func35, Try.ntmps35
    go_wp2_with fail
    refine HO.out.mono ?_
    rintro e w1 ⟨rfl, hw1⟩
    subst hw1
    go_wp2_with fail
    go_ret
    exact ⟨by rw [F.out]; rfl, rfl⟩
  | true =>
    go_enter Try.func35, Try.ntmps35
    go_wp2_with fail
    refine HO.out.mono ?_
    rintro e w1 ⟨rfl, hw1⟩
    subst hw1
    go_wp2_with fail
    refine (HP.out _).mono ?_
    rintro e w2 ⟨rfl, hw2⟩
    subst hw2
    go_wp2_with fail
    go_ret
    exact ⟨by rw [F.out]; rfl, rfl⟩

end Go.Proofs.YtdcihpbggknhgaaR
