/- The model's state registers: who may, what is read. -/
import Derived.Test.YtgcbdlfljplkbabCsrS
namespace Go.Proofs.Ytgcbdlfljplkbab
open Go.RowKit
set_option linter.unusedVariables false

theorem l4Priv_any (p : Int) (w : World) : Calls Try.prog 85 #[.int .i64 p] w fun e w' => e = .returned (.bool (privB p)) ∧ w' = w := by
  cases h0 : (p == 0) with
  | true =>
    have F : Hid (privB p = true) := by show _ = _; simp [privB, h0]
    go_enter Try.func85, Try.ntmps85
    go_wp2_with fail
    go_ret
    exact ⟨by rw [F.out]; rfl, rfl⟩
  | false =>
    cases h1 : (p == 1) with
    | true =>
      have F : Hid (privB p = true) := by show _ = _; simp [privB, h1]
      go_enter Try.func85, Try.ntmps85
      go_wp2_with fail
      go_ret
      exact ⟨by rw [F.out]; rfl, rfl⟩
    | false =>
      have F : Hid (privB p = (p == 3)) := by show _ = _; simp [privB, h0, h1]
      obtain ⟨c, hc⟩ : ∃ c, (p == 3) = c := ⟨_, rfl⟩
      rw [hc] at F
      go_enter Try.func85, Try.ntmps85
      go_wp2_with fail
      go_ret
      exact ⟨by rw [F.out]; rfl, rfl⟩

theorem l4Known_any (x : Int) (w : World) : Calls Try.prog 84 #[.int .i64 x] w fun e w' => e = .returned (.bool (knownB x)) ∧ Below w.heap.size w w' := by
  cases h0 : (x == 3860) with
  | true =>
    have F : Hid (knownB x = true) := by show _ = _; simp [knownB, h0]
    go_enter Try.func84, Try.ntmps84
    go_wp2_with fail
    go_ret
    exact ⟨by rw [F.out]; rfl, Below.refl _ _⟩
  | false =>
    cases h1 : (x == 769) with
    | true =>
      have F : Hid (knownB x = true) := by show _ = _; simp [knownB, h1]
      go_enter Try.func84, Try.ntmps84
      go_wp2_with fail
      go_ret
      exact ⟨by rw [F.out]; rfl, Below.refl _ _⟩
    | false =>
      have F : Hid (knownB x = decide (0 ≤ placeV x)) := by show _ = _; simp [knownB, h0, h1]
      have HP : Hid (∀ w, Calls Try.prog 87 #[.int .i64 x] w fun e w' => e = .returned (.int .i64 (placeV x)) ∧ Below w.heap.size w w') := specPlace_any x
      generalize placeV x = y at *
      obtain ⟨c, hc⟩ : ∃ c, decide (0 ≤ y) = c := ⟨_, rfl⟩
      rw [hc] at F
      go_enter Try.func84, Try.ntmps84
      go_wp2_with fail
      refine (HP.out _).mono ?_
      rintro e w1 ⟨rfl, hb⟩
      go_wp2_with fail
      go_ret
      exact ⟨by rw [F.out]; rfl, hb⟩

set_option maxHeartbeats 800000 in
theorem l4May_any (a : Option Addr) (n cap : Nat) (l : List Int) (x p : Int) (w : World) (hz : l.length = n) (hs : Sl .u64 w a l) :
    Calls Try.prog 50 #[.slice a n cap, .int .i64 x, .int .i64 p] w fun e w' => e = .returned (.bool (mayB n l x p)) ∧ Below w.heap.size w w' := by
  have HO : Hid (Calls Try.prog 83 #[.slice a n cap] w fun e w' => e = .returned (.bool (csrsOk n l)) ∧ w' = w) := specCsrsOk_any a n cap l w hz hs
  have F : Hid (mayB n l x p = (csrsOk n l && knownB x && privB p && decide ((wrap64 (x.tdiv 256)).tmod 4 ≤ p))) := (rfl : mayB n l x p = _)
  have HK := l4Known_any x
  have HP := l4Priv_any p
  generalize csrsOk n l = o at *
  generalize knownB x = k at *
  generalize privB p = q at *
  have HK2 : Hid (∀ w, Calls Try.prog 84 #[.int .i64 x] w fun e w' => e = .returned (.bool k) ∧ Below w.heap.size w w') := HK
  have HP2 : Hid (∀ w, Calls Try.prog 85 #[.int .i64 p] w fun e w' => e = .returned (.bool q) ∧ w' = w) := HP
  obtain ⟨d, hd⟩ : ∃ d, decide ((wrap64 (x.tdiv 256)).tmod 4 ≤ p) = d := ⟨_, rfl⟩
  rw [hd] at F
  clear HK HP hs hz
  cases o with
  | false =>
    go_enter Try.func50, Try.ntmps50
    go_wp2_with fail
    refine HO.out.mono ?_
    rintro e w1 ⟨rfl, hw1⟩
    subst hw1
    go_wp2_with fail
    go_ret
    exact ⟨by rw [F.out]; rfl, Below.refl _ _⟩
  | true =>
    go_enter Try.func50, Try.ntmps50
    go_wp2_with fail
    refine HO.out.mono ?_
    rintro e w1 ⟨rfl, hw1⟩
    subst hw1
    go_wp2_with fail
    refine (HK2.out _).mono ?_
    rintro e w2 ⟨rfl, hb⟩
    cases k with
    | false =>
      go_wp2_with fail
      go_ret
      exact ⟨by rw [F.out]; rfl, hb⟩
    | true =>
      go_wp2_with fail
      refine (HP2.out _).mono ?_
      rintro e w3 ⟨rfl, hw3⟩
      subst hw3
      cases q with
      | false =>
        go_wp2_with fail
        go_ret
        exact ⟨by rw [F.out]; rfl, hb⟩
      | true =>
        go_wp2_with fail
        go_ret
        exact ⟨by rw [F.out]; rfl, hb⟩

theorem specLegal_any (a : Option Addr) (n cap : Nat) (l : List Int) (p : Int) (w : World) (hz : l.length = n) (hs : Sl .u64 w a l) :
    Calls Try.prog 61 #[.slice a n cap, .int .i64 p] w fun e w' => e = .returned (.bool (legalB n l p)) ∧ w' = w := by
  have HO : Hid (Calls Try.prog 83 #[.slice a n cap] w fun e w' => e = .returned (.bool (csrsOk n l)) ∧ w' = w) := specCsrsOk_any a n cap l w hz hs
  have HP : Hid (∀ w, Calls Try.prog 85 #[.int .i64 p] w fun e w' => e = .returned (.bool (privB p)) ∧ w' = w) := l4Priv_any p
  have F : Hid (legalB n l p = (csrsOk n l && privB p)) := (rfl : legalB n l p = _)
  generalize csrsOk n l = o at *
  generalize privB p = q at *
  clear hz hs
  cases o with
  | false =>
    go_enter Try.func61, Try.ntmps61
    go_wp2_with fail
    refine HO.out.mono ?_
    rintro e w1 ⟨rfl, hw1⟩
    subst hw1
    go_wp2_with fail
    go_ret
    exact ⟨by rw [F.out]; rfl, rfl⟩
  | true =>
    go_enter Try.func61, Try.ntmps61
    go_wp2_with fail
    refine HO.out.mono ?_
    rintro e w1 ⟨rfl, hw1⟩
    subst hw1
    go_wp2_with fail
    refine (HP.out _).mono ?_
    rintro e w2 ⟨rfl, hw2⟩
    subst hw2
    go_wp2_with fail
    go_ret
    exact ⟨by rw [F.out]; rfl, rfl⟩

end Go.Proofs.Ytgcbdlfljplkbab
