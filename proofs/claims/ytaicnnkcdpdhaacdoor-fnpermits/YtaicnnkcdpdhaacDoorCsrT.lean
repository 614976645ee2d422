/- The model's state registers: who may, what is read. -/
import Derived.Test.YtaicnnkcdpdhaacDoorCsrS
namespace Go.Proofs.YtaicnnkcdpdhaacDoor
open Go.RowKit
set_option linter.unusedVariables false

theorem l4Priv_any (p : Int) (w : World) : Calls Tryd.prog 36 #[.int .i64 p] w fun e w' => e = .returned (.bool (privB p)) ∧ w' = w := by
  cases h0 : (p == 0) with
  | true =>
    have F : Hid (privB p = true) := by show _ = _; simp [privB, h0]
    go_enter Tryd.func36, Tryd.ntmps36
    go_wp2_with fail
    go_ret
    exact ⟨by rw [F.out]; rfl, rfl⟩
  | false =>
    cases h1 : (p == 1) with
    | true =>
      have F : Hid (privB p = true) := by show _ = _; simp [privB, h1]
      go_enter Tryd.func36, Tryd.ntmps36
      go_wp2_with fail
      go_ret
      exact ⟨by rw [F.out]; rfl, rfl⟩
    | false =>
      have F : Hid (privB p = (p == 3)) := by show _ = _; simp [privB, h0, h1]
      obtain ⟨c, hc⟩ : ∃ c, (p == 3) = c := ⟨_, rfl⟩
      rw [hc] at F
      go_enter Tryd.func36, Tryd.ntmps36
      go_wp2_with fail
      go_ret
      exact ⟨by rw [F.out]; rfl, rfl⟩

theorem specLegal_any (a : Option Addr) (n cap : Nat) (l : List Int) (p : Int) (w : World) (hz : l.length = n) (hs : Sl .u64 w a l) :
    Calls Tryd.prog 22 #[.slice a n cap, .int .i64 p] w fun e w' => e = .returned (.bool (legalB n l p)) ∧ w' = w := by
  have HO : Hid (Calls Tryd.prog 27 #[.slice a n cap] w fun e w' => e = .returned (.bool (csrsOk n l)) ∧ w' = w) := specCsrsOk_any a n cap l w hz hs
  have HP : Hid (∀ w, Calls Tryd.prog 36 #[.int .i64 p] w fun e w' => e = .returned (.bool (privB p)) ∧ w' = w) := l4Priv_any p
  have F : Hid (legalB n l p = (csrsOk n l && privB p)) := (rfl : legalB n l p = _)
  generalize csrsOk n l = o at *
  generalize privB p = q at *
  clear hz hs
  cases o with
  | false =>
    go_enter Tryd.func22, Tryd.ntmps22
    go_wp2_with fail
    refine HO.out.mono ?_
    rintro e w1 ⟨rfl, hw1⟩
    subst hw1
    go_wp2_with fail
    go_ret
    exact ⟨by rw [F.out]; rfl, rfl⟩
  | true =>
    go_enter Tryd.func22, Tryd.ntmps22
    go_wp2_with fail
    refine HO.out.mono ?_
    rintro e w1 ⟨rfl, hw1⟩
    subst hw1
    go_wp2_with fail
    refine (HP.out _).mono ?_
    rintro e w2 ⟨rfl, hw2⟩
    subst hw2
    go_wp2_with fail
    go_ret
    exact ⟨by rw [F.out]; rfl, rfl⟩

end Go.Proofs.YtaicnnkcdpdhaacDoor
