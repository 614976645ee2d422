/- The model's regions. -/
import Derived.Test.YtaicnnkcdpdhaacDoorCsrW
import Derived.Test.YtaicnnkcdpdhaacDoorRegP
import Derived.OwnWalk
namespace Go.Proofs.YtaicnnkcdpdhaacDoor
open Go.RowKit
set_option linter.unusedVariables false

set_option maxRecDepth 100000 in
set_option maxHeartbeats 1600000 in
theorem l6Region_any (a : Option Addr) (cap : Nat) (l : List Int) (i : Nat) (hi : i < 4) (w : World) (hz : l.length = 22) (hs : Sl .u64 w a l) :
    Calls Tryd.prog 28 #[.slice a 22 cap, .int .i64 i] w fun e w' => e = .returned (.tuple #[.int .u64 (regionV l i).1, .int .u64 (regionV l i).2.1, .bool (regionV l i).2.2]) ∧ w' = w := by
  obtain ⟨b, off, rfl, hb, hc17⟩ := hs (17 + i) (by omega)
  obtain ⟨b', off', eb, _, hc16⟩ := hs (16 + i) (by omega)
  simp only [Option.some.injEq, Addr.mk.injEq, and_true] at eb
  obtain ⟨rfl, rfl⟩ := eb
  have HB : Hid (Calls Tryd.prog 29 #[.slice (some ⟨b, off, none⟩) 22 cap, .int .i64 i] w fun e w' => e = .returned (.int .u64 (cfgAt l i)) ∧ w' = w) := l4Byte_any _ cap l i hi w hz hs
  have hk0 : bits .and .u64 (cfgAt l i / 8) 3 = kindOf l i := rfl
  have F0 : regionV l i = if (kindOf l i == 1) = true then (if IntKind.u64.wrap (l.getD (17 + i) 0 * 4) ≤ regFrom l i then (0, 0, false) else (regFrom l i, IntKind.u64.wrap (IntKind.u64.wrap (l.getD (17 + i) 0 * 4) - 1), true))
    else if (kindOf l i == 2) = true then (IntKind.u64.wrap (l.getD (17 + i) 0 * 4), IntKind.u64.wrap (IntKind.u64.wrap (l.getD (17 + i) 0 * 4) + 3), true)
    else if (kindOf l i == 3) = true then (regLo (l.getD (17 + i) 0) (trailN (l.getD (17 + i) 0) 53 0), regHi (l.getD (17 + i) 0) (trailN (l.getD (17 + i) 0) 53 0), true)
    else (0, 0, false) := rfl
  have hf0 : regFrom l i = if 0 < i then IntKind.u64.wrap (l.getD (16 + i) 0 * 4) else 0 := rfl
  have e17 : wrap64 (17 + (i : Int)) = ((17 + i : Nat) : Int) := by unfold wrap64; omega
  have e16 : wrap64 (16 + (i : Int)) = ((16 + i : Nat) : Int) := by unfold wrap64; omega
  have b17 : 0 ≤ ((17 + i : Nat) : Int) ∧ ((17 + i : Nat) : Int) < ((22 : Nat) : Int) := by omega
  have b16 : 0 ≤ ((16 + i : Nat) : Int) ∧ ((16 + i : Nat) : Int) < ((22 : Nat) : Int) := by omega
  generalize regionV l i = r at *
  generalize kindOf l i = kd at *
  generalize cfgAt l i = cf at *
  generalize regFrom l i = fr at *
  generalize l.getD (17 + i) 0 = x at *
  generalize l.getD (16 + i) 0 = y at *
  clear hs
  cases h1 : (kd == 1) with
  | true =>
    rw [if_pos h1] at F0
    have di : (decide (0 < i) = true ∧ fr = IntKind.u64.wrap (y * 4)) ∨ (decide (0 < i) = false ∧ fr = 0) := by
      by_cases hi0 : 0 < i
      · rw [if_pos hi0] at hf0
        exact Or.inl ⟨by simpa using hi0, hf0⟩
      · rw [if_neg hi0] at hf0
        exact Or.inr ⟨by simpa using hi0, hf0⟩
    obtain ⟨t, ht⟩ : ∃ t, IntKind.u64.wrap (x * 4) = t := ⟨_, rfl⟩
    rw [ht] at F0
    clear hf0
    rcases di with ⟨di, hfr⟩ | ⟨di, hfr⟩
    · rw [hfr] at F0
      obtain ⟨f4, hf4⟩ : ∃ t, IntKind.u64.wrap (y * 4) = t := ⟨_, rfl⟩
      rw [hf4] at F0
      clear hfr
      by_cases hle : t ≤ f4
      · have d : decide (t ≤ f4) = true := by simpa using hle
        rw [if_pos hle] at F0
        have F : Hid (r = (0, 0, false)) := F0
        clear F0 hle
        go_enter Tryd.func28, Tryd.ntmps28
        go_wp2_with fail
        refine HB.out.mono ?_
        rintro e w1 ⟨rfl, hw1⟩
        have hw2 := hw1.symm
        subst hw2
        go_wp2_with fail
        go_ret3
        exact ⟨by rw [F.out]; rfl, rfl⟩
      · have d : decide (t ≤ f4) = false := by simpa using hle
        rw [if_neg hle] at F0
        have F : Hid (r = (f4, IntKind.u64.wrap (t - 1), true)) := F0
        clear F0 hle
        go_enter Tryd.func28, Tryd.ntmps28
        go_wp2_with fail
        refine HB.out.mono ?_
        rintro e w1 ⟨rfl, hw1⟩
        have hw2 := hw1.symm
        subst hw2
        go_wp2_with fail
        go_ret3
        exact ⟨by rw [F.out]; rfl, rfl⟩
    · subst hfr
      by_cases hle : t ≤ 0
      · have d : decide (t ≤ 0) = true := by simpa using hle
        rw [if_pos hle] at F0
        have F : Hid (r = (0, 0, false)) := F0
        clear F0 hle
        go_enter Tryd.func28, Tryd.ntmps28
        go_wp2_with fail
        refine HB.out.mono ?_
        rintro e w1 ⟨rfl, hw1⟩
        have hw2 := hw1.symm
        subst hw2
        go_wp2_with fail
        go_ret3
        exact ⟨by rw [F.out]; rfl, rfl⟩
      · have d : decide (t ≤ 0) = false := by simpa using hle
        rw [if_neg hle] at F0
        have F : Hid (r = (0, IntKind.u64.wrap (t - 1), true)) := F0
        clear F0 hle
        go_enter Tryd.func28, Tryd.ntmps28
        go_wp2_with fail
        refine HB.out.mono ?_
        rintro e w1 ⟨rfl, hw1⟩
        have hw2 := hw1.symm
        subst hw2
        go_wp2_with fail
        go_ret3
        exact ⟨by rw [F.out]; rfl, rfl⟩
  | false =>
    rw [if_neg (by rw [h1]; decide)] at F0
    cases h2 : (kd == 2) with
    | true =>
      rw [if_pos h2] at F0
      have F : Hid (r = (IntKind.u64.wrap (x * 4), IntKind.u64.wrap (IntKind.u64.wrap (x * 4) + 3), true)) := F0
      clear F0 hf0
      go_enter Tryd.func28, Tryd.ntmps28
      go_wp2_with fail
      refine HB.out.mono ?_
      rintro e w1 ⟨rfl, hw1⟩
      have hw2 := hw1.symm
      subst hw2
      go_wp2_with fail
      go_ret3
      exact ⟨by rw [F.out]; rfl, rfl⟩
    | false =>
      rw [if_neg (by rw [h2]; decide)] at F0
      cases h3 : (kd == 3) with
      | true =>
        rw [if_pos h3] at F0
        have F : Hid (r = (regLo x (trailN x 53 0), regHi x (trailN x 53 0), true)) := F0
        clear F0 hf0
        go_enter Tryd.func28, Tryd.ntmps28
        go_wp2_with fail
        refine HB.out.mono ?_
        rintro e w1 ⟨rfl, hw1⟩
        have hw2 := hw1.symm
        subst hw2
        go_wp2_with fail
        go_loopw [9] (fun v wr => ∃ k : Nat, k ≤ 53 ∧ v = .int .u64 k ∧ Hid (trailN x (53 - k) k = trailN x 53 0) ∧ wr = w)
          (fun v _ => 53 - (intOf v).toNat)
        case atStart => exact ⟨0, by omega, rfl, (rfl : trailN x (53 - 0) 0 = trailN x 53 0), rfl⟩
        case round =>
          obtain ⟨k, hk, rfl, hf, rfl⟩ := hrel
          have fin : Hid (trailN x 53 0 = k) → Hid (r = (regLo x k, regHi x k, true)) := fun h => by
            show r = _
            rw [F.out, h.out]
          have d3 : ((k : Int) + 1) = ((k + 1 : Nat) : Int) := by omega
          have u1 : IntKind.u64.wrap ((k : Int) + 1) = ((k + 1 : Nat) : Int) := by rw [IntKind.wrap_u64]; omega
          have u3 : IntKind.u64.wrap ((k : Int) + 3) = ((k + 3 : Nat) : Int) := by rw [IntKind.wrap_u64]; omega
          clear d3
          by_cases hlt : k < 53
          · have dk : decide ((k : Int) < 53) = true := by simp; omega
            cases hbit : (bits .and .u64 (x / 2 ^ k) 1 == 1) with
            | true =>
              have F1 : Hid (trailN x (53 - (k + 1)) (k + 1) = trailN x 53 0) := (trail_go x k hlt hbit).symm.trans hf.out
              clear fin u1 u3
              go_wp2_with fail
              go_roundw
              case rel => exact ⟨k + 1, by omega, by go_num, F1, trivial⟩
              case measure => simp [intOf]; omega
            | false =>
              have F1 := fin (hf.out.symm.trans (trail_stop x k hlt hbit))
              clear fin
              go_wp2_with fail
              go_ret3
              exact ⟨by rw [F1.out]; rfl, rfl⟩
          · have hk53 : k = 53 := by omega
            have F1 := fin (hf.out.symm.trans (by rw [hk53]; rfl))
            have dk : decide ((k : Int) < 53) = false := by simp; omega
            clear fin hk53
            go_wp2_with fail
            go_ret3
            exact ⟨by rw [F1.out]; rfl, rfl⟩
      | false =>
        rw [if_neg (by rw [h3]; decide)] at F0
        have F : Hid (r = (0, 0, false)) := F0
        clear F0 hf0
        go_enter Tryd.func28, Tryd.ntmps28
        go_wp2_with fail
        refine HB.out.mono ?_
        rintro e w1 ⟨rfl, hw1⟩
        have hw2 := hw1.symm
        subst hw2
        go_wp2_with fail
        go_ret3
        exact ⟨by rw [F.out]; rfl, rfl⟩

end Go.Proofs.YtaicnnkcdpdhaacDoor
