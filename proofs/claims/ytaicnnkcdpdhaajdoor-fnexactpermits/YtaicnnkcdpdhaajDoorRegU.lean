/- The model's Permits. -/
import Derived.Test.YtaicnnkcdpdhaajDoorRegT
namespace Go.Proofs.YtaicnnkcdpdhaajDoor
open Go.RowKit
set_option linter.unusedVariables false

def lastOf (x s : Int) : Int := IntKind.u64.wrap (IntKind.u64.wrap (x + IntKind.u64.wrap s) - 1)

def skipB (r : Int × Int × Bool) (x y : Int) : Bool := !r.2.2 || decide (y < r.1) || decide (r.2.1 < x)

def outB (r : Int × Int × Bool) (x y : Int) : Bool := decide (x < r.1) || decide (r.2.1 < y)

/-- What an entry's byte lets: at privilege 3 where it isn't locked, all; else by its bits. -/
def letB (b p kind : Int) : Bool :=
  if ((p == 3) && (b / 128 == 0)) = true then true else if (kind == 1) = true then (bits .and .u64 (b / 4) 1 == 1) else if (kind == 2) = true then (bits .and .u64 b 1 == 1) else (bits .and .u64 (b / 2) 1 == 1)

def permRest (l : List Int) (p x y kind : Int) : Nat → Nat → Bool
  | 0, _ => (p == 3)
  | n + 1, k => if skipB (regionV l k) x y = true then permRest l p x y kind n (k + 1) else !outB (regionV l k) x y && letB (cfgAt l k) p kind

theorem perm_skip (l : List Int) (p x y kind : Int) (k : Nat) (hk : k < 4) (h : skipB (regionV l k) x y = true) : permRest l p x y kind (4 - k) k = permRest l p x y kind (4 - (k + 1)) (k + 1) := by
  rw [show 4 - k = (4 - (k + 1)) + 1 from by omega, permRest, if_pos h]

theorem perm_hit (l : List Int) (p x y kind : Int) (k : Nat) (hk : k < 4) (h : skipB (regionV l k) x y = false) : permRest l p x y kind (4 - k) k = (!outB (regionV l k) x y && letB (cfgAt l k) p kind) := by
  rw [show 4 - k = (4 - (k + 1)) + 1 from by omega, permRest, if_neg (by rw [h]; decide)]

set_option maxRecDepth 100000 in
set_option maxHeartbeats 3200000 in
theorem l6Permits_any (a : Option Addr) (cap : Nat) (l : List Int) (p x s kind : Int) (w : World) (hz : l.length = 22) (hs : Sl .u64 w a l) :
    Calls Tryd.prog 22 #[.slice a 22 cap, .int .i64 p, .int .u64 x, .int .i64 s, .int .i64 kind] w fun e w' => e = .returned (.bool (permRest l p x (lastOf x s) kind 4 0)) ∧ w' = w := by
  have hy0 : IntKind.u64.wrap (IntKind.u64.wrap (x + IntKind.u64.wrap s) - 1) = lastOf x s := rfl
  generalize lastOf x s = y at *
  have HS : Hid (Sl .u64 w a l) := hs
  have HZ : Hid (l.length = 22) := hz
  have F0 : Hid (True ∧ permRest l p x y kind 4 0 = permRest l p x y kind 4 0) := ⟨trivial, rfl⟩
  clear hs hz F0
  go_enter Tryd.func22, Tryd.ntmps22
  go_wp2_with fail
  go_loopw [12] (fun v wr => ∃ k : Nat, k ≤ 4 ∧ v = .int .i64 k ∧ Hid (permRest l p x y kind (4 - k) k = permRest l p x y kind 4 0) ∧ wr = w)
    (fun v _ => 4 - (intOf v).toNat)
  case atStart => exact ⟨0, by omega, rfl, (rfl : permRest l p x y kind (4 - 0) 0 = permRest l p x y kind 4 0), rfl⟩
  case round =>
    obtain ⟨k, hk, rfl, hf, rfl⟩ := hrel
    clear hy0
    by_cases hlt : k < 4
    · have dk : decide ((k : Int) < 4) = true := by simp; omega
      have HR : Hid (Calls Tryd.prog 16 #[.slice a 22 cap, .int .i64 k] wr fun e w' => e = .returned (.tuple #[.int .u64 (regionV l k).1, .int .u64 (regionV l k).2.1, .bool (regionV l k).2.2]) ∧ w' = wr) := l6Region_any a cap l k hlt wr HZ.out HS.out
      have HB : Hid (Calls Tryd.prog 29 #[.slice a 22 cap, .int .i64 k] wr fun e w' => e = .returned (.int .u64 (cfgAt l k)) ∧ w' = wr) := l4Byte_any a cap l k hlt wr HZ.out HS.out
      have Hit : skipB (regionV l k) x y = false → Hid (permRest l p x y kind 4 0 = (!outB (regionV l k) x y && letB (cfgAt l k) p kind)) := fun h => hf.out.symm.trans (perm_hit l p x y kind k hlt h)
      have Miss : skipB (regionV l k) x y = true → Hid (permRest l p x y kind (4 - (k + 1)) (k + 1) = permRest l p x y kind 4 0) := fun h => (perm_skip l p x y kind k hlt h).symm.trans hf.out
      generalize regionV l k = r at *
      generalize cfgAt l k = cf at *
      obtain ⟨r1, r2, r3⟩ := r
      simp only at HR
      have hh : skipB (r1, r2, r3) x y = (!r3 || decide (y < r1) || decide (r2 < x)) := rfl
      have ho : outB (r1, r2, r3) x y = (decide (x < r1) || decide (r2 < y)) := rfl
      rw [hh] at Hit Miss
      rw [ho] at Hit
      clear hh ho
      go_wp2_with fail
      refine HR.out.mono ?_
      rintro e w1 ⟨rfl, hw1⟩
      have hw2 := hw1.symm
      subst hw2
      cases r3 with
      | false =>
        have F1 := Miss (rfl)
        clear Hit Miss
        go_wp2_with fail
        go_roundw
        case rel => exact ⟨k + 1, by omega, by go_num, F1, trivial⟩
        case measure => simp [intOf]; omega
      | true =>
        cases h1 : decide (y < r1) with
        | true =>
          have F1 := Miss (by rw [h1]; rfl)
          clear Hit Miss
          go_wp2_with fail
          go_roundw
          case rel => exact ⟨k + 1, by omega, by go_num, F1, trivial⟩
          case measure => simp [intOf]; omega
        | false =>
          cases h2 : decide (r2 < x) with
          | true =>
            have F1 := Miss (by rw [h1, h2]; rfl)
            clear Hit Miss
            go_wp2_with fail
            go_roundw
            case rel => exact ⟨k + 1, by omega, by go_num, F1, trivial⟩
            case measure => simp [intOf]; omega
          | false =>
            have F1 := Hit (by rw [h1, h2]; rfl)
            clear Hit Miss
            cases h3 : decide (x < r1) with
            | true =>
              go_wp2_with fail
              go_ret
              exact ⟨by rw [F1.out, h3]; rfl, rfl⟩
            | false =>
              cases h4 : decide (r2 < y) with
              | true =>
                go_wp2_with fail
                go_ret
                exact ⟨by rw [F1.out, h3, h4]; rfl, rfl⟩
              | false =>
                have F2 : Hid (permRest l p x y kind 4 0 = letB cf p kind) := by show _ = _; rw [F1.out, h3, h4]; rfl
                clear F1
                have L0 : letB cf p kind = if ((p == 3) && (cf / 128 == 0)) = true then true else if (kind == 1) = true then (bits .and .u64 (cf / 4) 1 == 1) else if (kind == 2) = true then (bits .and .u64 cf 1 == 1) else (bits .and .u64 (cf / 2) 1 == 1) := rfl
                go_wp2_with fail
                refine HB.out.mono ?_
                rintro e w1 ⟨rfl, hw1⟩
                have hw2 := hw1.symm
                subst hw2
                have by3 : ((p == 3) = true ∧ (cf / 128 == 0) = true) ∨ ((p == 3) = true ∧ (cf / 128 == 0) = false) ∨ (p == 3) = false := by
                  cases (p == 3) <;> cases (cf / 128 == 0) <;> simp
                generalize letB cf p kind = lt at *
                rcases by3 with ⟨q1, q2⟩ | by3
                · have F3 : Hid (lt = true) := by show _ = _; rw [L0, q1, q2]; rfl
                  clear L0
                  go_wp2_with fail
                  go_ret
                  exact ⟨by rw [F2.out, F3.out]; rfl, rfl⟩
                · have L1 : lt = if (kind == 1) = true then (bits .and .u64 (cf / 4) 1 == 1) else if (kind == 2) = true then (bits .and .u64 cf 1 == 1) else (bits .and .u64 (cf / 2) 1 == 1) := by
                    rcases by3 with ⟨q1, q2⟩ | q1
                    · rw [L0, q1, q2]; rfl
                    · rw [L0, q1]; rfl
                  clear L0
                  obtain ⟨b1, e1⟩ : ∃ q, (bits .and .u64 (cf / 4) 1 == 1) = q := ⟨_, rfl⟩
                  obtain ⟨b2, e2⟩ : ∃ q, (bits .and .u64 cf 1 == 1) = q := ⟨_, rfl⟩
                  obtain ⟨b3, e3⟩ : ∃ q, (bits .and .u64 (cf / 2) 1 == 1) = q := ⟨_, rfl⟩
                  rw [e1, e2, e3] at L1
                  cases k1 : (kind == 1) with
                  | true =>
                    have F3 : Hid (lt = b1) := by show _ = _; rw [L1, k1]; rfl
                    clear L1
                    rcases by3 with ⟨q1, q2⟩ | q1
                    all_goals
                      go_wp2_with fail
                      go_ret
                      exact ⟨by rw [F2.out, F3.out]; rfl, rfl⟩
                  | false =>
                    cases k2 : (kind == 2) with
                    | true =>
                      have F3 : Hid (lt = b2) := by show _ = _; rw [L1, k1, k2]; rfl
                      clear L1
                      rcases by3 with ⟨q1, q2⟩ | q1
                      all_goals
                        go_wp2_with fail
                        go_ret
                        exact ⟨by rw [F2.out, F3.out]; rfl, rfl⟩
                    | false =>
                      have F3 : Hid (lt = b3) := by show _ = _; rw [L1, k1, k2]; rfl
                      clear L1
                      rcases by3 with ⟨q1, q2⟩ | q1
                      all_goals
                        go_wp2_with fail
                        go_ret
                        exact ⟨by rw [F2.out, F3.out]; rfl, rfl⟩
    · have hk4 : k = 4 := by omega
      subst hk4
      obtain ⟨q, hq⟩ : ∃ q, (p == 3) = q := ⟨_, rfl⟩
      have F1 : Hid (permRest l p x y kind 4 0 = q) := hf.out.symm.trans hq
      go_wp2_with fail
      go_ret
      exact ⟨by rw [F1.out]; rfl, rfl⟩

/-- May it be touched. -/
def permV (n : Nat) (l : List Int) (p x s kind : Int) : Bool := legalB n l p && sizeB s && decide (1 ≤ kind ∧ kind ≤ 3) && !decide (lastOf x s < x) && permRest l p x (lastOf x s) kind 4 0

theorem l6Kind_any (k : Int) (w : World) : Calls Tryd.prog 21 #[.int .i64 k] w fun e w' => e = .returned (.bool (decide (1 ≤ k ∧ k ≤ 3))) ∧ w' = w := by
  have HI : Hid (∀ w, Calls Tryd.prog 15 #[.int .i64 k, .int .i64 1, .int .i64 3] w fun e w' => e = .returned (.bool (decide (1 ≤ k ∧ k ≤ 3))) ∧ w' = w) := l1In_d k 1 3
  generalize decide (1 ≤ k ∧ k ≤ 3) = c at *
  go_enter Tryd.func21, Tryd.ntmps21
  go_wp2_with fail
  refine (HI.out _).mono ?_
  rintro e w1 ⟨rfl, hw1⟩
  have hw2 := hw1.symm
  subst hw2
  go_wp2_with fail
  go_ret
  exact ⟨rfl, rfl⟩

set_option maxHeartbeats 1600000 in
theorem specPermits_any (a : Option Addr) (n cap : Nat) (l : List Int) (p x s kind : Int) (w : World) (hz : l.length = n) (hs : Sl .u64 w a l) :
    Calls Tryd.prog 10 #[.slice a n cap, .int .i64 p, .int .u64 x, .int .i64 s, .int .i64 kind] w fun e w' => e = .returned (.bool (permV n l p x s kind)) ∧ w' = w := by
  have HL : Hid (Calls Tryd.prog 19 #[.slice a n cap, .int .i64 p] w fun e w' => e = .returned (.bool (legalB n l p)) ∧ w' = w) := specLegal_any a n cap l p w hz hs
  have HK : Hid (∀ w, Calls Tryd.prog 21 #[.int .i64 kind] w fun e w' => e = .returned (.bool (decide (1 ≤ kind ∧ kind ≤ 3))) ∧ w' = w) := l6Kind_any kind
  have HSZ : Hid (∀ w, Calls Tryd.prog 20 #[.int .i64 s] w fun e w' => e = .returned (.bool (sizeB s)) ∧ w' = w) := specSize_any s
  have F0 : permV n l p x s kind = (legalB n l p && sizeB s && decide (1 ≤ kind ∧ kind ≤ 3) && !decide (lastOf x s < x) && permRest l p x (lastOf x s) kind 4 0) := rfl
  have hy : IntKind.u64.wrap (IntKind.u64.wrap (x + IntKind.u64.wrap s) - 1) = lastOf x s := rfl
  have HP : legalB n l p = true → Hid (Calls Tryd.prog 22 #[.slice a n cap, .int .i64 p, .int .u64 x, .int .i64 s, .int .i64 kind] w fun e w' => e = .returned (.bool (permRest l p x (lastOf x s) kind 4 0)) ∧ w' = w) := by
    intro h
    obtain ⟨rfl, _⟩ := legalB_parts h
    exact l6Permits_any a cap l p x s kind w hz hs
  clear hz hs
  generalize permV n l p x s kind = res at *
  generalize permRest l p x (lastOf x s) kind 4 0 = pr at *
  generalize decide (1 ≤ kind ∧ kind ≤ 3) = kb at *
  generalize sizeB s = sb at *
  generalize lastOf x s = y at *
  cases hl : legalB n l p with
  | false =>
    have F : Hid (res = false) := by show _ = _; rw [F0, hl]; rfl
    rw [hl] at HL
    clear F0 HP hl
    go_enter Tryd.func10, Tryd.ntmps10
    go_wp2_with fail
    refine HL.out.mono ?_
    rintro e w1 ⟨rfl, hw1⟩
    have hw2 := hw1.symm
    subst hw2
    go_wp2_with fail
    go_ret
    exact ⟨by rw [F.out]; rfl, rfl⟩
  | true =>
    have HP1 := HP hl
    rw [hl] at HL F0
    clear HP hl
    cases sb with
    | false =>
      have F : Hid (res = false) := by show _ = _; rw [F0]; rfl
      clear F0
      go_enter Tryd.func10, Tryd.ntmps10
      go_wp2_with fail
      refine HL.out.mono ?_
      rintro e w1 ⟨rfl, hw1⟩
      have hw2 := hw1.symm
      subst hw2
      go_wp2_with fail
      refine (HSZ.out _).mono ?_
      rintro e w1 ⟨rfl, hw1⟩
      have hw2 := hw1.symm
      subst hw2
      go_wp2_with fail
      go_ret
      exact ⟨by rw [F.out]; rfl, rfl⟩
    | true =>
      cases kb with
      | false =>
        have F : Hid (res = false) := by show _ = _; rw [F0]; rfl
        clear F0
        go_enter Tryd.func10, Tryd.ntmps10
        go_wp2_with fail
        refine HL.out.mono ?_
        rintro e w1 ⟨rfl, hw1⟩
        have hw2 := hw1.symm
        subst hw2
        go_wp2_with fail
        refine (HSZ.out _).mono ?_
        rintro e w1 ⟨rfl, hw1⟩
        have hw2 := hw1.symm
        subst hw2
        go_wp2_with fail
        refine (HK.out _).mono ?_
        rintro e w1 ⟨rfl, hw1⟩
        have hw2 := hw1.symm
        subst hw2
        go_wp2_with fail
        go_ret
        exact ⟨by rw [F.out]; rfl, rfl⟩
      | true =>
        cases hlt : decide (y < x) with
        | true =>
          have F : Hid (res = false) := by show _ = _; rw [F0, hlt]; rfl
          clear F0
          go_enter Tryd.func10, Tryd.ntmps10
          go_wp2_with fail
          refine HL.out.mono ?_
          rintro e w1 ⟨rfl, hw1⟩
          have hw2 := hw1.symm
          subst hw2
          go_wp2_with fail
          refine (HSZ.out _).mono ?_
          rintro e w1 ⟨rfl, hw1⟩
          have hw2 := hw1.symm
          subst hw2
          go_wp2_with fail
          refine (HK.out _).mono ?_
          rintro e w1 ⟨rfl, hw1⟩
          have hw2 := hw1.symm
          subst hw2
          go_wp2_with fail
          go_ret
          exact ⟨by rw [F.out]; rfl, rfl⟩
        | false =>
          have F : Hid (res = pr) := by show _ = _; rw [F0, hlt]; rfl
          clear F0
          go_enter Tryd.func10, Tryd.ntmps10
          go_wp2_with fail
          refine HL.out.mono ?_
          rintro e w1 ⟨rfl, hw1⟩
          have hw2 := hw1.symm
          subst hw2
          go_wp2_with fail
          refine (HSZ.out _).mono ?_
          rintro e w1 ⟨rfl, hw1⟩
          have hw2 := hw1.symm
          subst hw2
          go_wp2_with fail
          refine (HK.out _).mono ?_
          rintro e w1 ⟨rfl, hw1⟩
          have hw2 := hw1.symm
          subst hw2
          go_wp2_with fail
          refine HP1.out.mono ?_
          rintro e w1 ⟨rfl, hw1⟩
          have hw2 := hw1.symm
          subst hw2
          go_wp2_with fail
          go_ret
          exact ⟨by rw [F.out]; rfl, rfl⟩

end Go.Proofs.YtaicnnkcdpdhaajDoor
