/- The methods of the program's state registers: what a write leaves, what stays, how it is seen. -/
import Derived.Test.YtaicnnkcdpdhaacDoorCsrI
namespace Go.Proofs.YtaicnnkcdpdhaacDoor
open Go.RowKit
set_option linter.unusedVariables false

def modeB (x : Int) : Bool := (fld x 60 4 == 0) || (fld x 60 4 == 8)

def byteI (x : Int) (k : Nat) : Int := if (bits .and .u64 (bits .and .u64 (fld x (8 * k) 8) 159) 1 == 0) = true then bits .andNot .u64 (bits .and .u64 (fld x (8 * k) 8) 159) 2 else bits .and .u64 (fld x (8 * k) 8) 159

def cfgI (x : Int) : Nat → Int
  | 0 => 0
  | k + 1 => bits .or .u64 (cfgI x k) (IntKind.u64.wrap (byteI x k * 2 ^ (8 * k)))

def fitV : CK → Int → Int
  | .plain b, x => bits .and .u64 x b
  | .mst, x => if (bits .and .u64 x 6144 == 4096) = true then bits .andNot .u64 (bits .and .u64 x 924074) 6144 else bits .and .u64 x 924074
  | .mie, x => bits .and .u64 x 2730
  | .mip, x => bits .and .u64 x 2730
  | .satp, x => if modeB x = true then x else 0
  | .cfg, x => cfgI x 4
  | .addr _, x => bits .and .u64 x 18014398509481983

def lockI (c : Int) (e : Nat) : Bool := (bits .and .u64 (fld c (8 * e) 8) 128 != 0)

def reachI (c : Int) (e : Nat) : Int := fld c (8 * e + 3) 2

def stayI (c : Int) : Nat → Int
  | 0 => 0
  | k + 1 => if lockI c k = true then bits .or .u64 (stayI c k) (IntKind.u64.wrap (255 * 2 ^ (8 * k))) else stayI c k

/-- What stays of a write of x, c being pmpcfg0; nothing where the kind says nothing. -/
def staysV (c : Int) : CK → Int → Int
  | .mip, _ => 2184
  | .satp, x => if modeB x = true then 0 else 18446744073709551615
  | .cfg, _ => stayI c 4
  | .addr e, _ => if (lockI c e || (lockI c (e + 1) && (reachI c (e + 1) == 1))) = true then 18446744073709551615 else 0
  | _, _ => 0

def CK.fitF : CK → Nat
  | .plain _ => 68 | .mst => 67 | .mie => 69 | .mip => 70 | .satp => 71 | .cfg => 73 | .addr _ => 74

theorem satpModeOk_any (x : Int) (h0 : 0 ≤ x) (h1 : x < 18446744073709551616) (w : World) : Calls Tryd.prog 72 #[.int .u64 x] w fun e w' => e = .returned (.bool (modeB x)) ∧ w' = w.drew := by
  have HB : Hid (∀ w, Calls Tryd.prog 50 #[.int .u64 x, .int .i64 60, .int .i64 4] w fun e w' => e = .returned (.int .u64 (fld x 60 4)) ∧ w' = w.drew) := fun w => bitsAt_any x 60 4 h0 h1 (by omega) (by omega) w
  have F : Hid (modeB x = ((fld x 60 4 == 0) || (fld x 60 4 == 8))) := (rfl : modeB x = _)
  generalize fld x 60 4 = y at *
  cases d0 : (y == 0) with
  | true =>
    rw [d0] at F
    go_enter Tryd.func72, Tryd.ntmps72
    go_wp2_with fail
    refine (HB.out _).mono ?_
    rintro e w1 ⟨rfl, hw1⟩
    subst hw1
    go_wp2_with fail
    go_ret
    exact ⟨by rw [F.out]; rfl, rfl⟩
  | false =>
    rw [d0] at F
    go_enter Tryd.func72, Tryd.ntmps72
    go_wp2_with fail
    refine (HB.out _).mono ?_
    rintro e w1 ⟨rfl, hw1⟩
    subst hw1
    go_wp2_with fail
    go_ret
    exact ⟨by rw [F.out]; rfl, rfl⟩

theorem pmpByte_any (x : Int) (k : Nat) (hk : k < 5) (h0 : 0 ≤ x) (h1 : x < 18446744073709551616) (w : World) : Calls Tryd.prog 45 #[.int .u64 x, .int .i64 k] w fun e w' => e = .returned (.int .u64 (fld x (8 * k) 8)) ∧ w' = w.drew := by
  obtain ⟨q, hq⟩ : ∃ q, 8 * k = q := ⟨_, rfl⟩
  have hm : wrap64 (8 * (k : Int)) = (q : Int) := by unfold wrap64; omega
  rw [hq]
  have HB : Hid (∀ w, Calls Tryd.prog 50 #[.int .u64 x, .int .i64 q, .int .i64 8] w fun e w' => e = .returned (.int .u64 (fld x q 8)) ∧ w' = w.drew) := fun w => bitsAt_any x q 8 h0 h1 (by omega) (by omega) w
  clear hq hk
  generalize fld x q 8 = y at *
  go_enter Tryd.func45, Tryd.ntmps45
  go_wp2_with fail
  refine (HB.out _).mono ?_
  rintro e w1 ⟨rfl, hw1⟩
  subst hw1
  go_wp2_with fail
  go_ret
  exact ⟨rfl, rfl⟩

theorem pmpReach_any (x : Int) (k : Nat) (hk : k < 5) (h0 : 0 ≤ x) (h1 : x < 18446744073709551616) (w : World) : Calls Tryd.prog 47 #[.int .u64 x, .int .i64 k] w fun e w' => e = .returned (.int .u64 (reachI x k)) ∧ w' = w.drew := by
  obtain ⟨q, hq⟩ : ∃ q, 8 * k + 3 = q := ⟨_, rfl⟩
  obtain ⟨q2, hq2⟩ : ∃ q2, 8 * k = q2 := ⟨_, rfl⟩
  have hm : wrap64 (8 * (k : Int)) = (q2 : Int) := by unfold wrap64; omega
  have hm2 : wrap64 ((q2 : Int) + 3) = (q : Int) := by unfold wrap64; omega
  unfold reachI
  rw [hq]
  have HB : Hid (∀ w, Calls Tryd.prog 50 #[.int .u64 x, .int .i64 q, .int .i64 2] w fun e w' => e = .returned (.int .u64 (fld x q 2)) ∧ w' = w.drew) := fun w => bitsAt_any x q 2 h0 h1 (by omega) (by omega) w
  clear hq hq2 hk
  generalize fld x q 2 = y at *
  go_enter Tryd.func47, Tryd.ntmps47
  go_wp2_with fail
  refine (HB.out _).mono ?_
  rintro e w1 ⟨rfl, hw1⟩
  subst hw1
  go_wp2_with fail
  go_ret
  exact ⟨rfl, rfl⟩

theorem fit_plain (b x : Int) (w : World) : Calls Tryd.prog 68 #[.agg #[.int .u64 b], .int .u64 x] w fun e w' => e = .returned (.int .u64 (bits .and .u64 x b)) ∧ Below w.heap.size w w' := by
  go_enter Tryd.func68, Tryd.ntmps68
  go_wp2_with fail
  go_ret
  exact ⟨rfl, (Below.refl _ _).alloc (Nat.le_refl _) _⟩

theorem fit_addr (e : Nat) (x : Int) (w : World) : Calls Tryd.prog 74 #[.agg #[.int .i64 e], .int .u64 x] w fun e w' => e = .returned (.int .u64 (bits .and .u64 x 18014398509481983)) ∧ Below w.heap.size w w' := by
  go_enter Tryd.func74, Tryd.ntmps74
  go_wp2_with fail
  go_ret
  exact ⟨rfl, (Below.refl _ _).alloc (Nat.le_refl _) _⟩

theorem fit_mie (x : Int) (w : World) : Calls Tryd.prog 69 #[.agg #[], .int .u64 x] w fun e w' => e = .returned (.int .u64 (bits .and .u64 x 2730)) ∧ Below w.heap.size w w' := by
  go_enter Tryd.func69, Tryd.ntmps69
  go_wp2_with fail
  go_ret
  exact ⟨rfl, by go_grown⟩

theorem fit_mip (x : Int) (w : World) : Calls Tryd.prog 70 #[.agg #[], .int .u64 x] w fun e w' => e = .returned (.int .u64 (bits .and .u64 x 2730)) ∧ Below w.heap.size w w' := by
  go_enter Tryd.func70, Tryd.ntmps70
  go_wp2_with fail
  go_ret
  exact ⟨rfl, by go_grown⟩

theorem fit_mst (x : Int) (w : World) : Calls Tryd.prog 67 #[.agg #[], .int .u64 x] w fun e w' => e = .returned (.int .u64 (fitV .mst x)) ∧ Below w.heap.size w w' := by
  have F0 : fitV .mst x = if (bits .and .u64 x 6144 == 4096) = true then bits .andNot .u64 (bits .and .u64 x 924074) 6144 else bits .and .u64 x 924074 := rfl
  cases d : (bits .and .u64 x 6144 == 4096) with
  | true =>
    rw [if_pos d] at F0
    have F : Hid (fitV .mst x = bits .andNot .u64 (bits .and .u64 x 924074) 6144) := F0
    clear F0
    go_enter Tryd.func67, Tryd.ntmps67
    go_wp2_with fail
    go_ret
    exact ⟨by rw [F.out]; rfl, by go_grown⟩
  | false =>
    rw [if_neg (by rw [d]; decide)] at F0
    have F : Hid (fitV .mst x = bits .and .u64 x 924074) := F0
    clear F0
    go_enter Tryd.func67, Tryd.ntmps67
    go_wp2_with fail
    go_ret
    exact ⟨by rw [F.out]; rfl, by go_grown⟩

theorem fit_satp (x : Int) (h0 : 0 ≤ x) (h1 : x < 18446744073709551616) (w : World) : Calls Tryd.prog 71 #[.agg #[], .int .u64 x] w fun e w' => e = .returned (.int .u64 (fitV .satp x)) ∧ Below w.heap.size w w' := by
  have HB : Hid (∀ w, Calls Tryd.prog 72 #[.int .u64 x] w fun e w' => e = .returned (.bool (modeB x)) ∧ w' = w.drew) := fun w => satpModeOk_any x h0 h1 w
  have F0 : fitV .satp x = if modeB x = true then x else 0 := rfl
  cases d : modeB x with
  | true =>
    rw [if_pos d] at F0
    rw [d] at HB
    have F : Hid (fitV .satp x = x) := F0
    clear F0
    go_enter Tryd.func71, Tryd.ntmps71
    go_wp2_with fail
    refine (HB.out _).mono ?_
    rintro e w1 ⟨rfl, hw1⟩
    subst hw1
    go_wp2_with fail
    go_ret
    exact ⟨by rw [F.out]; rfl, by go_grown⟩
  | false =>
    rw [if_neg (by rw [d]; decide)] at F0
    rw [d] at HB
    have F : Hid (fitV .satp x = 0) := F0
    clear F0
    go_enter Tryd.func71, Tryd.ntmps71
    go_wp2_with fail
    refine (HB.out _).mono ?_
    rintro e w1 ⟨rfl, hw1⟩
    subst hw1
    go_wp2_with fail
    go_ret
    exact ⟨by rw [F.out]; rfl, by go_grown⟩

set_option maxHeartbeats 800000 in
theorem fit_cfg (x : Int) (h0 : 0 ≤ x) (h1 : x < 18446744073709551616) (w : World) : Calls Tryd.prog 73 #[.agg #[], .int .u64 x] w fun e w' => e = .returned (.int .u64 (fitV .cfg x)) ∧ Below w.heap.size w w' := by
  have HB : Hid (∀ k : Nat, k < 5 → ∀ w, Calls Tryd.prog 45 #[.int .u64 x, .int .i64 k] w fun e w' => e = .returned (.int .u64 (fld x (8 * k) 8)) ∧ w' = w.drew) := fun k hk w => pmpByte_any x k hk h0 h1 w
  have FE : Hid (fitV .cfg x = cfgI x 4) := (rfl : fitV .cfg x = _)
  go_enter Tryd.func73, Tryd.ntmps73
  go_wp2_with fail
  go_loopw [5, 8] (fun y i wr => ∃ k : Nat, k ≤ 4 ∧ i = .int .i64 k ∧ y = .int .u64 (cfgI x k) ∧ Below w.heap.size w wr)
    (fun _ i _ => 4 - (intOf i).toNat)
  case atStart => exact ⟨0, by omega, rfl, rfl, by go_grown⟩
  case round =>
    obtain ⟨k, hk, rfl, rfl, hbel⟩ := hrel
    by_cases hlt : k < 4
    · have F0 : cfgI x (k + 1) = bits .or .u64 (cfgI x k) (IntKind.u64.wrap (byteI x k * 2 ^ (8 * k))) := rfl
      unfold byteI at F0
      have HB2 := HB.out k (by omega)
      generalize fld x (8 * k) 8 = z at *
      obtain ⟨q, hq⟩ : ∃ q, 8 * k = q := ⟨_, rfl⟩
      have hm : wrap64 (8 * (k : Int)) = (q : Int) := by unfold wrap64; omega
      have hq64 : q < 64 := by omega
      rw [hq] at F0
      have d : decide ((k : Int) < 4) = true := by simp; omega
      obtain ⟨b, hb⟩ : ∃ b, bits .and .u64 z 159 = b := ⟨_, rfl⟩
      obtain ⟨y, hy⟩ : ∃ y, y = cfgI x k := ⟨_, rfl⟩
      rw [hb, ← hy] at F0
      rw [← hy]
      cases hc : (bits .and .u64 b 1 == 0) with
      | true =>
        rw [if_pos hc] at F0
        have F : Hid (cfgI x (k + 1) = bits .or .u64 y (IntKind.u64.wrap (bits .andNot .u64 b 2 * 2 ^ q))) := F0
        have HB3 : Hid (∀ w, Calls Tryd.prog 45 #[.int .u64 x, .int .i64 k] w fun e w' => e = .returned (.int .u64 z) ∧ w' = w.drew) := HB2
        have HQ : Hid (8 * k = q) := hq
        clear F0 hy HB2 hq
        go_wp2_with fail
        refine (HB3.out _).mono ?_
        rintro e w1 ⟨rfl, hw1⟩
        subst hw1
        go_wp2_with fail
        go_roundw
        case rel => exact ⟨k + 1, by omega, by go_num, by rw [F.out, HQ.out], hbel.drew⟩
        case measure => simp [intOf]; omega
      | false =>
        rw [if_neg (by rw [hc]; decide)] at F0
        have F : Hid (cfgI x (k + 1) = bits .or .u64 y (IntKind.u64.wrap (b * 2 ^ q))) := F0
        have HB3 : Hid (∀ w, Calls Tryd.prog 45 #[.int .u64 x, .int .i64 k] w fun e w' => e = .returned (.int .u64 z) ∧ w' = w.drew) := HB2
        have HQ : Hid (8 * k = q) := hq
        clear F0 hy HB2 hq
        go_wp2_with fail
        refine (HB3.out _).mono ?_
        rintro e w1 ⟨rfl, hw1⟩
        subst hw1
        go_wp2_with fail
        go_roundw
        case rel => exact ⟨k + 1, by omega, by go_num, by rw [F.out, HQ.out], hbel.drew⟩
        case measure => simp [intOf]; omega
    · have hk4 : k = 4 := by omega
      subst hk4
      generalize cfgI x 4 = y at *
      go_wp2_with fail
      go_ret
      exact ⟨by rw [FE.out]; rfl, hbel⟩

theorem fit_any (k : CK) (x : Int) (h0 : 0 ≤ x) (h1 : x < 18446744073709551616) (w : World) : Calls Tryd.prog k.fitF #[k.val, .int .u64 x] w fun e w' => e = .returned (.int .u64 (fitV k x)) ∧ Below w.heap.size w w' := by
  cases k with
  | plain b => exact fit_plain b x w
  | mst => exact fit_mst x w
  | mie => exact fit_mie x w
  | mip => exact fit_mip x w
  | satp => exact fit_satp x h0 h1 w
  | cfg => exact fit_cfg x h0 h1 w
  | addr e => exact fit_addr e x w

end Go.Proofs.YtaicnnkcdpdhaacDoor
