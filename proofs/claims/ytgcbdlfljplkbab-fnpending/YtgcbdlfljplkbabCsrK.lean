/- What stays of a write, and how a register is seen: the program's methods. -/
import Derived.Test.YtgcbdlfljplkbabCsrJ
namespace Go.Proofs.Ytgcbdlfljplkbab
open Go.RowKit
set_option linter.unusedVariables false

theorem sl_cell {w : World} {a : Option Addr} {l : List Int} (hs : Sl .u64 w a l) (j : Nat) (hj : j < l.length) : ∃ b off, a = some ⟨b, off, none⟩ ∧ b < w.heap.size ∧ w.cell? ⟨b, off + j, none⟩ = some (.int .u64 (l.getD j 0)) := hs j hj

theorem stays_mip (a : Option Addr) (cap : Nat) (x : Int) (w : World) : Calls Try.prog 117 #[.agg #[], .slice a 22 cap, .int .u64 x] w fun e w' => e = .returned (.int .u64 2184) ∧ Below w.heap.size w w' := by
  go_enter Try.func117, Try.ntmps117
  go_wp2_with fail
  go_ret
  exact ⟨rfl, by go_grown⟩

theorem stays_satp (a : Option Addr) (cap : Nat) (c x : Int) (h0 : 0 ≤ x) (h1 : x < 18446744073709551616) (w : World) : Calls Try.prog 120 #[.agg #[], .slice a 22 cap, .int .u64 x] w fun e w' => e = .returned (.int .u64 (staysV c .satp x)) ∧ Below w.heap.size w w' := by
  have HB : Hid (∀ w, Calls Try.prog 121 #[.int .u64 x] w fun e w' => e = .returned (.bool (modeB x)) ∧ w' = w.drew) := fun w => satpModeOk_any x h0 h1 w
  have F0 : staysV c .satp x = if modeB x = true then 0 else 18446744073709551615 := rfl
  cases d : modeB x with
  | true =>
    rw [if_pos d] at F0
    rw [d] at HB
    have F : Hid (staysV c .satp x = 0) := F0
    clear F0
    go_enter Try.func120, Try.ntmps120
    go_wp2_with fail
    refine (HB.out _).mono ?_
    rintro e w1 ⟨rfl, hw1⟩
    subst hw1
    go_wp2_with fail
    go_ret
    exact ⟨by rw [F.out]; rfl, by go_grown⟩
  | false =>
    rw [if_neg (by rw [d]; decide)] at F0
    rw [d] at HB
    have F : Hid (staysV c .satp x = 18446744073709551615) := F0
    clear F0
    go_enter Try.func120, Try.ntmps120
    go_wp2_with fail
    refine (HB.out _).mono ?_
    rintro e w1 ⟨rfl, hw1⟩
    subst hw1
    go_wp2_with fail
    go_ret
    exact ⟨by rw [F.out]; rfl, by go_grown⟩

set_option maxHeartbeats 800000 in
theorem stays_cfg (a : Option Addr) (cap : Nat) (l : List Int) (x : Int) (w : World) (hz : l.length = 22) (hs : Sl .u64 w a l) (hl : ∀ j, 0 ≤ l.getD j 0 ∧ l.getD j 0 < 18446744073709551616) :
    Calls Try.prog 123 #[.agg #[], .slice a 22 cap, .int .u64 x] w fun e w' => e = .returned (.int .u64 (staysV (l.getD 16 0) .cfg x)) ∧ Below w.heap.size w w' := by
  obtain ⟨b0, off, rfl, hb0, hc⟩ := hs 16 (by omega)
  have hr := hl 16
  have FE : Hid (staysV (l.getD 16 0) .cfg x = stayI (l.getD 16 0) 4) := (rfl : staysV (l.getD 16 0) .cfg x = _)
  generalize l.getD 16 0 = c at *
  have HB : Hid (∀ k : Nat, k < 5 → ∀ w, Calls Try.prog 125 #[.int .u64 c, .int .i64 k] w fun e w' => e = .returned (.bool (lockI c k)) ∧ w' = w.drew) := fun k hk w => pmpLocked_any c k hk hr.1 hr.2 w
  clear hs hl hz
  go_enter Try.func123, Try.ntmps123
  go_wp2_with fail
  go_loopw [7, 9] (fun y i wr => ∃ k : Nat, k ≤ 4 ∧ i = .int .i64 k ∧ y = .int .u64 (stayI c k) ∧ Below w.heap.size w wr)
    (fun _ i _ => 4 - (intOf i).toNat)
  case atStart => exact ⟨0, by omega, rfl, rfl, by go_grown⟩
  case round =>
    obtain ⟨k, hk, rfl, rfl, hbel⟩ := hrel
    by_cases hlt : k < 4
    · have F0 : stayI c (k + 1) = if lockI c k = true then bits .or .u64 (stayI c k) (IntKind.u64.wrap (255 * 2 ^ (8 * k))) else stayI c k := rfl
      have HB2 := HB.out k (by omega)
      have hcx : wr.cell? ⟨b0, off + 16, none⟩ = some (.int .u64 c) := (hbel.cell (by exact hb0)).trans hc
      obtain ⟨q, hq⟩ : ∃ q, 8 * k = q := ⟨_, rfl⟩
      have hm : wrap64 (8 * (k : Int)) = (q : Int) := by unfold wrap64; omega
      have hq64 : q < 64 := by omega
      rw [hq] at F0
      have d : decide ((k : Int) < 4) = true := by simp; omega
      obtain ⟨y, hy⟩ : ∃ y, y = stayI c k := ⟨_, rfl⟩
      rw [← hy] at F0
      rw [← hy]
      cases hcc : lockI c k with
      | true =>
        rw [if_pos hcc] at F0
        rw [hcc] at HB2
        have F : Hid (stayI c (k + 1) = bits .or .u64 y (IntKind.u64.wrap (255 * 2 ^ q))) := F0
        have HB3 : Hid (∀ w, Calls Try.prog 125 #[.int .u64 c, .int .i64 k] w fun e w' => e = .returned (.bool true) ∧ w' = w.drew) := HB2
        have HQ : Hid (8 * k = q) := hq
        clear F0 hy HB2 hq hc hcc
        go_wp2_with fail
        refine (HB3.out _).mono ?_
        rintro e w1 ⟨rfl, hw1⟩
        subst hw1
        go_wp2_with fail
        go_roundw
        case rel => exact ⟨k + 1, by omega, by go_num, by rw [F.out, HQ.out], hbel.drew⟩
        case measure => simp [intOf]; omega
      | false =>
        rw [if_neg (by rw [hcc]; decide)] at F0
        rw [hcc] at HB2
        have F : Hid (stayI c (k + 1) = y) := F0
        have HB3 : Hid (∀ w, Calls Try.prog 125 #[.int .u64 c, .int .i64 k] w fun e w' => e = .returned (.bool false) ∧ w' = w.drew) := HB2
        clear F0 hy HB2 hq hc hcc
        go_wp2_with fail
        refine (HB3.out _).mono ?_
        rintro e w1 ⟨rfl, hw1⟩
        subst hw1
        go_wp2_with fail
        go_roundw
        case rel => exact ⟨k + 1, by omega, by go_num, by rw [F.out], hbel.drew⟩
        case measure => simp [intOf]; omega
    · have hk4 : k = 4 := by omega
      subst hk4
      generalize stayI c 4 = y at *
      go_wp2_with fail
      go_ret
      exact ⟨by rw [FE.out]; rfl, hbel⟩

set_option maxHeartbeats 800000 in
theorem stays_addr (en : Nat) (hen : en < 4) (a : Option Addr) (cap : Nat) (l : List Int) (x : Int) (w : World) (hz : l.length = 22) (hs : Sl .u64 w a l) (hl : ∀ j, 0 ≤ l.getD j 0 ∧ l.getD j 0 < 18446744073709551616) :
    Calls Try.prog 127 #[.agg #[.int .i64 en], .slice a 22 cap, .int .u64 x] w fun e w' => e = .returned (.int .u64 (staysV (l.getD 16 0) (.addr en) x)) ∧ Below w.heap.size w w' := by
  obtain ⟨b0, off, rfl, hb0, hc0⟩ := hs 16 (by omega)
  have hr := hl 16
  have hc : ∀ o, (w.alloc o).cell? ⟨b0, off + 16, none⟩ = some (.int .u64 (l.getD 16 0)) := fun o => (((Below.refl w.heap.size w).alloc (Nat.le_refl _) o).cell (by exact hb0)).trans hc0
  have F0 : staysV (l.getD 16 0) (.addr en) x = if (lockI (l.getD 16 0) en || (lockI (l.getD 16 0) (en + 1) && (reachI (l.getD 16 0) (en + 1) == 1))) = true then 18446744073709551615 else 0 := rfl
  generalize l.getD 16 0 = c at *
  have H1 : Hid (∀ w, Calls Try.prog 125 #[.int .u64 c, .int .i64 en] w fun e w' => e = .returned (.bool (lockI c en)) ∧ w' = w.drew) := fun w => pmpLocked_any c en (by omega) hr.1 hr.2 w
  have H2 : Hid (∀ w, Calls Try.prog 125 #[.int .u64 c, .int .i64 ((en : Int) + 1)] w fun e w' => e = .returned (.bool (lockI c (en + 1))) ∧ w' = w.drew) := fun w => pmpLocked_any c (en + 1) (by omega) hr.1 hr.2 w
  have H3 : Hid (∀ w, Calls Try.prog 128 #[.int .u64 c, .int .i64 ((en : Int) + 1)] w fun e w' => e = .returned (.int .u64 (reachI c (en + 1))) ∧ w' = w.drew) := fun w => pmpReach_any c (en + 1) (by omega) hr.1 hr.2 w
  generalize staysV c (.addr en) x = res at *
  generalize lockI c en = l1 at *
  generalize lockI c (en + 1) = l2 at *
  generalize reachI c (en + 1) = r at *
  clear hs hl hz hc0
  cases l1 with
  | true =>
    have F : Hid (res = 18446744073709551615) := by show res = _; rw [F0]; rfl
    clear F0
    go_enter Try.func127, Try.ntmps127
    go_wp2_with fail
    refine (H1.out _).mono ?_
    rintro e w1 ⟨rfl, hw1⟩
    subst hw1
    go_wp2_with fail
    go_ret
    exact ⟨by rw [F.out]; rfl, by go_grown⟩
  | false =>
    cases l2 with
    | false =>
      have F : Hid (res = 0) := by show res = _; rw [F0]; rfl
      clear F0
      go_enter Try.func127, Try.ntmps127
      go_wp2_with fail
      refine (H1.out _).mono ?_
      rintro e w1 ⟨rfl, hw1⟩
      subst hw1
      go_wp2_with fail
      refine (H2.out _).mono ?_
      rintro e w1 ⟨rfl, hw1⟩
      subst hw1
      go_wp2_with fail
      go_ret
      exact ⟨by rw [F.out]; rfl, by go_grown⟩
    | true =>
      cases d : (r == 1) with
      | true =>
        have F : Hid (res = 18446744073709551615) := by show res = _; rw [F0, d]; rfl
        clear F0
        go_enter Try.func127, Try.ntmps127
        go_wp2_with fail
        refine (H1.out _).mono ?_
        rintro e w1 ⟨rfl, hw1⟩
        subst hw1
        go_wp2_with fail
        refine (H2.out _).mono ?_
        rintro e w1 ⟨rfl, hw1⟩
        subst hw1
        go_wp2_with fail
        refine (H3.out _).mono ?_
        rintro e w1 ⟨rfl, hw1⟩
        subst hw1
        go_wp2_with fail
        go_ret
        exact ⟨by rw [F.out]; rfl, by go_grown⟩
      | false =>
        have F : Hid (res = 0) := by show res = _; rw [F0, d]; rfl
        clear F0
        go_enter Try.func127, Try.ntmps127
        go_wp2_with fail
        refine (H1.out _).mono ?_
        rintro e w1 ⟨rfl, hw1⟩
        subst hw1
        go_wp2_with fail
        refine (H2.out _).mono ?_
        rintro e w1 ⟨rfl, hw1⟩
        subst hw1
        go_wp2_with fail
        refine (H3.out _).mono ?_
        rintro e w1 ⟨rfl, hw1⟩
        subst hw1
        go_wp2_with fail
        go_ret
        exact ⟨by rw [F.out]; rfl, by go_grown⟩

/-- How a register is seen by its view: the view's number, what is read, what may be turned. -/
def CK.sees : CK → Bool
  | .mst => true | .mie => true | .mip => true | _ => false

def CK.holds : CK → Bool
  | .mip => true | .satp => true | .cfg => true | .addr _ => true | _ => false

def viewN : CK → Int
  | .mst => 256 | .mie => 260 | .mip => 324 | _ => 0

def viewR (m : Int) : CK → Int
  | .mst => 786722 | .mie => m | .mip => m | _ => 0

def viewW (m : Int) : CK → Int
  | .mst => 786722 | .mie => m | .mip => bits .and .u64 m 2 | _ => 0

theorem view_any (k : CK) (hk : k.sees = true) (m : Int) (w : World) : Calls Try.prog k.viewF #[k.val, .int .u64 m] w fun e w' => e = .returned (.agg #[.int .i64 (viewN k), .int .u64 (viewR m k), .int .u64 (viewW m k)]) ∧ Below w.heap.size w w' := by
  cases k with
  | plain b => cases hk
  | satp => cases hk
  | cfg => cases hk
  | addr e => cases hk
  | mst =>
    simp only [CK.viewF, CK.val, viewN, viewR, viewW]
    go_enter Try.func112, Try.ntmps112
    go_wp2_with fail
    go_returns
    exact ⟨rfl, by go_grown⟩
  | mie =>
    simp only [CK.viewF, CK.val, viewN, viewR, viewW]
    go_enter Try.func115, Try.ntmps115
    go_wp2_with fail
    go_returns
    exact ⟨rfl, by go_grown⟩
  | mip =>
    simp only [CK.viewF, CK.val, viewN, viewR, viewW]
    go_enter Try.func118, Try.ntmps118
    go_wp2_with fail
    go_returns
    exact ⟨rfl, by go_grown⟩

end Go.Proofs.Ytgcbdlfljplkbab
