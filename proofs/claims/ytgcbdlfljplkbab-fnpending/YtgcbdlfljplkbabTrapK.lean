/- The program's traps: which interrupt comes first, who hears it, where it goes. -/
import Derived.Test.YtgcbdlfljplkbabTrapI
import Derived.Test.YtgcbdlfljplkbabPendS
namespace Go.Proofs.Ytgcbdlfljplkbab
open Go.RowKit
set_option linter.unusedVariables false

theorem ranks_size : (Try.prog.info? 123).map (·.size) = some 6 := by kernel_rfl

theorem byRank_any (w : World) : Calls Try.prog 93 #[] w fun e w' => e = .returned (.agg rankCells) ∧ Below w.heap.size w w' := by
  go_enter Try.func93, Try.ntmps93
  go_wp2_with fail
  exact bodyPost_ret (results_cell_row Try.results93 _ _ _ _ _ _ _ rfl (heap_alloc_new _ _) Try.underlying123 rfl ranks_size) rfl ⟨rfl, (Below.refl _ _).alloc (Nat.le_refl _) _⟩

theorem run_indexR (w : World) (k : Nat) (hk : k < 6) : (Instr.index 123 (.agg rankCells) (.int .i64 (k : Int))).run Try.prog w = .ok (.int .i64 (ranks.getD k 0 : Nat)) w := by
  have h0 : (Instr.index 123 (.agg rankCells) (.int .i64 0)).run Try.prog w = .ok (.int .i64 11) w := by kernel_rfl
  have h1 : (Instr.index 123 (.agg rankCells) (.int .i64 1)).run Try.prog w = .ok (.int .i64 3) w := by kernel_rfl
  have h2 : (Instr.index 123 (.agg rankCells) (.int .i64 2)).run Try.prog w = .ok (.int .i64 7) w := by kernel_rfl
  have h3 : (Instr.index 123 (.agg rankCells) (.int .i64 3)).run Try.prog w = .ok (.int .i64 9) w := by kernel_rfl
  have h4 : (Instr.index 123 (.agg rankCells) (.int .i64 4)).run Try.prog w = .ok (.int .i64 1) w := by kernel_rfl
  have h5 : (Instr.index 123 (.agg rankCells) (.int .i64 5)).run Try.prog w = .ok (.int .i64 5) w := by kernel_rfl
  have e : k = 0 ∨ k = 1 ∨ k = 2 ∨ k = 3 ∨ k = 4 ∨ k = 5 := by omega
  rcases e with rfl | rfl | rfl | rfl | rfl | rfl
  · exact h0
  · exact h1
  · exact h2
  · exact h3
  · exact h4
  · exact h5

set_option maxHeartbeats 1600000 in
theorem firstOf_any (x : Int) (h : U x) (w : World) : Calls Try.prog 66 #[.int .u64 x] w fun e w' => e = .returned (.int .i64 (firstV x)) ∧ Below w.heap.size w w' := by
  have HU : Hid (U x) := h
  clear h
  go_enter Try.func66, Try.ntmps66
  go_wp2_with fail
  refine (byRank_any _).mono ?_
  rintro e w1 ⟨rfl, hb⟩
  go_wp2_with fail
  have RI := run_indexR
  generalize Value.agg rankCells = T at *
  go_loopw [6] (fun i wr => ∃ k : Nat, k ≤ 6 ∧ i = .int .i64 k ∧ Hid (firstIn x (ranks.drop k) = firstV x) ∧ Below w.heap.size w wr)
    (fun i _ => 6 - (intOf i).toNat)
  case atStart => exact ⟨0, by omega, rfl, (rfl : firstIn x (ranks.drop 0) = firstV x), hb⟩
  case round =>
    obtain ⟨k, hk, rfl, hf, hbel⟩ := hrel
    by_cases hlt : k < 6
    · have ri : ∀ w, _ := fun w => RI w k hlt
      have YES : Hid ((bitAt x (ranks.getD k 0) == 1) = true → Hid (firstV x = (ranks.getD k 0 : Nat))) := fun h => ranks_yes x k hlt hf.out h
      have NO : Hid ((bitAt x (ranks.getD k 0) == 1) = false → Hid (firstIn x (ranks.drop (k + 1)) = firstV x)) := fun h => ranks_no x k hlt hf.out h
      have hr := ranks_lt k
      rw [bitAt_fld _ _ HU.out] at YES NO
      have HB : Hid (∀ w, Calls Try.prog 90 #[.int .u64 x, .int .i64 (ranks.getD k 0 : Nat), .int .i64 1] w fun e w' => e = .returned (.int .u64 (fld x (ranks.getD k 0) 1)) ∧ w' = w.drew) := fun w => bitsAt_any x (ranks.getD k 0) 1 HU.out.1 HU.out.2 hr (by omega) w
      generalize fld x (ranks.getD k 0) 1 = y at *
      generalize ranks.getD k 0 = r at *
      have dk : decide ((k : Int) < 6) = true := by simp; omega
      clear hr hf RI
      cases d : (y == 1) with
      | true =>
        have F := YES.out d
        clear YES NO
        go_wp2_with fail
        refine (HB.out _).mono ?_
        rintro e wx ⟨rfl, hwx⟩
        subst hwx
        go_wp2_with fail
        go_ret
        exact ⟨by rw [F.out]; rfl, hbel.drew⟩
      | false =>
        have F := NO.out d
        clear YES NO
        go_wp2_with fail
        refine (HB.out _).mono ?_
        rintro e wx ⟨rfl, hwx⟩
        subst hwx
        go_wp2_with fail
        go_roundw
        case rel => exact ⟨k + 1, by omega, by go_num, F, hbel.drew⟩
        case measure => simp [intOf]; omega
    · have hk2 : k = 6 := by omega
      subst hk2
      have F : Hid (firstV x = -1) := hf.out.symm
      go_wp2_with fail
      go_ret
      exact ⟨by rw [F.out]; rfl, hbel⟩

/-- Who hears an interrupt. -/
def hearsB (m : Bool) (s p : Int) : Bool := match m with
  | true => decide (p < 3) || ((p == 3) && (fld s 3 1 == 1))
  | false => decide (p < 1) || ((p == 1) && (fld s 1 1 == 1))

theorem hears_m (s p : Int) (h : U s) (w : World) : Calls Try.prog 67 #[.agg (sideC true), .int .u64 s, .int .i64 p] w fun e w' => e = .returned (.bool (hearsB true s p)) ∧ Below w.heap.size w w' := by
  have HB : Hid (∀ w, Calls Try.prog 90 #[.int .u64 s, .int .i64 3, .int .i64 1] w fun e w' => e = .returned (.int .u64 (fld s 3 1)) ∧ w' = w.drew) := fun w => bitsAt_any s 3 1 h.1 h.2 (by omega) (by omega) w
  have F : Hid (hearsB true s p = (decide (p < 3) || ((p == 3) && (fld s 3 1 == 1)))) := (rfl : hearsB true s p = _)
  clear h
  generalize fld s 3 1 = y at *
  generalize hearsB true s p = r at *
  unfold sideC
  cases d1 : decide (p < 3) with
  | true =>
    rw [d1] at F
    go_enter Try.func67, Try.ntmps67
    go_wp2_with fail
    go_ret
    exact ⟨by rw [F.out]; rfl, (Below.refl _ _).alloc (Nat.le_refl _) _⟩
  | false =>
    rw [d1] at F
    cases d2 : (p == 3) with
    | true =>
      rw [d2] at F
      go_enter Try.func67, Try.ntmps67
      go_wp2_with fail
      refine (HB.out _).mono ?_
      rintro e wx ⟨rfl, hwx⟩
      subst hwx
      go_wp2_with fail
      go_ret
      exact ⟨by rw [F.out]; rfl, ((Below.refl _ _).alloc (Nat.le_refl _) _).drew⟩
    | false =>
      rw [d2] at F
      go_enter Try.func67, Try.ntmps67
      go_wp2_with fail
      go_ret
      exact ⟨by rw [F.out]; rfl, (Below.refl _ _).alloc (Nat.le_refl _) _⟩

theorem hears_s (s p : Int) (h : U s) (w : World) : Calls Try.prog 67 #[.agg (sideC false), .int .u64 s, .int .i64 p] w fun e w' => e = .returned (.bool (hearsB false s p)) ∧ Below w.heap.size w w' := by
  have HB : Hid (∀ w, Calls Try.prog 90 #[.int .u64 s, .int .i64 1, .int .i64 1] w fun e w' => e = .returned (.int .u64 (fld s 1 1)) ∧ w' = w.drew) := fun w => bitsAt_any s 1 1 h.1 h.2 (by omega) (by omega) w
  have F : Hid (hearsB false s p = (decide (p < 1) || ((p == 1) && (fld s 1 1 == 1)))) := (rfl : hearsB false s p = _)
  clear h
  generalize fld s 1 1 = y at *
  generalize hearsB false s p = r at *
  unfold sideC
  cases d1 : decide (p < 1) with
  | true =>
    rw [d1] at F
    go_enter Try.func67, Try.ntmps67
    go_wp2_with fail
    go_ret
    exact ⟨by rw [F.out]; rfl, (Below.refl _ _).alloc (Nat.le_refl _) _⟩
  | false =>
    rw [d1] at F
    cases d2 : (p == 1) with
    | true =>
      rw [d2] at F
      go_enter Try.func67, Try.ntmps67
      go_wp2_with fail
      refine (HB.out _).mono ?_
      rintro e wx ⟨rfl, hwx⟩
      subst hwx
      go_wp2_with fail
      go_ret
      exact ⟨by rw [F.out]; rfl, ((Below.refl _ _).alloc (Nat.le_refl _) _).drew⟩
    | false =>
      rw [d2] at F
      go_enter Try.func67, Try.ntmps67
      go_wp2_with fail
      go_ret
      exact ⟨by rw [F.out]; rfl, (Below.refl _ _).alloc (Nat.le_refl _) _⟩

theorem causeWord_any (k : Nat) (hk : k < 16) (i : Bool) (w : World) : Calls Try.prog 58 #[.int .i64 k, .bool i] w fun e w' => e = .returned (.int .u64 (toldV k i)) ∧ w' = w := by
  have hw : IntKind.u64.wrap (k : Int) = k := by rw [IntKind.wrap_u64]; omega
  clear hk
  cases i with
  | true =>
    have F : Hid (toldV k true = bits .or .u64 k 9223372036854775808) := (rfl : toldV k true = _)
    generalize toldV k true = r at *
    go_enter Try.func58, Try.ntmps58
    go_wp2_with fail
    go_ret
    exact ⟨by rw [F.out]; rfl, rfl⟩
  | false =>
    have F : Hid (toldV k false = k) := (rfl : toldV k false = _)
    generalize toldV k false = r at *
    go_enter Try.func58, Try.ntmps58
    go_wp2_with fail
    go_ret
    exact ⟨by rw [F.out]; rfl, rfl⟩

theorem vectorFor_any (to : Int) (k : Nat) (hk : k < 16) (i : Bool) (w : World) : Calls Try.prog 60 #[.int .u64 to, .int .i64 k, .bool i] w fun e w' => e = .returned (.int .u64 (enterAt to k (i && (bits .and .u64 to 1 == 1)))) ∧ w' = w := by
  have hw : IntKind.u64.wrap (k : Int) = k := by rw [IntKind.wrap_u64]; omega
  clear hk
  cases i with
  | true =>
    cases d : (bits .and .u64 to 1 != 0) with
    | true =>
      have F : Hid (enterAt to k (true && (bits .and .u64 to 1 == 1)) = IntKind.u64.wrap (bits .andNot .u64 to 1 + IntKind.u64.wrap (4 * k))) := by
        show _ = _
        rw [← jump_eq, d]; rfl
      generalize enterAt to k (true && (bits .and .u64 to 1 == 1)) = r at *
      go_enter Try.func60, Try.ntmps60
      go_wp2_with fail
      go_ret
      exact ⟨by rw [F.out]; rfl, rfl⟩
    | false =>
      have F : Hid (enterAt to k (true && (bits .and .u64 to 1 == 1)) = bits .andNot .u64 to 1) := by
        show _ = _
        rw [← jump_eq, d]; rfl
      generalize enterAt to k (true && (bits .and .u64 to 1 == 1)) = r at *
      go_enter Try.func60, Try.ntmps60
      go_wp2_with fail
      go_ret
      exact ⟨by rw [F.out]; rfl, rfl⟩
  | false =>
    have F : Hid (enterAt to k (false && (bits .and .u64 to 1 == 1)) = bits .andNot .u64 to 1) := (rfl : enterAt to k false = _)
    generalize enterAt to k (false && (bits .and .u64 to 1 == 1)) = r at *
    go_enter Try.func60, Try.ntmps60
    go_wp2_with fail
    go_ret
    exact ⟨by rw [F.out]; rfl, rfl⟩

theorem handsOver_any (b off cap : Nat) (l : List Int) (p : Int) (k : Nat) (hk : k < 16) (i : Bool) (w : World) (c1 : w.cell? ⟨b, off + 1, none⟩ = some (.int .u64 (l.getD 1 0))) (c2 : w.cell? ⟨b, off + 2, none⟩ = some (.int .u64 (l.getD 2 0))) (h1 : U (l.getD 1 0)) (h2 : U (l.getD 2 0)) :
    Calls Try.prog 56 #[.slice (some ⟨b, off, none⟩) 22 cap, .int .i64 p, .int .i64 k, .bool i] w fun e w' => e = .returned (.bool (delegB l p k i)) ∧ Below w.heap.size w w' := by
  have F : Hid (delegB l p k i = (!(p == 3) && (bitAt (match i with | true => l.getD 2 0 | false => l.getD 1 0) k == 1))) := (rfl : delegB l p k i = _)
  cases d : (p == 3) with
  | true =>
    have F2 : Hid (delegB l p k i = false) := by show _ = _; rw [F.out, d]; rfl
    have d2 : (p != 3) = false := by simp [bne, d]
    clear F
    generalize delegB l p k i = r at *
    generalize l.getD 1 0 = x1 at *
    generalize l.getD 2 0 = x2 at *
    cases i <;>
    · go_enter Try.func56, Try.ntmps56
      go_wp2_with fail
      go_ret
      exact ⟨by rw [F2.out]; rfl, Below.refl _ _⟩
  | false =>
    have d2 : (p != 3) = true := by simp [bne, d]
    rw [d] at F
    cases i with
    | true =>
      have F2 : Hid (delegB l p k true = (fld (l.getD 2 0) k 1 == 1)) := by show _ = _; rw [F.out]; show (bitAt (l.getD 2 0) k == 1) = _; rw [bitAt_fld _ _ h2]
      have HB : Hid (∀ w, Calls Try.prog 90 #[.int .u64 (l.getD 2 0), .int .i64 k, .int .i64 1] w fun e w' => e = .returned (.int .u64 (fld (l.getD 2 0) k 1)) ∧ w' = w.drew) := fun w => bitsAt_any _ k 1 h2.1 h2.2 (by omega) (by omega) w
      clear F
      generalize delegB l p k true = r at *
      generalize fld (l.getD 2 0) k 1 = y at *
      generalize l.getD 1 0 = x1 at *
      generalize l.getD 2 0 = x2 at *
      go_enter Try.func56, Try.ntmps56
      go_wp2_with fail
      refine (HB.out _).mono ?_
      rintro e wx ⟨rfl, hwx⟩
      subst hwx
      go_wp2_with fail
      go_ret
      exact ⟨by rw [F2.out]; rfl, (Below.refl _ _).drew⟩
    | false =>
      have F2 : Hid (delegB l p k false = (fld (l.getD 1 0) k 1 == 1)) := by show _ = _; rw [F.out]; show (bitAt (l.getD 1 0) k == 1) = _; rw [bitAt_fld _ _ h1]
      have HB : Hid (∀ w, Calls Try.prog 90 #[.int .u64 (l.getD 1 0), .int .i64 k, .int .i64 1] w fun e w' => e = .returned (.int .u64 (fld (l.getD 1 0) k 1)) ∧ w' = w.drew) := fun w => bitsAt_any _ k 1 h1.1 h1.2 (by omega) (by omega) w
      clear F
      generalize delegB l p k false = r at *
      generalize fld (l.getD 1 0) k 1 = y at *
      generalize l.getD 1 0 = x1 at *
      generalize l.getD 2 0 = x2 at *
      go_enter Try.func56, Try.ntmps56
      go_wp2_with fail
      refine (HB.out _).mono ?_
      rintro e wx ⟨rfl, hwx⟩
      subst hwx
      go_wp2_with fail
      go_ret
      exact ⟨by rw [F2.out]; rfl, (Below.refl _ _).drew⟩

theorem implLegal_any (a : Option Addr) (n cap : Nat) (l : List Int) (p : Int) (w : World) (hz : l.length = n) (hs : Sl .u64 w a l) (hl : ∀ j, U (l.getD j 0)) :
    Calls Try.prog 54 #[.slice a n cap, .int .i64 p] w fun e w' => e = .returned (.bool (legalB n l p)) ∧ Below w.heap.size w w' := by
  have HO : Hid (Calls Try.prog 20 #[.slice a n cap] w fun e w' => e = .returned (.bool (csrsOk n l)) ∧ Below w.heap.size w w') := by
    have := implCsrsOk_any a n cap l w hz hs hl
    rw [fitsOk_eq n l hl] at this
    exact this
  have HP : Hid (∀ w, Calls Try.prog 82 #[.int .i64 p] w fun e w' => e = .returned (.bool (privB p)) ∧ w' = w) := privOk_any p
  have F : Hid (legalB n l p = (csrsOk n l && privB p)) := (rfl : legalB n l p = _)
  clear hs hz hl
  generalize csrsOk n l = q at *
  generalize privB p = r at *
  cases q with
  | false =>
    go_enter Try.func54, Try.ntmps54
    go_wp2_with fail
    refine HO.out.mono ?_
    rintro e w1 ⟨rfl, hb⟩
    go_wp2_with fail
    go_ret
    exact ⟨by rw [F.out]; rfl, hb⟩
  | true =>
    go_enter Try.func54, Try.ntmps54
    go_wp2_with fail
    refine HO.out.mono ?_
    rintro e w1 ⟨rfl, hb⟩
    go_wp2_with fail
    refine (HP.out _).mono ?_
    rintro e w2 ⟨rfl, hw2⟩
    subst hw2
    go_wp2_with fail
    go_ret
    exact ⟨by rw [F.out]; rfl, hb⟩

end Go.Proofs.Ytgcbdlfljplkbab
