/- What the law on Pending asks of what it hands back, in plain numbers. -/
import Derived.Test.YtgcbdlfljplkbabTrapF
namespace Go.Proofs.Ytgcbdlfljplkbab
open Go.RowKit
set_option linter.unusedVariables false

theorem ranks_mem {n : Nat} (h : n ∈ ranks) : n < 64 := by
  simp [ranks] at h
  omega

theorem bit_of {x : Int} {n : Nat} (h : U x) (e : (bitAt x n == 1) = true) : bt x n = true := by
  rw [bitAt_bt x n h] at e
  cases hb : bt x n with
  | true => rfl
  | false => rw [hb] at e; cases e

theorem pend_facts (m : Nat) (l : List Int) (p : Int) (hl : ∀ j, U (l.getD j 0)) : pendB m l p = -1 ∨ (m = 22 ∧ ∃ n : Nat, n < 64 ∧ pendB m l p = n ∧ bitAt (l.getD 9 0) n = 1 ∧ bitAt (l.getD 3 0) n = 1 ∧ ((bitAt (l.getD 2 0) n = 1 ∧ hearS l p = true) ∨ (bitAt (l.getD 2 0) n = 0 ∧ hearM l p = true))) := by
  unfold pendB
  cases hok : legalB m l p with
  | false => exact .inl rfl
  | true =>
    obtain ⟨rfl, hp⟩ := legalB_parts hok
    show pendV l p = -1 ∨ (22 = 22 ∧ ∃ n : Nat, n < 64 ∧ pendV l p = n ∧ _)
    unfold pendV
    cases hh : hearM l p && decide (firstV (bits .andNot .u64 (waitV l) (l.getD 2 0)) ≥ 0) with
    | true =>
      rw [Bool.and_eq_true] at hh
      rcases firstIn_bd (bits .andNot .u64 (waitV l) (l.getD 2 0)) ranks with e | ⟨n, hn, e, hb⟩
      · exact .inl e
      · have hlt := ranks_mem hn
        have b := bit_of (U_bits _ _ _) hb
        unfold waitV at b
        rw [bt_andNot _ _ _ hlt, bt_and] at b
        simp only [Bool.and_eq_true, Bool.not_eq_true'] at b
        refine .inr ⟨rfl, n, hlt, e, ?_, ?_, .inr ⟨?_, hh.1⟩⟩
        · rw [bitAt_bt _ _ (hl 9), b.1.1]; rfl
        · rw [bitAt_bt _ _ (hl 3), b.1.2]; rfl
        · rw [bitAt_bt _ _ (hl 2), b.2]; rfl
    | false =>
      unfold pendS
      cases hs : hearS l p with
      | false => exact .inl rfl
      | true =>
        rcases firstIn_bd (bits .and .u64 (waitV l) (l.getD 2 0)) ranks with e | ⟨n, hn, e, hb⟩
        · exact .inl e
        · have hlt := ranks_mem hn
          have b := bit_of (U_bits _ _ _) hb
          unfold waitV at b
          rw [bt_and, bt_and] at b
          simp only [Bool.and_eq_true] at b
          refine .inr ⟨rfl, n, hlt, e, ?_, ?_, .inl ⟨?_, rfl⟩⟩
          · rw [bitAt_bt _ _ (hl 9), b.1.1]; rfl
          · rw [bitAt_bt _ _ (hl 3), b.1.2]; rfl
          · rw [bitAt_bt _ _ (hl 2), b.2]; rfl

end Go.Proofs.Ytgcbdlfljplkbab
