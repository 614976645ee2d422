/- What the laws on traps ask of what Leave and Enter hand back, in plain numbers. -/
import Derived.Test.YtgcbdlfljplkbabTrapF
namespace Go.Proofs.Ytgcbdlfljplkbab
open Go.RowKit
set_option linter.unusedVariables false

theorem left_no {m : Nat} {l : List Int} {p : Int} {q : Bool} (h : leavB m l p q = false) : leavL m l p q = [] ∧ leavP m l p q = 0 ∧ leavA m l p q = 0 := by
  simp [leavL, leavP, leavA, h]

theorem left_yes {m : Nat} {l : List Int} {p : Int} {q : Bool} (hz : l.length = m) (hl : ∀ j, U (l.getD j 0)) (h : leavB m l p q = true) :
    m = 22 ∧ leavP m l p q ≤ p ∧ (leavL m l p q).length = 22 ∧ (∀ j, U ((leavL m l p q).getD j 0)) ∧ csrsOk 22 (leavL m l p q) = true ∧ p > 0 ∧ (q = true → p = 3) ∧ bits .and .u64 (leavA m l p q) 3 = 0 := by
  have h2 := h
  unfold leavB at h2
  simp only [Bool.and_eq_true, Bool.not_eq_true'] at h2
  obtain ⟨⟨hleg, hm⟩, h0⟩ := h2
  obtain ⟨rfl, hp⟩ := legalB_parts hleg
  have hok : csrsOk 22 l = true := by unfold legalB at hleg; rw [Bool.and_eq_true] at hleg; exact hleg.1
  have hp3 : p = 0 ∨ p = 1 ∨ p = 3 := by simpa [privB, or_assoc] using hp
  have hp0 : p ≠ 0 := by simpa using h0
  have e1 : leavL 22 l p q = l.set 0 (leaveS (l.getD 0 0) q) := by simp [leavL, h]
  have e2 : leavP 22 l p q = leaveP (l.getD 0 0) q := by simp [leavP, h]
  have e3 : leavA 22 l p q = leaveAt l q := by simp [leavA, h]
  rw [e1, e2, e3]
  refine ⟨rfl, ?_, by simp [hz], U_put l hl 0 _ (U_leaveS _ _), right_set l hz hok 0 (by omega) _ (leave_ok _ (hl 0) q (right_at hok 0 (by omega))), by omega, ?_, ?_⟩
  · cases q with
    | false => rcases leaveP_s01 _ (hl 0) with e | e <;> omega
    | true =>
      have hpp : p = 3 := by simpa using hm
      rw [leaveP_M _ (hl 0), fld2_bt _ (hl 0), hpp]
      cases bt (l.getD 0 0) 11 <;> cases bt (l.getD 0 0) 12 <;> decide +kernel
  · intro e
    subst e
    simpa using hm
  · cases q with
    | false => exact pc4 _ (.inr (right_at hok 12 (by omega)))
    | true => exact pc4 _ (.inl (right_at hok 6 (by omega)))

theorem ent_no {m : Nat} {l : List Int} {p pc k : Int} {i : Bool} {v : Int} (h : entB m l p k = false) : entL m l p pc k i v = [] := by
  simp [entL, h]

/-- A trap that is entered and left comes back. -/
theorem ent_yes {m : Nat} {l : List Int} {p pc k : Int} {i : Bool} {v : Int} (hz : l.length = m) (hl : ∀ j, U (l.getD j 0)) (hpc : U pc) (hv : U v) (h : entB m l p k = true) :
    m = 22 ∧ ∃ d : Bool, entP m l p k i = (match d with | true => 1 | false => 3) ∧ decide (entP m l p k i < p) = false ∧ (entL m l p pc k i v).length = 22 ∧ (∀ j, U ((entL m l p pc k i v).getD j 0)) ∧ csrsOk 22 (entL m l p pc k i v) = true ∧ bits .and .u64 (entA m l p k i) 3 = 0 ∧
      leavB 22 (entL m l p pc k i v) (entP m l p k i) (!d) = true ∧ leavP 22 (entL m l p pc k i v) (entP m l p k i) (!d) = p ∧ leavA 22 (entL m l p pc k i v) (entP m l p k i) (!d) = bits .andNot .u64 pc 3 ∧
      (leavL 22 (entL m l p pc k i v) (entP m l p k i) (!d)).length = 22 ∧ bitAt ((leavL 22 (entL m l p pc k i v) (entP m l p k i) (!d)).getD 0 0) (match d with | true => 1 | false => 3) = bitAt (l.getD 0 0) (match d with | true => 1 | false => 3) := by
  have h2 := h
  unfold entB at h2
  rw [Bool.and_eq_true] at h2
  obtain ⟨hleg, hin⟩ := h2
  obtain ⟨rfl, hp⟩ := legalB_parts hleg
  have hok : csrsOk 22 l = true := by unfold legalB at hleg; rw [Bool.and_eq_true] at hleg; exact hleg.1
  have hp3 : p = 0 ∨ p = 1 ∨ p = 3 := by simpa [privB, or_assoc] using hp
  have hk : 0 ≤ k ∧ k ≤ 15 := by simpa [inB] using hin
  obtain ⟨j, rfl⟩ : ∃ j : Nat, k = (j : Int) := ⟨k.toNat, by omega⟩
  have hj : j < 16 := by omega
  refine ⟨rfl, ?_⟩
  have e1 : entL 22 l p pc j i v = enterL l (delegB l p j i) p (toldV j i) pc v := by simp [entL, h]
  have e2 : entP 22 l p j i = nextV (delegB l p j i) := by simp [entP, h]
  have e3 : entA 22 l p j i = enterAt (vecV l (delegB l p j i)) j (jumpB l (delegB l p j i) i) := by simp [entA, h]
  rw [e1, e2, e3]
  have o1 := enter_ok l hz hl hok (delegB l p j i) p pc v hp hpc j hj i
  have u1 := U_enter l hl (delegB l p j i) p pc v hv j hj i
  have n1 : (enterL l (delegB l p j i) p (toldV j i) pc v).length = 22 := by rw [enterL_len, hz]
  cases hd : delegB l p j i with
  | true =>
    rw [hd] at o1 u1 n1
    have hp01 : p = 0 ∨ p = 1 := by
      rcases hp3 with e | e | e
      · exact .inl e
      · exact .inr e
      · subst e; simp [delegB] at hd
    have b2 : leavB 22 (enterL l true p (toldV j i) pc v) 1 false = true := by
      have : legalB 22 (enterL l true p (toldV j i) pc v) 1 = true := by unfold legalB; rw [o1]; rfl
      unfold leavB; rw [this]; rfl
    have s0 : (enterL l true p (toldV j i) pc v).getD 0 0 = statS (l.getD 0 0) (p == 1) := getD_setk _ 0 _ (by simp [hz])
    have f1 : leavL 22 (enterL l true p (toldV j i) pc v) 1 false = (enterL l true p (toldV j i) pc v).set 0 (leaveS (statS (l.getD 0 0) (p == 1)) false) := by simp only [leavL, b2]; rw [s0]
    refine ⟨true, rfl, ?_, n1, u1, o1, at4 _ j _ (.inr (right_at hok 10 (by omega))), b2, ?_, ?_, ?_, ?_⟩
    · rcases hp01 with rfl | rfl <;> rfl
    · show leavP 22 (enterL l true p (toldV j i) pc v) 1 false = p
      have : leavP 22 (enterL l true p (toldV j i) pc v) 1 false = leaveP ((enterL l true p (toldV j i) pc v).getD 0 0) false := by simp only [leavP, b2]
      rw [this, s0, (back_s _ _ (hl 0)).1]
      rcases hp01 with rfl | rfl <;> rfl
    · show leavA 22 (enterL l true p (toldV j i) pc v) 1 false = _
      have : leavA 22 (enterL l true p (toldV j i) pc v) 1 false = (enterL l true p (toldV j i) pc v).getD 12 0 := by simp only [leavA, b2]; rfl
      rw [this]
      show ((((l.set 13 (toldV j i)).set 12 (bits .andNot .u64 pc 3)).set 14 v).set 0 (statS (l.getD 0 0) (p == 1))).getD 12 0 = _
      rw [getD_setj _ 0 12 _ (by omega), getD_setj _ 14 12 _ (by omega), getD_setk _ 12 _ (by simp [hz])]
    · show (leavL 22 (enterL l true p (toldV j i) pc v) 1 false).length = 22
      rw [f1, List.length_set, n1]
    · show bitAt ((leavL 22 (enterL l true p (toldV j i) pc v) 1 false).getD 0 0) 1 = _
      rw [f1, getD_setk _ 0 _ (by omega), (back_s _ _ (hl 0)).2]
  | false =>
    rw [hd] at o1 u1 n1
    have b2 : leavB 22 (enterL l false p (toldV j i) pc v) 3 true = true := by
      have : legalB 22 (enterL l false p (toldV j i) pc v) 3 = true := by unfold legalB; rw [o1]; rfl
      unfold leavB; rw [this]; rfl
    have s0 : (enterL l false p (toldV j i) pc v).getD 0 0 = statM (l.getD 0 0) p := getD_setk _ 0 _ (by simp [hz])
    have f1 : leavL 22 (enterL l false p (toldV j i) pc v) 3 true = (enterL l false p (toldV j i) pc v).set 0 (leaveS (statM (l.getD 0 0) p) true) := by simp only [leavL, b2]; rw [s0]
    refine ⟨false, rfl, ?_, n1, u1, o1, at4 _ j _ (.inl (right_at hok 4 (by omega))), b2, ?_, ?_, ?_, ?_⟩
    · rcases hp3 with rfl | rfl | rfl <;> rfl
    · show leavP 22 (enterL l false p (toldV j i) pc v) 3 true = p
      have : leavP 22 (enterL l false p (toldV j i) pc v) 3 true = leaveP ((enterL l false p (toldV j i) pc v).getD 0 0) true := by simp only [leavP, b2]
      rw [this, s0, (back_m _ _ (hl 0) hp).1]
    · show leavA 22 (enterL l false p (toldV j i) pc v) 3 true = _
      have : leavA 22 (enterL l false p (toldV j i) pc v) 3 true = (enterL l false p (toldV j i) pc v).getD 6 0 := by simp only [leavA, b2]; rfl
      rw [this]
      show ((((l.set 7 (toldV j i)).set 6 (bits .andNot .u64 pc 3)).set 8 v).set 0 (statM (l.getD 0 0) p)).getD 6 0 = _
      rw [getD_setj _ 0 6 _ (by omega), getD_setj _ 8 6 _ (by omega), getD_setk _ 6 _ (by simp [hz])]
    · show (leavL 22 (enterL l false p (toldV j i) pc v) 3 true).length = 22
      rw [f1, List.length_set, n1]
    · show bitAt ((leavL 22 (enterL l false p (toldV j i) pc v) 3 true).getD 0 0) 3 = _
      rw [f1, getD_setk _ 0 _ (by omega), (back_m _ _ (hl 0) hp).2]

end Go.Proofs.Ytgcbdlfljplkbab
