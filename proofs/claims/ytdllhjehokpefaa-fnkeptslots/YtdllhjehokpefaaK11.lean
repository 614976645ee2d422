/- Own lemmas. -/
import Derived.Test.YtdllhjehokpefaaK01
namespace Go.Proofs.Ytdllhjehokpefaa
open Go.RowKit
set_option linter.unusedVariables false

theorem okTo_of {ss : List Slt} {n : Nat} (h : ∀ i, i < n → okS (ss.getD i slt0) i = true) : okTo ss n = true := by
  rw [okTo, List.all_eq_true]
  intro i hi
  exact h i (by simpa using hi)

theorem cacheB_len {ss : List Slt} (h : cacheB ss = true) : ss.length = 16 := by simp [cacheB] at h; exact h.1

theorem cacheB_ok {ss : List Slt} (h : cacheB ss = true) : okTo ss 16 = true := by simp [cacheB] at h; exact h.2

theorem cacheB_of {ss : List Slt} (h1 : ss.length = 16) (h2 : okTo ss 16 = true) : cacheB ss = true := by simp [cacheB, h1, h2]

theorem getD_setS {ss : List Slt} {i j : Nat} (hj : j < ss.length) (s : Slt) : (ss.set j s).getD i slt0 = if i = j then s else ss.getD i slt0 := by
  simp only [List.getD, List.getElem?_set]
  by_cases h : j = i
  · subst h; simp [hj]
  · rw [if_neg h, if_neg (fun e => h e.symm)]

theorem keep_ok {ss : List Slt} {k p va to : Int} (hc : cacheB ss = true) (hk : kpB k p = true) (ha : 0 ≤ va ∧ va ≤ 18446744073709551615) (ht : 0 ≤ to ∧ to ≤ 18446744073709551615) : cacheB (keepS ss k p va to) = true := by
  have hl := cacheB_len hc
  have PB := plS_bd k p (va / 4096)
  unfold keepS
  rw [hc, hk]
  simp only [Bool.and_self, if_true]
  refine cacheB_of (by rw [List.length_set, hl]) (okTo_of fun i hi => ?_)
  rw [getD_setS (by omega)]
  by_cases h : i = (plS k p (va / 4096)).toNat
  · rw [if_pos h]
    simp only [kpB, Bool.and_eq_true, decide_eq_true_eq] at hk
    have e : plS k p (va / 4096) = (i : Int) := by omega
    simp only [okS, okU, kSlt, if_true, Bool.and_eq_true, beq_iff_eq]
    exact ⟨decide_eq_true hk.1, decide_eq_true hk.2, decide_eq_true (by omega), decide_eq_true (by omega), e⟩
  · rw [if_neg h]
    exact okTo_at (cacheB_ok hc) hi

theorem look_keep {ss : List Slt} {k p va to : Int} (hc : cacheB ss = true) (hk : kpB k p = true) (ha : 0 ≤ va ∧ va ≤ 18446744073709551615) (ht : 0 ≤ to ∧ to ≤ 18446744073709551615) : lookS (keepS ss k p va to) k p va = some (to / 4096 * 4096 + va % 4096) := by
  have hl := cacheB_len hc
  have PB := plS_bd k p (va / 4096)
  have hko := keep_ok (to := to) hc hk ha ht
  unfold lookS
  rw [hko, hk]
  unfold keepS
  rw [hc, hk]
  simp only [Bool.and_self, if_true]
  rw [getD_setS (by omega), if_pos rfl]
  simp [kSlt]

theorem drop_get (R : List Slt) (va : Int) (all : Bool) (i : Nat) (hi : i < R.length) : (R.map (dropOne va all)).getD i slt0 = dropOne va all (R.getD i slt0) := by
  simp [List.getD, List.getElem?_eq_getElem hi]

theorem drop_ok {R : List Slt} {va : Int} {all : Bool} (hc : cacheB R = true) : cacheB (dropS R va all) = true := by
  have hl := cacheB_len hc
  unfold dropS
  rw [hc]
  simp only [if_true]
  refine cacheB_of (by rw [List.length_map, hl]) (okTo_of fun i hi => ?_)
  rw [drop_get R va all i (by omega)]
  unfold dropOne
  split
  · simp [okS, slt0]
  · exact okTo_at (cacheB_ok hc) hi

theorem look_drop {R : List Slt} {k p va : Int} (hc : cacheB R = true) : lookS (dropS R va false) k p va = none := by
  have hl := cacheB_len hc
  have PB := plS_bd k p (va / 4096)
  unfold lookS
  dsimp only
  split
  · rw [dropS, hc]
    simp only [if_true]
    rw [drop_get R va false _ (by omega)]
    generalize R.getD (plS k p (va / 4096)).toNat slt0 = s
    unfold dropOne
    cases hu : s.u
    · simp [hu]
    · by_cases hg : s.g = va / 4096
      · simp [hg, slt0]
      · simp [hu, hg]
  · rfl

theorem drop_all {R : List Slt} {va : Int} (hc : cacheB R = true) : dropS R va true = List.replicate 16 slt0 := by
  unfold dropS
  rw [hc]
  simp only [if_true]
  rw [dropS_all, cacheB_len hc]

end Go.Proofs.Ytdllhjehokpefaa
