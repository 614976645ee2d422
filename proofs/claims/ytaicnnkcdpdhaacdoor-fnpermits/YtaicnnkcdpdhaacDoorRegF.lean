/- Protection, in plain numbers: who may touch several bytes may touch each; where it is locked nobody stores; a region's ends. -/
import Derived.Test.YtaicnnkcdpdhaacDoorRegU
import Derived.Test.YtaicnnkcdpdhaacDoorCsrF
namespace Go.Proofs.YtaicnnkcdpdhaacDoor
open Go.RowKit
set_option linter.unusedVariables false

theorem skip_one {r : Int × Int × Bool} {x y z : Int} (hx : x ≤ z) (hy : z ≤ y) (h : skipB r x y = true) : skipB r z z = true := by
  unfold skipB at h ⊢
  simp only [Bool.or_eq_true, Bool.not_eq_true', decide_eq_true_eq] at h ⊢
  rcases h with (e | e) | e
  · exact .inl (.inl e)
  · exact .inl (.inr (by omega))
  · exact .inr (by omega)

theorem perm_one (l : List Int) (p x y kind z : Int) (hx : x ≤ z) (hy : z ≤ y) : ∀ n k, permRest l p x y kind n k = true → permRest l p z z kind n k = true := by
  intro n
  induction n with
  | zero => intro k h; exact h
  | succ n ih =>
    intro k h
    rw [permRest] at h ⊢
    cases hs : skipB (regionV l k) x y with
    | true =>
      rw [hs, if_pos rfl] at h
      rw [skip_one hx hy hs, if_pos rfl]
      exact ih (k + 1) h
    | false =>
      rw [hs, if_neg (by decide), Bool.and_eq_true] at h
      obtain ⟨ho, hl⟩ := h
      have h1 : skipB (regionV l k) z z = false := by
        unfold skipB at hs ⊢
        unfold outB at ho
        simp only [Bool.or_eq_false_iff, Bool.not_eq_false', decide_eq_false_iff_not, Bool.not_eq_true'] at hs ho ⊢
        refine ⟨⟨hs.1.1, ?_⟩, ?_⟩ <;> omega
      have h2 : outB (regionV l k) z z = false := by
        unfold outB at ho ⊢
        simp only [Bool.or_eq_false_iff, decide_eq_false_iff_not, Bool.not_eq_true'] at ho ⊢
        omega
      rw [h1, if_neg (by decide), h2, hl]
      rfl

theorem lastOf_one (x : Int) (h : U x) : lastOf x 1 = x := by
  obtain ⟨h0, h1⟩ := h
  unfold lastOf
  rw [IntKind.wrap_u64, IntKind.wrap_u64, IntKind.wrap_u64]
  omega

theorem lastOf_at (x s : Int) (h : U x) (hs : 1 ≤ s ∧ s ≤ 8) (hn : ¬ lastOf x s < x) : lastOf x s = x + s - 1 := by
  obtain ⟨h0, h1⟩ := h
  unfold lastOf at hn ⊢
  rw [IntKind.wrap_u64, IntKind.wrap_u64, IntKind.wrap_u64] at hn ⊢
  omega

/-- Who may touch several bytes may touch each of them. -/
theorem perm_each {m : Nat} {l : List Int} {p x s kind : Int} (hx : U x) (h : permV m l p x s kind = true) (i : Int) (h0 : 0 ≤ i) (h1 : i < s) : permV m l p (IntKind.u64.wrap (x + i)) 1 kind = true := by
  unfold permV at h ⊢
  simp only [Bool.and_eq_true, Bool.not_eq_true', decide_eq_false_iff_not] at h ⊢
  obtain ⟨⟨⟨⟨hl, hs⟩, hk⟩, hn⟩, hr⟩ := h
  have hs8 : 1 ≤ s ∧ s ≤ 8 := by
    have : s = 1 ∨ s = 2 ∨ s = 4 ∨ s = 8 := by simpa [sizeB] using hs
    omega
  have e := lastOf_at x s hx hs8 hn
  have hu : lastOf x s < 18446744073709551616 := (U_wrap _).2
  have ex : IntKind.u64.wrap (x + i) = x + i := by
    have := hx.1
    rw [IntKind.wrap_u64]; omega
  rw [ex]
  have hux : U (x + i) := ⟨by have := hx.1; omega, by omega⟩
  rw [lastOf_one _ hux]
  exact ⟨⟨⟨⟨hl, rfl⟩, hk⟩, by omega⟩, perm_one l p x _ kind (x + i) (by omega) (by omega) 4 0 hr⟩

theorem lock_stop (l : List Int) (p x : Int) : ∀ n k, lockRest l x n k = true → permRest l p x x 3 n k = false := by
  intro n
  induction n with
  | zero => intro k h; cases h
  | succ n ih =>
    intro k h
    rw [lockRest] at h
    rw [permRest]
    cases hh : hitB (regionV l k) x with
    | true =>
      rw [hh, if_pos rfl, Bool.and_eq_true] at h
      have h1 : skipB (regionV l k) x x = false := by
        unfold hitB at hh
        unfold skipB
        simp only [Bool.and_eq_true, decide_eq_true_eq] at hh
        simp only [Bool.or_eq_false_iff, Bool.not_eq_false', decide_eq_false_iff_not]
        refine ⟨⟨hh.1.1, ?_⟩, ?_⟩ <;> omega
      have h2 : letB (cfgAt l k) p 3 = false := by
        have e1 : cfgAt l k / 128 = 1 := by simpa using h.1
        have e2 : bits .and .u64 (cfgAt l k / 2) 1 = 0 := by simpa using h.2
        unfold letB
        rw [e1, e2]
        have : (p == 3 && ((1 : Int) == 0)) = false := by simp
        rw [this]
        rfl
      rw [h1, if_neg (by decide), h2, Bool.and_false]
    | false =>
      rw [hh, if_neg (by decide)] at h
      have h1 : skipB (regionV l k) x x = true := by
        unfold hitB at hh
        unfold skipB
        simp only [Bool.and_eq_false_iff, decide_eq_false_iff_not] at hh
        simp only [Bool.or_eq_true, Bool.not_eq_true', decide_eq_true_eq]
        rcases hh with (e | e) | e
        · exact .inl (.inl e)
        · exact .inl (.inr (by omega))
        · exact .inr (by omega)
      rw [h1, if_pos rfl]
      exact ih (k + 1) h

/-- Where it is locked nobody stores. -/
theorem lock_none {m : Nat} {l : List Int} {x : Int} (p : Int) (hx : U x) (h : lockedV m l x = true) : permV m l p x 1 3 = false := by
  unfold lockedV at h
  rw [Bool.and_eq_true] at h
  unfold permV
  rw [lastOf_one x hx, lock_stop l p x 4 0 h.2, Bool.and_false]

end Go.Proofs.YtaicnnkcdpdhaacDoor
