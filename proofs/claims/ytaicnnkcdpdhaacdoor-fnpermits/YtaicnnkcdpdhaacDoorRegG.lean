/- A region's ends, in plain numbers. -/
import Derived.Test.YtaicnnkcdpdhaacDoorRegF
namespace Go.Proofs.YtaicnnkcdpdhaacDoor
open Go.RowKit
set_option linter.unusedVariables false

theorem addr_bd {l : List Int} (hl : ∀ j, U (l.getD j 0)) (hok : csrsOk 22 l = true) (j : Nat) (hj : 17 ≤ j) (hj2 : j ≤ 20) : 0 ≤ l.getD j 0 ∧ l.getD j 0 < 18014398509481984 := by
  have h := right_at hok j (by omega)
  have hu := hl j
  have e : bits .and .u64 (l.getD j 0) 18014398509481983 = l.getD j 0 := by
    have hj3 : j = 17 ∨ j = 18 ∨ j = 19 ∨ j = 20 := by omega
    have h2 : (bits .and .u64 (l.getD j 0) 18014398509481983 == l.getD j 0) = true := by
      rcases hj3 with rfl | rfl | rfl | rfl <;> exact h
    simpa using h2
  have f := and_low (l.getD j 0) 54 hu.1 hu.2 (by omega)
  have g : (2 : Int) ^ 54 - 1 = 18014398509481983 := by decide
  rw [g, e] at f
  have p54 : (2 : Int) ^ 54 = 18014398509481984 := by decide
  rw [p54] at f
  refine ⟨hu.1, ?_⟩
  have := Int.emod_lt_of_pos (l.getD j 0) (show (0 : Int) < 18014398509481984 by omega)
  omega

theorem trail_le (a : Int) : ∀ n k, trailN a n k ≤ n + k := by
  intro n
  induction n with
  | zero => intro k; show k ≤ 0 + k; omega
  | succ n ih =>
    intro k
    unfold trailN
    split
    · have := ih (k + 1); omega
    · omega

theorem bt_mask (m : Nat) (hm : m ≤ 54) (i : Nat) (hi : i < 64) : bt (IntKind.u64.wrap (IntKind.u64.wrap (2 ^ m) - 1)) i = decide (i < m) := by
  have k : ∀ m, m ≤ 54 → ∀ i, i < 64 → bt (IntKind.u64.wrap (IntKind.u64.wrap (2 ^ m) - 1)) i = decide (i < m) := by decide +kernel
  exact k m hm i hi

/-- A word without its low m bits. -/
theorem andNot_low (a : Int) (h : U a) (m : Nat) (hm : m ≤ 54) : bits .andNot .u64 a (IntKind.u64.wrap (IntKind.u64.wrap (2 ^ m) - 1)) = a / 2 ^ m * 2 ^ m := by
  have hp : (0 : Int) < 2 ^ m := Int.pow_pos (by omega)
  have hq := U_div a h m
  have hle : a / 2 ^ m * 2 ^ m ≤ a := Int.ediv_mul_le _ (by omega)
  have hge : 0 ≤ a / 2 ^ m * 2 ^ m := Int.mul_nonneg hq.1 (by omega)
  have hw : IntKind.u64.wrap (a / 2 ^ m * 2 ^ m) = a / 2 ^ m * 2 ^ m := by
    have := h.2
    rw [IntKind.wrap_u64]
    exact Int.emod_eq_of_lt hge (by omega)
  refine bt_ext _ _ (U_bits _ _ _) ⟨hge, by have := h.2; omega⟩ fun i hi => ?_
  rw [bt_andNot _ _ _ hi, bt_mask m hm i hi, ← hw, bt_shl _ hq, bt_div a h]
  by_cases hmi : m ≤ i
  · have h1 : decide (i < m) = false := decide_eq_false (by omega)
    rw [h1, decide_eq_true hmi, decide_eq_true hi, Nat.sub_add_cancel hmi]
    simp
  · have h1 : decide (i < m) = true := decide_eq_true (by omega)
    rw [h1, decide_eq_false hmi]
    simp

/-- What a region is like: its ends, and that an address is left behind it. -/
theorem region_ends {l : List Int} (hl : ∀ j, U (l.getD j 0)) (hok : csrsOk 22 l = true) (i : Nat) (hi : i < 4) (h : (regionV l i).2.2 = true) :
    0 ≤ (regionV l i).1 ∧ (regionV l i).1 ≤ (regionV l i).2.1 ∧ (regionV l i).1 % 4 = 0 ∧ (regionV l i).2.1 % 4 = 3 ∧ (regionV l i).2.1 < 288230376151711744 ∧ (kindOf l i = 1 ∨ kindOf l i = 2 ∨ kindOf l i = 3) := by
  obtain ⟨a0, a1⟩ := addr_bd hl hok (17 + i) (by omega) (by omega)
  have hf : 0 ≤ regFrom l i ∧ regFrom l i % 4 = 0 ∧ regFrom l i < 72057594037927936 := by
    unfold regFrom
    split
    · obtain ⟨b0, b1⟩ := addr_bd hl hok (16 + i) (by omega) (by omega)
      rw [IntKind.wrap_u64]
      omega
    · omega
  have hua := hl (17 + i)
  unfold regionV at h ⊢
  generalize l.getD (17 + i) 0 = a at *
  generalize regFrom l i = f at *
  have e4 : IntKind.u64.wrap (a * 4) = a * 4 := by rw [IntKind.wrap_u64]; omega
  rw [e4] at h ⊢
  cases k1 : (kindOf l i == 1) with
  | true =>
    rw [k1, if_pos rfl] at h
    rw [if_pos rfl]
    by_cases hle : a * 4 ≤ f
    · rw [if_pos hle] at h; cases h
    · rw [if_neg hle]
      show 0 ≤ f ∧ f ≤ IntKind.u64.wrap (a * 4 - 1) ∧ f % 4 = 0 ∧ IntKind.u64.wrap (a * 4 - 1) % 4 = 3 ∧ IntKind.u64.wrap (a * 4 - 1) < 288230376151711744 ∧ _
      rw [IntKind.wrap_u64]
      refine ⟨by omega, by omega, by omega, by omega, by omega, .inl (by simpa using k1)⟩
  | false =>
    rw [k1, if_neg (by decide)] at h
    rw [if_neg (by decide)]
    cases k2 : (kindOf l i == 2) with
    | true =>
      rw [if_pos rfl]
      show 0 ≤ a * 4 ∧ a * 4 ≤ IntKind.u64.wrap (a * 4 + 3) ∧ a * 4 % 4 = 0 ∧ IntKind.u64.wrap (a * 4 + 3) % 4 = 3 ∧ IntKind.u64.wrap (a * 4 + 3) < 288230376151711744 ∧ _
      rw [IntKind.wrap_u64]
      refine ⟨by omega, by omega, by omega, by omega, by omega, .inr (.inl (by simpa using k2))⟩
    | false =>
      rw [k2, if_neg (by decide)] at h
      rw [if_neg (by decide)]
      cases k3 : (kindOf l i == 3) with
      | false => rw [k3, if_neg (by decide)] at h; cases h
      | true =>
        rw [if_pos rfl]
        have ht := trail_le a 53 0
        generalize trailN a 53 0 = t at *
        have ea := andNot_low a hua (t + 1) (by omega)
        have hp : (0 : Int) < 2 ^ (t + 1) := Int.pow_pos (by omega)
        have hle : a / 2 ^ (t + 1) * 2 ^ (t + 1) ≤ a := Int.ediv_mul_le _ (by omega)
        have hge : 0 ≤ a / 2 ^ (t + 1) * 2 ^ (t + 1) := Int.mul_nonneg (U_div a hua (t + 1)).1 (by omega)
        have hp3 : (2 : Int) ^ (t + 3) = 2 ^ (t + 1) * 4 := by rw [show t + 3 = (t + 1) + 2 from by omega, Int.pow_add]; rfl
        have hpb : (2 : Int) ^ (t + 1) ≤ 18014398509481984 := by
          have := pow_le (t + 1) 54 (by omega)
          have e54 : (2 : Int) ^ 54 = 18014398509481984 := by decide
          omega
        have el : regLo a t = a / 2 ^ (t + 1) * 2 ^ (t + 1) * 4 := by
          unfold regLo
          rw [ea, IntKind.wrap_u64]
          omega
        have eh : regHi a t = a / 2 ^ (t + 1) * 2 ^ (t + 1) * 4 + 2 ^ (t + 1) * 4 - 1 := by
          unfold regHi
          rw [el, hp3, IntKind.wrap_u64, IntKind.wrap_u64, IntKind.wrap_u64]
          omega
        show 0 ≤ regLo a t ∧ regLo a t ≤ regHi a t ∧ regLo a t % 4 = 0 ∧ regHi a t % 4 = 3 ∧ regHi a t < 288230376151711744 ∧ _
        rw [el, eh]
        refine ⟨by omega, by omega, by omega, by omega, by omega, .inr (.inr (by simpa using k3))⟩

/-- pmpcfg0 with entry i alone, of kind k: it lets load, store and fetch. -/
def aloneC (k : Int) (i : Nat) : Int := (8 * k + 7) * 2 ^ (8 * i)

theorem alone_facts : ∀ i, i < 4 → ∀ j, j < 4 → ∀ k : Fin 4, k.val ≠ 0 → okAt 16 (aloneC k.val i) = true ∧ bits .and .u64 (aloneC k.val i / 2 ^ (8 * j)) 255 = (if j = i then 8 * (k.val : Int) + 7 else (0 : Int)) ∧ (0 ≤ aloneC k.val i ∧ aloneC k.val i < 18446744073709551616) := by decide +kernel

theorem let7 : ∀ k : Fin 4, letB (8 * (k.val : Int) + 7) 0 1 = true ∧ letB (8 * (k.val : Int) + 7) 0 2 = true ∧ letB (8 * (k.val : Int) + 7) 0 3 = true ∧ bits .and .u64 ((8 * (k.val : Int) + 7) / 8) 3 = k.val := by decide +kernel

/-- Entry i alone: the others have no region, this one has its own. -/
theorem alone_region (l : List Int) (hz : l.length = 22) (i : Nat) (hi : i < 4) (k : Nat) (hk : kindOf l i = k) (hk0 : k ≠ 0) (hk4 : k < 4) (j : Nat) (hj : j < 4) : regionV (l.set 16 (aloneC k i)) j = (if j = i then regionV l i else (0, 0, false)) ∧ (j = i → cfgAt (l.set 16 (aloneC k i)) j = 8 * k + 7) := by
  obtain ⟨_, e, _⟩ := alone_facts i hi j hj ⟨k, hk4⟩ hk0
  have hc : cfgAt (l.set 16 (aloneC k i)) j = (if j = i then 8 * (k : Int) + 7 else 0) := by
    unfold cfgAt
    rw [getD_setk l 16 _ (by omega)]
    exact e
  have hg : ∀ n, 17 ≤ n → (l.set 16 (aloneC k i)).getD n 0 = l.getD n 0 := fun n hn => getD_setj l 16 n _ (by omega)
  have hf : regFrom (l.set 16 (aloneC k i)) j = regFrom l j := by
    unfold regFrom
    split
    · rw [hg _ (by omega)]
    · rfl
  by_cases hji : j = i
  · subst hji
    rw [if_pos rfl] at hc ⊢
    have hkk : kindOf (l.set 16 (aloneC k j)) j = kindOf l j := by
      unfold kindOf
      rw [hc]
      rw [show bits .and .u64 (cfgAt l j / 8) 3 = kindOf l j from rfl, hk]
      exact (let7 ⟨k, hk4⟩).2.2.2
    refine ⟨?_, fun _ => hc⟩
    unfold regionV
    rw [hkk, hf, hg _ (by omega)]
  · rw [if_neg hji] at hc ⊢
    refine ⟨?_, fun h => absurd h hji⟩
    have hkk : kindOf (l.set 16 (aloneC k i)) j = 0 := by
      unfold kindOf
      rw [hc]
      decide +kernel
    unfold regionV
    rw [hkk]
    rfl

/-- Who is let in by entry i alone. -/
theorem alone_perm (l : List Int) (hz : l.length = 22) (i : Nat) (hi : i < 4) (k : Nat) (hk : kindOf l i = k) (hk0 : k ≠ 0) (hk4 : k < 4) (x kind : Int) (hkd : kind = 1 ∨ kind = 2 ∨ kind = 3) :
    permRest (l.set 16 (aloneC k i)) 0 x x kind 4 0 = hitB (regionV l i) x := by
  have hr := fun j hj => (alone_region l hz i hi k hk hk0 hk4 j hj)
  have hs : ∀ j, j < 4 → j ≠ i → skipB (regionV (l.set 16 (aloneC k i)) j) x x = true := by
    intro j hj hne
    rw [(hr j hj).1, if_neg hne]; rfl
  have hl : letB (8 * (k : Int) + 7) 0 kind = true := by
    have := let7 ⟨k, hk4⟩
    rcases hkd with rfl | rfl | rfl
    · exact this.1
    · exact this.2.1
    · exact this.2.2.1
  have hS : ∀ n j, j + n = 4 → i < j → permRest (l.set 16 (aloneC k i)) 0 x x kind n j = false := by
    intro n
    induction n with
    | zero => intro j _ _; rfl
    | succ n ih =>
      intro j hj hij
      rw [permRest, hs j (by omega) (by omega), if_pos rfl]
      exact ih (j + 1) (by omega) (by omega)
  have hA : ∀ n j, j + n = 4 → j ≤ i → permRest (l.set 16 (aloneC k i)) 0 x x kind n j = hitB (regionV l i) x := by
    intro n
    induction n with
    | zero => intro j hj hij; omega
    | succ n ih =>
      intro j hj hij
      rw [permRest]
      by_cases hji : j = i
      · rw [(hr j (by omega)).1, if_pos hji, (hr j (by omega)).2 hji, hl, Bool.and_true]
        cases hh : hitB (regionV l i) x with
        | true =>
          unfold hitB at hh
          simp only [Bool.and_eq_true, decide_eq_true_eq] at hh
          have h1 : skipB (regionV l i) x x = false := by
            unfold skipB
            simp only [Bool.or_eq_false_iff, Bool.not_eq_false', decide_eq_false_iff_not]
            refine ⟨⟨hh.1.1, ?_⟩, ?_⟩ <;> omega
          have h2 : outB (regionV l i) x x = false := by
            unfold outB
            simp only [Bool.or_eq_false_iff, decide_eq_false_iff_not]
            omega
          rw [h1, if_neg (by decide), h2]; rfl
        | false =>
          have h1 : skipB (regionV l i) x x = true := by
            unfold hitB at hh
            unfold skipB
            simp only [Bool.and_eq_false_iff, decide_eq_false_iff_not] at hh
            simp only [Bool.or_eq_true, Bool.not_eq_true', decide_eq_true_eq]
            rcases hh with (e | e) | e
            · exact .inl (.inl e)
            · exact .inl (.inr (by omega))
            · exact .inr (by omega)
          rw [h1, if_pos rfl]
          exact hS n (j + 1) (by omega) (by omega)
      · rw [hs j (by omega) hji, if_pos rfl]
        exact ih (j + 1) (by omega) (by omega)
  exact hA 4 0 (by omega) (by omega)

end Go.Proofs.YtaicnnkcdpdhaacDoor
