/- Protection, in plain numbers: who may touch several bytes may touch each; where it is locked nobody stores; a region's ends. A region's ends, in plain numbers. What the law on regions asks, in plain numbers. -/
import Derived.Test.YtldjmphflgecjacDoorRegU
import Derived.Test.YtldjmphflgecjacDoorCsrF
namespace Go.Proofs.YtldjmphflgecjacDoor
open Go.RowKit
set_option linter.unusedVariables false

theorem skip_one {r : Int × Int × Bool} {x y z : Int} (hx : x ≤ z) (hy : z ≤ y) (h : skipB r x y = true) : skipB r z z = true := by
  unfold skipB at h ⊢
  simp only [Bool.or_eq_true, Bool.not_eq_true', decide_eq_true_eq] at h ⊢
  rcases h with (e | e) | e
  · exact .inl (.inl e)
  · exact .inl (.inr (by omega))
  · exact .inr (by omega)

theorem perm_one (l : List Int) (p x y kind z : Int) (hx : x ≤ z) (hy : z ≤ y) : ∀ n k, permRest l p x y kind n k = true → permRest l p z z kind n k = true := by
  intro n
  induction n with
  | zero => intro k h; exact h
  | succ n ih =>
    intro k h
    rw [permRest] at h ⊢
    cases hs : skipB (regionV l k) x y with
    | true =>
      rw [hs, if_pos rfl] at h
      rw [skip_one hx hy hs, if_pos rfl]
      exact ih (k + 1) h
    | false =>
      rw [hs, if_neg (by decide), Bool.and_eq_true] at h
      obtain ⟨ho, hl⟩ := h
      have h1 : skipB (regionV l k) z z = false := by
        unfold skipB at hs ⊢
        unfold outB at ho
        simp only [Bool.or_eq_false_iff, Bool.not_eq_false', decide_eq_false_iff_not, Bool.not_eq_true'] at hs ho ⊢
        refine ⟨⟨hs.1.1, ?_⟩, ?_⟩ <;> omega
      have h2 : outB (regionV l k) z z = false := by
        unfold outB at ho ⊢
        simp only [Bool.or_eq_false_iff, decide_eq_false_iff_not, Bool.not_eq_true'] at ho ⊢
        omega
      rw [h1, if_neg (by decide), h2, hl]
      rfl

theorem lastOf_one (x : Int) (h : U x) : lastOf x 1 = x := by
  obtain ⟨h0, h1⟩ := h
  unfold lastOf
  rw [IntKind.wrap_u64, IntKind.wrap_u64, IntKind.wrap_u64]
  omega

theorem lastOf_at (x s : Int) (h : U x) (hs : 1 ≤ s ∧ s ≤ 8) (hn : ¬ lastOf x s < x) : lastOf x s = x + s - 1 := by
  obtain ⟨h0, h1⟩ := h
  unfold lastOf at hn ⊢
  rw [IntKind.wrap_u64, IntKind.wrap_u64, IntKind.wrap_u64] at hn ⊢
  omega

/-- Who may touch several bytes may touch each of them. -/
theorem perm_each {m : Nat} {l : List Int} {p x s kind : Int} (hx : U x) (h : permV m l p x s kind = true) (i : Int) (h0 : 0 ≤ i) (h1 : i < s) : permV m l p (IntKind.u64.wrap (x + i)) 1 kind = true := by
  unfold permV at h ⊢
  simp only [Bool.and_eq_true, Bool.not_eq_true', decide_eq_false_iff_not] at h ⊢
  obtain ⟨⟨⟨⟨hl, hs⟩, hk⟩, hn⟩, hr⟩ := h
  have hs8 : 1 ≤ s ∧ s ≤ 8 := by
    have : s = 1 ∨ s = 2 ∨ s = 4 ∨ s = 8 := by simpa [sizeB] using hs
    omega
  have e := lastOf_at x s hx hs8 hn
  have hu : lastOf x s < 18446744073709551616 := (U_wrap _).2
  have ex : IntKind.u64.wrap (x + i) = x + i := by
    have := hx.1
    rw [IntKind.wrap_u64]; omega
  rw [ex]
  have hux : U (x + i) := ⟨by have := hx.1; omega, by omega⟩
  rw [lastOf_one _ hux]
  exact ⟨⟨⟨⟨hl, rfl⟩, hk⟩, by omega⟩, perm_one l p x _ kind (x + i) (by omega) (by omega) 4 0 hr⟩

theorem lock_stop (l : List Int) (p x : Int) : ∀ n k, lockRest l x n k = true → permRest l p x x 3 n k = false := by
  intro n
  induction n with
  | zero => intro k h; cases h
  | succ n ih =>
    intro k h
    rw [lockRest] at h
    rw [permRest]
    cases hh : hitB (regionV l k) x with
    | true =>
      rw [hh, if_pos rfl, Bool.and_eq_true] at h
      have h1 : skipB (regionV l k) x x = false := by
        unfold hitB at hh
        unfold skipB
        simp only [Bool.and_eq_true, decide_eq_true_eq] at hh
        simp only [Bool.or_eq_false_iff, Bool.not_eq_false', decide_eq_false_iff_not]
        refine ⟨⟨hh.1.1, ?_⟩, ?_⟩ <;> omega
      have h2 : letB (cfgAt l k) p 3 = false := by
        have e1 : cfgAt l k / 128 = 1 := by simpa using h.1
        have e2 : bits .and .u64 (cfgAt l k / 2) 1 = 0 := by simpa using h.2
        unfold letB
        rw [e1, e2]
        have : (p == 3 && ((1 : Int) == 0)) = false := by simp
        rw [this]
        rfl
      rw [h1, if_neg (by decide), h2, Bool.and_false]
    | false =>
      rw [hh, if_neg (by decide)] at h
      have h1 : skipB (regionV l k) x x = true := by
        unfold hitB at hh
        unfold skipB
        simp only [Bool.and_eq_false_iff, decide_eq_false_iff_not] at hh
        simp only [Bool.or_eq_true, Bool.not_eq_true', decide_eq_true_eq]
        rcases hh with (e | e) | e
        · exact .inl (.inl e)
        · exact .inl (.inr (by omega))
        · exact .inr (by omega)
      rw [h1, if_pos rfl]
      exact ih (k + 1) h

/-- Where it is locked nobody stores. -/
theorem lock_none {m : Nat} {l : List Int} {x : Int} (p : Int) (hx : U x) (h : lockedV m l x = true) : permV m l p x 1 3 = false := by
  unfold lockedV at h
  rw [Bool.and_eq_true] at h
  unfold permV
  rw [lastOf_one x hx, lock_stop l p x 4 0 h.2, Bool.and_false]

end Go.Proofs.YtldjmphflgecjacDoor

namespace Go.Proofs.YtldjmphflgecjacDoor
open Go.RowKit
set_option linter.unusedVariables false

theorem addr_bd {l : List Int} (hl : ∀ j, U (l.getD j 0)) (hok : csrsOk 22 l = true) (j : Nat) (hj : 17 ≤ j) (hj2 : j ≤ 20) : 0 ≤ l.getD j 0 ∧ l.getD j 0 < 18014398509481984 := by
  have h := right_at hok j (by omega)
  have hu := hl j
  have e : bits .and .u64 (l.getD j 0) 18014398509481983 = l.getD j 0 := by
    have hj3 : j = 17 ∨ j = 18 ∨ j = 19 ∨ j = 20 := by omega
    have h2 : (bits .and .u64 (l.getD j 0) 18014398509481983 == l.getD j 0) = true := by
      rcases hj3 with rfl | rfl | rfl | rfl <;> exact h
    simpa using h2
  have f := and_low (l.getD j 0) 54 hu.1 hu.2 (by omega)
  have g : (2 : Int) ^ 54 - 1 = 18014398509481983 := by decide
  rw [g, e] at f
  have p54 : (2 : Int) ^ 54 = 18014398509481984 := by decide
  rw [p54] at f
  refine ⟨hu.1, ?_⟩
  have := Int.emod_lt_of_pos (l.getD j 0) (show (0 : Int) < 18014398509481984 by omega)
  omega

theorem trail_le (a : Int) : ∀ n k, trailN a n k ≤ n + k := by
  intro n
  induction n with
  | zero => intro k; show k ≤ 0 + k; omega
  | succ n ih =>
    intro k
    unfold trailN
    split
    · have := ih (k + 1); omega
    · omega

theorem bt_mask (m : Nat) (hm : m ≤ 54) (i : Nat) (hi : i < 64) : bt (IntKind.u64.wrap (IntKind.u64.wrap (2 ^ m) - 1)) i = decide (i < m) := by
  have k : ∀ m, m ≤ 54 → ∀ i, i < 64 → bt (IntKind.u64.wrap (IntKind.u64.wrap (2 ^ m) - 1)) i = decide (i < m) := by decide +kernel
  exact k m hm i hi

/-- A word without its low m bits. -/
theorem andNot_low (a : Int) (h : U a) (m : Nat) (hm : m ≤ 54) : bits .andNot .u64 a (IntKind.u64.wrap (IntKind.u64.wrap (2 ^ m) - 1)) = a / 2 ^ m * 2 ^ m := by
  have hp : (0 : Int) < 2 ^ m := Int.pow_pos (by omega)
  have hq := U_div a h m
  have hle : a / 2 ^ m * 2 ^ m ≤ a := Int.ediv_mul_le _ (by omega)
  have hge : 0 ≤ a / 2 ^ m * 2 ^ m := Int.mul_nonneg hq.1 (by omega)
  have hw : IntKind.u64.wrap (a / 2 ^ m * 2 ^ m) = a / 2 ^ m * 2 ^ m := by
    have := h.2
    rw [IntKind.wrap_u64]
    exact Int.emod_eq_of_lt hge (by omega)
  refine bt_ext _ _ (U_bits _ _ _) ⟨hge, by have := h.2; omega⟩ fun i hi => ?_
  rw [bt_andNot _ _ _ hi, bt_mask m hm i hi, ← hw, bt_shl _ hq, bt_div a h]
  by_cases hmi : m ≤ i
  · have h1 : decide (i < m) = false := decide_eq_false (by omega)
    rw [h1, decide_eq_true hmi, decide_eq_true hi, Nat.sub_add_cancel hmi]
    simp
  · have h1 : decide (i < m) = true := decide_eq_true (by omega)
    rw [h1, decide_eq_false hmi]
    simp

/-- What a region is like: its ends, and that an address is left behind it. -/
theorem region_ends {l : List Int} (hl : ∀ j, U (l.getD j 0)) (hok : csrsOk 22 l = true) (i : Nat) (hi : i < 4) (h : (regionV l i).2.2 = true) :
    0 ≤ (regionV l i).1 ∧ (regionV l i).1 ≤ (regionV l i).2.1 ∧ (regionV l i).1 % 4 = 0 ∧ (regionV l i).2.1 % 4 = 3 ∧ (regionV l i).2.1 < 288230376151711744 ∧ (kindOf l i = 1 ∨ kindOf l i = 2 ∨ kindOf l i = 3) := by
  obtain ⟨a0, a1⟩ := addr_bd hl hok (17 + i) (by omega) (by omega)
  have hf : 0 ≤ regFrom l i ∧ regFrom l i % 4 = 0 ∧ regFrom l i < 72057594037927936 := by
    unfold regFrom
    split
    · obtain ⟨b0, b1⟩ := addr_bd hl hok (16 + i) (by omega) (by omega)
      rw [IntKind.wrap_u64]
      omega
    · omega
  have hua := hl (17 + i)
  unfold regionV at h ⊢
  generalize l.getD (17 + i) 0 = a at *
  generalize regFrom l i = f at *
  have e4 : IntKind.u64.wrap (a * 4) = a * 4 := by rw [IntKind.wrap_u64]; omega
  rw [e4] at h ⊢
  cases k1 : (kindOf l i == 1) with
  | true =>
    rw [k1, if_pos rfl] at h
    rw [if_pos rfl]
    by_cases hle : a * 4 ≤ f
    · rw [if_pos hle] at h; cases h
    · rw [if_neg hle]
      show 0 ≤ f ∧ f ≤ IntKind.u64.wrap (a * 4 - 1) ∧ f % 4 = 0 ∧ IntKind.u64.wrap (a * 4 - 1) % 4 = 3 ∧ IntKind.u64.wrap (a * 4 - 1) < 288230376151711744 ∧ _
      rw [IntKind.wrap_u64]
      refine ⟨by omega, by omega, by omega, by omega, by omega, .inl (by simpa using k1)⟩
  | false =>
    rw [k1, if_neg (by decide)] at h
    rw [if_neg (by decide)]
    cases k2 : (kindOf l i == 2) with
    | true =>
      rw [if_pos rfl]
      show 0 ≤ a * 4 ∧ a * 4 ≤ IntKind.u64.wrap (a * 4 + 3) ∧ a * 4 % 4 = 0 ∧ IntKind.u64.wrap (a * 4 + 3) % 4 = 3 ∧ IntKind.u64.wrap (a * 4 + 3) < 288230376151711744 ∧ _
      rw [IntKind.wrap_u64]
      refine ⟨by omega, by omega, by omega, by omega, by omega, .inr (.inl (by simpa using k2))⟩
    | false =>
      rw [k2, if_neg (by decide)] at h
      rw [if_neg (by decide)]
      cases k3 : (kindOf l i == 3) with
      | false => rw [k3, if_neg (by decide)] at h; cases h
      | true =>
        rw [if_pos rfl]
        have ht := trail_le a 53 0
        generalize trailN a 53 0 = t at *
        have ea := andNot_low a hua (t + 1) (by omega)
        have hp : (0 : Int) < 2 ^ (t + 1) := Int.pow_pos (by omega)
        have hle : a / 2 ^ (t + 1) * 2 ^ (t + 1) ≤ a := Int.ediv_mul_le _ (by omega)
        have hge : 0 ≤ a / 2 ^ (t + 1) * 2 ^ (t + 1) := Int.mul_nonneg (U_div a hua (t + 1)).1 (by omega)
        have hp3 : (2 : Int) ^ (t + 3) = 2 ^ (t + 1) * 4 := by rw [show t + 3 = (t + 1) + 2 from by omega, Int.pow_add]; rfl
        have hpb : (2 : Int) ^ (t + 1) ≤ 18014398509481984 := by
          have := pow_le (t + 1) 54 (by omega)
          have e54 : (2 : Int) ^ 54 = 18014398509481984 := by decide
          omega
        have el : regLo a t = a / 2 ^ (t + 1) * 2 ^ (t + 1) * 4 := by
          unfold regLo
          rw [ea, IntKind.wrap_u64]
          omega
        have eh : regHi a t = a / 2 ^ (t + 1) * 2 ^ (t + 1) * 4 + 2 ^ (t + 1) * 4 - 1 := by
          unfold regHi
          rw [el, hp3, IntKind.wrap_u64, IntKind.wrap_u64, IntKind.wrap_u64]
          omega
        show 0 ≤ regLo a t ∧ regLo a t ≤ regHi a t ∧ regLo a t % 4 = 0 ∧ regHi a t % 4 = 3 ∧ regHi a t < 288230376151711744 ∧ _
        rw [el, eh]
        refine ⟨by omega, by omega, by omega, by omega, by omega, .inr (.inr (by simpa using k3))⟩

/-- pmpcfg0 with entry i alone, of kind k: it lets load, store and fetch. -/
def aloneC (k : Int) (i : Nat) : Int := (8 * k + 7) * 2 ^ (8 * i)

theorem alone_facts : ∀ i, i < 4 → ∀ j, j < 4 → ∀ k : Fin 4, k.val ≠ 0 → okAt 16 (aloneC k.val i) = true ∧ bits .and .u64 (aloneC k.val i / 2 ^ (8 * j)) 255 = (if j = i then 8 * (k.val : Int) + 7 else (0 : Int)) ∧ (0 ≤ aloneC k.val i ∧ aloneC k.val i < 18446744073709551616) := by decide +kernel

theorem let7 : ∀ k : Fin 4, letB (8 * (k.val : Int) + 7) 0 1 = true ∧ letB (8 * (k.val : Int) + 7) 0 2 = true ∧ letB (8 * (k.val : Int) + 7) 0 3 = true ∧ bits .and .u64 ((8 * (k.val : Int) + 7) / 8) 3 = k.val := by decide +kernel

/-- Entry i alone: the others have no region, this one has its own. -/
theorem alone_region (l : List Int) (hz : l.length = 22) (i : Nat) (hi : i < 4) (k : Nat) (hk : kindOf l i = k) (hk0 : k ≠ 0) (hk4 : k < 4) (j : Nat) (hj : j < 4) : regionV (l.set 16 (aloneC k i)) j = (if j = i then regionV l i else (0, 0, false)) ∧ (j = i → cfgAt (l.set 16 (aloneC k i)) j = 8 * k + 7) := by
  obtain ⟨_, e, _⟩ := alone_facts i hi j hj ⟨k, hk4⟩ hk0
  have hc : cfgAt (l.set 16 (aloneC k i)) j = (if j = i then 8 * (k : Int) + 7 else 0) := by
    unfold cfgAt
    rw [getD_setk l 16 _ (by omega)]
    exact e
  have hg : ∀ n, 17 ≤ n → (l.set 16 (aloneC k i)).getD n 0 = l.getD n 0 := fun n hn => getD_setj l 16 n _ (by omega)
  have hf : regFrom (l.set 16 (aloneC k i)) j = regFrom l j := by
    unfold regFrom
    split
    · rw [hg _ (by omega)]
    · rfl
  by_cases hji : j = i
  · subst hji
    rw [if_pos rfl] at hc ⊢
    have hkk : kindOf (l.set 16 (aloneC k j)) j = kindOf l j := by
      unfold kindOf
      rw [hc]
      rw [show bits .and .u64 (cfgAt l j / 8) 3 = kindOf l j from rfl, hk]
      exact (let7 ⟨k, hk4⟩).2.2.2
    refine ⟨?_, fun _ => hc⟩
    unfold regionV
    rw [hkk, hf, hg _ (by omega)]
  · rw [if_neg hji] at hc ⊢
    refine ⟨?_, fun h => absurd h hji⟩
    have hkk : kindOf (l.set 16 (aloneC k i)) j = 0 := by
      unfold kindOf
      rw [hc]
      decide +kernel
    unfold regionV
    rw [hkk]
    rfl

/-- Who is let in by entry i alone. -/
theorem alone_perm (l : List Int) (hz : l.length = 22) (i : Nat) (hi : i < 4) (k : Nat) (hk : kindOf l i = k) (hk0 : k ≠ 0) (hk4 : k < 4) (x kind : Int) (hkd : kind = 1 ∨ kind = 2 ∨ kind = 3) :
    permRest (l.set 16 (aloneC k i)) 0 x x kind 4 0 = hitB (regionV l i) x := by
  have hr := fun j hj => (alone_region l hz i hi k hk hk0 hk4 j hj)
  have hs : ∀ j, j < 4 → j ≠ i → skipB (regionV (l.set 16 (aloneC k i)) j) x x = true := by
    intro j hj hne
    rw [(hr j hj).1, if_neg hne]; rfl
  have hl : letB (8 * (k : Int) + 7) 0 kind = true := by
    have := let7 ⟨k, hk4⟩
    rcases hkd with rfl | rfl | rfl
    · exact this.1
    · exact this.2.1
    · exact this.2.2.1
  have hS : ∀ n j, j + n = 4 → i < j → permRest (l.set 16 (aloneC k i)) 0 x x kind n j = false := by
    intro n
    induction n with
    | zero => intro j _ _; rfl
    | succ n ih =>
      intro j hj hij
      rw [permRest, hs j (by omega) (by omega), if_pos rfl]
      exact ih (j + 1) (by omega) (by omega)
  have hA : ∀ n j, j + n = 4 → j ≤ i → permRest (l.set 16 (aloneC k i)) 0 x x kind n j = hitB (regionV l i) x := by
    intro n
    induction n with
    | zero => intro j hj hij; omega
    | succ n ih =>
      intro j hj hij
      rw [permRest]
      by_cases hji : j = i
      · rw [(hr j (by omega)).1, if_pos hji, (hr j (by omega)).2 hji, hl, Bool.and_true]
        cases hh : hitB (regionV l i) x with
        | true =>
          unfold hitB at hh
          simp only [Bool.and_eq_true, decide_eq_true_eq] at hh
          have h1 : skipB (regionV l i) x x = false := by
            unfold skipB
            simp only [Bool.or_eq_false_iff, Bool.not_eq_false', decide_eq_false_iff_not]
            refine ⟨⟨hh.1.1, ?_⟩, ?_⟩ <;> omega
          have h2 : outB (regionV l i) x x = false := by
            unfold outB
            simp only [Bool.or_eq_false_iff, decide_eq_false_iff_not]
            omega
          rw [h1, if_neg (by decide), h2]; rfl
        | false =>
          have h1 : skipB (regionV l i) x x = true := by
            unfold hitB at hh
            unfold skipB
            simp only [Bool.and_eq_false_iff, decide_eq_false_iff_not] at hh
            simp only [Bool.or_eq_true, Bool.not_eq_true', decide_eq_true_eq]
            rcases hh with (e | e) | e
            · exact .inl (.inl e)
            · exact .inl (.inr (by omega))
            · exact .inr (by omega)
          rw [h1, if_pos rfl]
          exact hS n (j + 1) (by omega) (by omega)
      · rw [hs j (by omega) hji, if_pos rfl]
        exact ih (j + 1) (by omega) (by omega)
  exact hA 4 0 (by omega) (by omega)

end Go.Proofs.YtldjmphflgecjacDoor

namespace Go.Proofs.YtldjmphflgecjacDoor
open Go.RowKit
set_option linter.unusedVariables false

theorem sl_reg {w : World} {b off : Nat} {l : List Int} (h : Sl .u64 w (some ⟨b, off, none⟩) l) (k : Nat) (hk : k < l.length) : w.cell? ⟨b, off + k, none⟩ = some (.int .u64 (l.getD k 0)) := by
  obtain ⟨b', off', e, hb, hc⟩ := h k hk
  simp only [Option.some.injEq, Addr.mk.injEq, and_true] at e
  obtain ⟨rfl, rfl⟩ := e
  exact hc

theorem below_app {w w' : World} {o : Obj} (h : (w.alloc o).grownBy w' (Value.slice (some ⟨w.heap.size, 0, none⟩) 0 0).ownBlock) : Below w.heap.size w w' := by
  refine Below.grown ((Below.refl _ _).alloc (Nat.le_refl _) _) h ?_ ?_
  · simp
  · intro k hk; simp [Value.ownBlock] at hk; omega

theorem and24 (y : Int) : bits .and .u64 y 24 = (if bt y 3 = true then 8 else 0) + (if bt y 4 = true then 16 else 0) := by
  have e : ∀ i, i < 64 → ∀ p q o : Bool, ((if i = 3 then p else if i = 4 then q else o) && bt 24 i) = bt ((if p = true then 8 else 0) + (if q = true then 16 else 0)) i := by decide +kernel
  refine bt_ext _ _ (U_bits _ _ _) (by constructor <;> (cases bt y 3 <;> cases bt y 4 <;> decide)) fun i hi => ?_
  rw [bt_and, ← e i hi (bt y 3) (bt y 4) (bt y i)]
  by_cases h0 : i = 3
  · subst h0; rfl
  · by_cases h1 : i = 4
    · subst h1; rfl
    · rw [if_neg h0, if_neg h1]

theorem kind_bits (y : Int) : bits .and .u64 (bits .and .u64 y 255 / 8) 3 = (if bt y 3 = true then 1 else 0) + (if bt y 4 = true then 2 else 0) := by
  have e : ∀ i, i < 64 → ∀ p q o : Bool, ((if i = 0 then p else if i = 1 then q else o) && bt 3 i) = bt ((if p = true then 1 else 0) + (if q = true then 2 else 0)) i := by decide +kernel
  refine bt_ext _ _ (U_bits _ _ _) (by constructor <;> (cases bt y 3 <;> cases bt y 4 <;> decide)) fun i hi => ?_
  have hd : bt (bits .and .u64 y 255 / 8) i = bt (bits .and .u64 y 255) (i + 3) := bt_div _ (U_bits _ _ _) 3 i
  rw [bt_and, hd, bt_and, ← e i hi (bt y 3) (bt y 4) (bt y (i + 3) && bt 255 (i + 3))]
  have k3 : bt 255 3 = true := by decide +kernel
  have k4 : bt 255 4 = true := by decide +kernel
  by_cases h0 : i = 0
  · subst h0; rw [if_pos rfl, Nat.zero_add, k3, Bool.and_true]
  · by_cases h1 : i = 1
    · subst h1; rw [if_neg h0, if_pos rfl, show 1 + 3 = 4 from rfl, k4, Bool.and_true]
    · rw [if_neg h0, if_neg h1]

/-- The byte that entry i is left alone with. -/
theorem alone_byte (l : List Int) (i : Nat) (hi : i < 4) : ∃ k : Nat, k < 4 ∧ kindOf l i = k ∧ IntKind.u64.wrap (bits .or .u64 (bits .and .u64 (l.getD 16 0 / 2 ^ (8 * i)) 24) 7 * 2 ^ (8 * i)) = aloneC k i := by
  have w : ∀ i, i < 4 → ∀ k : Fin 4, IntKind.u64.wrap (bits .or .u64 (8 * (k.val : Int)) 7 * 2 ^ (8 * i)) = aloneC k.val i := by decide +kernel
  have hk : kindOf l i = _ := kind_bits (l.getD 16 0 / 2 ^ (8 * i))
  rw [and24, hk]
  cases bt (l.getD 16 0 / 2 ^ (8 * i)) 3 <;> cases bt (l.getD 16 0 / 2 ^ (8 * i)) 4
  · exact ⟨0, by omega, rfl, w i hi 0⟩
  · exact ⟨2, by omega, rfl, w i hi 2⟩
  · exact ⟨1, by omega, rfl, w i hi 1⟩
  · exact ⟨3, by omega, rfl, w i hi 3⟩

theorem reg_no {m : Nat} {l : List Int} {i : Int} (h : (regR m l i).2.2 = false) : (regR m l i).1 = 0 ∧ (regR m l i).2.1 = 0 := by
  unfold regR at h ⊢
  cases hb : regB m l i with
  | false => exact ⟨rfl, rfl⟩
  | true =>
    rw [hb] at h
    have h2 : (regionV l i.toNat).2.2 = false := h
    show (regionV l i.toNat).1 = 0 ∧ (regionV l i.toNat).2.1 = 0
    unfold regionV at h2 ⊢
    split at h2
    · rename_i h1; rw [if_pos h1]
      split at h2
      · rename_i h3; rw [if_pos h3]; exact ⟨rfl, rfl⟩
      · cases h2
    · rename_i h1; rw [if_neg h1]
      split at h2
      · cases h2
      · rename_i h3; rw [if_neg h3]
        split at h2
        · cases h2
        · rename_i h4; rw [if_neg h4]; exact ⟨rfl, rfl⟩

/-- A region's ends, entry i alone. -/
theorem reg_yes {m : Nat} {l : List Int} {i : Int} (hz : l.length = m) (hl : ∀ j, U (l.getD j 0)) (h : (regR m l i).2.2 = true) :
    m = 22 ∧ ∃ j c : Nat, j < 4 ∧ i = (j : Int) ∧ decide ((regR m l i).1 > (regR m l i).2.1) = false ∧ bits .and .u64 (regR m l i).1 3 = 0 ∧ bits .and .u64 (regR m l i).2.1 3 = 3 ∧ U (regR m l i).1 ∧ U (regR m l i).2.1 ∧
      IntKind.u64.wrap (bits .or .u64 (bits .and .u64 (l.getD 16 0 / 2 ^ (8 * j)) 24) 7 * 2 ^ (8 * j)) = aloneC c j ∧ (∀ n, U ((l.set 16 (aloneC c j)).getD n 0)) ∧ (l.set 16 (aloneC c j)).length = 22 ∧
      permV 22 (l.set 16 (aloneC c j)) 0 (regR m l i).1 1 2 = true ∧ permV 22 (l.set 16 (aloneC c j)) 0 (regR m l i).2.1 1 3 = true ∧ permV 22 (l.set 16 (aloneC c j)) 0 (IntKind.u64.wrap ((regR m l i).2.1 + 1)) 1 2 = false ∧
      (((regR m l i).1 == 0) = false → permV 22 (l.set 16 (aloneC c j)) 0 (IntKind.u64.wrap ((regR m l i).1 - 1)) 1 1 = false) := by
  cases hb : regB m l i with
  | false => unfold regR at h; rw [hb] at h; cases h
  | true =>
    have hb2 := hb
    unfold regB at hb2
    rw [Bool.and_eq_true, decide_eq_true_eq] at hb2
    obtain ⟨hok, hi⟩ := hb2
    have hm : m = 22 := by
      unfold csrsOk at hok
      rw [Bool.and_eq_true, decide_eq_true_eq] at hok
      exact hok.1
    subst hm
    obtain ⟨j, rfl⟩ : ∃ j : Nat, i = (j : Int) := ⟨i.toNat, by omega⟩
    have hj : j < 4 := by omega
    have er : regR 22 l j = regionV l j := by unfold regR; rw [hb]; rfl
    rw [er] at h ⊢
    obtain ⟨e0, e1, e2, e3, e4, e5⟩ := region_ends hl hok j hj h
    obtain ⟨c, hc4, hkc, hw⟩ := alone_byte l j hj
    have hc0 : c ≠ 0 := by
      intro e; subst e
      rw [hkc] at e5
      rcases e5 with e | e | e <;> cases e
    obtain ⟨fo, _, fu⟩ := alone_facts j hj 0 (by omega) ⟨c, hc4⟩ hc0
    have hUA : ∀ n, U ((l.set 16 (aloneC c j)).getD n 0) := U_put l hl 16 _ fu
    have hokA : csrsOk 22 (l.set 16 (aloneC c j)) = true := right_set l hz hok 16 (by omega) _ fo
    have hleg : legalB 22 (l.set 16 (aloneC c j)) 0 = true := by unfold legalB; rw [hokA]; rfl
    have hperm : ∀ x kind : Int, U x → (kind = 1 ∨ kind = 2 ∨ kind = 3) → permV 22 (l.set 16 (aloneC c j)) 0 x 1 kind = hitB (regionV l j) x := by
      intro x kind hx hk
      have hkd : decide (1 ≤ kind ∧ kind ≤ 3) = true := decide_eq_true (by omega)
      unfold permV
      rw [hleg, hkd, lastOf_one x hx, alone_perm l hz j hj c hkc hc0 hc4 x kind hk, decide_eq_false (by omega : ¬ x < x)]
      rfl
    have hlo : U (regionV l j).1 := ⟨by omega, by omega⟩
    have hhi : U (regionV l j).2.1 := ⟨by omega, by omega⟩
    refine ⟨rfl, j, c, hj, rfl, decide_eq_false (by omega), ?_, ?_, hlo, hhi, hw, hUA, by rw [List.length_set, hz], ?_, ?_, ?_, ?_⟩
    · have := and_low (regionV l j).1 2 hlo.1 hlo.2 (by omega)
      rw [show (2 : Int) ^ 2 - 1 = 3 from by decide, show (2 : Int) ^ 2 = 4 from by decide] at this
      omega
    · have := and_low (regionV l j).2.1 2 hhi.1 hhi.2 (by omega)
      rw [show (2 : Int) ^ 2 - 1 = 3 from by decide, show (2 : Int) ^ 2 = 4 from by decide] at this
      omega
    · rw [hperm _ 2 hlo (by omega)]
      unfold hitB; rw [h, decide_eq_true (Int.le_refl _), decide_eq_true e1]; rfl
    · rw [hperm _ 3 hhi (by omega)]
      unfold hitB; rw [h, decide_eq_true (Int.le_refl _), decide_eq_true e1]; rfl
    · have ew : IntKind.u64.wrap ((regionV l j).2.1 + 1) = (regionV l j).2.1 + 1 := by rw [IntKind.wrap_u64]; omega
      rw [ew, hperm _ 2 ⟨by omega, by omega⟩ (by omega)]
      unfold hitB; rw [decide_eq_false (by omega : ¬ (regionV l j).2.1 + 1 ≤ (regionV l j).2.1), Bool.and_false]
    · intro hne
      have hn0 : (regionV l j).1 ≠ 0 := by simpa using hne
      have ew : IntKind.u64.wrap ((regionV l j).1 - 1) = (regionV l j).1 - 1 := by rw [IntKind.wrap_u64]; omega
      rw [ew, hperm _ 1 ⟨by omega, by omega⟩ (by omega)]
      unfold hitB; rw [decide_eq_false (by omega : ¬ (regionV l j).1 ≤ (regionV l j).1 - 1), Bool.and_false, Bool.false_and]

end Go.Proofs.YtldjmphflgecjacDoor
