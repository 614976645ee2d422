/- What the law on regions asks, in plain numbers. -/
import Derived.Test.YtaicnnkcdpdhaabDoorRegG
namespace Go.Proofs.YtaicnnkcdpdhaabDoor
open Go.RowKit
set_option linter.unusedVariables false

theorem sl_reg {w : World} {b off : Nat} {l : List Int} (h : Sl .u64 w (some ⟨b, off, none⟩) l) (k : Nat) (hk : k < l.length) : w.cell? ⟨b, off + k, none⟩ = some (.int .u64 (l.getD k 0)) := by
  obtain ⟨b', off', e, hb, hc⟩ := h k hk
  simp only [Option.some.injEq, Addr.mk.injEq, and_true] at e
  obtain ⟨rfl, rfl⟩ := e
  exact hc

theorem below_app {w w' : World} {o : Obj} (h : (w.alloc o).grownBy w' (Value.slice (some ⟨w.heap.size, 0, none⟩) 0 0).ownBlock) : Below w.heap.size w w' := by
  refine Below.grown ((Below.refl _ _).alloc (Nat.le_refl _) _) h ?_ ?_
  · simp
  · intro k hk; simp [Value.ownBlock] at hk; omega

theorem and24 (y : Int) : bits .and .u64 y 24 = (if bt y 3 = true then 8 else 0) + (if bt y 4 = true then 16 else 0) := by
  have e : ∀ i, i < 64 → ∀ p q o : Bool, ((if i = 3 then p else if i = 4 then q else o) && bt 24 i) = bt ((if p = true then 8 else 0) + (if q = true then 16 else 0)) i := by decide +kernel
  refine bt_ext _ _ (U_bits _ _ _) (by constructor <;> (cases bt y 3 <;> cases bt y 4 <;> decide)) fun i hi => ?_
  rw [bt_and, ← e i hi (bt y 3) (bt y 4) (bt y i)]
  by_cases h0 : i = 3
  · subst h0; rfl
  · by_cases h1 : i = 4
    · subst h1; rfl
    · rw [if_neg h0, if_neg h1]

theorem kind_bits (y : Int) : bits .and .u64 (bits .and .u64 y 255 / 8) 3 = (if bt y 3 = true then 1 else 0) + (if bt y 4 = true then 2 else 0) := by
  have e : ∀ i, i < 64 → ∀ p q o : Bool, ((if i = 0 then p else if i = 1 then q else o) && bt 3 i) = bt ((if p = true then 1 else 0) + (if q = true then 2 else 0)) i := by decide +kernel
  refine bt_ext _ _ (U_bits _ _ _) (by constructor <;> (cases bt y 3 <;> cases bt y 4 <;> decide)) fun i hi => ?_
  have hd : bt (bits .and .u64 y 255 / 8) i = bt (bits .and .u64 y 255) (i + 3) := bt_div _ (U_bits _ _ _) 3 i
  rw [bt_and, hd, bt_and, ← e i hi (bt y 3) (bt y 4) (bt y (i + 3) && bt 255 (i + 3))]
  have k3 : bt 255 3 = true := by decide +kernel
  have k4 : bt 255 4 = true := by decide +kernel
  by_cases h0 : i = 0
  · subst h0; rw [if_pos rfl, Nat.zero_add, k3, Bool.and_true]
  · by_cases h1 : i = 1
    · subst h1; rw [if_neg h0, if_pos rfl, show 1 + 3 = 4 from rfl, k4, Bool.and_true]
    · rw [if_neg h0, if_neg h1]

/-- The byte that entry i is left alone with. -/
theorem alone_byte (l : List Int) (i : Nat) (hi : i < 4) : ∃ k : Nat, k < 4 ∧ kindOf l i = k ∧ IntKind.u64.wrap (bits .or .u64 (bits .and .u64 (l.getD 16 0 / 2 ^ (8 * i)) 24) 7 * 2 ^ (8 * i)) = aloneC k i := by
  have w : ∀ i, i < 4 → ∀ k : Fin 4, IntKind.u64.wrap (bits .or .u64 (8 * (k.val : Int)) 7 * 2 ^ (8 * i)) = aloneC k.val i := by decide +kernel
  have hk : kindOf l i = _ := kind_bits (l.getD 16 0 / 2 ^ (8 * i))
  rw [and24, hk]
  cases bt (l.getD 16 0 / 2 ^ (8 * i)) 3 <;> cases bt (l.getD 16 0 / 2 ^ (8 * i)) 4
  · exact ⟨0, by omega, rfl, w i hi 0⟩
  · exact ⟨2, by omega, rfl, w i hi 2⟩
  · exact ⟨1, by omega, rfl, w i hi 1⟩
  · exact ⟨3, by omega, rfl, w i hi 3⟩

theorem reg_no {m : Nat} {l : List Int} {i : Int} (h : (regR m l i).2.2 = false) : (regR m l i).1 = 0 ∧ (regR m l i).2.1 = 0 := by
  unfold regR at h ⊢
  cases hb : regB m l i with
  | false => exact ⟨rfl, rfl⟩
  | true =>
    rw [hb] at h
    have h2 : (regionV l i.toNat).2.2 = false := h
    show (regionV l i.toNat).1 = 0 ∧ (regionV l i.toNat).2.1 = 0
    unfold regionV at h2 ⊢
    split at h2
    · rename_i h1; rw [if_pos h1]
      split at h2
      · rename_i h3; rw [if_pos h3]; exact ⟨rfl, rfl⟩
      · cases h2
    · rename_i h1; rw [if_neg h1]
      split at h2
      · cases h2
      · rename_i h3; rw [if_neg h3]
        split at h2
        · cases h2
        · rename_i h4; rw [if_neg h4]; exact ⟨rfl, rfl⟩

/-- A region's ends, entry i alone. -/
theorem reg_yes {m : Nat} {l : List Int} {i : Int} (hz : l.length = m) (hl : ∀ j, U (l.getD j 0)) (h : (regR m l i).2.2 = true) :
    m = 22 ∧ ∃ j c : Nat, j < 4 ∧ i = (j : Int) ∧ decide ((regR m l i).1 > (regR m l i).2.1) = false ∧ bits .and .u64 (regR m l i).1 3 = 0 ∧ bits .and .u64 (regR m l i).2.1 3 = 3 ∧ U (regR m l i).1 ∧ U (regR m l i).2.1 ∧
      IntKind.u64.wrap (bits .or .u64 (bits .and .u64 (l.getD 16 0 / 2 ^ (8 * j)) 24) 7 * 2 ^ (8 * j)) = aloneC c j ∧ (∀ n, U ((l.set 16 (aloneC c j)).getD n 0)) ∧ (l.set 16 (aloneC c j)).length = 22 ∧
      permV 22 (l.set 16 (aloneC c j)) 0 (regR m l i).1 1 2 = true ∧ permV 22 (l.set 16 (aloneC c j)) 0 (regR m l i).2.1 1 3 = true ∧ permV 22 (l.set 16 (aloneC c j)) 0 (IntKind.u64.wrap ((regR m l i).2.1 + 1)) 1 2 = false ∧
      (((regR m l i).1 == 0) = false → permV 22 (l.set 16 (aloneC c j)) 0 (IntKind.u64.wrap ((regR m l i).1 - 1)) 1 1 = false) := by
  cases hb : regB m l i with
  | false => unfold regR at h; rw [hb] at h; cases h
  | true =>
    have hb2 := hb
    unfold regB at hb2
    rw [Bool.and_eq_true, decide_eq_true_eq] at hb2
    obtain ⟨hok, hi⟩ := hb2
    have hm : m = 22 := by
      unfold csrsOk at hok
      rw [Bool.and_eq_true, decide_eq_true_eq] at hok
      exact hok.1
    subst hm
    obtain ⟨j, rfl⟩ : ∃ j : Nat, i = (j : Int) := ⟨i.toNat, by omega⟩
    have hj : j < 4 := by omega
    have er : regR 22 l j = regionV l j := by unfold regR; rw [hb]; rfl
    rw [er] at h ⊢
    obtain ⟨e0, e1, e2, e3, e4, e5⟩ := region_ends hl hok j hj h
    obtain ⟨c, hc4, hkc, hw⟩ := alone_byte l j hj
    have hc0 : c ≠ 0 := by
      intro e; subst e
      rw [hkc] at e5
      rcases e5 with e | e | e <;> cases e
    obtain ⟨fo, _, fu⟩ := alone_facts j hj 0 (by omega) ⟨c, hc4⟩ hc0
    have hUA : ∀ n, U ((l.set 16 (aloneC c j)).getD n 0) := U_put l hl 16 _ fu
    have hokA : csrsOk 22 (l.set 16 (aloneC c j)) = true := right_set l hz hok 16 (by omega) _ fo
    have hleg : legalB 22 (l.set 16 (aloneC c j)) 0 = true := by unfold legalB; rw [hokA]; rfl
    have hperm : ∀ x kind : Int, U x → (kind = 1 ∨ kind = 2 ∨ kind = 3) → permV 22 (l.set 16 (aloneC c j)) 0 x 1 kind = hitB (regionV l j) x := by
      intro x kind hx hk
      have hkd : decide (1 ≤ kind ∧ kind ≤ 3) = true := decide_eq_true (by omega)
      unfold permV
      rw [hleg, hkd, lastOf_one x hx, alone_perm l hz j hj c hkc hc0 hc4 x kind hk, decide_eq_false (by omega : ¬ x < x)]
      rfl
    have hlo : U (regionV l j).1 := ⟨by omega, by omega⟩
    have hhi : U (regionV l j).2.1 := ⟨by omega, by omega⟩
    refine ⟨rfl, j, c, hj, rfl, decide_eq_false (by omega), ?_, ?_, hlo, hhi, hw, hUA, by rw [List.length_set, hz], ?_, ?_, ?_, ?_⟩
    · have := and_low (regionV l j).1 2 hlo.1 hlo.2 (by omega)
      rw [show (2 : Int) ^ 2 - 1 = 3 from by decide, show (2 : Int) ^ 2 = 4 from by decide] at this
      omega
    · have := and_low (regionV l j).2.1 2 hhi.1 hhi.2 (by omega)
      rw [show (2 : Int) ^ 2 - 1 = 3 from by decide, show (2 : Int) ^ 2 = 4 from by decide] at this
      omega
    · rw [hperm _ 2 hlo (by omega)]
      unfold hitB; rw [h, decide_eq_true (Int.le_refl _), decide_eq_true e1]; rfl
    · rw [hperm _ 3 hhi (by omega)]
      unfold hitB; rw [h, decide_eq_true (Int.le_refl _), decide_eq_true e1]; rfl
    · have ew : IntKind.u64.wrap ((regionV l j).2.1 + 1) = (regionV l j).2.1 + 1 := by rw [IntKind.wrap_u64]; omega
      rw [ew, hperm _ 2 ⟨by omega, by omega⟩ (by omega)]
      unfold hitB; rw [decide_eq_false (by omega : ¬ (regionV l j).2.1 + 1 ≤ (regionV l j).2.1), Bool.and_false]
    · intro hne
      have hn0 : (regionV l j).1 ≠ 0 := by simpa using hne
      have ew : IntKind.u64.wrap ((regionV l j).1 - 1) = (regionV l j).1 - 1 := by rw [IntKind.wrap_u64]; omega
      rw [ew, hperm _ 1 ⟨by omega, by omega⟩ (by omega)]
      unfold hitB; rw [decide_eq_false (by omega : ¬ (regionV l j).1 ≤ (regionV l j).1 - 1), Bool.and_false, Bool.false_and]

end Go.Proofs.YtaicnnkcdpdhaabDoor
