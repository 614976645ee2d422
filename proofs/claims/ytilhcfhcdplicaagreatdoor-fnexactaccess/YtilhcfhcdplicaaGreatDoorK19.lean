/- Own lemmas. -/
import Derived.Test.YtilhcfhcdplicaaGreatDoorK12
import Derived.Test.YtilhcfhcdplicaaGreatDoorK15
import Derived.Test.YtilhcfhcdplicaaGreatDoorK18
namespace Go.Proofs.YtilhcfhcdplicaaGreatDoor
open Go.RowKit
set_option linter.unusedVariables false

theorem or_parts (x m : Int) (h : U x) : bits .or .u64 (bits .andNot .u64 x m) (bits .and .u64 x m) = x := by
  refine bt_ext _ _ (U_bits _ _ _) h fun i hi => ?_
  rw [bt_or, bt_andNot _ _ _ hi, bt_and]
  cases bt x i <;> cases bt m i <;> rfl

theorem set_self (l : List Int) (k : Nat) (x : Int) (hk : k < l.length) (hx : l.getD k 0 = x) : l.set k x = l := by
  have : l[k] = x := by rw [← hx]; simp [List.getD, List.getElem?_eq_getElem hk]
  rw [← this]
  exact List.set_getElem_self hk

theorem line_same {M : MV} (h22 : M.cs.length = 22) (hU : U (M.cs.getD 9 0)) (hb : bellsB M = true) : lineM M = M := by
  have e : bits .and .u64 (M.cs.getD 9 0) 2184 = linesV M.d := by unfold bellsB at hb; simpa using hb
  have s : M.cs.set 9 (bits .or .u64 (bits .andNot .u64 (M.cs.getD 9 0) 2184) (linesV M.d)) = M.cs := by
    rw [← e]
    exact set_self _ 9 _ (by omega) (or_parts _ _ hU).symm
  unfold lineM
  rw [s]

theorem andNot7 (x : Int) (h : U x) : bits .andNot .u64 x 7 = x / 8 * 8 := by
  refine bt_ext _ _ (U_bits _ _ _) ⟨by have := h.1; omega, by have := h.2; omega⟩ fun i hi => ?_
  have hd := bt_shl (x / 8) ⟨by have := h.1; omega, by have := h.2; omega⟩ 3 i
  have e8 : IntKind.u64.wrap (x / 8 * 2 ^ 3) = x / 8 * 8 := by
    have h1 := h.1
    have h2 := h.2
    rw [IntKind.wrap_u64]
    omega
  rw [e8] at hd
  rw [hd, bt_andNot _ _ _ hi]
  have l7 : ∀ i, i < 64 → bt 7 i = decide (i < 3) := by decide +kernel
  rw [l7 i hi]
  by_cases hi3 : i < 3
  · have : ¬ 3 ≤ i := by omega
    simp [hi3, this]
  · have h3 : 3 ≤ i := by omega
    have hq : bt (x / 8) (i - 3) = bt x i := by
      have h9 := bt_div x h 3 (i - 3)
      rw [show i - 3 + 3 = i by omega] at h9
      have e : (2 : Int) ^ 3 = 8 := by decide
      rw [e] at h9
      exact h9
    simp [hi3, h3, hq, hi]

theorem held_eq (M : MV) (pa : Int) (hp : U pa) (hd : U M.hd) : (M.hl && (IntKind.u64.wrap (pa.tdiv 8) == IntKind.u64.wrap (M.hd.tdiv 8))) = heldB9 M pa := by
  have e : ∀ x : Int, U x → IntKind.u64.wrap (x.tdiv 8) = x / 8 := fun x h => by
    have h1 := h.1
    have h2 := h.2
    rw [Int.tdiv_eq_ediv_of_nonneg h1, IntKind.wrap_u64]
    omega
  unfold heldB9
  rw [e pa hp, e M.hd hd, andNot7 pa hp, andNot7 M.hd hd]
  congr 1
  by_cases h : pa / 8 = M.hd / 8
  · rw [h]; simp
  · rw [beq_eq_false_iff_ne.2 h, beq_eq_false_iff_ne.2 (by omega)]

theorem ldV_okD (D : DV) (k : Nat) (h : okD D.xs.length D.ys.length D.ir = true) (hk : (ldV D k).2.2 = true) : okD (ldV D k).2.1.xs.length (ldV D k).2.1.ys.length (ldV D k).2.1.ir = true := by
  have hb := okD_bd h
  match k, hk with
  | 0, _ => exact h
  | 1, _ => exact h
  | 2, _ => exact h
  | 3, _ =>
    show okD (D.xs.drop 1).length D.ys.length D.ir = true
    unfold okD at h ⊢
    simp only [Bool.and_eq_true, decide_eq_true_eq, List.length_drop] at h ⊢
    omega
  | 4, _ => exact h
  | 5, _ => exact h

theorem bits_one (x : Int) : 0 ≤ wrap64 (bits .and .u64 x 1) ∧ wrap64 (bits .and .u64 x 1) ≤ 1 := by
  have l1 : ∀ i, i < 64 → bt 1 i = decide (i = 0) := by decide +kernel
  have l0 : ∀ i, i < 64 → bt 0 i = false := by decide +kernel
  have h : bits .and .u64 x 1 = if bt x 0 = true then 1 else 0 := by
    refine bt_ext _ _ (U_bits _ _ _) (by split <;> exact ⟨by omega, by omega⟩) fun i hi => ?_
    rw [bt_and, l1 i hi]
    by_cases h0 : i = 0
    · subst h0
      cases bt x 0
      · rw [if_neg (by decide), l0 0 (by omega)]; rfl
      · rw [if_pos rfl, l1 0 (by omega)]; rfl
    · rw [decide_eq_false h0, Bool.and_false]
      split
      · rw [l1 i hi, decide_eq_false h0]
      · rw [l0 i hi]
  rw [h]
  split <;> decide +kernel

theorem stV_okS (D : DV) (x addr size : Int) (h : okD D.xs.length D.ys.length D.ir = true) : (stV D x (sel addr size)).2 = true → okD (stV D x (sel addr size)).1.xs.length (stV D x (sel addr size)).1.ys.length (stV D x (sel addr size)).1.ir = true := by
  have hm := bits_one x
  have e4 := stV_4 D x
  obtain ⟨q, hq⟩ : ∃ q, q = wrap64 (bits .and .u64 x 1) := ⟨_, rfl⟩
  rw [← hq] at e4 hm
  clear hq
  refine sel_cases addr size (fun k => (stV D x k).2 = true → okD (stV D x k).1.xs.length (stV D x k).1.ys.length (stV D x k).1.ir = true) ?_ ?_ ?_ ?_ ?_ ?_ ?_
  · intro _ _; rw [stV_0]; exact fun _ => h
  · intro _ _; rw [stV_1]; exact fun _ => h
  · intro _ _; rw [stV_2]; exact fun _ => h
  · intro _ _
    by_cases hl : D.ys.length < 4096
    · rw [stV_3r D x hl]
      intro _
      unfold okD at h ⊢
      simp only [Bool.and_eq_true, decide_eq_true_eq, List.length_append, List.length_singleton] at h ⊢
      omega
    · rw [stV_3f D x hl]; exact fun _ => h
  · intro _ _
    rw [e4]
    intro _
    unfold okD at h ⊢
    simp only [Bool.and_eq_true, decide_eq_true_eq] at h ⊢
    exact ⟨h.1, hm⟩
  · intro _ _; rw [stV_5]; exact fun _ => h
  · intro _ _ _ _ _ _; rw [stV_6]; intro hk; cases hk

theorem ldV_no (D : DV) (k : Nat) (h : (ldV D k).2.2 = false) : (ldV D k).1 = 0 := by
  match k, h with
  | 0, h => cases h
  | 1, h => cases h
  | 2, h => cases h
  | 3, h => cases h
  | 4, h => cases h
  | 5, h => cases h
  | k + 6, _ => rfl

theorem ramOk_pos9 {n : Nat} (h : ramOkB n = true) : 0 < n := by
  rcases Nat.eq_zero_or_pos n with h0 | h0
  · subst h0; revert h; decide
  · exact h0

def rch (M : MV) (pa size kind x : Int) : Int × Bool × MV :=
  if okB M.ram.length pa size = true then
    (if (kind == 3) = true then (0, true, letM (memM M (put M.ram (pa - 2147483648).toNat x size.toNat)) pa) else (le M.ram (pa - 2147483648).toNat size.toNat, true, M))
  else if (kind == 2) = true then
    (if (ldV M.d (sel pa size)).2.2 = true then ((ldV M.d (sel pa size)).1, true, lineM (devM M (ldV M.d (sel pa size)).2.1)) else (0, false, M))
  else if (kind == 3) = true then
    (if (stV M.d x (sel pa size)).2 = true then (0, true, letM (lineM (devM M (stV M.d x (sel pa size)).1)) pa) else (0, false, M))
  else (0, false, M)

theorem at_rch (M : MV) (pa size kind x : Int) : atM M pa size kind x = if (rch M pa size kind x).2.1 = true then ((rch M pa size kind x).1, (rch M pa size kind x).2.2, 0) else (0, (rch M pa size kind x).2.2, faultK kind) := by
  unfold atM rch
  split
  · split <;> rfl
  · split
    · split <;> rfl
    · split
      · split <;> rfl
      · rfl

theorem perm_bar (l : List Int) (p x s k : Int) (h1 : legalB 22 l p = true) (h2 : sizeB s = true) (h3 : decide (1 ≤ k ∧ k ≤ 3) = true) : permV 22 l p x s k = !barB l p x s k := by
  unfold permV barB
  rw [h1, h2, h3, Bool.not_or, Bool.not_not]
  rfl

end Go.Proofs.YtilhcfhcdplicaaGreatDoor
