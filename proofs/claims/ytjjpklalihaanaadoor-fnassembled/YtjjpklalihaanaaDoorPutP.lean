/- Words stored into bytes, in plain numbers. -/
import Derived.Test.YtjjpklalihaanaaDoorMem
namespace Go.Proofs.YtjjpklalihaanaaDoor
open Go.RowKit
set_option linter.unusedVariables false

theorem put_take (zs : List Int) (f : Nat) (x : Int) : ∀ k, (put zs f x k).take f = zs.take f := by
  intro k
  induction k with
  | zero => rfl
  | succ k ih => rw [put, List.take_set_of_le (by omega), ih]

theorem put_drop (zs : List Int) (f : Nat) (x : Int) (m : Nat) : ∀ k, k ≤ m → (put zs f x k).drop (f + m) = zs.drop (f + m) := by
  intro k
  induction k with
  | zero => intro _; rfl
  | succ k ih => intro hk; rw [put, List.drop_set_of_lt (by omega), ih (by omega)]

theorem put_get (zs : List Int) (f : Nat) (x : Int) (j : Nat) : ∀ k, j < k → f + k ≤ zs.length → (put zs f x k).getD (f + j) 0 = x / 256 ^ j % 256 := by
  intro k
  induction k with
  | zero => intro h; omega
  | succ k ih =>
    intro hj hl
    rw [put]
    by_cases e : j = k
    · subst e
      have : f + j < (put zs f x j).length := by rw [put_len]; omega
      simp [List.getD, this]
    · have h1 : ((put zs f x k).set (f + k) (x / 256 ^ k % 256)).getD (f + j) 0 = (put zs f x k).getD (f + j) 0 := by
        have : f + k ≠ f + j := by omega
        simp only [List.getD, List.getElem?_set_ne this]
      rw [h1]; exact ih (by omega) (by omega)

theorem le_same (xs : List Int) (x : Int) : ∀ (m f d : Nat), (∀ j, j < m → xs.getD (f + j) 0 = x / 256 ^ (d + j) % 256) → le xs f m = x / 256 ^ d % 256 ^ m := by
  intro m
  induction m with
  | zero => intro f d _; simp [le, Int.emod_one]
  | succ m ih =>
    intro f d h
    rw [le, ih (f + 1) (d + 1) (fun j hj => by have := h (j + 1) (by omega); rw [show f + (j + 1) = f + 1 + j from by omega, show d + (j + 1) = d + 1 + j from by omega] at this; exact this)]
    have h0 := h 0 (by omega)
    rw [Nat.add_zero, Nat.add_zero] at h0
    rw [h0]
    have e1 : x / 256 ^ (d + 1) = x / 256 ^ d / 256 := by
      rw [Int.pow_succ, Int.ediv_ediv_of_nonneg (Int.le_of_lt (Int.pow_pos (by omega)))]
    have e2 : (256 : Int) ^ (m + 1) = 256 * 256 ^ m := by rw [Int.pow_succ, Int.mul_comm]
    rw [e1, e2]
    generalize x / 256 ^ d = y
    have hp : (0 : Int) < 256 ^ m := Int.pow_pos (by omega)
    generalize (256 : Int) ^ m = N at *
    have hq := Int.emod_add_mul_ediv (y / 256) N
    have hy := Int.emod_add_mul_ediv y 256
    have hb := Int.emod_nonneg (y / 256) (show N ≠ 0 by omega)
    have hb2 := Int.emod_lt_of_pos (y / 256) hp
    have e3 : y = (y % 256 + 256 * (y / 256 % N)) + (256 * N) * (y / 256 / N) := by
      have h1 : 256 * (y / 256) = 256 * (y / 256 % N) + 256 * (N * (y / 256 / N)) := by rw [← Int.mul_add, hq]
      rw [Int.mul_assoc]
      omega
    have h2 : 256 * (y / 256 % N) + 256 ≤ 256 * N := by omega
    have e5 : ∀ (A K M : Int), 0 ≤ A → A < M → (A + M * K) % M = A := fun A K M p q => by rw [Int.add_mul_emod_self_left, Int.emod_eq_of_lt p q]
    have e6 := e5 (y % 256 + 256 * (y / 256 % N)) (y / 256 / N) (256 * N) (by omega) (by omega)
    rw [← e3] at e6
    exact e6.symm

/-- What was stored is loaded. -/
theorem le_put (zs : List Int) (f m : Nat) (x : Int) (h : f + m ≤ zs.length) : le (put zs f x m) f m = x % 256 ^ m := by
  have := le_same (put zs f x m) x m f 0 (fun j hj => by rw [Nat.zero_add]; exact put_get zs f x j m hj h)
  simpa using this

theorem put_off (zs : List Int) (f : Nat) (x : Int) (j : Nat) : ∀ k, (j < f ∨ f + k ≤ j) → (put zs f x k).getD j 0 = zs.getD j 0 := by
  intro k
  induction k with
  | zero => intro h; rfl
  | succ k ih =>
    intro h
    have e : (put zs f x (k + 1)).getD j 0 = (put zs f x k).getD j 0 := by
      show ((put zs f x k).set (f + k) (x / 256 ^ k % 256)).getD j 0 = _
      have hne : f + k ≠ j := by omega
      simp [List.getD, List.getElem?_set_ne hne]
    rw [e]
    exact ih (by omega)

theorem le_like (zs ys : List Int) : ∀ m g, (∀ j, j < m → ys.getD (g + j) 0 = zs.getD (g + j) 0) → le ys g m = le zs g m := by
  intro m
  induction m with
  | zero => intro g h; rfl
  | succ m ih =>
    intro g h
    show ys.getD g 0 + 256 * le ys (g + 1) m = zs.getD g 0 + 256 * le zs (g + 1) m
    have h0 := h 0 (by omega)
    rw [Nat.add_zero] at h0
    rw [h0, ih (g + 1) (fun j hj => by have := h (j + 1) (by omega); rw [show g + 1 + j = g + (j + 1) from by omega]; exact this)]

theorem le_put_off (zs : List Int) (f g m : Nat) (x : Int) (h : g + m ≤ f ∨ f + m ≤ g) : le (put zs f x m) g m = le zs g m :=
  le_like _ _ m g fun j hj => put_off zs f x (g + j) m (by omega)

end Go.Proofs.YtjjpklalihaanaaDoor
