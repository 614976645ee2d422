/- Words that lie in an image are loaded from it one behind the other. -/
import Derived.Test.YtjjpklalihaanaaDoorImgC
import Derived.Test.YtjjpklalihaanaaDoorPutP
namespace Go.Proofs.YtjjpklalihaanaaDoor
open Go.RowKit
set_option linter.unusedVariables false

theorem imgPut_some (ws : List Int) : ∀ (k : Nat) (zs : List Int), (∀ x ∈ ws, x < 4294967296) → (imgPut ws k zs).isSome = true := by
  induction ws with
  | nil => intro k zs _; rfl
  | cons x xs ih =>
    intro k zs h
    have := h x (by simp)
    rw [imgPut, if_neg (by omega)]
    exact ih _ _ (fun y hy => h y (by simp [hy]))

theorem imgPut_off (ws : List Int) : ∀ (k : Nat) (zs ys : List Int) (g : Nat), imgPut ws k zs = some ys → g + 4 ≤ 4 * k → le ys g 4 = le zs g 4 := by
  induction ws with
  | nil => intro k zs ys g h _; rw [Option.some.inj h]
  | cons x xs ih =>
    intro k zs ys g h hg
    rw [imgPut] at h
    split at h
    · cases h
    · rw [ih _ _ _ g h (by omega), le_put_off _ _ _ _ _ (.inl hg)]

theorem imgPut_le (ws : List Int) : ∀ (k : Nat) (zs ys : List Int) (i : Nat), imgPut ws k zs = some ys → i < ws.length → 4 * k + 4 * ws.length ≤ zs.length → (∀ x ∈ ws, 0 ≤ x) → le ys (4 * (k + i)) 4 = ws.getD i 0 := by
  induction ws with
  | nil => intro k zs ys i h hi; simp at hi
  | cons x xs ih =>
    intro k zs ys i h hi hl h0
    rw [imgPut] at h
    split at h
    · cases h
    · rename_i hx
      simp at hi hl
      cases i with
      | zero =>
        have h1 := h0 x (by simp)
        rw [imgPut_off _ _ _ _ _ h (by omega), Nat.add_zero, le_put _ _ _ _ (by omega)]
        simp
        omega
      | succ i =>
        have h2 := ih (k + 1) _ ys i h (by omega) (by rw [put_len]; omega) (fun y hy => h0 y (by simp [hy]))
        rw [show k + (i + 1) = k + 1 + i from by omega, h2]
        simp [List.getD]

theorem imgPut_byte (ws : List Int) : ∀ (k : Nat) (zs ys : List Int), imgPut ws k zs = some ys → (∀ y ∈ zs, 0 ≤ y ∧ y ≤ 255) → ∀ y ∈ ys, 0 ≤ y ∧ y ≤ 255 := by
  have hput : ∀ (m : Nat) (zs : List Int) (f : Nat) (x : Int), (∀ y ∈ zs, 0 ≤ y ∧ y ≤ 255) → ∀ y ∈ put zs f x m, 0 ≤ y ∧ y ≤ 255 := by
    intro m
    induction m with
    | zero => intro zs f x h; exact h
    | succ m ih =>
      intro zs f x h y hy
      rw [put] at hy
      rcases List.mem_or_eq_of_mem_set hy with hy | rfl
      · exact ih zs f x h y hy
      · omega
  induction ws with
  | nil => intro k zs ys h hz; rw [← Option.some.inj h]; exact hz
  | cons x xs ih =>
    intro k zs ys h hz
    rw [imgPut] at h
    split at h
    · cases h
    · exact ih _ _ _ h (hput _ _ _ _ hz)

/-- Words below 2^32 lie in an image of 4096 bytes where they are no more than 1024, and each is loaded. -/
theorem img_loads (ws : List Int) (h : ∀ x ∈ ws, 0 ≤ x ∧ x < 4294967296) : (imgL ws 4096).isSome = decide (ws.length ≤ 1024) ∧
    (∀ ys, imgL ws 4096 = some ys → ys.length = 4096 ∧ (∀ y ∈ ys, 0 ≤ y ∧ y ≤ 255) ∧ ∀ i, i < ws.length → loadB ys 4096 (2147483648 + 4 * (i : Int)) 4 = ws.getD i 0) := by
  have hok : imgOk ws.length 4096 = decide (ws.length ≤ 1024) := by
    unfold imgOk
    by_cases hc : ws.length ≤ 1024
    · rw [decide_eq_true hc, decide_eq_true_iff]; omega
    · rw [decide_eq_false hc, decide_eq_false_iff_not]; omega
  unfold imgL
  rw [hok]
  by_cases hc : ws.length ≤ 1024
  · rw [decide_eq_true hc, if_pos rfl]
    refine ⟨imgPut_some ws _ _ (fun x hx => (h x hx).2), fun ys hy => ?_⟩
    have hl : (List.replicate (4096 : Int).toNat (0 : Int)).length = 4096 := List.length_replicate
    have hyl : ys.length = 4096 := (imgPut_len ws _ _ _ hy).trans hl
    refine ⟨hyl, imgPut_byte ws _ _ _ hy (fun y hz => by rw [List.eq_of_mem_replicate hz]; omega), fun i hi => ?_⟩
    have h1 := imgPut_le ws 0 _ ys i hy hi (by rw [hl]; omega) (fun x hx => (h x hx).1)
    rw [Nat.zero_add] at h1
    unfold loadB
    rw [if_pos (by
      unfold okB ramOkB sizeB
      simp
      omega)]
    rw [show (2147483648 + 4 * (i : Int) - 2147483648).toNat = 4 * i from by omega]
    exact h1
  · rw [decide_eq_false hc]
    refine ⟨rfl, fun ys hy => ?_⟩
    cases hy

end Go.Proofs.YtjjpklalihaanaaDoor
