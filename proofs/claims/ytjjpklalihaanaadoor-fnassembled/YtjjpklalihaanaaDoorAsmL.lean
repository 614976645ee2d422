/- A text of shown words is assembled to those words. -/
import Derived.Test.YtjjpklalihaanaaDoorAsmP
import Derived.Test.YtjjpklalihaanaaDoorRdlQ
namespace Go.Proofs.YtjjpklalihaanaaDoor
open Go.RowKit
set_option linter.unusedVariables false

theorem gt_digits (u : Nat) : ∀ c ∈ Lib.decDigits u, 31 < c.toNat := by
  intro c hc
  have h1 := (decDigits_dig u).1
  have h2 := List.all_eq_true.1 h1 c hc
  unfold isDig at h2
  simp at h2
  have h3 : (48 : UInt8).toNat ≤ c.toNat := UInt8.le_iff_toNat_le.1 h2.1
  have h4 : (48 : UInt8).toNat = 48 := rfl
  omega

theorem gt_itoa (x : Int) : ∀ c ∈ Lib.itoa x, 31 < c.toNat := by
  intro c hc
  unfold Lib.itoa at hc
  split at hc
  all_goals first
    | exact gt_digits _ c hc
    | (rcases List.mem_cons.1 hc with h | h
       · rw [h]; decide
       · exact gt_digits _ c h)

theorem gt_part (i : Ins) (p : Nat) : ∀ c ∈ shPart i p, 31 < c.toNat := by
  intro c hc
  unfold shPart at hc
  split at hc
  all_goals first
    | (rcases List.mem_cons.1 hc with h | h
       · rw [h]; decide
       · exact gt_itoa _ c h)
    | exact gt_itoa _ c hc

theorem gt_tail (i : Ins) : ∀ (ps : List Nat), ∀ c ∈ shTail i ps, 31 < c.toNat := by
  intro ps
  induction ps with
  | nil => intro c hc; simp [shTail] at hc
  | cons p ps ih =>
    intro c hc
    rw [shTail] at hc
    rcases List.mem_cons.1 hc with h | h
    · rw [h]; decide
    · rcases List.mem_append.1 h with h | h
      · exact gt_part i p c h
      · exact ih c h

theorem gt_name {op : Int} (hb : opB op = true) : (∀ c ∈ (nameOf op).data.toList, 31 < c.toNat) ∧ ∃ c cs, (nameOf op).data.toList = c :: cs ∧ c ≠ 35 := by
  have h : (List.range 98).all (fun k => (rowAt k).name.data.toList.all (fun c => decide (31 < c.toNat)) && (match (rowAt k).name.data.toList with | c :: _ => decide (c ≠ 35) | [] => false)) = true := by kernel_rfl
  unfold nameOf
  rw [if_pos hb]
  have h2 : 1 ≤ op ∧ op ≤ 98 := of_decide_eq_true hb
  have h3 := List.all_eq_true.1 h (op - 1).toNat (by simp; omega)
  rw [Bool.and_eq_true] at h3
  refine ⟨fun c hm => of_decide_eq_true (List.all_eq_true.1 h3.1 c hm), ?_⟩
  have h4 := h3.2
  cases hl : (rowAt (op - 1).toNat).name.data.toList with
  | nil => rw [hl] at h4; cases h4
  | cons c cs => rw [hl] at h4; exact ⟨c, cs, rfl, of_decide_eq_true h4⟩

theorem text_line {j : Ins} (h : (encS j).2 = true) : (10 : UInt8) ∉ shText j ∧ skipL (shText j) = false := by
  obtain ⟨h1, c, cs, h2, h3⟩ := gt_name (encS_opB h)
  constructor
  · intro hm
    unfold shText at hm
    rcases List.mem_append.1 hm with hm | hm
    · exact absurd (h1 _ hm) (by decide)
    · exact absurd (gt_tail j _ _ hm) (by decide)
  · unfold skipL shText
    rw [h2]
    simp [h3]

/-- The text that lists these instructions, a line each. -/
def linesL (js : List Ins) : List UInt8 := js.flatMap (fun j => shText j ++ [10])

theorem asm_shown : ∀ (js : List Ins) (line : Nat) (ws : List Int), (∀ j ∈ js, IW j ∧ (encS j).2 = true) → asm [] (linesL js) line ws = (ws ++ js.map (fun j => (encS j).1), -1) := by
  intro js
  induction js with
  | nil => intro line ws _; simp [linesL, asm]
  | cons j js ih =>
    intro line ws h
    obtain ⟨hw, he⟩ := h j (by simp)
    obtain ⟨h10, hsk⟩ := text_line he
    have hp : parF (shText j) = (j, true) := parF_of (.inl ⟨rfl, hw, he, rfl⟩)
    have e : linesL (j :: js) = shText j ++ (10 :: linesL js) := by simp [linesL]
    rw [e, asm_word _ h10, List.nil_append, asm, if_pos rfl, hsk, if_neg (by simp), hp, if_pos rfl, ih _ _ (fun x hx => h x (by simp [hx]))]
    simp

/-- What was assembled is the words of instructions whose lines are no longer than the text. -/
theorem asm_back : ∀ (L cur : List UInt8) (line : Nat) (ws r : List Int), asm cur L line ws = (r, -1) → ∃ js : List Ins, (∀ j ∈ js, IW j ∧ (encS j).2 = true) ∧ r = ws ++ js.map (fun j => (encS j).1) ∧ (linesL js).length ≤ cur.length + L.length := by
  intro L
  induction L with
  | nil =>
    intro cur line ws r h
    rw [asm] at h
    split at h
    · cases h; exact ⟨[], by simp, by simp, by simp [linesL]⟩
    · have := (Prod.mk.inj h).2; omega
  | cons c L ih =>
    intro cur line ws r h
    rw [asm] at h
    split at h
    · split at h
      · obtain ⟨js, h1, h2, h3⟩ := ih _ _ _ _ h
        exact ⟨js, h1, h2, by simp at h3 ⊢; omega⟩
      · split at h
        · rename_i hp
          obtain ⟨js, h1, h2, h3⟩ := ih _ _ _ _ h
          have hx : ∃ i, IW i ∧ (encS i).2 = true ∧ shText i = cur := by
            unfold parF at hp
            by_cases he : ∃ i, IW i ∧ (encS i).2 = true ∧ shText i = cur
            · exact he
            · rw [dif_neg he] at hp; cases hp
          obtain ⟨i, hw, he, ht⟩ := hx
          have hpi : parF cur = (i, true) := parF_of (.inl ⟨rfl, hw, he, ht⟩)
          rw [hpi] at h2
          refine ⟨i :: js, ?_, by rw [h2]; simp, ?_⟩
          · intro x hx
            rcases List.mem_cons.1 hx with rfl | hx
            · exact ⟨hw, he⟩
            · exact h1 x hx
          · have e : linesL (i :: js) = shText i ++ (10 :: linesL js) := by simp [linesL]
            rw [e, ht]
            simp at h3 ⊢
            omega
        · have := (Prod.mk.inj h).2; omega
    · obtain ⟨js, h1, h2, h3⟩ := ih _ _ _ _ h
      exact ⟨js, h1, h2, by simp at h3 ⊢; omega⟩

end Go.Proofs.YtjjpklalihaanaaDoor
