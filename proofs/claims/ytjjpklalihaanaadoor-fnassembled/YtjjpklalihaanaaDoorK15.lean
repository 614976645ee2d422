/- Own lemmas. -/
import Derived.Test.YtjjpklalihaanaaDoorK11
import Derived.Test.YtjjpklalihaanaaDoorK13
import Derived.Test.YtjjpklalihaanaaDoorK14
import Derived.Lib.IndexLaws
namespace Go.Proofs.YtjjpklalihaanaaDoor
open Go.RowKit
set_option linter.unusedVariables false

open Classical in
noncomputable def parF (L : List UInt8) : Ins × Bool := if h : ∃ i, IW i ∧ (encS i).2 = true ∧ shText i = L then (h.choose, true) else (noIns, false)

theorem parF_of {L : List UInt8} {i : Ins} {t : Bool} (h : PR L i t) : parF L = (i, t) := by
  have hp : PR L (parF L).1 (parF L).2 := by
    unfold parF
    by_cases he : ∃ i, IW i ∧ (encS i).2 = true ∧ shText i = L
    · rw [dif_pos he]
      exact Or.inl ⟨rfl, he.choose_spec.1, he.choose_spec.2.1, he.choose_spec.2.2⟩
    · rw [dif_neg he]
      exact Or.inr ⟨rfl, rfl, fun j hj h1 h2 => he ⟨j, hj, h1, h2⟩⟩
  obtain ⟨h1, h2⟩ := hp.same h
  exact Prod.ext h1 h2

def skipL (cur : List UInt8) : Bool := cur.isEmpty || decide (cur.head? = some 35)

noncomputable def asm : List UInt8 → List UInt8 → Nat → List Int → List Int × Int
  | cur, [], line, ws => if cur.isEmpty then (ws, -1) else ([], (line : Int))
  | cur, c :: cs, line, ws =>
    if c = 10 then
      if skipL cur then asm [] cs (line + 1) ws
      else if (parF cur).2 then asm [] cs (line + 1) (ws ++ [(encS (parF cur).1).1]) else ([], (line : Int))
    else asm (cur ++ [c]) cs line ws

theorem asm_word (l : List UInt8) (h : (10 : UInt8) ∉ l) : ∀ (cur rest : List UInt8) (line : Nat) (ws : List Int), asm cur (l ++ rest) line ws = asm (cur ++ l) rest line ws := by
  induction l with
  | nil => intro cur rest line ws; simp
  | cons c l ih =>
    intro cur rest line ws
    have hc : c ≠ 10 := fun e => h (by rw [e]; simp)
    have hl : (10 : UInt8) ∉ l := fun e => h (by simp [e])
    rw [List.cons_append, asm, if_neg hc, ih hl]
    simp

theorem asm_len (rest : List UInt8) : ∀ (cur : List UInt8) (line : Nat) (ws : List Int), (asm cur rest line ws).1.length ≤ ws.length + rest.length := by
  induction rest with
  | nil => intro cur line ws; rw [asm]; split <;> simp
  | cons c cs ih =>
    intro cur line ws
    rw [asm]
    split
    · split
      · have := ih [] (line + 1) ws; simp; omega
      · split
        · have := ih [] (line + 1) (ws ++ [(encS (parF cur).1).1]); simp at this ⊢; omega
        · simp
    · have := ih (cur ++ [c]) line ws; simp; omega

theorem index_cut (l : List UInt8) (c : UInt8) : (Lib.indexByte l c = -1 ∧ c ∉ l) ∨ ∃ a b, l = a ++ c :: b ∧ c ∉ a ∧ Lib.indexByte l c = (a.length : Int) := by
  induction l with
  | nil => exact Or.inl ⟨rfl, by simp⟩
  | cons x l ih =>
    unfold Lib.indexByte
    by_cases hx : x = c
    · right
      exact ⟨[], l, by simp [hx], by simp, by simp [hx]⟩
    · have hb : (x == c) = false := by simpa using hx
      rw [hb]
      rcases ih with ⟨h1, h2⟩ | ⟨a, b, h1, h2, h3⟩
      · left
        rw [h1]
        refine ⟨by simp, fun h => ?_⟩
        rcases List.mem_cons.1 h with h | h
        · exact hx h.symm
        · exact h2 h
      · right
        refine ⟨x :: a, b, by simp [h1], fun h => ?_, ?_⟩
        · rcases List.mem_cons.1 h with h | h
          · exact hx h.symm
          · exact h2 h
        · rw [h3]
          have : ((a.length : Int) == -1) = false := by simp
          rw [this]
          simp

set_option maxHeartbeats 800000 in
theorem liteCut_any (s : ByteArray) (hs : s.size ≤ 1048576) (w : World) : Calls Tryd.prog 43 #[.string s, .string ⟨#[10]⟩] w fun e w' => (∃ k, w' = w.drewN k) ∧
    (((10 : UInt8) ∉ s.data.toList ∧ e = .returned (.tuple #[.string s, .string ⟨#[]⟩, .bool false])) ∨ ∃ l r, s.data.toList = l ++ 10 :: r ∧ (10 : UInt8) ∉ l ∧ e = .returned (.tuple #[.string ⟨l.toArray⟩, .string ⟨r.toArray⟩, .bool true])) := by
  have hlen : s.data.toList.length = s.size := by rw [Array.length_toList]; rfl
  rcases index_cut s.data.toList 10 with ⟨h1, h2⟩ | ⟨a, b, h1, h2, h3⟩
  · have H2 : Hid ((10 : UInt8) ∉ s.data.toList) := h2
    have HX : Hid (∀ W : World, Calls Tryd.prog 62 #[.string s, .string ⟨#[10]⟩] W fun e w' => e = .returned (.int .i64 (-1)) ∧ w' = W) := fun W => by
      have := Tryd.stringslite_Index_one s 10 W
      rw [h1] at this
      exact this
    clear h1 h2
    go_enter Tryd.func43, Tryd.ntmps43
    go_wp2_with fail
    refine (HX.out _).mono ?_
    rintro e w1 ⟨rfl, rfl⟩
    go_wp2_with fail
    go_ret3
    exact ⟨⟨0, rfl⟩, Or.inl ⟨H2.out, rfl⟩⟩
  · have hl := congrArg List.length h1
    rw [hlen] at hl
    simp only [List.length_append, List.length_cons] at hl
    obtain ⟨n, hn⟩ : ∃ n, n = a.length := ⟨_, rfl⟩
    have e1 : s.extract 0 n = ⟨a.toArray⟩ := by
      rw [ext_take, h1, List.drop_zero, Nat.sub_zero, hn, List.take_left]
    have e2 : s.extract (n + 1) s.size = ⟨b.toArray⟩ := by
      rw [ext_take, h1]
      have : (a ++ 10 :: b).drop (n + 1) = b := by rw [hn, ← List.drop_drop, List.drop_left]; rfl
      rw [this, List.take_of_length_le (by omega)]
    have HX : Hid (∀ W : World, Calls Tryd.prog 62 #[.string s, .string ⟨#[10]⟩] W fun e w' => e = .returned (.int .i64 (n : Int)) ∧ w' = W) := fun W => by
      have := Tryd.stringslite_Index_one s 10 W
      rw [h3, ← hn] at this
      exact this
    have H1 : Hid (s.data.toList = a ++ 10 :: b) := h1
    have H2 : Hid ((10 : UInt8) ∉ a) := h2
    have E1 : Hid (s.extract 0 n = ⟨a.toArray⟩) := e1
    have E2 : Hid (s.extract (n + 1) s.size = ⟨b.toArray⟩) := e2
    have hns : n + 1 ≤ s.size := by omega
    have hge : (0 : Int) ≤ (n : Int) := by omega
    have hw1 : wrap64 ((n : Int) + 1) = ((n + 1 : Nat) : Int) := by unfold wrap64; omega
    clear h1 h2 h3 hl hn e1 e2 hlen
    go_enter Tryd.func43, Tryd.ntmps43
    go_wp2_with fail
    refine (HX.out _).mono ?_
    rintro e w1 ⟨rfl, hw⟩
    have hw' := hw.symm
    subst hw'
    go_wp2_with fail
    go_quiet (fail)
    go_wp2_with fail
    go_ret3
    refine ⟨⟨_, rfl⟩, Or.inr ⟨a, b, H1.out, H2.out, ?_⟩⟩
    rw [← E1.out, ← E2.out]
    rfl

theorem cut_any (s : ByteArray) (hs : s.size ≤ 1048576) (w : World) : Calls Tryd.prog 20 #[.string s, .string ⟨#[10]⟩] w fun e w' => (∃ k, w' = w.drewN k) ∧
    (((10 : UInt8) ∉ s.data.toList ∧ e = .returned (.tuple #[.string s, .string ⟨#[]⟩, .bool false])) ∨ ∃ l r, s.data.toList = l ++ 10 :: r ∧ (10 : UInt8) ∉ l ∧ e = .returned (.tuple #[.string ⟨l.toArray⟩, .string ⟨r.toArray⟩, .bool true])) := by
  go_enter Tryd.func20, Tryd.ntmps20
  go_wp2_with fail
  refine (liteCut_any s hs _).mono ?_
  rintro e w1 ⟨⟨k, rfl⟩, ⟨h1, rfl⟩ | ⟨l, r, h1, h2, rfl⟩⟩
  · have H1 : Hid ((10 : UInt8) ∉ s.data.toList) := h1
    clear h1
    go_wp2_with fail
    go_ret3
    exact ⟨⟨k, rfl⟩, Or.inl ⟨H1.out, rfl⟩⟩
  · have H1 : Hid (s.data.toList = l ++ 10 :: r) := h1
    have H2 : Hid ((10 : UInt8) ∉ l) := h2
    clear h1 h2
    go_wp2_with fail
    go_ret3
    exact ⟨⟨k, rfl⟩, Or.inr ⟨l, r, H1.out, H2.out, rfl⟩⟩

theorem gt_digits (u : Nat) : ∀ c ∈ Lib.decDigits u, 31 < c.toNat := by
  intro c hc
  have h1 := (decDigits_dig u).1
  have h2 := List.all_eq_true.1 h1 c hc
  unfold isDig at h2
  simp at h2
  have h3 : (48 : UInt8).toNat ≤ c.toNat := UInt8.le_iff_toNat_le.1 h2.1
  have h4 : (48 : UInt8).toNat = 48 := rfl
  omega

theorem gt_itoa (x : Int) : ∀ c ∈ Lib.itoa x, 31 < c.toNat := by
  intro c hc
  unfold Lib.itoa at hc
  split at hc
  all_goals first
    | exact gt_digits _ c hc
    | (rcases List.mem_cons.1 hc with h | h
       · rw [h]; decide
       · exact gt_digits _ c h)

theorem gt_part (i : Ins) (p : Nat) : ∀ c ∈ shPart i p, 31 < c.toNat := by
  intro c hc
  unfold shPart at hc
  split at hc
  all_goals first
    | (rcases List.mem_cons.1 hc with h | h
       · rw [h]; decide
       · exact gt_itoa _ c h)
    | exact gt_itoa _ c hc

theorem gt_tail (i : Ins) : ∀ (ps : List Nat), ∀ c ∈ shTail i ps, 31 < c.toNat := by
  intro ps
  induction ps with
  | nil => intro c hc; simp [shTail] at hc
  | cons p ps ih =>
    intro c hc
    rw [shTail] at hc
    rcases List.mem_cons.1 hc with h | h
    · rw [h]; decide
    · rcases List.mem_append.1 h with h | h
      · exact gt_part i p c h
      · exact ih c h

theorem gt_name {op : Int} (hb : opB op = true) : (∀ c ∈ (nameOf op).data.toList, 31 < c.toNat) ∧ ∃ c cs, (nameOf op).data.toList = c :: cs ∧ c ≠ 35 := by
  have h : (List.range 98).all (fun k => (rowAt k).name.data.toList.all (fun c => decide (31 < c.toNat)) && (match (rowAt k).name.data.toList with | c :: _ => decide (c ≠ 35) | [] => false)) = true := by kernel_rfl
  unfold nameOf
  rw [if_pos hb]
  have h2 : 1 ≤ op ∧ op ≤ 98 := of_decide_eq_true hb
  have h3 := List.all_eq_true.1 h (op - 1).toNat (by simp; omega)
  rw [Bool.and_eq_true] at h3
  refine ⟨fun c hm => of_decide_eq_true (List.all_eq_true.1 h3.1 c hm), ?_⟩
  have h4 := h3.2
  cases hl : (rowAt (op - 1).toNat).name.data.toList with
  | nil => rw [hl] at h4; cases h4
  | cons c cs => rw [hl] at h4; exact ⟨c, cs, rfl, of_decide_eq_true h4⟩

theorem text_line {j : Ins} (h : (encS j).2 = true) : (10 : UInt8) ∉ shText j ∧ skipL (shText j) = false := by
  obtain ⟨h1, c, cs, h2, h3⟩ := gt_name (encS_opB h)
  constructor
  · intro hm
    unfold shText at hm
    rcases List.mem_append.1 hm with hm | hm
    · exact absurd (h1 _ hm) (by decide)
    · exact absurd (gt_tail j _ _ hm) (by decide)
  · unfold skipL shText
    rw [h2]
    simp [h3]

def linesL (js : List Ins) : List UInt8 := js.flatMap (fun j => shText j ++ [10])

theorem asm_shown : ∀ (js : List Ins) (line : Nat) (ws : List Int), (∀ j ∈ js, IW j ∧ (encS j).2 = true) → asm [] (linesL js) line ws = (ws ++ js.map (fun j => (encS j).1), -1) := by
  intro js
  induction js with
  | nil => intro line ws _; simp [linesL, asm]
  | cons j js ih =>
    intro line ws h
    obtain ⟨hw, he⟩ := h j (by simp)
    obtain ⟨h10, hsk⟩ := text_line he
    have hp : parF (shText j) = (j, true) := parF_of (.inl ⟨rfl, hw, he, rfl⟩)
    have e : linesL (j :: js) = shText j ++ (10 :: linesL js) := by simp [linesL]
    rw [e, asm_word _ h10, List.nil_append, asm, if_pos rfl, hsk, if_neg (by simp), hp, if_pos rfl, ih _ _ (fun x hx => h x (by simp [hx]))]
    simp

theorem asm_back : ∀ (L cur : List UInt8) (line : Nat) (ws r : List Int), asm cur L line ws = (r, -1) → ∃ js : List Ins, (∀ j ∈ js, IW j ∧ (encS j).2 = true) ∧ r = ws ++ js.map (fun j => (encS j).1) ∧ (linesL js).length ≤ cur.length + L.length := by
  intro L
  induction L with
  | nil =>
    intro cur line ws r h
    rw [asm] at h
    split at h
    · cases h; exact ⟨[], by simp, by simp, by simp [linesL]⟩
    · have := (Prod.mk.inj h).2; omega
  | cons c L ih =>
    intro cur line ws r h
    rw [asm] at h
    split at h
    · split at h
      · obtain ⟨js, h1, h2, h3⟩ := ih _ _ _ _ h
        exact ⟨js, h1, h2, by simp at h3 ⊢; omega⟩
      · split at h
        · rename_i hp
          obtain ⟨js, h1, h2, h3⟩ := ih _ _ _ _ h
          have hx : ∃ i, IW i ∧ (encS i).2 = true ∧ shText i = cur := by
            unfold parF at hp
            by_cases he : ∃ i, IW i ∧ (encS i).2 = true ∧ shText i = cur
            · exact he
            · rw [dif_neg he] at hp; cases hp
          obtain ⟨i, hw, he, ht⟩ := hx
          have hpi : parF cur = (i, true) := parF_of (.inl ⟨rfl, hw, he, ht⟩)
          rw [hpi] at h2
          refine ⟨i :: js, ?_, by rw [h2]; simp, ?_⟩
          · intro x hx
            rcases List.mem_cons.1 hx with rfl | hx
            · exact ⟨hw, he⟩
            · exact h1 x hx
          · have e : linesL (i :: js) = shText i ++ (10 :: linesL js) := by simp [linesL]
            rw [e, ht]
            simp at h3 ⊢
            omega
        · have := (Prod.mk.inj h).2; omega
    · obtain ⟨js, h1, h2, h3⟩ := ih _ _ _ _ h
      exact ⟨js, h1, h2, by simp at h3 ⊢; omega⟩

end Go.Proofs.YtjjpklalihaanaaDoor
