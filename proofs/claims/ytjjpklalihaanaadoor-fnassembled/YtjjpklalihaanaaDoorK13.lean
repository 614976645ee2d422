/- Own lemmas. -/
import Derived.Test.YtjjpklalihaanaaDoorK03
import Derived.Test.YtjjpklalihaanaaDoorK11
import Derived.Test.YtjjpklalihaanaaDoorK12
import Derived.WalkKit
import Derived.Deep.RegionHeld3
namespace Go.Proofs.YtjjpklalihaanaaDoor
open Go.RowKit
set_option linter.unusedVariables false

section
variable {P : Program} {ops : Array Oper} {Q : Exit → Act → World → Prop} {md : Region.Mode} {S : World → Prop} {k : Nat}

def wpAnyK (P : Program) (md : Region.Mode) (ops : Array Oper) (Q : Exit → Act → World → Prop) (S : World → Prop) (k : Nat) : Nat → Array Bool → Act → World → Prop
  | 0, listed, a, w => Region.ready md ops listed = [] ∧ Q .normal a w
  | fuel + 1, listed, a, w =>
    (Region.ready md ops listed = [] → Q .normal a w) ∧
    ∀ i ∈ Region.ready md ops listed, wpOp P ops Q i (fun a' w' => (i ≠ k → S w' ∧ wpAnyK P md ops Q S k fuel (listed.setIfInBounds i true) a' w') ∧ (i = k → wpAny P md ops Q fuel (listed.setIfInBounds i true) a' w')) a w

theorem wpAny_of_K : ∀ (fuel : Nat) (listed : Array Bool) (a : Act) (w : World), wpAnyK P md ops Q S k fuel listed a w → wpAny P md ops Q fuel listed a w
  | 0, _, _, _, h => h
  | fuel + 1, _, _, _, h => ⟨h.1, fun i hi => wpOp_mono (fun a' w' h' => by
      by_cases e : i = k
      · exact h'.2 e
      · exact wpAny_of_K fuel _ a' w' (h'.1 e).2) (h.2 i hi)⟩

theorem wpAnyK_first {i : Nat} {oi : Oper} {v : Value} (hi : ops[i]? = some oi) (hsel : ∀ (j : Nat) (o : Oper) cs b, ops[j]? = some o → o.op ≠ .select cs b)
    (hQ : ∀ c a w, Q (.panic c) (a.put oi.dst v) w → Q (.panic c) a w) (hik : i ≠ k) (hk : ∃ ok e, ops[k]? = some ok ∧ e ∈ ok.after ∧ Region.binds md e = true ∧ e.on = i) :
    ∀ (fuel : Nat) (listed : Array Bool) (a : Act) (w : World),
      (∀ j oj, ops[j]? = some oj → j ≠ i → listed.getD j true = false → (∀ e ∈ oj.after, Region.binds md e = true → e.on ≠ i) → oi.apart ops oj = true) →
      i ∈ Region.ready md ops listed → YieldsIf P ops S oi v a → S w →
      wpAnyK P md ops Q S k fuel (listed.setIfInBounds i true) (a.put oi.dst v) w → wpAnyK P md ops Q S k (fuel + 1) listed a w := by
  intro fuel
  induction fuel with
  | zero =>
    intro listed a w _ hr hy hS H
    refine ⟨fun h => (by rw [h] at hr; cases hr), fun j hj => ?_⟩
    by_cases hji : j = i
    · subst hji; exact hy.wpOp hi hS ⟨fun _ => ⟨hS, H⟩, fun e => absurd e hik⟩
    · have := ready_mono hj hji
      rw [H.1] at this
      cases this
  | succ fuel ih =>
    intro listed a w hfree hr hy hS H
    refine ⟨fun h => (by rw [h] at hr; cases hr), fun j hj => ?_⟩
    by_cases hji : j = i
    · subst hji; exact hy.wpOp hi hS ⟨fun _ => ⟨hS, H⟩, fun e => absurd e hik⟩
    · have h1 := H.2 j (ready_mono hj hji)
      obtain ⟨hjun, oj, hoj, hall⟩ := mem_ready.1 hj
      have hnot : ∀ e ∈ oj.after, Region.binds md e = true → e.on ≠ i := fun e he hb heq => by
        have h1 := hall e he hb
        have h0 := (mem_ready.1 hr).1
        rw [heq] at h1
        rcases Nat.lt_or_ge i listed.size with h' | h'
        · simp [h'] at h0 h1; rw [h0] at h1; cases h1
        · simp [Array.getElem?_eq_none h'] at h1
      have hjk : j ≠ k := by
        rintro rfl
        obtain ⟨ok, e, ho, he, hb, hei⟩ := hk
        rw [hoj] at ho
        cases ho
        exact hnot e he hb hei
      have h2 := wpOp_putIf hoj (hfree j oj hoj hji hjun hnot) (fun cs b => hsel i oi cs b hi) (fun cs b => hsel j oj cs b hoj) hQ hy h1
      have hfree' : ∀ k ok, ops[k]? = some ok → k ≠ i → (listed.setIfInBounds j true).getD k true = false →
          (∀ e ∈ ok.after, Region.binds md e = true → e.on ≠ i) → oi.apart ops ok = true := fun k ok hk hki hun hno => by
        refine hfree k ok hk hki ?_ hno
        by_cases hjk : j = k
        · subst hjk; exact hjun
        · rw [getD_set_ne true hjk] at hun; exact hun
      refine wpOp_mono (fun a' w' h3 => ⟨fun _ => ⟨(h3.2.1 hjk).1, ih (listed.setIfInBounds j true) a' w' hfree' (ready_mono hr (Ne.symm hji)) h3.1 (h3.2.1 hjk).1 ?_⟩, fun e => absurd e hjk⟩) h2
      rw [Array.setIfInBounds_comm _ _ hji]
      exact (h3.2.1 hjk).2

def waitsFor (md : Region.Mode) (ops : Array Oper) (k i : Nat) : Bool := (i != k) && (match ops[k]? with | some ok => ok.after.any (fun e => Region.binds md e && (e.on == i)) | none => false)

theorem waits_spec {i : Nat} (h : waitsFor md ops k i = true) : i ≠ k ∧ ∃ ok e, ops[k]? = some ok ∧ e ∈ ok.after ∧ Region.binds md e = true ∧ e.on = i := by
  unfold waitsFor at h
  simp only [Bool.and_eq_true, bne_iff_ne, ne_eq] at h
  refine ⟨h.1, ?_⟩
  have h2 := h.2
  cases ho : ops[k]? with
  | none => rw [ho] at h2; cases h2
  | some ok =>
    rw [ho] at h2
    simp only [Array.any_eq_true, Bool.and_eq_true, beq_iff_eq] at h2
    obtain ⟨j, hj, h3, h4⟩ := h2
    exact ⟨ok, _, rfl, Array.getElem_mem hj, h3, h4⟩

def ClosedP (md : Region.Mode) (ops : Array Oper) (listed : Array Bool) : Prop := ∀ j o, ops[j]? = some o → listed.getD j false = true → ∀ e ∈ o.after, Region.binds md e = true → listed.getD e.on false = true

def closedB (md : Region.Mode) (ops : Array Oper) (listed : Array Bool) : Bool := (List.range listed.size).all fun j => !(listed.getD j false) || (match ops[j]? with | some o => o.after.all fun e => !(Region.binds md e) || listed.getD e.on false | none => true)

theorem closed_spec {listed : Array Bool} (h : closedB md ops listed = true) : ClosedP md ops listed := by
  intro j o ho hl e he hb
  unfold closedB at h
  rw [List.all_eq_true] at h
  have hj : j < listed.size := by
    rcases Nat.lt_or_ge j listed.size with h' | h'
    · exact h'
    · simp [Array.getD, Nat.not_lt.2 h'] at hl
  have h1 := h j (List.mem_range.2 hj)
  rw [hl, ho] at h1
  simp only [Bool.not_true, Bool.false_or, Array.all_eq_true] at h1
  obtain ⟨x, hx, rfl⟩ := Array.getElem_of_mem he
  have h2 := h1 x hx
  rw [hb] at h2
  simpa using h2

def waitsT (md : Region.Mode) (ops : Array Oper) (i : Nat) : Nat → Nat → Bool
  | 0, _ => false
  | f + 1, k => waitsFor md ops k i || (List.range ops.size).any fun j => waitsFor md ops k j && waitsT md ops i f j

theorem waitsT_spec {i : Nat} {listed : Array Bool} (hc : ClosedP md ops listed) : ∀ f k, waitsT md ops i f k = true → (listed.getD k false = true ∨ k ∈ Region.ready md ops listed) → listed.getD i false = true
  | 0, _, h, _ => by cases h
  | f + 1, k, h, hk => by
    have dep : ∀ j, waitsFor md ops k j = true → listed.getD j false = true := by
      intro j hj
      obtain ⟨_, ok, e, ho, he, hb, hei⟩ := waits_spec hj
      rcases hk with hk | hk
      · have := hc k ok ho hk e he hb
        rw [hei] at this; exact this
      · obtain ⟨_, o2, ho2, hall⟩ := mem_ready.1 hk
        rw [ho] at ho2
        cases ho2
        have h1 := hall e he hb
        rw [hei] at h1
        exact h1
    unfold waitsT at h
    rw [Bool.or_eq_true] at h
    rcases h with h | h
    · exact dep i h
    · rw [List.any_eq_true] at h
      obtain ⟨j, _, hj⟩ := h
      rw [Bool.and_eq_true] at hj
      exact waitsT_spec hc f j hj.2 (Or.inl (dep j hj.1))

theorem getD_set_false {listed : Array Bool} {i j : Nat} (h : listed.getD i false = true) : (listed.setIfInBounds j true).getD i false = true := by
  simp only [Array.getD_eq_getD_getElem?, Array.getElem?_setIfInBounds] at h ⊢
  split
  · split
    · rfl
    · rename_i h1 h2; subst h1; simp [Array.getElem?_eq_none (Nat.not_lt.1 h2)] at h
  · exact h

theorem closed_set {listed : Array Bool} (hc : ClosedP md ops listed) {j : Nat} (hj : j ∈ Region.ready md ops listed) : ClosedP md ops (listed.setIfInBounds j true) := by
  intro x o ho hl e he hb
  by_cases hx : x = j
  · subst hx
    obtain ⟨_, o2, ho2, hall⟩ := mem_ready.1 hj
    rw [ho] at ho2
    cases ho2
    exact getD_set_false (hall e he hb)
  · refine getD_set_false (hc x o ho ?_ e he hb)
    simp only [Array.getD_eq_getD_getElem?, Array.getElem?_setIfInBounds] at hl ⊢
    rw [if_neg (Ne.symm hx)] at hl
    exact hl

theorem wpAnyK_firstT {i : Nat} {oi : Oper} {v : Value} (hi : ops[i]? = some oi) (hsel : ∀ (j : Nat) (o : Oper) cs b, ops[j]? = some o → o.op ≠ .select cs b)
    (hQ : ∀ c a w, Q (.panic c) (a.put oi.dst v) w → Q (.panic c) a w) (hik : i ≠ k) (f : Nat) (hk : waitsT md ops i f k = true) :
    ∀ (fuel : Nat) (listed : Array Bool) (a : Act) (w : World), ClosedP md ops listed →
      (∀ j oj, ops[j]? = some oj → j ≠ i → listed.getD j true = false → (∀ e ∈ oj.after, Region.binds md e = true → e.on ≠ i) → oi.apart ops oj = true) →
      i ∈ Region.ready md ops listed → YieldsIf P ops S oi v a → S w →
      wpAnyK P md ops Q S k fuel (listed.setIfInBounds i true) (a.put oi.dst v) w → wpAnyK P md ops Q S k (fuel + 1) listed a w := by
  intro fuel
  induction fuel with
  | zero =>
    intro listed a w _ _ hr hy hS H
    refine ⟨fun h => (by rw [h] at hr; cases hr), fun j hj => ?_⟩
    by_cases hji : j = i
    · subst hji; exact hy.wpOp hi hS ⟨fun _ => ⟨hS, H⟩, fun e => absurd e hik⟩
    · have := ready_mono hj hji
      rw [H.1] at this
      cases this
  | succ fuel ih =>
    intro listed a w hcl hfree hr hy hS H
    refine ⟨fun h => (by rw [h] at hr; cases hr), fun j hj => ?_⟩
    by_cases hji : j = i
    · subst hji; exact hy.wpOp hi hS ⟨fun _ => ⟨hS, H⟩, fun e => absurd e hik⟩
    · have h1 := H.2 j (ready_mono hj hji)
      obtain ⟨hjun, oj, hoj, hall⟩ := mem_ready.1 hj
      have hnot : ∀ e ∈ oj.after, Region.binds md e = true → e.on ≠ i := fun e he hb heq => by
        have h1 := hall e he hb
        have h0 := (mem_ready.1 hr).1
        rw [heq] at h1
        rcases Nat.lt_or_ge i listed.size with h' | h'
        · simp [h'] at h0 h1; rw [h0] at h1; cases h1
        · simp [Array.getElem?_eq_none h'] at h1
      have hjk : j ≠ k := by
        rintro rfl
        have h1 := waitsT_spec hcl f j hk (Or.inr hj)
        have h0 := (mem_ready.1 hr).1
        rcases Nat.lt_or_ge i listed.size with h' | h'
        · simp [h'] at h0 h1; rw [h0] at h1; cases h1
        · simp [Array.getElem?_eq_none h'] at h1
      have h2 := wpOp_putIf hoj (hfree j oj hoj hji hjun hnot) (fun cs b => hsel i oi cs b hi) (fun cs b => hsel j oj cs b hoj) hQ hy h1
      have hfree' : ∀ k ok, ops[k]? = some ok → k ≠ i → (listed.setIfInBounds j true).getD k true = false →
          (∀ e ∈ ok.after, Region.binds md e = true → e.on ≠ i) → oi.apart ops ok = true := fun k ok hk hki hun hno => by
        refine hfree k ok hk hki ?_ hno
        by_cases hjk : j = k
        · subst hjk; exact hjun
        · rw [getD_set_ne true hjk] at hun; exact hun
      refine wpOp_mono (fun a' w' h3 => ⟨fun _ => ⟨(h3.2.1 hjk).1, ih (listed.setIfInBounds j true) a' w' (closed_set hcl hj) hfree' (ready_mono hr (Ne.symm hji)) h3.1 (h3.2.1 hjk).1 ?_⟩, fun e => absurd e hjk⟩) h2
      rw [Array.setIfInBounds_comm _ _ hji]
      exact (h3.2.1 hjk).2

theorem wpAnyK_takeT {i : Nat} {oi : Oper} {v : Value} {fuel : Nat} {listed : Array Bool} {a : Act} {w : World} (hi : ops[i]? = some oi)
    (hs : Region.noSelect ops = true) (hf : Region.free md ops listed i = true) (hr : (Region.ready md ops listed).contains i = true) (hik : i ≠ k) (hk : waitsT md ops i 6 k = true) (hcl : closedB md ops listed = true)
    (hQ : ∀ c a w, Q (.panic c) (a.put oi.dst v) w → Q (.panic c) a w) (hy : YieldsIf P ops S oi v a) (hS : S w)
    (h : wpAnyK P md ops Q S k fuel (listed.setIfInBounds i true) (a.put oi.dst v) w) : wpAnyK P md ops Q S k (fuel + 1) listed a w :=
  wpAnyK_firstT hi (Region.noSelect_spec hs) hQ hik 6 hk fuel listed a w (closed_spec hcl) (Region.free_spec hi hf) (by simpa using hr) hy hS h

theorem wpAnyK_take {i : Nat} {oi : Oper} {v : Value} {fuel : Nat} {listed : Array Bool} {a : Act} {w : World} (hi : ops[i]? = some oi)
    (hs : Region.noSelect ops = true) (hf : Region.free md ops listed i = true) (hr : (Region.ready md ops listed).contains i = true) (hk : waitsFor md ops k i = true)
    (hQ : ∀ c a w, Q (.panic c) (a.put oi.dst v) w → Q (.panic c) a w) (hy : YieldsIf P ops S oi v a) (hS : S w)
    (h : wpAnyK P md ops Q S k fuel (listed.setIfInBounds i true) (a.put oi.dst v) w) : wpAnyK P md ops Q S k (fuel + 1) listed a w :=
  wpAnyK_first hi (Region.noSelect_spec hs) hQ (waits_spec hk).1 (waits_spec hk).2 fuel listed a w (Region.free_spec hi hf) (by simpa using hr) hy hS h

theorem yields_of_true {o : Oper} {v : Value} {a : Act} (h : YieldsIf P ops (fun _ => True) o v a) : Yields P ops o v a :=
  h.imp (fun ⟨hw, hv⟩ => ⟨hw, fun w => hv w trivial⟩) id

theorem wpAnyK_firstP {i : Nat} {oi : Oper} {v : Value} (hi : ops[i]? = some oi) (hsel : ∀ (j : Nat) (o : Oper) cs b, ops[j]? = some o → o.op ≠ .select cs b)
    (hQ : ∀ c a w, Q (.panic c) (a.put oi.dst v) w → Q (.panic c) a w) (hik : i ≠ k) :
    ∀ (fuel : Nat) (listed : Array Bool) (a : Act) (w : World),
      (∀ j oj, ops[j]? = some oj → j ≠ i → listed.getD j true = false → (∀ e ∈ oj.after, Region.binds md e = true → e.on ≠ i) → oi.apart ops oj = true) →
      i ∈ Region.ready md ops listed → Yields P ops oi v a → S w →
      wpAnyK P md ops Q S k fuel (listed.setIfInBounds i true) (a.put oi.dst v) w → wpAnyK P md ops Q S k (fuel + 1) listed a w := by
  intro fuel
  induction fuel with
  | zero =>
    intro listed a w _ hr hy hS H
    refine ⟨fun h => (by rw [h] at hr; cases hr), fun j hj => ?_⟩
    by_cases hji : j = i
    · subst hji; exact (Yields.yieldsIf (S := fun _ => True) hy).wpOp hi trivial ⟨fun _ => ⟨hS, H⟩, fun e => absurd e hik⟩
    · have := ready_mono hj hji
      rw [H.1] at this
      cases this
  | succ fuel ih =>
    intro listed a w hfree hr hy hS H
    refine ⟨fun h => (by rw [h] at hr; cases hr), fun j hj => ?_⟩
    by_cases hji : j = i
    · subst hji; exact (Yields.yieldsIf (S := fun _ => True) hy).wpOp hi trivial ⟨fun _ => ⟨hS, H⟩, fun e => absurd e hik⟩
    · have h1 := H.2 j (ready_mono hj hji)
      obtain ⟨hjun, oj, hoj, hall⟩ := mem_ready.1 hj
      have hnot : ∀ e ∈ oj.after, Region.binds md e = true → e.on ≠ i := fun e he hb heq => by
        have h1 := hall e he hb
        have h0 := (mem_ready.1 hr).1
        rw [heq] at h1
        rcases Nat.lt_or_ge i listed.size with h' | h'
        · simp [h'] at h0 h1; rw [h0] at h1; cases h1
        · simp [Array.getElem?_eq_none h'] at h1
      have h2 := wpOp_putIf (S := fun _ => True) hoj (hfree j oj hoj hji hjun hnot) (fun cs b => hsel i oi cs b hi) (fun cs b => hsel j oj cs b hoj) hQ (Yields.yieldsIf hy) h1
      have hfree' : ∀ k ok, ops[k]? = some ok → k ≠ i → (listed.setIfInBounds j true).getD k true = false →
          (∀ e ∈ ok.after, Region.binds md e = true → e.on ≠ i) → oi.apart ops ok = true := fun k ok hk hki hun hno => by
        refine hfree k ok hk hki ?_ hno
        by_cases hjk : j = k
        · subst hjk; exact hjun
        · rw [getD_set_ne true hjk] at hun; exact hun
      by_cases hjk : j = k
      · refine wpOp_mono (fun a' w' h3 => ⟨fun e => absurd hjk e, fun _ => ?_⟩) h2
        refine wpAny_first hi hsel hQ fuel (listed.setIfInBounds j true) a' w' hfree' (ready_mono hr (Ne.symm hji)) (yields_of_true h3.1) ?_
        rw [Array.setIfInBounds_comm _ _ hji]
        exact h3.2.2 hjk
      · refine wpOp_mono (fun a' w' h3 => ⟨fun _ => ⟨(h3.2.1 hjk).1, ih (listed.setIfInBounds j true) a' w' hfree' (ready_mono hr (Ne.symm hji)) (yields_of_true h3.1) (h3.2.1 hjk).1 ?_⟩, fun e => absurd e hjk⟩) h2
        rw [Array.setIfInBounds_comm _ _ hji]
        exact (h3.2.1 hjk).2

theorem wpAnyK_takeP {i : Nat} {oi : Oper} {v : Value} {fuel : Nat} {listed : Array Bool} {a : Act} {w : World} (hi : ops[i]? = some oi)
    (hs : Region.noSelect ops = true) (hf : Region.free md ops listed i = true) (hr : (Region.ready md ops listed).contains i = true) (hk : i ≠ k)
    (hQ : ∀ c a w, Q (.panic c) (a.put oi.dst v) w → Q (.panic c) a w) (hy : Yields P ops oi v a) (hS : S w)
    (h : wpAnyK P md ops Q S k fuel (listed.setIfInBounds i true) (a.put oi.dst v) w) : wpAnyK P md ops Q S k (fuel + 1) listed a w :=
  wpAnyK_firstP hi (Region.noSelect_spec hs) hQ hk fuel listed a w (Region.free_spec hi hf) (by simpa using hr) hy hS h

theorem wpAnyK_one {i : Nat} {o : Oper} {fuel : Nat} {listed : Array Bool} {a : Act} {w : World} (ho : ops[i]? = some o) (hr : Region.ready md ops listed = [i]) (hk : i ≠ k)
    (h : ∀ K' : Act → World → Prop, Shut (∀ a w, S w → (S w → wpAnyK P md ops Q S k fuel (listed.setIfInBounds i true) a w) → K' a w) → if Region.wanted o (yielded ops a.tmps) = true then Oper.wp P o a w K' Q else K' (a.put o.dst undef) w) :
    wpAnyK P md ops Q S k (fuel + 1) listed a w := by
  refine ⟨fun h0 => absurd (hr.symm.trans h0) (List.cons_ne_nil _ _), fun j hj => ?_⟩
  rw [hr] at hj
  obtain rfl := List.mem_singleton.1 hj
  exact wpOp_step ho (fun K' hK => h K' (fun a w hS hW => hK a w ⟨fun _ => ⟨hS, hW hS⟩, fun e => absurd e hk⟩))

theorem wpAnyK_two {i j : Nat} {o1 o2 : Oper} {fuel : Nat} {listed : Array Bool} {a : Act} {w : World} (h1 : ops[i]? = some o1) (h2 : ops[j]? = some o2) (hr : Region.ready md ops listed = [i, j]) (hi : i ≠ k) (hj : j ≠ k)
    (hA : ∀ K' : Act → World → Prop, Shut (∀ a w, S w → (S w → wpAnyK P md ops Q S k fuel (listed.setIfInBounds i true) a w) → K' a w) → if Region.wanted o1 (yielded ops a.tmps) = true then Oper.wp P o1 a w K' Q else K' (a.put o1.dst undef) w)
    (hB : ∀ K' : Act → World → Prop, Shut (∀ a w, S w → (S w → wpAnyK P md ops Q S k fuel (listed.setIfInBounds j true) a w) → K' a w) → if Region.wanted o2 (yielded ops a.tmps) = true then Oper.wp P o2 a w K' Q else K' (a.put o2.dst undef) w) :
    wpAnyK P md ops Q S k (fuel + 1) listed a w := by
  refine ⟨fun h0 => absurd (hr.symm.trans h0) (List.cons_ne_nil _ _), fun x hx => ?_⟩
  rw [hr] at hx
  rcases List.mem_cons.1 hx with rfl | hx
  · exact wpOp_step h1 (fun K' hK => hA K' (fun a w hS hW => hK a w ⟨fun _ => ⟨hS, hW hS⟩, fun e => absurd e hi⟩))
  · obtain rfl := List.mem_singleton.1 hx
    exact wpOp_step h2 (fun K' hK => hB K' (fun a w hS hW => hK a w ⟨fun _ => ⟨hS, hW hS⟩, fun e => absurd e hj⟩))

theorem wpAnyK_end {o : Oper} {fuel : Nat} {listed : Array Bool} {a : Act} {w : World} (ho : ops[k]? = some o) (hr : Region.ready md ops listed = [k])
    (h : ∀ K' : Act → World → Prop, Shut (∀ a w, wpAny P md ops Q fuel (listed.setIfInBounds k true) a w → K' a w) → if Region.wanted o (yielded ops a.tmps) = true then Oper.wp P o a w K' Q else K' (a.put o.dst undef) w) :
    wpAnyK P md ops Q S k (fuel + 1) listed a w := by
  refine ⟨fun h0 => absurd (hr.symm.trans h0) (List.cons_ne_nil _ _), fun j hj => ?_⟩
  rw [hr] at hj
  obtain rfl := List.mem_singleton.1 hj
  exact wpOp_step ho (fun K' hK => h K' (fun a w hW => hK a w ⟨fun e => absurd rfl e, fun _ => hW⟩))

theorem wpAny_one {i : Nat} {o : Oper} {fuel : Nat} {listed : Array Bool} {a : Act} {w : World} (ho : ops[i]? = some o) (hr : Region.ready md ops listed = [i])
    (h : ∀ K' : Act → World → Prop, Shut (∀ a w, wpAny P md ops Q fuel (listed.setIfInBounds i true) a w → K' a w) → if Region.wanted o (yielded ops a.tmps) = true then Oper.wp P o a w K' Q else K' (a.put o.dst undef) w) :
    wpAny P md ops Q (fuel + 1) listed a w := by
  refine ⟨fun h0 => absurd (hr.symm.trans h0) (List.cons_ne_nil _ _), fun j hj => ?_⟩
  rw [hr] at hj
  obtain rfl := List.mem_singleton.1 hj
  exact wpOp_step ho h

theorem wp_region_K (k : Nat) (S : World → Prop) {id : Nat} {a : Act} {w : World} (hm : P.follows .mixedOrders = true) (hS : S w.drew)
    (h : S w.drew → wpAnyK P .any ops Q S k ops.size (Array.replicate ops.size false) a w.drew) : (Code.region id ops true).wp P Q a w :=
  wp_region_any hm (wpAny_of_K _ _ _ _ (h hS))

end

set_option maxHeartbeats 800000 in
theorem withPart_0 (i : Ins) (x : Int) (w : World) : Calls Tryd.prog 45 #[.agg #[.int .i64 i.op, .int .i64 i.rd, .int .i64 i.a, .int .i64 i.b, .int .i64 i.imm], .int .i64 0, .int .i64 x] w fun e w' => e = .returned (.agg #[.int .i64 (setP i 0 x).op, .int .i64 (setP i 0 x).rd, .int .i64 (setP i 0 x).a, .int .i64 (setP i 0 x).b, .int .i64 (setP i 0 x).imm]) ∧ Below w.heap.size w w' := by
  go_enter Tryd.func45, Tryd.ntmps45
  go_wp2_with fail
  refine bodyPost_ret (v := .agg #[.int .i64 (setP i 0 x).op, .int .i64 (setP i 0 x).rd, .int .i64 (setP i 0 x).a, .int .i64 (setP i 0 x).b, .int .i64 (setP i 0 x).imm]) (by simp [results, Tryd.results45, go_sem, setP]) rfl ⟨rfl, ?_⟩
  exact ((Below.refl _ _).alloc (Nat.le_refl _) _).alloc (by simp) _

set_option maxHeartbeats 800000 in
theorem withPart_1 (i : Ins) (x : Int) (w : World) : Calls Tryd.prog 45 #[.agg #[.int .i64 i.op, .int .i64 i.rd, .int .i64 i.a, .int .i64 i.b, .int .i64 i.imm], .int .i64 1, .int .i64 x] w fun e w' => e = .returned (.agg #[.int .i64 (setP i 1 x).op, .int .i64 (setP i 1 x).rd, .int .i64 (setP i 1 x).a, .int .i64 (setP i 1 x).b, .int .i64 (setP i 1 x).imm]) ∧ Below w.heap.size w w' := by
  go_enter Tryd.func45, Tryd.ntmps45
  go_wp2_with fail
  refine bodyPost_ret (v := .agg #[.int .i64 (setP i 1 x).op, .int .i64 (setP i 1 x).rd, .int .i64 (setP i 1 x).a, .int .i64 (setP i 1 x).b, .int .i64 (setP i 1 x).imm]) (by simp [results, Tryd.results45, go_sem, setP]) rfl ⟨rfl, ?_⟩
  exact ((Below.refl _ _).alloc (Nat.le_refl _) _).alloc (by simp) _

set_option maxHeartbeats 800000 in
theorem withPart_2 (i : Ins) (x : Int) (w : World) : Calls Tryd.prog 45 #[.agg #[.int .i64 i.op, .int .i64 i.rd, .int .i64 i.a, .int .i64 i.b, .int .i64 i.imm], .int .i64 2, .int .i64 x] w fun e w' => e = .returned (.agg #[.int .i64 (setP i 2 x).op, .int .i64 (setP i 2 x).rd, .int .i64 (setP i 2 x).a, .int .i64 (setP i 2 x).b, .int .i64 (setP i 2 x).imm]) ∧ Below w.heap.size w w' := by
  go_enter Tryd.func45, Tryd.ntmps45
  go_wp2_with fail
  refine bodyPost_ret (v := .agg #[.int .i64 (setP i 2 x).op, .int .i64 (setP i 2 x).rd, .int .i64 (setP i 2 x).a, .int .i64 (setP i 2 x).b, .int .i64 (setP i 2 x).imm]) (by simp [results, Tryd.results45, go_sem, setP]) rfl ⟨rfl, ?_⟩
  exact ((Below.refl _ _).alloc (Nat.le_refl _) _).alloc (by simp) _

set_option maxHeartbeats 800000 in
theorem withPart_3 (i : Ins) (x : Int) (w : World) : Calls Tryd.prog 45 #[.agg #[.int .i64 i.op, .int .i64 i.rd, .int .i64 i.a, .int .i64 i.b, .int .i64 i.imm], .int .i64 3, .int .i64 x] w fun e w' => e = .returned (.agg #[.int .i64 (setP i 3 x).op, .int .i64 (setP i 3 x).rd, .int .i64 (setP i 3 x).a, .int .i64 (setP i 3 x).b, .int .i64 (setP i 3 x).imm]) ∧ Below w.heap.size w w' := by
  go_enter Tryd.func45, Tryd.ntmps45
  go_wp2_with fail
  refine bodyPost_ret (v := .agg #[.int .i64 (setP i 3 x).op, .int .i64 (setP i 3 x).rd, .int .i64 (setP i 3 x).a, .int .i64 (setP i 3 x).b, .int .i64 (setP i 3 x).imm]) (by simp [results, Tryd.results45, go_sem, setP]) rfl ⟨rfl, ?_⟩
  exact ((Below.refl _ _).alloc (Nat.le_refl _) _).alloc (by simp) _

theorem withPart_any (i : Ins) (p : Nat) (hp : p = 0 ∨ p = 1 ∨ p = 2 ∨ p = 3) (x : Int) (w : World) : Calls Tryd.prog 45 #[.agg #[.int .i64 i.op, .int .i64 i.rd, .int .i64 i.a, .int .i64 i.b, .int .i64 i.imm], .int .i64 p, .int .i64 x] w fun e w' => e = .returned (.agg #[.int .i64 (setP i p x).op, .int .i64 (setP i p x).rd, .int .i64 (setP i p x).a, .int .i64 (setP i p x).b, .int .i64 (setP i p x).imm]) ∧ Below w.heap.size w w' := by
  rcases hp with rfl | rfl | rfl | rfl
  · exact withPart_0 i x w
  · exact withPart_1 i x w
  · exact withPart_2 i x w
  · exact withPart_3 i x w

structure PaI (w : World) (g1 : Nat) (pa ma : Option Addr) (ps ms : List Int) (i : Ins) (wr : World) : Prop where
  res : wr.heap[w.heap.size]? = some (.cells #[.int .i64 0, .int .i64 0, .int .i64 0, .int .i64 0, .int .i64 0] 30 (0, 0))
  ins : wr.heap[g1]? = some (.cells (insCells i) 30 (0, 0))
  par : Sl .i64 wr pa ps
  num : Sl .i64 wr ma ms
  below : Below w.heap.size w wr
  lt1 : w.heap.size < g1
  np : ∀ a, pa = some a → 0 < ps.length → a.block ≠ g1
  nm : ∀ a, ma = some a → 0 < ms.length → a.block ≠ g1

theorem PaI.keep {w : World} {g1 : Nat} {pa ma : Option Addr} {ps ms : List Int} {i : Ins} {wr wx : World} (h : PaI w g1 pa ma ps ms i wr) (hb : Below wr.heap.size wr wx) : PaI w g1 pa ma ps ms i wx :=
  ⟨row_keep h.res hb, row_keep h.ins hb, h.par.below hb, h.num.below hb, below_trans h.below hb, h.lt1, h.np, h.nm⟩

theorem sl_setRow {k : IntKind} {w : World} {a : Option Addr} {zs : List Int} (h : Sl k w a zs) (g : Nat) (cs : Array Value) (hne : ∀ x, a = some x → 0 < zs.length → x.block ≠ g) : Sl k (w.setRow g cs) a zs := by
  intro i hi
  obtain ⟨b, off, e, hlt, hc⟩ := h i hi
  refine ⟨b, off, e, by simpa using hlt, ?_⟩
  have hb := hne _ e (by omega)
  unfold World.cell? at hc ⊢
  rw [setRow_other w g b cs (by exact hb)]
  exact hc

theorem PaI.put {w : World} {g1 : Nat} {pa ma : Option Addr} {ps ms : List Int} {i : Ins} {wr : World} (h : PaI w g1 pa ma ps ms i wr) (j : Ins) : PaI w g1 pa ma ps ms j (wr.setRow g1 (insCells j)) := by
  have h1 := h.lt1
  refine ⟨?_, setRow_heap _ _ _ _ _ _ h.ins, sl_setRow h.par _ _ h.np, sl_setRow h.num _ _ h.nm, below_setRow h.below (by omega) _, h1, h.np, h.nm⟩
  rw [setRow_other _ _ _ _ (by omega)]
  exact h.res

theorem PaI.cells {w : World} {g1 : Nat} {pa ma : Option Addr} {ps ms : List Int} {i : Ins} {wr : World} (h : PaI w g1 pa ma ps ms i wr) :
    wr.cell? ⟨g1, 0, none⟩ = some (.int .i64 i.op) ∧ wr.cell? ⟨g1, 1, none⟩ = some (.int .i64 i.rd) ∧ wr.cell? ⟨g1, 2, none⟩ = some (.int .i64 i.a) ∧ wr.cell? ⟨g1, 3, none⟩ = some (.int .i64 i.b) ∧ wr.cell? ⟨g1, 4, none⟩ = some (.int .i64 i.imm) := ins_row h.ins

def okSt : RdSt → Prop
  | .name _ _ => True
  | .ahead _ _ ms => ∀ x ∈ ms, (Lit.int .i64 x).wf = true
  | .num _ _ _ ms _ _ => ∀ x ∈ ms, (Lit.int .i64 x).wf = true

theorem wf_w64 (x : Int) : (Lit.int .i64 (wrap64 x)).wf = true := wf_i64 (by unfold wrap64; omega) (by unfold wrap64; omega)

theorem wf_snoc {ms : List Int} (h : ∀ x ∈ ms, (Lit.int .i64 x).wf = true) (y : Int) : ∀ x ∈ ms ++ [wrap64 y], (Lit.int .i64 x).wf = true := by
  intro x hx
  rcases List.mem_append.1 hx with hx | hx
  · exact h x hx
  · simp only [List.mem_cons, List.not_mem_nil, or_false] at hx
    rw [hx]; exact wf_w64 y

theorem rdNum_ok {r : Int} {rem ns ms : List Int} {sign acc : Int} (h : ∀ x ∈ ms, (Lit.int .i64 x).wf = true) : (∀ s, rdNum r rem ns ms sign acc = .inl s → okSt s) ∧ (∀ ns' ms', rdNum r rem ns ms sign acc = .inr (some (ns', ms')) → ∀ x ∈ ms', (Lit.int .i64 x).wf = true) := by
  unfold rdNum
  constructor
  · intro s hs
    split at hs
    · rw [← Sum.inl.inj hs]; exact h
    · split at hs
      · rw [← Sum.inl.inj hs]; exact wf_snoc h _
      · split at hs <;> cases hs
  · intro ns' ms' hs
    split at hs
    · cases hs
    · split at hs
      · cases hs
      · split at hs
        · have := Option.some.inj (Sum.inr.inj hs)
          simp only [Prod.mk.injEq] at this
          rw [← this.2]; exact wf_snoc h _
        · have := Sum.inr.inj hs; cases this

theorem rdAhead_ok {rem ns ms : List Int} (h : ∀ x ∈ ms, (Lit.int .i64 x).wf = true) : (∀ s, rdAhead rem ns ms = .inl s → okSt s) ∧ (∀ ns' ms', rdAhead rem ns ms = .inr (some (ns', ms')) → ∀ x ∈ ms', (Lit.int .i64 x).wf = true) := by
  unfold rdAhead
  split
  · exact rdNum_ok h
  · split
    · exact rdNum_ok h
    · exact rdNum_ok h

theorem rdStep_ok {s : RdSt} (h : okSt s) : (∀ s', rdStep s = .inl s' → okSt s') ∧ (∀ ns' ms', rdStep s = .inr (some (ns', ms')) → ∀ x ∈ ms', (Lit.int .i64 x).wf = true) := by
  cases s with
  | name rem ns =>
    show (∀ s', rdName rem ns = .inl s' → okSt s') ∧ (∀ ns' ms', rdName rem ns = .inr (some (ns', ms')) → ∀ x ∈ ms', (Lit.int .i64 x).wf = true)
    unfold rdName
    split
    · refine ⟨fun s' hs => (by cases hs), fun ns' ms' hs => ?_⟩
      have := Option.some.inj (Sum.inr.inj hs)
      simp only [Prod.mk.injEq] at this
      rw [← this.2]; simp
    · split
      · exact rdAhead_ok (by simp)
      · exact ⟨fun s' hs => (by rw [← Sum.inl.inj hs]; trivial), fun _ _ hs => (by cases hs)⟩
  | ahead rem ns ms => exact rdAhead_ok h
  | num r rem ns ms sign acc => exact rdNum_ok h

theorem runs_wf {s : RdSt} {r : RdRes} (h : Runs s r) (hs : okSt s) : ∀ ns ms, r = some (ns, ms) → ∀ x ∈ ms, (Lit.int .i64 x).wf = true := by
  induction h with
  | stop e => intro ns ms hr; rw [hr] at e; exact (rdStep_ok hs).2 ns ms e
  | go e k ih => exact ih ((rdStep_ok hs).1 _ e)

theorem if_wanted {b : Bool} {p q : Prop} (hb : b = true) (h : p) : if b = true then p else q := by rw [if_pos hb]; exact h

theorem form_none : formOf 0 = ⟨#[]⟩ := by decide

set_option maxRecDepth 20000 in
set_option maxHeartbeats 6400000 in
theorem parseBy_any (s : ByteArray) (hs : s.size ≤ 1048576) (w : World) (bm : Nat) (hO : OpsAt w bm) (hT : Tp w) :
    Calls Tryd.prog 21 #[.map (some bm), .string s] w fun e w' => ∃ i t, e = .returned (.tuple #[i.val, .bool t]) ∧ PR s.data.toList i t ∧ Below w.heap.size w w' := by
  obtain ⟨L, hL0⟩ : ∃ L, L = s.data.toList := ⟨_, rfl⟩
  rw [← hL0]
  have HLs : Hid (L = s.data.toList) := hL0
  have HRL : Hid (∀ j, shText j = L → runesL s = u8i L) := by
    intro j hj
    have := runesL_low s (by rw [← hL0, ← hj]; exact low_text j)
    rw [this, hL0]
  have HR0 : Hid ((w.alloc (.cells #[.int .i64 0, .int .i64 0, .int .i64 0, .int .i64 0, .int .i64 0] 30 (0, 0))).heap[w.heap.size]? = some (.cells #[.int .i64 0, .int .i64 0, .int .i64 0, .int .i64 0, .int .i64 0] 30 (0, 0))) := heap_alloc_new _ _
  have HOp : Hid (OpsAt w bm) := hO
  have HTp : Hid (Tp w) := hT
  clear hL0 hO hT
  go_enter Tryd.func21, Tryd.ntmps21
  go_wp2_with fail
  refine (readLine_any s hs _).mono ?_
  rintro e w1 ⟨res, hrun, hb1, hres⟩
  have hrun0 := hrun
  have HRUN : Hid (Runs (.name (runesL s) []) res) := hrun
  have HJ : Hid (∀ j, IW j → (encS j).2 = true → shText j = L → res = some (u8i (nameOf j.op).data.toList, (shParts (rowOp j.op).fm).map (getP j))) := by
    intro j hj he ht
    rw [HRL.out j ht, ← ht] at hrun
    exact hrun.same (text_run (encOk he))
  have HR1 : Hid (_ = _) := row_keep HR0.out hb1
  have HB1 : Hid (Below w.heap.size w w1) := below_trans ((Below.refl _ _).alloc (Nat.le_refl _) _) hb1
  have HO1 : Hid (OpsAt w1 bm) := HOp.out.keep HB1.out
  have hsz0 : (w.alloc (.cells #[.int .i64 0, .int .i64 0, .int .i64 0, .int .i64 0, .int .i64 0] 30 (0, 0))).heap.size = w.heap.size + 1 := by simp
  clear hrun hb1 HRL HR0 HOp
  obtain ⟨clock, hmap⟩ := HO1.out
  have HMW0 : Hid (∀ ns ms, res = some (ns, ms) → ∀ x ∈ ms, (Lit.int .i64 x).wf = true) := fun ns ms h => runs_wf hrun0 (by trivial) ns ms h
  clear hrun0
  rcases hres with ⟨rfl, rfl⟩ | ⟨ns, ms, mv, rfl, rfl, hms⟩
  · have LK : Hid _ := run_opsLookup w1 bm clock ⟨#[]⟩ hmap
    rw [no_name] at LK
    have HPR : Hid (PR L noIns false) := by
      refine Or.inr ⟨rfl, rfl, fun j hj he ht => ?_⟩
      exact absurd (HJ.out j hj he ht) (by simp)
    clear HJ hmap HO1
    go_wp2_with (refine wpList_lookS LK rfl _ _ rfl rfl rfl ?_)
    refine (implForm_any 0 (by decide) _).mono ?_
    rintro e w2 ⟨rfl, hb2⟩
    rw [form_none]
    have HR2 : Hid (_ = _) := row_keep HR1.out hb2
    have HB2 : Hid (Below w.heap.size w w2) := below_trans HB1.out hb2
    clear hb2
    go_wp2_with fail
    refine (partsOf_none _).mono ?_
    rintro e w3 ⟨rfl, hw3⟩
    have hw3' := hw3.symm
    subst hw3'
    go_wp2_with (refine wpList_store_rowTo rfl 30 (.tmp 4) (.tmp 43) rfl rfl w.heap.size #[.int .i64 0, .int .i64 0, .int .i64 0, .int .i64 0, .int .i64 0] rfl rfl 30 _ HR2.out inst_size rfl (inst_one _ _ _ _ _) ?_)
    refine bodyPost_ret (results_row2 Tryd.results21 _ _ _ _ _ _ _ rfl (setRow_heap _ _ _ #[.int .i64 0, .int .i64 0, .int .i64 0, .int .i64 0, .int .i64 0] _ _ HR2.out) Tryd.underlying30 rfl inst_size) rfl ⟨noIns, false, rfl, HPR.out, below_setRow HB2.out (Nat.le_refl _) _⟩
  · obtain ⟨N, hN⟩ : ∃ N, N = runesBytes ns := ⟨_, rfl⟩
    rw [← hN]
    have LK : Hid _ := run_opsLookup w1 bm clock N hmap
    have HFN : Hid (∀ j, IW j → (encS j).2 = true → shText j = L → findName N 98 0 = j.op ∧ ms = (shParts (rowOp j.op).fm).map (getP j)) := by
      intro j hj he ht
      have h1 := Option.some.inj (HJ.out j hj he ht)
      simp only [Prod.mk.injEq] at h1
      refine ⟨?_, h1.2⟩
      rw [hN, h1.1, runesBytes_low _ (low_name j.op)]
      have : (⟨(nameOf j.op).data.toList.toArray⟩ : ByteArray) = nameOf j.op := by apply ByteArray.ext; simp
      rw [this]
      exact name_op (encS_opB he)
    have HOB : Hid (findName N 98 0 = 0 ∨ opB (findName N 98 0) = true) := findName_op _ 98 0 rfl
    have HOE : Hid (L = [] → findName N 98 0 = 0) := by
      intro hL
      have hrs : runesL s = [] := by
        have hs0 : s.data.toList = [] := by rw [← HLs.out]; exact hL
        have := runesL_low s (by rw [hs0]; simp)
        rw [this, hs0]; rfl
      have h2 : Runs (.name (runesL s) []) (some ([], [])) := by
        rw [hrs]
        exact .stop (by show rdName _ _ = _; simp [rdName])
      have h3 := Option.some.inj (HRUN.out.same h2)
      simp only [Prod.mk.injEq] at h3
      rw [hN, h3.1]
      exact no_name
    obtain ⟨o, ho⟩ : ∃ o, o = findName N 98 0 := ⟨_, rfl⟩
    rw [← ho] at HFN HOB LK HOE
    clear HRUN
    rw [hsz0] at hms
    have HMW : Hid (∀ x ∈ ms, (Lit.int .i64 x).wf = true) := HMW0.out ns ms rfl
    clear HMW0
    have HMS : Hid (w1.ownsRow (w.heap.size + 1) 2 1 mv ms.length (ms.map (Value.int .i64))) := hms
    clear ho hN HJ hmap HO1 hsz0 hms
    by_cases hoz : o = 0
    · subst hoz
      have hk0 : ((0 : Int) != 0) = false := rfl
      rw [hk0] at LK
      have HPR : Hid (PR L noIns false) := by
        refine Or.inr ⟨rfl, rfl, fun j hj he ht => ?_⟩
        have h1 := (HFN.out j hj he ht).1
        have h2 : 1 ≤ j.op ∧ j.op ≤ 98 := of_decide_eq_true (encS_opB he)
        omega
      clear HFN HOB
      go_wp2_with (refine wpList_lookS LK rfl _ _ rfl rfl rfl ?_)
      refine (implForm_any 0 (by decide) _).mono ?_
      rintro e w2 ⟨rfl, hb2⟩
      rw [form_none]
      have HR2 : Hid (_ = _) := row_keep HR1.out hb2
      have HB2 : Hid (Below w.heap.size w w2) := below_trans HB1.out hb2
      clear hb2
      go_wp2_with fail
      refine (partsOf_none _).mono ?_
      rintro e w3 ⟨rfl, hw3⟩
      have hw3' := hw3.symm
      subst hw3'
      go_wp2_with (refine wpList_store_rowTo rfl 30 (.tmp 4) (.tmp 43) rfl rfl w.heap.size #[.int .i64 0, .int .i64 0, .int .i64 0, .int .i64 0, .int .i64 0] rfl rfl 30 _ HR2.out inst_size rfl (inst_one _ _ _ _ _) ?_)
      refine bodyPost_ret (results_row2 Tryd.results21 _ _ _ _ _ _ _ rfl (setRow_heap _ _ _ #[.int .i64 0, .int .i64 0, .int .i64 0, .int .i64 0, .int .i64 0] _ _ HR2.out) Tryd.underlying30 rfl inst_size) rfl ⟨noIns, false, rfl, HPR.out, below_setRow HB2.out (Nat.le_refl _) _⟩
    · have hk0 : (o != 0) = true := by simpa using hoz
      rw [hk0] at LK
      have hob : opB o = true := HOB.out.resolve_left hoz
      have hob2 : 1 ≤ o ∧ o ≤ 98 := of_decide_eq_true hob
      have HOW : Hid ((Lit.int .i64 o).wf = true) := wf_i64 (by omega) (by omega)
      have HFO : Hid (formOf o = (rowOp o).fm.str) := formOf_true hob
      obtain ⟨f, hf⟩ : ∃ f, f = (rowOp o).fm := ⟨_, rfl⟩
      rw [← hf] at HFO
      have HFm : Hid (f = (rowOp o).fm) := hf
      have HO0 : Hid (o ≠ 0) := hoz
      clear hf HOB hob hob2 hoz hk0
      go_wp2_with (refine wpList_lookS LK rfl _ _ rfl rfl rfl ?_)
      refine (implForm_any o HOW.out _).mono ?_
      rintro e w2 ⟨rfl, hb2⟩
      rw [HFO.out]
      have HR2 : Hid (_ = _) := row_keep HR1.out hb2
      have HB2 : Hid (Below w.heap.size w w2) := below_trans HB1.out hb2
      have HM2 : Hid (w2.ownsRow (w.heap.size + 1) 2 1 mv ms.length (ms.map (Value.int .i64))) := ownsRow_below HMS.out hb2
      clear hb2 HMS HR1 HB1 LK
      go_wp2_with fail
      refine (partsOf_any f _).mono ?_
      rintro e w3 ⟨pa, rfl, HSl, hb3⟩
      have HR3 : Hid (_ = _) := row_keep HR2.out hb3
      have HB3 : Hid (Below w.heap.size w w3) := below_trans HB2.out hb3
      have HM3 : Hid (w3.ownsRow (w.heap.size + 1) 2 1 mv ms.length (ms.map (Value.int .i64))) := ownsRow_below HM2.out hb3
      clear hb3 HR2 HB2 HM2
      obtain ⟨n, hn0⟩ : ∃ n, n = (shParts f).length := ⟨_, rfl⟩
      have HZ : Hid (n = (shParts f).length) := hn0
      have hF4 : n ≤ 4 := by rw [hn0]; exact shParts_len f
      rw [← hn0]
      clear hn0
      obtain ⟨ma, mc, hmv⟩ : ∃ ma mc, mv = .slice ma ms.length mc := by
        rcases HM3.out.2 with ⟨e1, e0⟩ | ⟨g, cap, cur, e1, _⟩
        · exact ⟨none, 0, by rw [e1, e0]⟩
        · exact ⟨_, _, e1⟩
      subst hmv
      have HSm : Hid (Sl .i64 w3 ma ms) := own_sl' HM3.out
      obtain ⟨q, hq⟩ : ∃ q, q = ms.length := ⟨_, rfl⟩
      have HQ : Hid (q = ms.length) := hq
      rw [← hq]
      clear hq HM3
      by_cases hlen : q = n
      · have hne : ((q : Int) != (n : Int)) = false := by simp; omega
        obtain ⟨g1, hg1⟩ : ∃ g1, g1 = w3.heap.size := ⟨_, rfl⟩
        have HP3 : Hid (PaI w g1 pa ma (shInts f) ms ⟨o, 0, 0, 0, 0⟩ (w3.alloc (.cells #[.int .i64 o, .int .i64 0, .int .i64 0, .int .i64 0, .int .i64 0] 30 (0, 0)))) := by
          have hba : Below w3.heap.size w3 (w3.alloc (.cells #[.int .i64 o, .int .i64 0, .int .i64 0, .int .i64 0, .int .i64 0] 30 (0, 0))) := (Below.refl _ _).alloc (Nat.le_refl _) _
          refine ⟨row_keep HR3.out hba, by rw [hg1]; exact heap_alloc_new _ _, HSl.out.below hba, HSm.out.below hba, below_trans HB3.out hba, by rw [hg1]; exact row_lt' HR3.out, ?_, ?_⟩
          · intro a ha h0
            obtain ⟨b, off, e, hlt, _⟩ := HSl.out 0 h0
            rw [ha] at e
            rw [Option.some.inj e]
            show b ≠ g1
            omega
          · intro a ha h0
            obtain ⟨b, off, e, hlt, _⟩ := HSm.out 0 h0
            rw [ha] at e
            rw [Option.some.inj e]
            show b ≠ g1
            omega
        clear HR3 HB3 HSl HSm
        go_wp2_with fail
        rw [← hg1]
        clear hg1
        go_loopw [48] (fun kv wr => ∃ (k : Nat) (i : Ins), kv = .int .i64 k ∧ k ≤ n ∧ Hid (PaI w g1 pa ma (shInts f) ms i wr) ∧ Hid (IW i ∧ i.op = o) ∧ Hid (∀ j, IW j → (encS j).2 = true → shText j = L → i = fillP j ((shParts f).take k) ⟨o, 0, 0, 0, 0⟩))
          (fun kv _ => n - (intOf kv).toNat)
        case atStart => exact ⟨0, ⟨o, 0, 0, 0, 0⟩, rfl, by omega, HP3, (⟨⟨HOW.out, rfl, rfl, rfl, rfl⟩, rfl⟩ : _ ∧ _), (fun j _ _ _ => rfl : ∀ j, _)⟩
        case round =>
          obtain ⟨k, i, rfl, hk, hP, hI, HFILL⟩ := hrel
          clear HP3
          by_cases hlt : k < n
          · have hk4 : k < (shParts f).length := by rw [← HZ.out]; exact hlt
            obtain ⟨p, hp, hpc, htk⟩ := shParts_at f k hk4
            obtain ⟨pg, poff, hpa, hpl, hpcell⟩ := hP.out.par k (by simpa [shInts] using hk4)
            have hpv : (shInts f).getD k 0 = (p : Int) := by simp [shInts, List.getD, hp]
            rw [hpv] at hpcell
            obtain ⟨mg, moff, hma, hml, hmcell⟩ := hP.out.num k (by rw [← HQ.out]; omega)
            obtain ⟨x, hx⟩ : ∃ x, x = ms.getD k 0 := ⟨_, rfl⟩
            rw [← hx] at hmcell
            subst hpa hma
            have hxw : (Lit.int .i64 x).wf = true := by
              rw [hx]
              have hkm : k < ms.length := by rw [← HQ.out]; omega
              have : ms.getD k 0 ∈ ms := by
                rw [List.getD, List.getElem?_eq_getElem hkm]
                exact List.getElem_mem hkm
              exact HMW.out _ this
            have HF2 : Hid (∀ j, IW j → (encS j).2 = true → shText j = L → setP i p x = fillP j ((shParts f).take (k + 1)) ⟨o, 0, 0, 0, 0⟩) := by
              intro j hj he ht
              obtain ⟨h2, h3⟩ := HFN.out j hj he ht
              have hxx : x = getP j p := by
                rw [hx, h3, ← h2, ← HFm.out, List.getD, List.getElem?_map, hp]
                rfl
              rw [htk, fillP_snoc, ← HFILL.out j hj he ht, hxx]
            have HI2 : Hid (IW (setP i p x) ∧ (setP i p x).op = o) := ⟨hI.out.1.set p hxw, by rw [setP_op]; exact hI.out.2⟩
            have HC : Hid (∀ W : World, Calls Tryd.prog 45 #[.agg #[.int .i64 i.op, .int .i64 i.rd, .int .i64 i.a, .int .i64 i.b, .int .i64 i.imm], .int .i64 p, .int .i64 x] W fun e w' => e = .returned (.agg #[.int .i64 (setP i p x).op, .int .i64 (setP i p x).rd, .int .i64 (setP i p x).a, .int .i64 (setP i p x).b, .int .i64 (setP i p x).imm]) ∧ Below W.heap.size W w') := fun W => withPart_any i p hpc x W
            have HPUT : Hid (∀ wx, PaI w g1 (some ⟨pg, poff, none⟩) (some ⟨mg, moff, none⟩) (shInts f) ms i wx → PaI w g1 (some ⟨pg, poff, none⟩) (some ⟨mg, moff, none⟩) (shInts f) ms (setP i p x) (wx.setRow g1 #[.int .i64 (setP i p x).op, .int .i64 (setP i p x).rd, .int .i64 (setP i p x).a, .int .i64 (setP i p x).b, .int .i64 (setP i p x).imm])) := fun wx hx => hx.put (setP i p x)
            obtain ⟨y0, y1, y2, y3, y4, hy⟩ : ∃ y0 y1 y2 y3 y4 : Int, (#[.int .i64 (setP i p x).op, .int .i64 (setP i p x).rd, .int .i64 (setP i p x).a, .int .i64 (setP i p x).b, .int .i64 (setP i p x).imm] : Array Value) = #[.int .i64 y0, .int .i64 y1, .int .i64 y2, .int .i64 y3, .int .i64 y4] := ⟨_, _, _, _, _, rfl⟩
            rw [hy] at HC HPUT
            obtain ⟨c0, c1, c2, c3, c4⟩ := hP.out.cells
            clear hxw hx hpv hp hpc htk HFILL hI hy hpl hml
            go_wp2_with fail
            refine wp_region_K 6 (fun w' => w'.cell? ⟨g1, 0, none⟩ = some (.int .i64 i.op) ∧ w'.cell? ⟨g1, 1, none⟩ = some (.int .i64 i.rd) ∧ w'.cell? ⟨g1, 2, none⟩ = some (.int .i64 i.a) ∧ w'.cell? ⟨g1, 3, none⟩ = some (.int .i64 i.b) ∧ w'.cell? ⟨g1, 4, none⟩ = some (.int .i64 i.imm) ∧ w'.cell? ⟨mg, moff + k, none⟩ = some (.int .i64 x)) (by kernel_rfl) (⟨c0, c1, c2, c3, c4, hmcell⟩) (fun hHeld => ?_)
            refine wpAnyK_take (i := 0) (oi := { dst := some 53, op := _, type := _, pos := _, after := _, guard := _ }) (v := .agg #[.int .i64 i.op, .int .i64 i.rd, .int .i64 i.a, .int .i64 i.b, .int .i64 i.imm]) rfl (by kernel_rfl) (by kernel_rfl) (by kernel_rfl) (by kernel_rfl) (fun _ _ _ h => h) (Or.inl ⟨by rfl, ?_⟩) (by assumption) ?_
            · rintro w' ⟨s0, s1, s2, s3, s4, s5⟩
              go_simp
            simp only [Act.put, List.setIfInBounds_toArray, List.set_cons_zero, List.set_cons_succ]
            refine wpAnyK_take (i := 1) (oi := { dst := some 54, op := _, type := _, pos := _, after := _, guard := _ }) (v := .int .i64 p) rfl (by kernel_rfl) (by kernel_rfl) (by kernel_rfl) (by kernel_rfl) (fun _ _ _ h => h) (Or.inl ⟨by rfl, ?_⟩) (by assumption) ?_
            · rintro w' ⟨s0, s1, s2, s3, s4, s5⟩
              go_simp
            simp only [Act.put, List.setIfInBounds_toArray, List.set_cons_zero, List.set_cons_succ]
            refine wpAnyK_takeP (i := 2) (oi := { dst := some 55, op := _, type := _, pos := _, after := _, guard := _ }) (v := .slice (some ⟨mg, moff, none⟩) n mc) rfl (by kernel_rfl) (by kernel_rfl) (by kernel_rfl) (by decide) (fun _ _ _ h => h) (Or.inl ⟨by rfl, ?_⟩) (by assumption) ?_
            · intro w'
              go_simp
            simp only [Act.put, List.setIfInBounds_toArray, List.set_cons_zero, List.set_cons_succ]
            refine wpAnyK_takeP (i := 3) (oi := { dst := some 56, op := _, type := _, pos := _, after := _, guard := _ }) (v := .int .i64 k) rfl (by kernel_rfl) (by kernel_rfl) (by kernel_rfl) (by decide) (fun _ _ _ h => h) (Or.inl ⟨by rfl, ?_⟩) (by assumption) ?_
            · intro w'
              go_simp
            simp only [Act.put, List.setIfInBounds_toArray, List.set_cons_zero, List.set_cons_succ]
            refine wpAnyK_takeP (i := 4) (oi := { dst := some 57, op := _, type := _, pos := _, after := _, guard := _ }) (v := .pointer (some ⟨mg, moff + k, none⟩)) rfl (by kernel_rfl) (by kernel_rfl) (by kernel_rfl) (by decide) (fun _ _ _ h => h) (Or.inl ⟨by rfl, ?_⟩) (by assumption) ?_
            · intro w'
              go_simp
            simp only [Act.put, List.setIfInBounds_toArray, List.set_cons_zero, List.set_cons_succ]
            refine wpAnyK_take (i := 5) (oi := { dst := some 58, op := _, type := _, pos := _, after := _, guard := _ }) (v := .int .i64 x) rfl (by kernel_rfl) (by kernel_rfl) (by kernel_rfl) (by kernel_rfl) (fun _ _ _ h => h) (Or.inl ⟨by rfl, ?_⟩) (by assumption) ?_
            · rintro w' ⟨s0, s1, s2, s3, s4, s5⟩
              go_simp
            simp only [Act.put, List.setIfInBounds_toArray, List.set_cons_zero, List.set_cons_succ]
            refine wpAnyK_end (o := { dst := some 59, op := _, type := _, pos := _, after := _, guard := _ }) rfl (by kernel_rfl) (fun K hK => ?_)
            go_simp
            refine (HC.out _).mono ?_
            rintro e w5 ⟨rfl, hb5⟩
            have HP5 : Hid (PaI w g1 (some ⟨pg, poff, none⟩) (some ⟨mg, moff, none⟩) (shInts f) ms i w5) := hP.out.keep (below_trans (Below.refl _ _).drew hb5)
            clear hb5 hP hHeld c0 c1 c2 c3 c4 hmcell hpcell
            refine hK.out _ _ ?_
            clear hK
            refine wpAny_one (i := 7) (o := { dst := none, op := _, type := _, pos := _, after := _, guard := _ }) rfl (by kernel_rfl) (fun K hK => ?_)
            refine if_wanted (by kernel_rfl) ?_
            refine wp_store_row 30 (.tmp 12) (.tmp 59) rfl g1 #[.int .i64 y0, .int .i64 y1, .int .i64 y2, .int .i64 y3, .int .i64 y4] rfl rfl 30 _ HP5.out.ins inst_size rfl (inst_one _ _ _ _ _) ?_
            have HP6 : Hid (PaI w g1 (some ⟨pg, poff, none⟩) (some ⟨mg, moff, none⟩) (shInts f) ms (setP i p x) (w5.setRow g1 #[.int .i64 y0, .int .i64 y1, .int .i64 y2, .int .i64 y3, .int .i64 y4])) := HPUT.out _ HP5.out
            obtain ⟨w6, hw6⟩ : ∃ w6, w6 = w5.setRow g1 #[.int .i64 y0, .int .i64 y1, .int .i64 y2, .int .i64 y3, .int .i64 y4] := ⟨_, rfl⟩
            rw [← hw6] at HP6 ⊢
            clear hw6 HP5 HPUT HC
            refine hK.out _ _ ?_
            clear hK
            refine wpAny_done (by kernel_rfl) ?_ _
            go_wp2_with fail
            go_roundw
            case rel => exact ⟨k + 1, setP i p x, by go_num, by omega, HP6, HI2, HF2⟩
            case measure => simp [intOf]; omega
          · have hk2 : k = (shParts f).length := by rw [← HZ.out]; omega
            have HFI : Hid (∀ j, IW j → (encS j).2 = true → shText j = L → i = j) := by
              intro j hj he ht
              rw [HFILL.out j hj he ht, hk2, List.take_length, HFm.out]
              have h3 := (HFN.out j hj he ht).1
              rw [h3]
              exact (encOk he).fill
            obtain ⟨Sh, hSh⟩ : ∃ Sh : ByteArray, Sh = ⟨(showL i).toArray⟩ := ⟨_, rfl⟩
            have HSC : Hid (∀ W : World, Tp W → Calls Tryd.prog 10 #[.agg #[.int .i64 i.op, .int .i64 i.rd, .int .i64 i.a, .int .i64 i.b, .int .i64 i.imm]] W fun e w' => e = .returned (.string Sh) ∧ Below W.heap.size W w') := fun W hW => by rw [hSh]; exact implShow_any i hI.out.1 W hW
            obtain ⟨c0, c1, c2, c3, c4⟩ := hP.out.cells
            have HQ2 : Hid (∀ b, (Sh.toList != s.toList) = b → b = decide (showL i ≠ L)) := by
              intro b hb
              rw [← hb, Go.ByteArray.toList_eq, Go.ByteArray.toList_eq, ← HLs.out, hSh]
              show (showL i != L) = _
              by_cases h : showL i = L <;> simp [h]
            clear hSh hk2 HFILL
            cases hq : (Sh.toList != s.toList) with
            | true =>
              have HPR : Hid (PR L noIns false) := by
                refine Or.inr ⟨rfl, rfl, fun j hj he ht => ?_⟩
                have h1 := HQ2.out _ hq
                have h2 := HFI.out j hj he ht
                have h3 : showL i = L := by rw [h2, showL, if_pos he]; exact ht
                rw [decide_eq_false (by simp [h3])] at h1
                cases h1
              have hq2 : (Sh.toList == s.toList) = false := by simpa [bne] using hq
              clear HQ2 HFI hq
              go_wp2_with fail
              refine (HSC.out _ (HTp.out.below hP.out.below)).mono ?_
              rintro e w5 ⟨rfl, hb5⟩
              have HP5 : Hid (PaI w g1 pa ma (shInts f) ms i w5) := hP.out.keep hb5
              clear hb5
              go_wp2_with (refine wpList_store_rowTo rfl 30 (.tmp 4) (.tmp 65) rfl rfl w.heap.size #[.int .i64 0, .int .i64 0, .int .i64 0, .int .i64 0, .int .i64 0] rfl rfl 30 _ HP5.out.res inst_size rfl (inst_one _ _ _ _ _) ?_)
              refine bodyPost_ret (results_row2 Tryd.results21 _ _ _ _ _ _ _ rfl (setRow_heap _ _ _ #[.int .i64 0, .int .i64 0, .int .i64 0, .int .i64 0, .int .i64 0] _ _ HP5.out.res) Tryd.underlying30 rfl inst_size) rfl ⟨noIns, false, rfl, HPR.out, below_setRow HP5.out.below (Nat.le_refl _) _⟩
            | false =>
              have HPR : Hid (PR L i true) := by
                have h1 := HQ2.out _ hq
                have h3 : showL i = L := by
                  by_cases h : showL i = L
                  · exact h
                  · rw [decide_eq_true h] at h1; cases h1
                cases he : (encS i).2 with
                | true => exact Or.inl ⟨rfl, hI.out.1, he, by rw [← h3, showL, if_pos he]⟩
                | false =>
                  rw [showL, he] at h3
                  exact absurd (HOE.out h3.symm) HO0.out
              have hq2 : (Sh.toList == s.toList) = true := by simpa [bne] using hq
              clear HQ2 HFI hq
              go_wp2_with fail
              refine (HSC.out _ (HTp.out.below hP.out.below)).mono ?_
              rintro e w5 ⟨rfl, hb5⟩
              have HP5 : Hid (PaI w g1 pa ma (shInts f) ms i w5) := hP.out.keep hb5
              clear hb5 c0 c1 c2 c3 c4
              obtain ⟨c0, c1, c2, c3, c4⟩ := HP5.out.cells
              go_wp2_with (refine wpList_store_rowTo rfl 30 (.tmp 4) (.tmp 66) rfl rfl w.heap.size #[.int .i64 i.op, .int .i64 i.rd, .int .i64 i.a, .int .i64 i.b, .int .i64 i.imm] rfl rfl 30 _ HP5.out.res inst_size rfl (inst_one _ _ _ _ _) ?_)
              refine bodyPost_ret (results_row2 Tryd.results21 _ _ _ _ _ _ _ rfl (setRow_heap _ _ _ #[.int .i64 i.op, .int .i64 i.rd, .int .i64 i.a, .int .i64 i.b, .int .i64 i.imm] _ _ HP5.out.res) Tryd.underlying30 rfl inst_size) rfl ⟨i, true, rfl, HPR.out, below_setRow HP5.out.below (Nat.le_refl _) _⟩
      · have hne : ((q : Int) != (n : Int)) = true := by simp; omega
        have HPR : Hid (PR L noIns false) := by
          refine Or.inr ⟨rfl, rfl, fun j hj he ht => ?_⟩
          obtain ⟨h2, h3⟩ := HFN.out j hj he ht
          apply hlen
          rw [HZ.out, HQ.out, HFm.out, h2, h3, List.length_map]
        clear HFN
        go_wp2_with (refine wpList_store_rowTo rfl 30 (.tmp 4) (.tmp 43) rfl rfl w.heap.size #[.int .i64 0, .int .i64 0, .int .i64 0, .int .i64 0, .int .i64 0] rfl rfl 30 _ HR3.out inst_size rfl (inst_one _ _ _ _ _) ?_)
        refine bodyPost_ret (results_row2 Tryd.results21 _ _ _ _ _ _ _ rfl (setRow_heap _ _ _ #[.int .i64 0, .int .i64 0, .int .i64 0, .int .i64 0, .int .i64 0] _ _ HR3.out) Tryd.underlying30 rfl inst_size) rfl ⟨noIns, false, rfl, HPR.out, below_setRow HB3.out (Nat.le_refl _) _⟩

theorem fillP_congr (i j : Ins) : ∀ (ps : List Nat) (x : Ins), ps.map (getP i) = ps.map (getP j) → fillP i ps x = fillP j ps x := by
  intro ps
  induction ps with
  | nil => intro x _; rfl
  | cons p ps ih =>
    intro x h
    simp only [List.map_cons, List.cons.injEq] at h
    show fillP i ps (setP x p (getP i p)) = fillP j ps (setP x p (getP j p))
    rw [h.1]
    exact ih _ h.2

theorem show_inj {i j : Ins} (hi : EncOk i) (hj : EncOk j) (h : shText i = shText j) : i = j := by
  have h1 := spl_text i
  rw [h, spl_text j] at h1
  simp only [List.cons.injEq] at h1
  have hn : nameOf i.op = nameOf j.op := ByteArray.ext (Array.toList_inj.1 h1.1.symm)
  have ho : i.op = j.op := by rw [← name_op hi.op, ← name_op hj.op, hn]
  have r1 := text_run hi
  rw [h] at r1
  have h2 := Option.some.inj (r1.same (text_run hj))
  simp only [Prod.mk.injEq] at h2
  have h3 := h2.2
  rw [ho] at h3
  rw [← hi.fill, ← hj.fill, ho]
  exact fillP_congr i j _ _ h3

theorem PR.same {L : List UInt8} {i j : Ins} {t u : Bool} (h : PR L i t) (k : PR L j u) : i = j ∧ t = u := by
  rcases h with ⟨rfl, h1, h2, h3⟩ | ⟨rfl, rfl, h1⟩
  · rcases k with ⟨rfl, k1, k2, k3⟩ | ⟨rfl, rfl, k1⟩
    · exact ⟨show_inj (encOk h2) (encOk k2) (h3.trans k3.symm), rfl⟩
    · exact absurd h3 (k1 i h1 h2)
  · rcases k with ⟨rfl, k1, k2, k3⟩ | ⟨rfl, rfl, k1⟩
    · exact absurd k3 (h1 j k1 k2)
    · exact ⟨rfl, rfl⟩

namespace fnExactParse

end fnExactParse

end Go.Proofs.YtjjpklalihaanaaDoor
