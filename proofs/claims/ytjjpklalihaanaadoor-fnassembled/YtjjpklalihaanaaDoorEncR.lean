/- Encode as plain functions: the program's answers and the model's are the same. -/
import Derived.Test.YtjjpklalihaanaaDoorEncQ
import Derived.OpenShut
namespace Go.Proofs.YtjjpklalihaanaaDoor
open Go.RowKit
set_option linter.unusedVariables false

theorem bits_range (op : BinOp) (a b : Int) : 0 ≤ bits op .u64 a b ∧ bits op .u64 a b < 18446744073709551616 := by
  have h := u64_bd (wf_bits op .u64 a b)
  omega

/-- Both layouts of what row k's word says are that word. -/
theorem lay_back (k : Nat) (hk : k < 98) (x : Int) (h0 : 0 ≤ x) (h1 : x < 4294967296) (hm : matchB k x = true) :
    layI (rowAt k).fm (rowAt k).op (rowAt k).f3z (rowAt k).more (insAt k x) = x ∧ layS (rowAt k).fm (rowAt k).op (rowAt k).f3 (rowAt k).more (insAt k x) = x := by
  have hr := rows_ok k hk
  unfold matchB at hm
  rw [decide_eq_true_iff] at hm
  unfold insAt
  generalize rowAt k = r at hr hm ⊢
  obtain ⟨nm, f, o, z, m⟩ := r
  simp only [rowOk, Bool.and_eq_true, decide_eq_true_eq] at hr
  obtain ⟨⟨b0, b1, b2, b3, b4⟩, hf⟩ := hr
  simp only [Row.f3z]
  cases f <;> simp only [matchP, decide_eq_true_eq, and_true] at hm hf
  case r => rw [if_neg (by omega)]; exact ⟨layI_r x h0 h1 o z m _ (by omega) (by omega) (by omega), layS_r x h0 h1 o z m _ (by omega) (by omega) (by omega)⟩
  case i => rw [if_neg (by omega)]; exact ⟨layI_i x h0 h1 o z m _ (by omega) (by omega) (by omega), layS_i x h0 h1 o z m _ (by omega) (by omega) (by omega)⟩
  case h => rw [if_neg (by omega)]; exact ⟨layI_h x h0 h1 o z m _ (by omega) (by omega) (by omega), layS_h x h0 h1 o z m _ (by omega) (by omega) (by omega)⟩
  case w => rw [if_neg (by omega)]; exact ⟨layI_w x h0 h1 o z m _ (by omega) (by omega) (by omega), layS_w x h0 h1 o z m _ (by omega) (by omega) (by omega)⟩
  case s => rw [if_neg (by omega)]; exact ⟨layI_s x h0 h1 o z m _ (by omega) (by omega) (by omega), layS_s x h0 h1 o z m _ (by omega) (by omega) (by omega)⟩
  case b => rw [if_neg (by omega)]; exact ⟨layI_b x h0 h1 o z m _ (by omega) (by omega) (by omega), layS_b x h0 h1 o z m _ (by omega) (by omega) (by omega)⟩
  case u => rw [if_pos (by omega)]; exact ⟨layI_u x h0 h1 o 0 m _ (by omega) rfl (by omega), layS_u x h0 h1 o z m _ (by omega) (by omega) (by omega)⟩
  case j => rw [if_pos (by omega)]; exact ⟨layI_j x h0 h1 o 0 m _ (by omega) rfl (by omega), layS_j x h0 h1 o z m _ (by omega) (by omega) (by omega)⟩
  case a => rw [if_neg (by omega)]; exact ⟨layI_a x h0 h1 o z m _ (by omega) (by omega) (by omega), layS_a x h0 h1 o z m _ (by omega) (by omega) (by omega)⟩
  case c => rw [if_neg (by omega)]; exact ⟨layI_c x h0 h1 o z m _ (by omega) (by omega) (by omega), layS_c x h0 h1 o z m _ (by omega) (by omega) (by omega)⟩
  case x => rw [if_neg (by omega)]; exact ⟨layI_x x h0 h1 o z m _ (by omega) (by omega) (by omega) (by omega), layS_x x h0 h1 o z m _ (by omega) (by omega) (by omega) (by omega)⟩

theorem findRow_some (x : Int) : ∀ n k j, findRow x n k = some j → k ≤ j ∧ j < k + n ∧ matchB j x = true := by
  intro n
  induction n with
  | zero => intro k j h; simp [findRow] at h
  | succ n ih =>
    intro k j h
    rw [findRow] at h
    split at h
    · rename_i hm
      simp at h
      subst h
      exact ⟨by omega, by omega, hm⟩
    · have := ih (k + 1) j h
      exact ⟨by omega, by omega, this.2.2⟩

theorem dec_some {x : Int} {i : Ins} (h : dec x = some i) : x < 4294967296 ∧ ∃ k, k < 98 ∧ matchB k x = true ∧ i = insAt k x := by
  unfold dec at h
  split at h
  · rename_i hx
    cases hf : findRow x 98 0 with
    | none => rw [hf] at h; simp at h
    | some k =>
      rw [hf] at h
      simp at h
      obtain ⟨h1, h2, h3⟩ := findRow_some x 98 0 k hf
      exact ⟨hx, k, by omega, h3, h.symm⟩
  · simp at h

/-- The row of an Op. -/
def rowOp (op : Int) : Row := rowAt (op - 1).toNat

def wordS (i : Ins) : Int := layS (rowOp i.op).fm (rowOp i.op).op (rowOp i.op).f3 (rowOp i.op).more i

def wordI (i : Ins) : Int := layI (rowOp i.op).fm (rowOp i.op).op (rowOp i.op).f3z (rowOp i.op).more i

/-- The registers are registers. -/
def regBe (i : Ins) : Bool := decide (0 ≤ i.rd ∧ i.rd ≤ 31) && decide (0 ≤ i.a ∧ i.a ≤ 31) && decide (0 ≤ i.b ∧ i.b ≤ 31)

/-- The model's answer. -/
def encS (i : Ins) : Int × Bool := if opB i.op && regBe i && decide (dec (wordS i) = some i) then (wordS i, true) else (0, false)

/-- An Inst that has an Op alone. -/
def bareB (i : Ins) : Bool := decide (i.rd = 0 ∧ i.a = 0 ∧ i.b = 0 ∧ i.imm = 0)

/-- The program's answer. -/
def encI (i : Ins) : Int × Bool :=
  if opB i.op then
    (if (rowOp i.op).fm = .x then (if bareB i then (bitsI .x (rowOp i.op).op (rowOp i.op).f3z (rowOp i.op).more, true) else (0, false))
    else if dec (wordI i) = some i then (wordI i, true) else (0, false))
  else (0, false)

theorem insAt_row (k : Nat) (x : Int) : rowOp (insAt k x).op = rowAt k := by
  simp [rowOp, insAt]

theorem rdV_bd (f : Fm) (x : Int) : 0 ≤ rdV f x ∧ rdV f x ≤ 31 := by
  have := fld_bd x 7 5
  unfold rdV; split <;> omega

theorem aV_bd (f : Fm) (x : Int) : 0 ≤ aV f x ∧ aV f x ≤ 31 := by
  have := fld_bd x 15 5
  unfold aV; split <;> omega

theorem bV_bd (f : Fm) (x : Int) : 0 ≤ bV f x ∧ bV f x ≤ 31 := by
  have := fld_bd x 20 5
  unfold bV; split <;> omega

theorem insAt_reg (k : Nat) (x : Int) : regBe (insAt k x) = true := by
  unfold regBe insAt
  rw [decide_eq_true (rdV_bd _ _), decide_eq_true (aV_bd _ _), decide_eq_true (bV_bd _ _)]
  rfl

/-- A word that is read has its own layout by both. -/
theorem dec_words {y : Int} {i : Ins} (h0 : 0 ≤ y) (h : dec y = some i) : opB i.op = true ∧ regBe i = true ∧ wordI i = y ∧ wordS i = y := by
  obtain ⟨h1, k, hk, hm, rfl⟩ := dec_some h
  have hb := lay_back k hk y h0 h1 hm
  refine ⟨?_, insAt_reg k y, ?_, ?_⟩
  · exact decide_eq_true ⟨by show (1 : Int) ≤ (k : Int) + 1; omega, by show (k : Int) + 1 ≤ 98; omega⟩
  · unfold wordI; rw [insAt_row]; exact hb.1
  · unfold wordS; rw [insAt_row]; exact hb.2

end Go.Proofs.YtjjpklalihaanaaDoor
