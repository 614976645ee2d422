/- What is known of an instruction that can be encoded: what its form doesn't show is 0, its numbers are small. -/
import Derived.Test.YtjjpklalihaanaaDoorShoP
import Derived.Test.YtjjpklalihaanaaDoorNumC
namespace Go.Proofs.YtjjpklalihaanaaDoor
open Go.RowKit
set_option linter.unusedVariables false

def setP (i : Ins) (p : Nat) (x : Int) : Ins :=
  match p with
  | 0 => { i with rd := x }
  | 1 => { i with a := x }
  | 2 => { i with b := x }
  | _ => { i with imm := x }

def getP (i : Ins) (p : Nat) : Int :=
  match p with
  | 0 => i.rd
  | 1 => i.a
  | 2 => i.b
  | _ => i.imm

/-- The numbers ps of j put into i. -/
def fillP (j : Ins) (ps : List Nat) (i : Ins) : Ins := ps.foldl (fun i p => setP i p (getP j p)) i

theorem fillP_snoc (j : Ins) (ps : List Nat) (p : Nat) (i : Ins) : fillP j (ps ++ [p]) i = setP (fillP j ps i) p (getP j p) := by
  simp [fillP]

theorem immU_bd (f : Fm) (x : Int) (h0 : 0 ≤ x) (h1 : x < 4294967296) : 0 ≤ immU f x ∧ immU f x < 4294967296 := by
  cases f <;> simp only [immU] <;> omega

theorem immV_bd (f : Fm) (x : Int) (h0 : 0 ≤ x) (h1 : x < 4294967296) : -4294967296 ≤ immV f x ∧ immV f x ≤ 4294967296 := by
  obtain ⟨g0, g1⟩ := immU_bd f x h0 h1
  unfold immV widen
  generalize immU f x = u at g0 g1
  cases f <;> simp only [Fm.width, Nat.reduceSub, Int.reducePow, IntKind.wrap_u64] <;> unfold wrap64 <;> omega

/-- What a form doesn't show is 0. -/
theorem insAt_fill (k : Nat) (x : Int) : fillP (insAt k x) (shParts (rowAt k).fm) ⟨(k : Int) + 1, 0, 0, 0, 0⟩ = insAt k x := by
  unfold insAt
  generalize (rowAt k).fm = f
  have hz : RowKit.wrap64 (widen 64 0) = 0 := widen64 0 (by decide) (by decide)
  cases f <;> simp [fillP, shParts, setP, getP, rdV, aV, bV, immV, immU, Fm.width, Fm.hasRd, Fm.hasA, Fm.hasB, hz]

/-- An instruction that can be encoded. -/
structure EncOk (j : Ins) : Prop where
  op : opB j.op = true
  fill : fillP j (shParts (rowOp j.op).fm) ⟨j.op, 0, 0, 0, 0⟩ = j
  reg : ∀ p, p = 0 ∨ p = 1 ∨ p = 2 → 0 ≤ getP j p ∧ getP j p ≤ 31
  num : ∀ p, -4294967296 ≤ getP j p ∧ getP j p ≤ 4294967296

theorem fld5 (x : Int) (k : Nat) : 0 ≤ fld x k 5 ∧ fld x k 5 ≤ 31 := by
  unfold fld
  have : (2 : Int) ^ 5 = 32 := by decide
  rw [this]
  omega

theorem encOk {j : Ins} (h : (encS j).2 = true) : EncOk j := by
  have ho := encS_opB h
  obtain ⟨y, hy⟩ : ∃ y, dec y = some j ∧ 0 ≤ y := by
    unfold encS at h
    split at h
    · rename_i hc
      simp only [Bool.and_eq_true, decide_eq_true_eq] at hc
      refine ⟨_, hc.2, ?_⟩
      have : 0 ≤ wordS j ∧ wordS j < 18446744073709551616 := by unfold wordS layS; split <;> exact bits_range _ _ _
      exact this.1
    · cases h
  obtain ⟨hy4, k, hk, hm, hj⟩ := dec_some hy.1
  have hop : j.op = (k : Int) + 1 := by rw [hj]; rfl
  have hrow : rowOp j.op = rowAt k := by rw [hj]; exact insAt_row k y
  refine ⟨ho, ?_, ?_, ?_⟩
  · rw [hrow, hop]
    have := insAt_fill k y
    rw [← hj] at this
    exact this
  · have h1 := rdV_bd (rowAt k).fm y
    have h2 := aV_bd (rowAt k).fm y
    have h3 := bV_bd (rowAt k).fm y
    rintro p (rfl | rfl | rfl)
    · show 0 ≤ j.rd ∧ j.rd ≤ 31
      rw [hj]; exact h1
    · show 0 ≤ j.a ∧ j.a ≤ 31
      rw [hj]; exact h2
    · show 0 ≤ j.b ∧ j.b ≤ 31
      rw [hj]; exact h3
  · have h1 := rdV_bd (rowAt k).fm y
    have h2 := aV_bd (rowAt k).fm y
    have h3 := bV_bd (rowAt k).fm y
    have h4 := immV_bd (rowAt k).fm y hy.2 hy4
    have e1 : j.rd = rdV (rowAt k).fm y := by rw [hj]; rfl
    have e2 : j.a = aV (rowAt k).fm y := by rw [hj]; rfl
    have e3 : j.b = bV (rowAt k).fm y := by rw [hj]; rfl
    have e4 : j.imm = immV (rowAt k).fm y := by rw [hj]; rfl
    intro p
    unfold getP
    split <;> omega

/-- What a text is parsed as: the instruction that is shown so, or none. -/
def PR (text : List UInt8) (i : Ins) (t : Bool) : Prop :=
  (t = true ∧ IW i ∧ (encS i).2 = true ∧ shText i = text) ∨ (t = false ∧ i = noIns ∧ ∀ j, IW j → (encS j).2 = true → shText j ≠ text)

theorem noBlank_digits (u : Nat) : (32 : UInt8) ∉ Lib.decDigits u := by
  intro h
  have h1 := (decDigits_dig u).1
  rw [List.all_eq_true] at h1
  have := h1 32 h
  simp [isDig] at this

theorem noBlank_itoa (x : Int) : (32 : UInt8) ∉ Lib.itoa x := by
  unfold Lib.itoa
  split
  · simp [noBlank_digits]
  · exact noBlank_digits _

theorem noBlank_part (i : Ins) (p : Nat) : (32 : UInt8) ∉ shPart i p := by
  unfold shPart
  split <;> simp [noBlank_itoa]

theorem noBlank_name (op : Int) : (32 : UInt8) ∉ (nameOf op).data.toList := by
  have h : (List.range 98).all (fun k => (rowAt k).name.data.toList.all (fun c => !(c == 32))) = true := by kernel_rfl
  unfold nameOf
  split
  · rename_i hb
    have h2 : 1 ≤ op ∧ op ≤ 98 := of_decide_eq_true hb
    have := List.all_eq_true.1 h (op - 1).toNat (by simp; omega)
    intro hm
    have := List.all_eq_true.1 this 32 hm
    simp at this
  · simp

theorem spl_word (l : List UInt8) (h : (32 : UInt8) ∉ l) : ∀ (cur rest : List UInt8), spl cur (l ++ rest) = spl (cur ++ l) rest := by
  induction l with
  | nil => intro cur rest; simp
  | cons c l ih =>
    intro cur rest
    have hc : c ≠ 32 := fun e => h (by rw [e]; simp)
    have hl : (32 : UInt8) ∉ l := fun e => h (by simp [e])
    rw [List.cons_append, spl, if_neg hc, ih hl]
    simp

theorem spl_tail (i : Ins) : ∀ (ps : List Nat) (cur : List UInt8), spl cur (shTail i ps) = cur :: ps.map (shPart i) := by
  intro ps
  induction ps with
  | nil => intro cur; simp [shTail, spl]
  | cons p ps ih =>
    intro cur
    rw [shTail, spl, if_pos rfl, spl_word _ (noBlank_part i p), ih]
    simp

/-- A shown text cut at its blanks. -/
theorem spl_text (i : Ins) : spl [] (shText i) = (nameOf i.op).data.toList :: (shParts (rowOp i.op).fm).map (shPart i) := by
  unfold shText
  rw [spl_word _ (noBlank_name i.op), spl_tail]
  simp

theorem nm_back : ∀ k, k < 98 → findName (rowAt k).name 98 0 = (k : Int) + 1 := by
  have h : (List.range 98).all (fun k => findName (rowAt k).name 98 0 == (k : Int) + 1) = true := by kernel_rfl
  intro k hk
  have := List.all_eq_true.1 h k (by simpa using hk)
  exact eq_of_beq this

theorem name_op {op : Int} (h : opB op = true) : findName (nameOf op) 98 0 = op := by
  have h2 : 1 ≤ op ∧ op ≤ 98 := of_decide_eq_true h
  obtain ⟨k, rfl⟩ : ∃ k : Nat, op = (k : Int) + 1 := ⟨(op - 1).toNat, by omega⟩
  have := nm_back k (by omega)
  unfold nameOf
  rw [h, if_pos rfl, show ((k : Int) + 1 - 1).toNat = k from by omega]
  exact this

/-- What is found is an operation's number, or 0. -/
theorem findName_op (s : ByteArray) : ∀ n k, n + k = 98 → findName s n k = 0 ∨ opB (findName s n k) = true := by
  intro n
  induction n with
  | zero => intro k _; exact Or.inl rfl
  | succ n ih =>
    intro k hk
    unfold findName
    split
    · right
      exact decide_eq_true ⟨by omega, by omega⟩
    · exact ih (k + 1) (by omega)

theorem wf_i64 {x : Int} (h0 : -9223372036854775808 ≤ x) (h1 : x ≤ 9223372036854775807) : (Lit.int .i64 x).wf = true := by
  have hmin : IntKind.i64.min = -9223372036854775808 := rfl
  have hmax : IntKind.i64.max = 9223372036854775807 := rfl
  simp only [Lit.wf, Bool.and_eq_true, decide_eq_true_eq]
  omega

theorem numL_bd {l : List UInt8} {n : Int} (h : numL l = some n) : -1000000000000000000 < n ∧ n < 1000000000000000000 := by
  unfold numL at h
  dsimp only at h
  generalize decide (l.head? = some 45) = neg at h
  generalize (if neg = true then l.tail else l) = ds at h
  by_cases hc : (decide (1 ≤ ds.length ∧ ds.length ≤ 18) && ds.all isDig && !(decide (ds.head? = some 48) && (neg || decide (1 < l.length)))) = true
  · rw [if_pos hc] at h
    simp only [Bool.and_eq_true, decide_eq_true_eq] at hc
    have := digVal_18 _ hc.1.2 hc.1.1.2
    have := Option.some.inj h
    split at this <;> omega
  · rw [if_neg hc] at h; cases h

theorem IW.set {i : Ins} (h : IW i) (p : Nat) {x : Int} (hx : (Lit.int .i64 x).wf = true) : IW (setP i p x) := by
  unfold setP
  split
  · exact ⟨h.1, hx, h.2.2.1, h.2.2.2.1, h.2.2.2.2⟩
  · exact ⟨h.1, h.2.1, hx, h.2.2.2.1, h.2.2.2.2⟩
  · exact ⟨h.1, h.2.1, h.2.2.1, hx, h.2.2.2.2⟩
  · exact ⟨h.1, h.2.1, h.2.2.1, h.2.2.2.1, hx⟩

theorem setP_op (i : Ins) (p : Nat) (x : Int) : (setP i p x).op = i.op := by unfold setP; split <;> rfl

/-- How a shown number reads: a register behind its x. -/
theorem part_reg {j : Ins} (h : EncOk j) (p : Nat) (hp : p = 0 ∨ p = 1 ∨ p = 2) : ∃ l, shPart j p = 120 :: l ∧ numL l = some (getP j p) := by
  have hb := h.reg p hp
  refine ⟨Lib.itoa (getP j p), ?_, numL_itoa _ (by omega) (by omega)⟩
  rcases hp with rfl | rfl | rfl <;> rfl

theorem part_imm {j : Ins} (h : EncOk j) : numL (shPart j 3) = some (getP j 3) := by
  have hb : -4294967296 ≤ j.imm ∧ j.imm ≤ 4294967296 := h.num 3
  exact numL_itoa j.imm (by omega) (by omega)

end Go.Proofs.YtjjpklalihaanaaDoor
