/- The walk of laws.FnExactEncode: at every Inst both answer the same, so the law returns true. -/
import Derived.Test.YtjjpklalihaanaaDoorEncS
import Derived.Test.YtjjpklalihaanaaDoorEncI
import Derived.Test.YtjjpklalihaanaaDoorEncB
namespace Go.Proofs.YtjjpklalihaanaaDoor.fnExactEncode
open Go.RowKit
set_option linter.unusedVariables false

theorem bareDoes : BareDoes := by
  intro i hx ho w
  have ho2 : 1 ≤ i.op ∧ i.op ≤ 98 := of_decide_eq_true ho
  obtain ⟨k, hk⟩ : ∃ k : Nat, i.op = (k : Int) + 1 := ⟨(i.op - 1).toNat, by omega⟩
  have hk2 : k < 98 := by omega
  have RK : rowOp i.op = rowAt k := by rw [hk]; simp [rowOp]
  rw [RK] at hx ⊢
  have hr := (bare_rows k hk2).1 hx
  obtain ⟨j, rfl⟩ : ∃ j, k = 92 + j := ⟨k - 92, by omega⟩
  have h := bareWord_any j (by omega) i.rd i.a i.b i.imm w
  have e : (j : Int) + 93 = i.op := by rw [hk]; omega
  have eb : (i.rd == 0 && i.a == 0 && i.b == 0 && i.imm == 0) = bareB i := by
    rw [Bool.eq_iff_iff]; simp [bareB, and_assoc]
  rw [e, eb] at h
  exact h

theorem bare_word : ∀ k, k < 98 → (rowAt k).fm = .x → dec (bitsI .x (rowAt k).op (rowAt k).f3z (rowAt k).more) = some ⟨(k : Int) + 1, 0, 0, 0, 0⟩ := by
  have h : (List.range 98).all (fun k => !decide ((rowAt k).fm = .x) || decide (dec (bitsI .x (rowAt k).op (rowAt k).f3z (rowAt k).more) = some ⟨(k : Int) + 1, 0, 0, 0, 0⟩)) = true := by kernel_rfl
  intro k hk hx
  have := List.all_eq_true.1 h k (by simpa using hk)
  simp [hx] at this
  exact this

/-- The program's answer is the model's. -/
theorem enc_eq (i : Ins) : encI i = encS i := by
  unfold encI encS
  cases ho : opB i.op with
  | false => simp
  | true =>
    have ho2 : 1 ≤ i.op ∧ i.op ≤ 98 := of_decide_eq_true ho
    obtain ⟨k, hk⟩ : ∃ k : Nat, i.op = (k : Int) + 1 := ⟨(i.op - 1).toNat, by omega⟩
    have hk2 : k < 98 := by omega
    have RK : rowOp i.op = rowAt k := by rw [hk]; simp [rowOp]
    have SR : 0 ≤ wordS i := by
      unfold wordS layS
      split <;> exact (bits_range _ _ _).1
    by_cases hx : (rowOp i.op).fm = .x
    · rw [if_pos rfl, if_pos hx]
      have hx2 := hx
      rw [RK] at hx2
      have hw := bare_word k hk2 hx2
      by_cases hb : bareB i = true
      · have hb2 := hb
        simp only [bareB, decide_eq_true_eq] at hb2
        have hi : i = ⟨(k : Int) + 1, 0, 0, 0, 0⟩ := by
          obtain ⟨a, b, c, d, e⟩ := i
          simp only at hb2 hk
          rw [hk, hb2.1, hb2.2.1, hb2.2.2.1, hb2.2.2.2]
        have hd := hw
        rw [← hi] at hd
        have h00 : 0 ≤ bitsI .x (rowAt k).op (rowAt k).f3z (rowAt k).more := (bits_range _ _ _).1
        obtain ⟨_, hreg, _, hws⟩ := dec_words h00 hd
        rw [if_pos hb, hreg, hws, RK, hd]
        simp
      · rw [if_neg hb]
        have hn : ¬ dec (wordS i) = some i := by
          intro h
          obtain ⟨_, k', hk', hm, hi⟩ := dec_some h
          apply hb
          have hkk : k' = k := by
            have : i.op = (k' : Int) + 1 := by rw [hi]; rfl
            omega
          subst hkk
          rw [hi]
          unfold bareB insAt
          rw [hx2]
          have : immV .x (wordS i) = 0 := widen64 0 (by omega) (by omega)
          simp [rdV, aV, bV, Fm.hasRd, Fm.hasA, Fm.hasB, this]
        simp [hn]
    · rw [if_pos rfl, if_neg hx]
      have IR : 0 ≤ wordI i := (layI_range _ _ _ _ i).1
      by_cases h : dec (wordI i) = some i
      · obtain ⟨_, hreg, _, hws⟩ := dec_words IR h
        rw [if_pos h, hreg, hws]
        simp [h]
      · have hn : ¬ dec (wordS i) = some i := by
          intro h2
          obtain ⟨_, _, hwi, _⟩ := dec_words SR h2
          apply h
          rw [hwi]; exact h2
        rw [if_neg h]
        simp [hn]

end Go.Proofs.YtjjpklalihaanaaDoor.fnExactEncode
