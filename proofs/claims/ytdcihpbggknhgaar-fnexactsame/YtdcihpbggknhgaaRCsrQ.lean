/- The program's state registers and the model's, in plain numbers: the same. -/
import Derived.Test.YtdcihpbggknhgaaRCsrV
import Derived.Test.YtdcihpbggknhgaaRBitP
namespace Go.Proofs.YtdcihpbggknhgaaR
open Go.RowKit
set_option linter.unusedVariables false

theorem bit11 : ∀ i, i < 64 → ∀ (p q : Bool) (o : Bool), (((if i = 0 then p else if i = 1 then q else o) && bt 924074 (i + 11)) && bt 3 i) = bt ((if p = true then 1 else 0) + (if q = true then 2 else 0)) i := by decide +kernel

theorem bit12 : ∀ i, i < 64 → ∀ (p q : Bool) (o : Bool), ((if i = 11 then p else if i = 12 then q else o) && bt 6144 i) = bt ((if p = true then 2048 else 0) + (if q = true then 4096 else 0)) i := by decide +kernel

theorem mst_eq (x : Int) (h : U x) : fitV .mst x = mst x := by
  have e1 : bits .and .u64 (bits .and .u64 x 924074 / 2048) 3 = (if bt x 11 = true then 1 else 0) + (if bt x 12 = true then 2 else 0) := by
    refine bt_ext _ _ (U_bits _ _ _) (by constructor <;> (cases bt x 11 <;> cases bt x 12 <;> decide)) fun i hi => ?_
    have hd := bt_div (bits .and .u64 x 924074) (U_bits _ _ _) 11 i
    rw [show ((2 : Int) ^ 11) = 2048 from by decide] at hd
    rw [bt_and, hd, bt_and, ← bit11 i hi (bt x 11) (bt x 12) (bt x (i + 11))]
    by_cases h0 : i = 0
    · subst h0; rfl
    · by_cases h1 : i = 1
      · subst h1; rfl
      · rw [if_neg h0, if_neg h1]
  have e2 : bits .and .u64 x 6144 = (if bt x 11 = true then 2048 else 0) + (if bt x 12 = true then 4096 else 0) := by
    refine bt_ext _ _ (U_bits _ _ _) (by constructor <;> (cases bt x 11 <;> cases bt x 12 <;> decide)) fun i hi => ?_
    rw [bt_and, ← bit12 i hi (bt x 11) (bt x 12) (bt x i)]
    by_cases h0 : i = 11
    · subst h0; rfl
    · by_cases h1 : i = 12
      · subst h1; rfl
      · rw [if_neg h0, if_neg h1]
  show (if (bits .and .u64 x 6144 == 4096) = true then bits .andNot .u64 (bits .and .u64 x 924074) 6144 else bits .and .u64 x 924074) = mst x
  unfold mst
  rw [e1, e2]
  cases bt x 11 <;> cases bt x 12 <;> rfl

theorem lit2 : ∀ i, i < 64 → ∀ a : Bool, (a && bt 18446744073709551613 i) = (a && !bt 2 i) := by decide +kernel

theorem lit3 : ∀ i, i < 64 → ∀ a : Bool, (a && bt 18446744073709551612 i) = (a && !bt 3 i) := by decide +kernel

theorem litAll : ∀ i, i < 64 → bt 18446744073709551615 i = true := by decide +kernel

theorem lit159 : ∀ i, i < 64 → ∀ a : Bool, ((decide (i < 8) && a) && bt 159 i) = (a && bt 159 i) := by decide +kernel

theorem not2 (x : Int) : bits .and .u64 x 18446744073709551613 = bits .andNot .u64 x 2 :=
  bt_ext _ _ (U_bits _ _ _) (U_bits _ _ _) fun i hi => by rw [bt_and, bt_andNot _ _ _ hi]; exact lit2 i hi _

theorem not3 (x : Int) : bits .and .u64 x 18446744073709551612 = bits .andNot .u64 x 3 :=
  bt_ext _ _ (U_bits _ _ _) (U_bits _ _ _) fun i hi => by rw [bt_and, bt_andNot _ _ _ hi]; exact lit3 i hi _

theorem and_all (x : Int) (h : U x) : bits .and .u64 x 18446744073709551615 = x :=
  bt_ext _ _ (U_bits _ _ _) h fun i hi => by rw [bt_and, litAll i hi, Bool.and_true]

theorem byte_eq (x : Int) (h : U x) (k : Nat) : byteI x k = cfgByte x k := by
  have e : bits .and .u64 (fld x (8 * k) 8) 159 = bits .and .u64 (x / 2 ^ (8 * k)) 159 :=
    bt_ext _ _ (U_bits _ _ _) (U_bits _ _ _) fun i hi => by
      rw [bt_and, bt_and, bt_fld x h _ _ _ (by omega), bt_div x h]; exact lit159 i hi _
  unfold byteI cfgByte
  rw [e]

theorem cfg_eq (x : Int) (h : U x) (k : Nat) : cfgI x k = cfgSum x k := by
  induction k with
  | zero => rfl
  | succ k ih => rw [cfgI, cfgSum, ih, byte_eq x h]

theorem fit_legal (x : Int) (h : U x) (k : Nat) (hk : k < 22) (h9 : k ≠ 9) (h15 : k ≠ 15) : fitV (ckAt k).2 x = legal k x := by
  have : k = 0 ∨ k = 1 ∨ k = 2 ∨ k = 3 ∨ k = 4 ∨ k = 5 ∨ k = 6 ∨ k = 7 ∨ k = 8 ∨ k = 10 ∨ k = 11 ∨ k = 12 ∨ k = 13 ∨ k = 14 ∨ k = 16 ∨ k = 17 ∨ k = 18 ∨ k = 19 ∨ k = 20 ∨ k = 21 := by omega
  rcases this with rfl | rfl | rfl | rfl | rfl | rfl | rfl | rfl | rfl | rfl | rfl | rfl | rfl | rfl | rfl | rfl | rfl | rfl | rfl | rfl
  · exact mst_eq x h
  · rfl
  · rfl
  · rfl
  · exact not2 x
  · exact and_all x h
  · exact not3 x
  · rfl
  · exact and_all x h
  · exact not2 x
  · exact and_all x h
  · exact not3 x
  · rfl
  · exact and_all x h
  · exact cfg_eq x h 4
  · rfl
  · rfl
  · rfl
  · rfl
  · exact and_all x h

theorem mode_eq (x : Int) (h : U x) : modeB x = ((x / 1152921504606846976 == 0) || (x / 1152921504606846976 == 8)) := by
  have e : fld x 60 4 = x / 1152921504606846976 := by
    unfold fld
    rw [show ((2 : Int) ^ 60) = 1152921504606846976 from by decide, show ((2 : Int) ^ 4) = 16 from by decide]
    have := h.1; have := h.2
    omega
  unfold modeB
  rw [e]

theorem ok_fit (x : Int) (h : U x) (k : Nat) (hk : k < 22) : (fitV (ckAt k).2 x == x) = okAt k x := by
  by_cases h9 : k = 9
  · subst h9; rfl
  · by_cases h15 : k = 15
    · subst h15
      show (fitV .satp x == x) = ((x / 1152921504606846976 == 0) || (x / 1152921504606846976 == 8))
      rw [← mode_eq x h]
      show ((if modeB x = true then x else 0) == x) = modeB x
      cases hm : modeB x with
      | true => simp
      | false =>
        have hx : x ≠ 0 := by
          rintro rfl
          revert hm
          decide
        simp only [Bool.false_eq_true, if_false, beq_eq_false_iff_ne]
        exact fun h => hx h.symm
    · rw [fit_legal x h k hk h9 h15]
      unfold okAt
      rw [if_neg h9, if_neg h15]

theorem fitsRest_eq (l : List Int) (hl : ∀ j, U (l.getD j 0)) : ∀ n k, k + n ≤ 22 → fitsRest l n k = okRest l n k := by
  intro n
  induction n with
  | zero => intro k _; rfl
  | succ n ih =>
    intro k hk
    rw [fitsRest, okRest, ok_fit _ (hl k) k (by omega), ih (k + 1) (by omega)]

theorem fitsOk_eq (m : Nat) (l : List Int) (hl : ∀ j, U (l.getD j 0)) : fitsOk m l = csrsOk m l := by
  unfold fitsOk csrsOk
  rw [fitsRest_eq l hl 22 0 (by omega)]

/-- The numbers that have a place. -/
def nums : List Int := [768, 770, 771, 772, 773, 832, 833, 834, 835, 836, 261, 320, 321, 322, 323, 384, 928, 944, 945, 946, 947, 2818, 256, 260, 324]

theorem ck_nums : ∀ k, k < 22 → (ckAt k).1 ∈ nums := by decide

theorem num_nums : ∀ k, k < 22 → csrNumbers.getD k 0 ∈ nums := by decide

theorem findV_none (n m : Int) (h : n ∉ nums) : ∀ f k, k + f ≤ 22 → findV n m f k = ⟨-1, 0, 0, 0, false⟩ := by
  intro f
  induction f with
  | zero => intro k _; rfl
  | succ f ih =>
    intro k hk
    have h1 : ((ckAt k).1 == n) = false := by
      rw [beq_eq_false_iff_ne]; intro e; exact h (e ▸ ck_nums k (by omega))
    have h2 : ((ckAt k).2.sees && (viewN (ckAt k).2 == n)) = false := by
      cases hc : (ckAt k).2 <;> first | rfl | (simp only [CK.sees, viewN, Bool.true_and, beq_eq_false_iff_ne]; intro e; apply h; rw [← e]; decide)
    rw [findV, if_neg (by rw [h1]; decide), if_neg (by rw [h2]; decide)]
    exact ih (k + 1) (by omega)

theorem findNum_none (n : Int) (h : n ∉ nums) : ∀ f k, k + f ≤ 22 → findNum n f k = -1 := by
  intro f
  induction f with
  | zero => intro k _; rfl
  | succ f ih =>
    intro k hk
    have h1 : (csrNumbers.getD k 0 == n) = false := by
      rw [beq_eq_false_iff_ne]; intro e; exact h (e ▸ num_nums k (by omega))
    rw [findNum, if_neg (by rw [h1]; decide)]
    exact ih (k + 1) (by omega)

theorem placeV_none (n : Int) (h : n ∉ nums) : placeV n = -1 := by
  unfold placeV
  rw [if_neg (fun e => h (by rw [e]; decide)), if_neg (fun e => h (by rw [e]; decide)), if_neg (fun e => h (by rw [e]; decide))]
  exact findNum_none n h 22 0 (by omega)

theorem nums_cases (n : Int) (h : n ∈ nums) : n = 768 ∨ n = 770 ∨ n = 771 ∨ n = 772 ∨ n = 773 ∨ n = 832 ∨ n = 833 ∨ n = 834 ∨ n = 835 ∨ n = 836 ∨ n = 261 ∨ n = 320 ∨ n = 321 ∨ n = 322 ∨ n = 323 ∨ n = 384 ∨ n = 928 ∨ n = 944 ∨ n = 945 ∨ n = 946 ∨ n = 947 ∨ n = 2818 ∨ n = 256 ∨ n = 260 ∨ n = 324 := by
  simpa [nums] using h

theorem place_eq (n m : Int) : (findV n m 22 0).at_ = placeV n := by
  by_cases h : n ∈ nums
  · rcases nums_cases n h with rfl | rfl | rfl | rfl | rfl | rfl | rfl | rfl | rfl | rfl | rfl | rfl | rfl | rfl | rfl | rfl | rfl | rfl | rfl | rfl | rfl | rfl | rfl | rfl | rfl <;> rfl
  · rw [findV_none n m h 22 0 (by omega), placeV_none n h]

theorem ok_eq (n m : Int) : ((findV n m 22 0).ok || fixB n) = knownB n := by
  by_cases h : n ∈ nums
  · rcases nums_cases n h with rfl | rfl | rfl | rfl | rfl | rfl | rfl | rfl | rfl | rfl | rfl | rfl | rfl | rfl | rfl | rfl | rfl | rfl | rfl | rfl | rfl | rfl | rfl | rfl | rfl <;> rfl
  · rw [findV_none n m h 22 0 (by omega)]
    unfold knownB fixB
    rw [placeV_none n h]
    cases (n == 769) <;> cases (n == 3860) <;> rfl

end Go.Proofs.YtdcihpbggknhgaaR
