/- Traps, the program's reckoning held against the model's, in plain numbers. -/
import Derived.Test.YtgcbdlfljplkbabTrapU
import Derived.Test.YtgcbdlfljplkbabPendP
import Derived.Test.YtgcbdlfljplkbabCsrF
namespace Go.Proofs.Ytgcbdlfljplkbab
open Go.RowKit
set_option linter.unusedVariables false

theorem bitAt_fld (x : Int) (i : Nat) (h : U x) : bitAt x i = fld x i 1 := by
  have hd := U_div x h i
  have := and_low (x / 2 ^ i) 1 hd.1 hd.2 (by omega)
  unfold bitAt fld
  exact this

theorem pc_eq (x : Int) : bits .and .u64 x 18446744073709551612 = bits .andNot .u64 x 3 := by
  have h : ∀ i, i < 64 → ∀ a : Bool, (a && bt 18446744073709551612 i) = (a && !bt 3 i) := by decide +kernel
  exact bt_ext _ _ (U_bits _ _ _) (U_bits _ _ _) fun i hi => by rw [bt_and, bt_andNot _ _ _ hi, h i hi]

theorem statM_I (s p : Int) (h : U s) : statM s p = bits .or .u64 (bits .or .u64 (bits .andNot .u64 s 6280) (IntKind.u64.wrap (fld s 3 1 * 128))) (IntKind.u64.wrap (p * 2048)) := by
  unfold statM; rw [bitAt_fld s 3 h]

theorem bt0 : ∀ i, i < 64 → bt 0 i = false := by decide +kernel

theorem statS_I0 (s : Int) (h : U s) : statS s ((0 : Int) == 1) = bits .or .u64 (bits .or .u64 (bits .andNot .u64 s 290) (IntKind.u64.wrap (fld s 1 1 * 32))) 0 := by
  show bits .or .u64 (bits .andNot .u64 s 290) (IntKind.u64.wrap (bitAt s 1 * 32)) = _
  rw [bitAt_fld s 1 h]
  exact bt_ext _ _ (U_bits _ _ _) (U_bits _ _ _) fun i hi => by rw [bt_or _ 0, bt0 i hi, Bool.or_false]

theorem statS_I1 (s : Int) (h : U s) : statS s ((1 : Int) == 1) = bits .or .u64 (bits .or .u64 (bits .andNot .u64 s 290) (IntKind.u64.wrap (fld s 1 1 * 32))) 256 := by
  show bits .or .u64 (bits .or .u64 (bits .andNot .u64 s 290) (IntKind.u64.wrap (bitAt s 1 * 32))) 256 = _
  rw [bitAt_fld s 1 h]

theorem leaveM_I (s : Int) (h : U s) : leaveM s = bits .or .u64 (bits .or .u64 (bits .andNot .u64 s 6280) (IntKind.u64.wrap (fld s 7 1 * 8))) 128 := by
  have e : ∀ i, i < 64 → ∀ a c : Bool, ((a && !bt 6152 i || c) || bt 128 i) = ((a && !bt 6280 i || c) || bt 128 i) := by decide +kernel
  unfold leaveM
  rw [bitAt_fld s 7 h]
  exact bt_ext _ _ (U_bits _ _ _) (U_bits _ _ _) fun i hi => by rw [bt_or, bt_or, bt_or, bt_or, bt_andNot _ _ _ hi, bt_andNot _ _ _ hi, e i hi]

theorem leaveP_M (s : Int) (h : U s) : leaveP s true = wrap64 (fld s 11 2) := by
  have hd := U_div s h 11
  have := and_low (s / 2 ^ 11) 2 hd.1 hd.2 (by omega)
  show wrap64 (bits .and .u64 (s / 2048) 3) = _
  exact congrArg wrap64 this

theorem leaveP_S (s : Int) (h : U s) : leaveP s false = wrap64 (fld s 8 1) := by
  show wrap64 (bitAt s 8) = _
  rw [bitAt_fld s 8 h]

theorem fld1_shl (s : Int) (h : U s) (i j k : Nat) : bt (IntKind.u64.wrap (fld s k 1 * 2 ^ j)) i = (decide (i = j) && decide (i < 64) && bt s k) := by
  rw [bt_shl _ (U_fld _ _ _ (by omega)), bt_fld _ h _ _ _ (by omega)]
  by_cases hij : i = j
  · subst hij; simp
  · by_cases h2 : j ≤ i
    · have : ¬ (i - j < 1) := by omega
      simp [hij, this]
    · simp [hij, h2]

theorem leaveS_I (s : Int) (h : U s) : leaveS s false = bits .andNot .u64 (bits .or .u64 (bits .or .u64 (bits .andNot .u64 s 290) (IntKind.u64.wrap (fld s 5 1 * 2))) 32) 131072 := by
  have e : ∀ i, i < 64 → ∀ a c : Bool, ((a && !bt 131330 i || (decide (i = 1) && decide (i < 64) && c)) || bt 32 i) = (((a && !bt 290 i || (decide (i = 1) && decide (i < 64) && c)) || bt 32 i) && !bt 131072 i) := by decide +kernel
  show bits .or .u64 (bits .or .u64 (bits .andNot .u64 s 131330) (IntKind.u64.wrap (bitAt s 5 * 2))) 32 = _
  rw [bitAt_fld s 5 h]
  have f : ∀ i, bt (IntKind.u64.wrap (fld s 5 1 * 2)) i = (decide (i = 1) && decide (i < 64) && bt s 5) := fun i => fld1_shl s h i 1 5
  exact bt_ext _ _ (U_bits _ _ _) (U_bits _ _ _) fun i hi => by rw [bt_andNot _ 131072 _ hi, bt_or, bt_or, bt_or, bt_or, bt_andNot _ _ _ hi, bt_andNot _ _ _ hi, f i, e i hi]

theorem leaveS_my (s : Int) (h : U s) (d : (leaveP s true != 3) = true) : leaveS s true = bits .andNot .u64 (bits .or .u64 (bits .or .u64 (bits .andNot .u64 s 6280) (IntKind.u64.wrap (fld s 7 1 * 8))) 128) 131072 := by
  show (if (leaveP s true != 3) = true then bits .andNot .u64 (leaveM s) 131072 else leaveM s) = _
  rw [if_pos d, leaveM_I s h]

theorem leaveS_mn (s : Int) (h : U s) (d : (leaveP s true != 3) = false) : leaveS s true = bits .or .u64 (bits .or .u64 (bits .andNot .u64 s 6280) (IntKind.u64.wrap (fld s 7 1 * 8))) 128 := by
  show (if (leaveP s true != 3) = true then bits .andNot .u64 (leaveM s) 131072 else leaveM s) = _
  rw [if_neg (by rw [d]; decide), leaveM_I s h]

theorem leaveP_s01 (s : Int) (h : U s) : leaveP s false = 0 ∨ leaveP s false = 1 := by
  rw [leaveP_S s h]
  have := fld_bd s 8 1
  have e : (2 : Int) ^ 1 = 2 := by decide
  unfold wrap64
  omega

theorem leaveP_s3 (s : Int) (h : U s) : (leaveP s false != 3) = true := by
  rcases leaveP_s01 s h with e | e <;> rw [e] <;> rfl

theorem jump_eq (x : Int) : (bits .and .u64 x 1 != 0) = (bits .and .u64 x 1 == 1) := by
  rw [and1]; cases bt x 0 <;> rfl

/-- What the program's Pending hands back. -/
def hearIM (l : List Int) (p : Int) : Bool := decide (p < 3) || ((p == 3) && (fld (l.getD 0 0) 3 1 == 1))

def hearIS (l : List Int) (p : Int) : Bool := decide (p < 1) || ((p == 1) && (fld (l.getD 0 0) 1 1 == 1))

def pendI (l : List Int) (p : Int) : Int :=
  match (decide (firstV (bits .andNot .u64 (waitV l) (l.getD 2 0)) ≥ 0) && hearIM l p) with
  | true => firstV (bits .andNot .u64 (waitV l) (l.getD 2 0))
  | false => match (decide (firstV (bits .and .u64 (waitV l) (l.getD 2 0)) ≥ 0) && hearIS l p) with
    | true => firstV (bits .and .u64 (waitV l) (l.getD 2 0))
    | false => -1

theorem first_neg (x : Int) (h : decide (firstV x ≥ 0) = false) : firstV x = -1 := by
  rcases firstIn_bd x ranks with e | ⟨n, _, e, _⟩
  · exact e
  · have : firstV x = (n : Int) := e
    rw [this] at h; simp at h

theorem hearM_eq (l : List Int) (p : Int) (hp : privB p = true) (h : U (l.getD 0 0)) : hearIM l p = hearM l p := by
  have hp3 : p = 0 ∨ p = 1 ∨ p = 3 := by simpa [privB, or_assoc] using hp
  unfold hearIM hearM
  rw [bitAt_fld _ 3 h]
  rcases hp3 with rfl | rfl | rfl <;> rfl

theorem hearS_eq (l : List Int) (p : Int) (hp : privB p = true) (h : U (l.getD 0 0)) : hearIS l p = hearS l p := by
  have hp3 : p = 0 ∨ p = 1 ∨ p = 3 := by simpa [privB, or_assoc] using hp
  unfold hearIS hearS
  rw [bitAt_fld _ 1 h]
  rcases hp3 with rfl | rfl | rfl <;> rfl

theorem pend_eq (l : List Int) (p : Int) (hp : privB p = true) (h : U (l.getD 0 0)) : pendI l p = pendV l p := by
  unfold pendI pendV pendS
  rw [hearM_eq l p hp h, hearS_eq l p hp h, Bool.and_comm]
  have hf := first_neg (bits .and .u64 (waitV l) (l.getD 2 0))
  generalize firstV (bits .and .u64 (waitV l) (l.getD 2 0)) = f2 at *
  generalize firstV (bits .andNot .u64 (waitV l) (l.getD 2 0)) = f1 at *
  cases hearM l p && decide (f1 ≥ 0)
  · cases hearS l p
    · rw [Bool.and_false]
    · rw [Bool.and_true]
      cases hd : decide (f2 ≥ 0)
      · exact (hf hd).symm
      · rfl
  · rfl

end Go.Proofs.Ytgcbdlfljplkbab
