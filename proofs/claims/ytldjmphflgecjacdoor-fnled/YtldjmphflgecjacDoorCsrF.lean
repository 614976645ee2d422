/- A write leaves registers right; what is there, written again, changes nothing. -/
import Derived.Test.YtldjmphflgecjacDoorCsrE
namespace Go.Proofs.YtldjmphflgecjacDoor
open Go.RowKit
set_option linter.unusedVariables false

theorem and1 (b : Int) : bits .and .u64 b 1 = if bt b 0 = true then 1 else 0 := by
  have h1 : ∀ i, i < 64 → ∀ (p o : Bool), ((if i = 0 then p else o) && bt 1 i) = bt (if p = true then 1 else 0) i := by decide +kernel
  refine bt_ext _ _ (U_bits _ _ _) (by split <;> (constructor <;> decide)) fun i hi => ?_
  rw [bt_and, ← h1 i hi (bt b 0) (bt b i)]
  by_cases h0 : i = 0
  · subst h0; rfl
  · rw [if_neg h0]

theorem mst_test (x : Int) : (bits .and .u64 x 6144 == 4096) = (!bt x 11 && bt x 12) := by
  have e2 : bits .and .u64 x 6144 = (if bt x 11 = true then 2048 else 0) + (if bt x 12 = true then 4096 else 0) := by
    refine bt_ext _ _ (U_bits _ _ _) (by constructor <;> (cases bt x 11 <;> cases bt x 12 <;> decide)) fun i hi => ?_
    rw [bt_and, ← bit12 i hi (bt x 11) (bt x 12) (bt x i)]
    by_cases h0 : i = 11
    · subst h0; rfl
    · by_cases h1 : i = 12
      · subst h1; rfl
      · rw [if_neg h0, if_neg h1]
  rw [e2]
  cases bt x 11 <;> cases bt x 12 <;> rfl

theorem mst_def (x : Int) (h : U x) : mst x = if (!bt x 11 && bt x 12) = true then bits .andNot .u64 (bits .and .u64 x 924074) 6144 else bits .and .u64 x 924074 := by
  rw [← mst_eq x h, ← mst_test]
  rfl

theorem m11 : bt 924074 11 = true ∧ bt 924074 12 = true ∧ bt 6144 11 = true ∧ bt 6144 12 = true ∧ bt 786722 11 = false ∧ bt 786722 12 = false := by decide +kernel

/-- Which words mstatus may have. -/
theorem mst_ok (x : Int) (h : U x) : mst x = x ↔ bits .and .u64 x 924074 = x ∧ (!bt x 11 && bt x 12) = false := by
  rw [mst_def x h]
  constructor
  · intro e
    cases hc : (!bt x 11 && bt x 12) with
    | true =>
      rw [hc, if_pos rfl] at e
      have : bt x 12 = false := by rw [← e, bt_andNot _ _ _ (by omega), m11.2.2.2.1]; simp
      rw [this, Bool.and_false] at hc
      cases hc
    | false => rw [hc, if_neg (by decide)] at e; exact ⟨e, rfl⟩
  · rintro ⟨e, hc⟩
    rw [hc, if_neg (by decide)]; exact e

theorem U_mst (x : Int) : U (mst x) := by unfold mst; split <;> exact U_bits _ _ _

theorem mst_idem (x : Int) (h : U x) : mst (mst x) = mst x := by
  rw [mst_ok _ (U_mst x)]
  rw [mst_def x h]
  cases hc : (!bt x 11 && bt x 12) with
  | true =>
    rw [if_pos rfl]
    refine ⟨bt_ext _ _ (U_bits _ _ _) (U_bits _ _ _) fun i hi => ?_, ?_⟩
    · rw [bt_and, bt_andNot _ _ _ hi, bt_and]
      cases bt x i <;> cases bt 924074 i <;> cases bt 6144 i <;> rfl
    · rw [bt_andNot _ _ 12 (by omega), m11.2.2.2.1]; simp
  | false =>
    rw [if_neg (by decide)]
    refine ⟨bt_ext _ _ (U_bits _ _ _) (U_bits _ _ _) fun i hi => ?_, ?_⟩
    · rw [bt_and, bt_and]
      cases bt x i <;> cases bt 924074 i <;> rfl
    · rw [bt_and, bt_and, m11.1, m11.2.1, Bool.and_true, Bool.and_true]; exact hc

theorem sub256 : ∀ i, i < 64 → ∀ a : Bool, ((a && bt 786722 i) && bt 924074 i) = (a && bt 786722 i) := by decide +kernel

/-- A write by sstatus leaves mstatus right. -/
theorem mst_mix (y x : Int) (hy : U y) (h : mst y = y) : mst (mixV y 786722 x) = mixV y 786722 x := by
  obtain ⟨h1, h2⟩ := (mst_ok y hy).mp h
  unfold mixV
  rw [mst_ok _ (U_bits _ _ _)]
  refine ⟨bt_ext _ _ (U_bits _ _ _) (U_bits _ _ _) fun i hi => ?_, ?_⟩
  · have hb : bt y i = (bt y i && bt 924074 i) := by conv => lhs; rw [← h1, bt_and]
    have hs := sub256 i hi (bt x i)
    rw [bt_and, bt_or, bt_andNot _ _ _ hi, bt_and, hb]
    revert hs
    cases bt y i <;> cases bt 924074 i <;> cases bt 786722 i <;> cases bt x i <;> decide
  · rw [bt_or, bt_or, bt_andNot _ _ 11 (by omega), bt_andNot _ _ 12 (by omega), bt_and, bt_and, m11.2.2.2.2.1, m11.2.2.2.2.2]
    simpa using h2

/-- Some bits of a word out of that word: nothing changes. -/
theorem mix_self (y m : Int) (hy : U y) : mixV y m y = y := by
  unfold mixV
  refine bt_ext _ _ (U_bits _ _ _) hy fun i hi => ?_
  rw [bt_or, bt_andNot _ _ _ hi, bt_and]
  cases bt y i <;> cases bt m i <;> rfl

theorem mix_seen (y m v : Int) (hy : U y) (hv : ∀ i, i < 64 → bt m i = true → bt v i = bt y i) : mixV y m v = y := by
  unfold mixV
  refine bt_ext _ _ (U_bits _ _ _) hy fun i hi => ?_
  have h := hv i hi
  rw [bt_or, bt_andNot _ _ _ hi, bt_and]
  cases hm : bt m i with
  | false => simp
  | true => rw [h hm]; simp

theorem and_idem (x m : Int) : bits .and .u64 (bits .and .u64 x m) m = bits .and .u64 x m :=
  bt_ext _ _ (U_bits _ _ _) (U_bits _ _ _) fun i hi => by rw [bt_and, bt_and]; cases bt x i <;> cases bt m i <;> rfl

theorem andNot_idem (x m : Int) : bits .andNot .u64 (bits .andNot .u64 x m) m = bits .andNot .u64 x m :=
  bt_ext _ _ (U_bits _ _ _) (U_bits _ _ _) fun i hi => by rw [bt_andNot _ _ _ hi, bt_andNot _ _ _ hi]; cases bt x i <;> cases bt m i <;> rfl

/-- Bit i of what a write of pmpcfg0 leaves where nothing stays. -/
def cfgB (x : Int) (i : Nat) : Bool := bt x i && bt 159 (i % 8) && !(decide (i % 8 = 1) && !bt x (i - 1))

theorem bit2 : ∀ j, j < 64 → bt 2 j = decide (j = 1) := by decide +kernel

theorem bit0159 : bt 159 0 = true := by decide +kernel

theorem byte_bits (x : Int) (h : U x) (k j : Nat) (hj : j < 64) : bt (cfgByte x k) j = (bt x (j + 8 * k) && bt 159 j && !(decide (j = 1) && !bt x (8 * k))) := by
  unfold cfgByte
  have hd : ∀ i, bt (x / 2 ^ (8 * k)) i = bt x (i + 8 * k) := fun i => bt_div x h (8 * k) i
  generalize x / 2 ^ (8 * k) = z at *
  have h0 : bt x (8 * k) = bt z 0 := by rw [hd 0, Nat.zero_add]
  rw [h0, ← hd j, and1, bt_and, bit0159, Bool.and_true]
  cases hz : bt z 0 with
  | true =>
    rw [if_pos rfl, if_neg (by decide), bt_and]; simp
  | false =>
    rw [if_neg (show ¬ (false = true) from by decide), if_pos (show ((0 : Int) == 0) = true from rfl), bt_andNot _ _ _ hj, bt_and, bit2 j hj]; simp

theorem sum_bits (x : Int) (h : U x) (i : Nat) (hi : i < 64) : ∀ k, k ≤ 4 → bt (cfgSum x k) i = (decide (i < 8 * k) && cfgB x i) := by
  intro k
  induction k with
  | zero => intro _; rw [cfgSum]; have : bt 0 i = false := by unfold bt; simp
            rw [this]; simp
  | succ k ih =>
    intro hk
    rw [cfgSum, bt_or, ih (by omega), bt_shl _ (U_byte x k)]
    by_cases h1 : i < 8 * k
    · have h2 : ¬ 8 * k ≤ i := by omega
      have h3 : i < 8 * (k + 1) := by omega
      simp [h1, h2, h3]
    · have h2 : 8 * k ≤ i := by omega
      by_cases h3 : i < 8 * (k + 1)
      · have hm : i % 8 = i - 8 * k := by omega
        rw [byte_bits x h k _ (by omega)]
        unfold cfgB
        rw [hm, show i - 8 * k + 8 * k = i from by omega]
        by_cases h4 : i - 8 * k = 1
        · rw [show i - 1 = 8 * k from by omega]
          simp [h1, h2, h3, hi]
        · simp [h1, h2, h3, hi, h4]
      · rw [bt_byte x k _ (by omega)]
        simp [h1, h3]

/-- Which words pmpcfg0 may have, bit by bit. -/
theorem cfg_ok (c : Int) (h : U c) : legal 16 c = c ↔ ∀ i, i < 64 → bt c i = (decide (i < 32) && cfgB c i) := by
  show cfgSum c 4 = c ↔ _
  constructor
  · intro e i hi
    have := sum_bits c h i hi 4 (by omega)
    rw [e] at this
    exact this
  · intro hb
    refine bt_ext _ _ (by rw [cfgSum]; exact U_bits _ _ _) h fun i hi => ?_
    rw [sum_bits c h i hi 4 (by omega), hb i hi]

theorem cfgB_idem (x : Int) (h : U x) (i : Nat) (hi : i < 32) : cfgB (cfgSum x 4) i = cfgB x i := by
  have s : ∀ j, j < 32 → bt (cfgSum x 4) j = cfgB x j := fun j hj => by rw [sum_bits x h j (by omega) 4 (by omega)]; simp [show j < 8 * 4 from by omega]
  show (bt (cfgSum x 4) i && bt 159 (i % 8) && !(decide (i % 8 = 1) && !bt (cfgSum x 4) (i - 1))) = cfgB x i
  rw [s i hi, s (i - 1) (by omega)]
  by_cases h1 : i % 8 = 1
  · have hm : (i - 1) % 8 = 0 := by omega
    unfold cfgB
    rw [hm, h1, bit0159]
    cases bt x i <;> cases bt 159 1 <;> cases bt x (i - 1) <;> simp
  · unfold cfgB
    simp only [h1, decide_false, Bool.false_and, Bool.not_false, Bool.and_true]
    cases bt x i <;> cases bt 159 (i % 8) <;> rfl

theorem sum_legal (x : Int) (h : U x) : legal 16 (cfgSum x 4) = cfgSum x 4 := by
  rw [cfg_ok _ (by rw [cfgSum]; exact U_bits _ _ _)]
  intro i hi
  rw [sum_bits x h i hi 4 (by omega)]
  by_cases h1 : i < 32
  · rw [cfgB_idem x h i h1]
  · simp [h1]

theorem bit255 : ∀ j, j < 64 → bt 255 j = decide (j < 8) := by decide +kernel

theorem stay_bits (c : Int) (i : Nat) (hi : i < 64) : ∀ k, k ≤ 4 → bt (stayI c k) i = (decide (i < 8 * k) && lockI c (i / 8)) := by
  intro k
  induction k with
  | zero => intro _; rw [stayI]; have : bt 0 i = false := by unfold bt; simp
            rw [this]; simp
  | succ k ih =>
    intro hk
    rw [stayI]
    by_cases h1 : i < 8 * k
    · have h3 : i < 8 * (k + 1) := by omega
      have h2 : ¬ 8 * k ≤ i := by omega
      cases lockI c k with
      | true => rw [if_pos rfl, bt_or, ih (by omega), bt_shl _ (by constructor <;> decide)]; simp [h1, h2, h3]
      | false => rw [if_neg (by decide), ih (by omega)]; simp [h1, h3]
    · have h2 : 8 * k ≤ i := by omega
      by_cases h3 : i < 8 * (k + 1)
      · have hq : i / 8 = k := by omega
        rw [hq]
        cases lockI c k with
        | true => rw [if_pos rfl, bt_or, ih (by omega), bt_shl _ (by constructor <;> decide), bit255 _ (by omega)]; simp [h1, h2, h3, hi]; omega
        | false => rw [if_neg (by decide), ih (by omega)]; simp [h1]
      · cases lockI c k with
        | true => rw [if_pos rfl, bt_or, ih (by omega), bt_shl _ (by constructor <;> decide), bit255 _ (by omega)]; simp [h1, h3]; omega
        | false => rw [if_neg (by decide), ih (by omega)]; simp [h1, h3]

/-- pmpcfg0 stays right where bytes stay. -/
theorem keep_legal (l : List Int) (h : U (l.getD 16 0)) (hc : legal 16 (l.getD 16 0) = l.getD 16 0) (f : Int) (hf : U f) (hl : legal 16 f = f) : legal 16 (cfgKeep l f 4) = cfgKeep l f 4 := by
  have hb := fun i hi => keep_bits l h f i hi 4
  rw [cfg_ok _ (U_keep l f hf 4)]
  have k1 := (cfg_ok _ h).mp hc
  have k2 := (cfg_ok _ hf).mp hl
  have st := fun i hi => stay_bits (l.getD 16 0) i hi 4 (by omega)
  intro i hi
  have a1 := k1 i hi
  have a2 := k2 i hi
  unfold cfgB at a1 a2 ⊢
  by_cases h1 : i % 8 = 1
  · have e1 : (i - 1) / 8 = i / 8 := by omega
    have sb := st i hi
    have sb1 := st (i - 1) (by omega)
    rw [hb i hi, hb (i - 1) (by omega)]
    have hlt : decide (i - 1 < 8 * 4) = decide (i < 8 * 4) := by
      by_cases h2 : i < 8 * 4
      · simp [h2]; omega
      · simp [h2]; omega
    rw [e1, hlt, ← sb] at sb1
    rw [sb1]
    cases bt (stayI (l.getD 16 0) 4) i with
    | true => rw [if_pos rfl, if_pos rfl]; exact a1
    | false => rw [if_neg (by decide), if_neg (by decide)]; exact a2
  · rw [hb i hi]
    simp only [h1, decide_false, Bool.false_and, Bool.not_false, Bool.and_true] at a1 a2 ⊢
    cases bt (stayI (l.getD 16 0) 4) i with
    | true => rw [if_pos rfl]; exact a1
    | false => rw [if_neg (by decide)]; exact a2

theorem legal_idem (x : Int) (h : U x) (k : Nat) (hk : k < 22) : legal k (legal k x) = legal k x := by
  have : k = 0 ∨ k = 1 ∨ k = 2 ∨ k = 3 ∨ k = 4 ∨ k = 5 ∨ k = 6 ∨ k = 7 ∨ k = 8 ∨ k = 9 ∨ k = 10 ∨ k = 11 ∨ k = 12 ∨ k = 13 ∨ k = 14 ∨ k = 15 ∨ k = 16 ∨ k = 17 ∨ k = 18 ∨ k = 19 ∨ k = 20 ∨ k = 21 := by omega
  rcases this with rfl | rfl | rfl | rfl | rfl | rfl | rfl | rfl | rfl | rfl | rfl | rfl | rfl | rfl | rfl | rfl | rfl | rfl | rfl | rfl | rfl | rfl
  · exact mst_idem x h
  · exact and_idem x 46079
  · exact and_idem x 546
  · exact and_idem x 2730
  · exact andNot_idem x 2
  · rfl
  · exact andNot_idem x 3
  · exact and_idem x 9223372036854775823
  · rfl
  · rfl
  · exact andNot_idem x 2
  · rfl
  · exact andNot_idem x 3
  · exact and_idem x 9223372036854775823
  · rfl
  · rfl
  · exact sum_legal x h
  · exact and_idem x 18014398509481983
  · exact and_idem x 18014398509481983
  · exact and_idem x 18014398509481983
  · exact and_idem x 18014398509481983
  · rfl

theorem okRest_of (l : List Int) : ∀ n k, (∀ j, k ≤ j → j < k + n → okAt j (l.getD j 0) = true) → okRest l n k = true := by
  intro n
  induction n with
  | zero => intro k _; rfl
  | succ n ih =>
    intro k h
    rw [okRest, Bool.and_eq_true]
    exact ⟨h k (by omega) (by omega), ih (k + 1) fun j h1 h2 => h j (by omega) (by omega)⟩

theorem right_of (l : List Int) (h : ∀ j, j < 22 → okAt j (l.getD j 0) = true) : csrsOk 22 l = true := by
  simp only [csrsOk, Bool.and_eq_true, decide_eq_true_eq]
  exact ⟨trivial, okRest_of l 22 0 fun j _ hj => h j (by omega)⟩

theorem getD_setk (l : List Int) (k : Nat) (v : Int) (hk : k < l.length) : (l.set k v).getD k 0 = v := by
  simp [List.getD, hk]

theorem getD_setj (l : List Int) (k j : Nat) (v : Int) (hkj : k ≠ j) : (l.set k v).getD j 0 = l.getD j 0 := by
  simp [List.getD, hkj]

theorem right_set (l : List Int) (hz : l.length = 22) (hok : csrsOk 22 l = true) (k : Nat) (hk : k < 22) (v : Int) (h : okAt k v = true) : csrsOk 22 (l.set k v) = true := by
  refine right_of _ fun j hj => ?_
  by_cases e : k = j
  · subst e; rw [getD_setk l k v (by omega)]; exact h
  · rw [getD_setj l k j v e]; exact right_at hok j hj

theorem ok_legal (x : Int) (h : U x) (k : Nat) (hk : k < 22) (h9 : k ≠ 9) (h15 : k ≠ 15) : okAt k (legal k x) = true := by
  unfold okAt
  rw [if_neg h9, if_neg h15, legal_idem x h k hk]
  exact beq_self_eq_true _

theorem sub546 : ∀ i, i < 64 → ∀ a : Bool, ((a && bt 546 i) && bt 2730 i) = (a && bt 546 i) := by decide +kernel

theorem mix_mip (y m x : Int) (hy : bits .and .u64 y 2730 = y) (hm : ∀ i, i < 64 → bt m i = true → bt 2730 i = true) : bits .and .u64 (mixV y m x) 2730 = mixV y m x := by
  unfold mixV
  refine bt_ext _ _ (U_bits _ _ _) (U_bits _ _ _) fun i hi => ?_
  have hb : bt y i = (bt y i && bt 2730 i) := by conv => lhs; rw [← hy, bt_and]
  have h2 := hm i hi
  rw [bt_and, bt_or, bt_andNot _ _ _ hi, bt_and, hb]
  cases hmi : bt m i with
  | false => cases bt y i <;> cases bt 2730 i <;> cases bt x i <;> rfl
  | true => rw [h2 hmi]; cases bt y i <;> cases bt x i <;> rfl

theorem in546 : ∀ i, i < 64 → bt 546 i = true → bt 2730 i = true := by decide +kernel

theorem in2 : ∀ i, i < 64 → bt 2 i = true → bt 2730 i = true := by decide +kernel

theorem put_right (l : List Int) (hz : l.length = 22) (hl : ∀ j, U (l.getD j 0)) (hok : csrsOk 22 l = true) (k : Nat) (hk : k < 22) (x : Int) (hx : U x) : csrsOk 22 (putV l k x) = true := by
  have h9 : bits .and .u64 (l.getD 9 0) 2730 = l.getD 9 0 := eq_of_beq (right_at hok 9 (by omega))
  have h16 : legal 16 (l.getD 16 0) = l.getD 16 0 := eq_of_beq (right_at hok 16 (by omega))
  unfold putV
  by_cases e9 : k = 9
  · subst e9
    rw [if_pos (show (((9 : Nat) : Int) = 9) from rfl)]
    refine right_set l hz hok 9 (by omega) _ ?_
    show (bits .and .u64 (mixV (l.getD 9 0) 546 x) 2730 == mixV (l.getD 9 0) 546 x) = true
    rw [mix_mip _ _ _ h9 in546]
    exact beq_self_eq_true _
  · rw [if_neg (by omega)]
    by_cases e15 : k = 15
    · subst e15
      rw [if_pos (show (((15 : Nat) : Int) = 15) from rfl)]
      cases hc : ((x / 1152921504606846976 == 0) || (x / 1152921504606846976 == 8)) with
      | true => rw [if_pos rfl]; exact right_set l hz hok 15 (by omega) _ hc
      | false => rw [if_neg (by decide)]; exact hok
    · rw [if_neg (by omega)]
      by_cases e16 : k = 16
      · subst e16
        rw [if_pos (show (((16 : Nat) : Int) = 16) from rfl)]
        refine right_set l hz hok 16 (by omega) _ ?_
        show (legal 16 (cfgKeep l (legal 16 x) 4) == cfgKeep l (legal 16 x) 4) = true
        rw [keep_legal l (hl 16) h16 (legal 16 x) (by show U (cfgSum x 4); rw [cfgSum]; exact U_bits _ _ _) (sum_legal x hx)]
        exact beq_self_eq_true _
      · rw [if_neg (by omega)]
        split
        · split
          · exact hok
          · rw [Int.toNat_natCast]; exact right_set l hz hok k hk _ (ok_legal x hx k hk e9 e15)
        · rw [Int.toNat_natCast]; exact right_set l hz hok k hk _ (ok_legal x hx k hk e9 e15)

/-- What is there, written again at its place. -/
theorem put_again (l : List Int) (hz : l.length = 22) (hl : ∀ j, U (l.getD j 0)) (hok : csrsOk 22 l = true) (k : Nat) (hk : k < 22) : putV l k (l.getD k 0) = l := by
  have hk2 : k < l.length := by omega
  have hlg : k ≠ 9 → k ≠ 15 → legal k (l.getD k 0) = l.getD k 0 := by
    intro h9 h15
    have := right_at hok k hk
    unfold okAt at this
    rw [if_neg h9, if_neg h15] at this
    exact eq_of_beq this
  unfold putV
  by_cases e9 : k = 9
  · subst e9; rw [if_pos (show (((9 : Nat) : Int) = 9) from rfl), mix_self _ _ (hl 9), set_same l 9 hk2]
  · rw [if_neg (by omega)]
    by_cases e15 : k = 15
    · subst e15
      rw [if_pos (show (((15 : Nat) : Int) = 15) from rfl)]
      split
      · exact set_same l 15 hk2
      · rfl
    · rw [if_neg (by omega)]
      have hlg2 := hlg e9 e15
      by_cases e16 : k = 16
      · subst e16
        rw [if_pos (show (((16 : Nat) : Int) = 16) from rfl)]
        have e : cfgKeep l (legal ((16 : Nat) : Int) (l.getD 16 0)) 4 = l.getD 16 0 := by
          rw [hlg2]
          refine bt_ext _ _ (U_keep l _ (hl 16) 4) (hl 16) fun i hi => ?_
          rw [keep_bits l (hl 16) _ i hi]
          split <;> rfl
        have e2 : cfgKeep l (legal 16 (l.getD 16 0)) 4 = l.getD 16 0 := e
        rw [e2]
        exact set_same l 16 hk2
      · rw [if_neg (by omega)]
        split
        · split
          · rfl
          · rw [hlg2, Int.toNat_natCast, set_same l k hk2]
        · rw [hlg2, Int.toNat_natCast, set_same l k hk2]

/-- What a known number comes to: nothing, a view, or a place. -/
inductive Way (n : Int) : Prop where
  | fixed (h : n = 769 ∨ n = 3860)
  | st (h : n = 256)
  | ie (h : n = 260)
  | ip (h : n = 324)
  | own (k : Nat) (hk : k < 22) (hw : ∀ l x, writeV l n x = putV l k x) (hr : ∀ l, readV l n = l.getD k 0) (hp : placeV n = k)

theorem way_of (n : Int) (h : knownB n = true) : Way n := by
  rcases known_cases n h with rfl | rfl | h2
  · exact .fixed (.inr rfl)
  · exact .fixed (.inl rfl)
  · rcases nums_cases n h2 with rfl | rfl | rfl | rfl | rfl | rfl | rfl | rfl | rfl | rfl | rfl | rfl | rfl | rfl | rfl | rfl | rfl | rfl | rfl | rfl | rfl | rfl | rfl | rfl | rfl
    · exact .own 0 (by omega) (fun _ _ => rfl) (fun _ => rfl) rfl
    · exact .own 1 (by omega) (fun _ _ => rfl) (fun _ => rfl) rfl
    · exact .own 2 (by omega) (fun _ _ => rfl) (fun _ => rfl) rfl
    · exact .own 3 (by omega) (fun _ _ => rfl) (fun _ => rfl) rfl
    · exact .own 4 (by omega) (fun _ _ => rfl) (fun _ => rfl) rfl
    · exact .own 5 (by omega) (fun _ _ => rfl) (fun _ => rfl) rfl
    · exact .own 6 (by omega) (fun _ _ => rfl) (fun _ => rfl) rfl
    · exact .own 7 (by omega) (fun _ _ => rfl) (fun _ => rfl) rfl
    · exact .own 8 (by omega) (fun _ _ => rfl) (fun _ => rfl) rfl
    · exact .own 9 (by omega) (fun _ _ => rfl) (fun _ => rfl) rfl
    · exact .own 10 (by omega) (fun _ _ => rfl) (fun _ => rfl) rfl
    · exact .own 11 (by omega) (fun _ _ => rfl) (fun _ => rfl) rfl
    · exact .own 12 (by omega) (fun _ _ => rfl) (fun _ => rfl) rfl
    · exact .own 13 (by omega) (fun _ _ => rfl) (fun _ => rfl) rfl
    · exact .own 14 (by omega) (fun _ _ => rfl) (fun _ => rfl) rfl
    · exact .own 15 (by omega) (fun _ _ => rfl) (fun _ => rfl) rfl
    · exact .own 16 (by omega) (fun _ _ => rfl) (fun _ => rfl) rfl
    · exact .own 17 (by omega) (fun _ _ => rfl) (fun _ => rfl) rfl
    · exact .own 18 (by omega) (fun _ _ => rfl) (fun _ => rfl) rfl
    · exact .own 19 (by omega) (fun _ _ => rfl) (fun _ => rfl) rfl
    · exact .own 20 (by omega) (fun _ _ => rfl) (fun _ => rfl) rfl
    · exact .own 21 (by omega) (fun _ _ => rfl) (fun _ => rfl) rfl
    · exact .st rfl
    · exact .ie rfl
    · exact .ip rfl

/-- A write leaves registers right. -/
theorem write_right (l : List Int) (hz : l.length = 22) (hl : ∀ j, U (l.getD j 0)) (hok : csrsOk 22 l = true) (n x : Int) (hx : U x) (h : knownB n = true) : csrsOk 22 (writeV l n x) = true := by
  have h0 : mst (l.getD 0 0) = l.getD 0 0 := eq_of_beq (right_at hok 0 (by omega))
  have h9 : bits .and .u64 (l.getD 9 0) 2730 = l.getD 9 0 := eq_of_beq (right_at hok 9 (by omega))
  cases way_of n h with
  | fixed h2 => unfold writeV; rw [if_pos h2]; exact hok
  | st h2 =>
    subst h2
    show csrsOk 22 (l.set 0 (mixV (l.getD 0 0) 786722 x)) = true
    refine right_set l hz hok 0 (by omega) _ ?_
    show (mst (mixV (l.getD 0 0) 786722 x) == mixV (l.getD 0 0) 786722 x) = true
    rw [mst_mix _ _ (hl 0) h0]; exact beq_self_eq_true _
  | ie h2 =>
    subst h2
    show csrsOk 22 (l.set 3 (legal 3 (mixV (l.getD 3 0) (l.getD 2 0) x))) = true
    exact right_set l hz hok 3 (by omega) _ (ok_legal _ (U_bits _ _ _) 3 (by omega) (by omega) (by omega))
  | ip h2 =>
    subst h2
    show csrsOk 22 (l.set 9 (mixV (l.getD 9 0) (bits .and .u64 (l.getD 2 0) 2) x)) = true
    refine right_set l hz hok 9 (by omega) _ ?_
    show (bits .and .u64 (mixV (l.getD 9 0) (bits .and .u64 (l.getD 2 0) 2) x) 2730 == mixV (l.getD 9 0) (bits .and .u64 (l.getD 2 0) 2) x) = true
    rw [mix_mip _ _ _ h9 (fun i hi hb => by rw [bt_and, Bool.and_eq_true] at hb; exact in2 i hi hb.2)]
    exact beq_self_eq_true _
  | own k hk hw hr hp => rw [hw]; exact put_right l hz hl hok k hk x hx

/-- What is read, written again, changes nothing. -/
theorem write_again (l : List Int) (hz : l.length = 22) (hl : ∀ j, U (l.getD j 0)) (hok : csrsOk 22 l = true) (n : Int) (h : knownB n = true) : writeV l n (readV l n) = l := by
  cases way_of n h with
  | fixed h2 => unfold writeV; rw [if_pos h2]
  | st h2 =>
    subst h2
    show l.set 0 (mixV (l.getD 0 0) 786722 (bits .and .u64 (l.getD 0 0) 786722)) = l
    rw [mix_seen _ _ _ (hl 0) (fun i hi hb => by rw [bt_and, hb, Bool.and_true]), set_same l 0 (by omega)]
  | ie h2 =>
    subst h2
    show l.set 3 (legal 3 (mixV (l.getD 3 0) (l.getD 2 0) (bits .and .u64 (l.getD 3 0) (l.getD 2 0)))) = l
    have h3 : legal 3 (l.getD 3 0) = l.getD 3 0 := eq_of_beq (right_at hok 3 (by omega))
    rw [mix_seen _ _ _ (hl 3) (fun i hi hb => by rw [bt_and, hb, Bool.and_true]), h3, set_same l 3 (by omega)]
  | ip h2 =>
    subst h2
    show l.set 9 (mixV (l.getD 9 0) (bits .and .u64 (l.getD 2 0) 2) (bits .and .u64 (l.getD 9 0) (l.getD 2 0))) = l
    rw [mix_seen _ _ _ (hl 9) (fun i hi hb => by rw [bt_and, Bool.and_eq_true] at hb; rw [bt_and, hb.1, Bool.and_true]), set_same l 9 (by omega)]
  | own k hk hw hr hp => rw [hw, hr]; exact put_again l hz hl hok k hk

/-- No other register is changed. -/
theorem write_else (l : List Int) (n x : Int) (h : knownB n = true) (i : Nat) (hi : (i : Int) ≠ placeV n) : (writeV l n x).getD i 0 = l.getD i 0 := by
  cases way_of n h with
  | fixed h2 => unfold writeV; rw [if_pos h2]
  | st h2 => subst h2; exact getD_setj l 0 i _ (fun e => hi (by rw [← e]; rfl))
  | ie h2 => subst h2; exact getD_setj l 3 i _ (fun e => hi (by rw [← e]; rfl))
  | ip h2 => subst h2; exact getD_setj l 9 i _ (fun e => hi (by rw [← e]; rfl))
  | own k hk hw hr hp =>
    have hki : k ≠ i := fun e => hi (by rw [hp, e])
    rw [hw]
    unfold putV
    split
    · rename_i e; exact getD_setj l 9 i _ (by omega)
    · split
      · rename_i e; split
        · exact getD_setj l 15 i _ (by omega)
        · rfl
      · split
        · rename_i e; exact getD_setj l 16 i _ (by omega)
        · split
          · split
            · rfl
            · rw [Int.toNat_natCast]; exact getD_setj l k i _ hki
          · rw [Int.toNat_natCast]; exact getD_setj l k i _ hki

theorem U_put (l : List Int) (hl : ∀ j, U (l.getD j 0)) (k : Nat) (v : Int) (hv : U v) (j : Nat) : U ((l.set k v).getD j 0) := by
  by_cases e : k = j
  · subst e
    by_cases hk : k < l.length
    · rw [getD_setk l k v hk]; exact hv
    · rw [List.set_eq_of_length_le (by omega)]; exact hl k
  · rw [getD_setj l k j v e]; exact hl j

theorem U_leg (p x : Int) (h : U x) : U (legal p x) := by
  unfold legal
  split
  · exact U_mst x
  · split
    · exact U_bits _ _ _
    · split
      · exact U_bits _ _ _
      · split
        · exact U_bits _ _ _
        · split
          · exact U_bits _ _ _
          · split
            · exact U_bits _ _ _
            · split
              · exact U_bits _ _ _
              · split
                · rw [cfgSum]; exact U_bits _ _ _
                · split
                  · exact U_bits _ _ _
                  · exact h

theorem U_write (l : List Int) (hl : ∀ j, U (l.getD j 0)) (n x : Int) (hx : U x) (j : Nat) : U ((writeV l n x).getD j 0) := by
  unfold writeV
  split
  · exact hl j
  · split
    · exact U_put l hl _ _ (U_bits _ _ _) j
    · split
      · exact U_put l hl _ _ (U_leg _ _ (U_bits _ _ _)) j
      · split
        · exact U_put l hl _ _ (U_bits _ _ _) j
        · unfold putV
          split
          · exact U_put l hl _ _ (U_bits _ _ _) j
          · split
            · split
              · exact U_put l hl _ _ hx j
              · exact hl j
            · split
              · exact U_put l hl _ _ (U_keep l _ (U_leg _ _ hx) 4) j
              · split
                · split
                  · exact hl j
                  · exact U_put l hl _ _ (U_leg _ _ hx) j
                · exact U_put l hl _ _ (U_leg _ _ hx) j

end Go.Proofs.YtldjmphflgecjacDoor
