/- What is read and what is written: the program and the model hand back the same. -/
import Derived.Test.YtcdjfiljlahaeaaCsrQ
namespace Go.Proofs.Ytcdjfiljlahaeaa
open Go.RowKit
set_option linter.unusedVariables false

theorem known_cases (n : Int) (h : knownB n = true) : n = 3860 ∨ n = 769 ∨ n ∈ nums := by
  by_cases hn : n ∈ nums
  · exact .inr (.inr hn)
  · simp only [knownB, placeV_none n hn, Bool.or_eq_true, beq_iff_eq, decide_eq_true_eq] at h
    omega

theorem reach_eq (n p : Int) (h : knownB n = true) : reachB n p = (privB p && decide ((wrap64 (n.tdiv 256)).tmod 4 ≤ p)) := by
  have e : bits .and .i64 (n / 256) 3 = (wrap64 (n.tdiv 256)).tmod 4 := by
    rcases known_cases n h with rfl | rfl | h2
    · decide +kernel
    · decide +kernel
    · rcases nums_cases n h2 with rfl | rfl | rfl | rfl | rfl | rfl | rfl | rfl | rfl | rfl | rfl | rfl | rfl | rfl | rfl | rfl | rfl | rfl | rfl | rfl | rfl | rfl | rfl | rfl | rfl <;> decide +kernel
  unfold reachB
  rw [e]

theorem only_eq (n : Int) (h : knownB n = true) : onlyB n = ((wrap64 (n.tdiv 1024)).tmod 4 == 3) := by
  have e : bits .and .i64 (n / 1024) 3 = (wrap64 (n.tdiv 1024)).tmod 4 := by
    rcases known_cases n h with rfl | rfl | h2
    · decide +kernel
    · decide +kernel
    · rcases nums_cases n h2 with rfl | rfl | rfl | rfl | rfl | rfl | rfl | rfl | rfl | rfl | rfl | rfl | rfl | rfl | rfl | rfl | rfl | rfl | rfl | rfl | rfl | rfl | rfl | rfl | rfl <;> decide +kernel
  unfold onlyB
  rw [e]

theorem readB_eq (m : Nat) (l : List Int) (hl : ∀ j, U (l.getD j 0)) (n p : Int) : readIB m l n p = mayB m l n p := by
  unfold readIB mayB mayI
  rw [fitsOk_eq m l hl, ok_eq]
  cases hk : knownB n with
  | false => simp
  | true =>
    rw [reach_eq n p hk]
    cases csrsOk m l <;> cases privB p <;> simp

theorem read_own (l : List Int) (hl : ∀ j, U (l.getD j 0)) (n : Int) (k : Nat) (hf : findV n (l.getD 2 0) 22 0 = ⟨k, n, 18446744073709551615, 18446744073709551615, true⟩) (hr : readV l n = l.getD k 0) :
    (if (findV n (l.getD 2 0) 22 0).ok = true then bits .and .u64 (l.getD (findV n (l.getD 2 0) 22 0).at_.toNat 0) (findV n (l.getD 2 0) 22 0).rd else fixV n) = readV l n := by
  rw [hf, hr]
  show bits .and .u64 (l.getD ((k : Int)).toNat 0) 18446744073709551615 = _
  rw [Int.toNat_natCast, and_all _ (hl k)]

theorem read_eq (l : List Int) (hl : ∀ j, U (l.getD j 0)) (n : Int) (h : knownB n = true) :
    (if (findV n (l.getD 2 0) 22 0).ok = true then bits .and .u64 (l.getD (findV n (l.getD 2 0) 22 0).at_.toNat 0) (findV n (l.getD 2 0) 22 0).rd else fixV n) = readV l n := by
  rcases known_cases n h with rfl | rfl | h2
  · rw [findV_none 3860 _ (by decide) 22 0 (by omega)]; rfl
  · rw [findV_none 769 _ (by decide) 22 0 (by omega)]; rfl
  · rcases nums_cases n h2 with rfl | rfl | rfl | rfl | rfl | rfl | rfl | rfl | rfl | rfl | rfl | rfl | rfl | rfl | rfl | rfl | rfl | rfl | rfl | rfl | rfl | rfl | rfl | rfl | rfl
    · exact read_own l hl 768 0 rfl rfl
    · exact read_own l hl 770 1 rfl rfl
    · exact read_own l hl 771 2 rfl rfl
    · exact read_own l hl 772 3 rfl rfl
    · exact read_own l hl 773 4 rfl rfl
    · exact read_own l hl 832 5 rfl rfl
    · exact read_own l hl 833 6 rfl rfl
    · exact read_own l hl 834 7 rfl rfl
    · exact read_own l hl 835 8 rfl rfl
    · exact read_own l hl 836 9 rfl rfl
    · exact read_own l hl 261 10 rfl rfl
    · exact read_own l hl 320 11 rfl rfl
    · exact read_own l hl 321 12 rfl rfl
    · exact read_own l hl 322 13 rfl rfl
    · exact read_own l hl 323 14 rfl rfl
    · exact read_own l hl 384 15 rfl rfl
    · exact read_own l hl 928 16 rfl rfl
    · exact read_own l hl 944 17 rfl rfl
    · exact read_own l hl 945 18 rfl rfl
    · exact read_own l hl 946 19 rfl rfl
    · exact read_own l hl 947 20 rfl rfl
    · exact read_own l hl 2818 21 rfl rfl
    · rfl
    · rfl
    · rfl

theorem readO_eq (m : Nat) (l : List Int) (hl : ∀ j, U (l.getD j 0)) (n p : Int) : readIV m l n p = (if mayB m l n p = true then readV l n else 0) := by
  have hb := readB_eq m l hl n p
  unfold readIB at hb
  rw [ok_eq] at hb
  cases hk : knownB n with
  | false =>
    have h1 : mayB m l n p = false := by unfold mayB; rw [hk]; cases csrsOk m l <;> rfl
    rw [h1, if_neg (by decide)]
    unfold readIV
    have h2 := ok_eq n (l.getD 2 0)
    rw [hk, Bool.or_eq_false_iff] at h2
    rw [h2.1]
    have h3 : fixV n = 0 := by
      have := h2.2
      simp only [fixB, Bool.or_eq_false_iff, beq_eq_false_iff_ne] at this
      unfold fixV; rw [if_neg this.1]
    rw [h3]
    cases mayI m l n p <;> rfl
  | true =>
    rw [hk, Bool.and_true] at hb
    unfold readIV
    rw [hb, read_eq l hl n hk]

theorem or_free (y f : Int) (h : U f) : bits .or .u64 (bits .andNot .u64 y 18446744073709551615) (bits .and .u64 f 18446744073709551615) = f :=
  bt_ext _ _ (U_bits _ _ _) h fun i hi => by rw [bt_or, bt_andNot _ _ _ hi, bt_and, litAll i hi]; cases bt y i <;> cases bt f i <;> rfl

theorem or_shut (y f : Int) (h : U y) : bits .or .u64 (bits .andNot .u64 y 0) (bits .and .u64 f 0) = y :=
  bt_ext _ _ (U_bits _ _ _) h fun i hi => by
    have h0 : bt 0 i = false := by unfold bt; simp
    rw [bt_or, bt_andNot _ _ _ hi, bt_and, h0]; cases bt y i <;> cases bt f i <;> rfl

theorem all_less0 : bits .andNot .u64 18446744073709551615 0 = 18446744073709551615 := by decide +kernel

theorem all_lessAll : bits .andNot .u64 18446744073709551615 18446744073709551615 = 0 := by decide +kernel

theorem U_fit (k : CK) (x : Int) (h : U x) : U (fitV k x) := by
  cases k with
  | plain b => exact U_bits .and x b
  | mst =>
    show U (if (bits .and .u64 x 6144 == 4096) = true then bits .andNot .u64 (bits .and .u64 x 924074) 6144 else bits .and .u64 x 924074)
    split
    · exact U_bits _ _ _
    · exact U_bits _ _ _
  | mie => exact U_bits .and x 2730
  | mip => exact U_bits .and x 2730
  | satp =>
    show U (if modeB x = true then x else 0)
    split
    · exact h
    · constructor <;> decide
  | cfg => rw [show fitV .cfg x = cfgI x 4 from rfl, cfgI]; exact U_bits _ _ _
  | addr e => exact U_bits .and x 18014398509481983

theorem left_free (l : List Int) (k : Nat) (hk : (ckAt k).2.holds = false) (x : Int) (h : U x) : leftV l k 18446744073709551615 x = fitV (ckAt k).2 x := by
  unfold leftV turnsV
  rw [hk, if_neg (by decide)]
  exact or_free _ _ (U_fit _ x h)

theorem set_same (l : List Int) (k : Nat) (hk : k < l.length) : l.set k (l.getD k 0) = l := by
  have e : l.getD k 0 = l[k] := by simp [List.getD, List.getElem?_eq_getElem hk]
  rw [e, List.set_getElem_self]

theorem litMip : ∀ i, i < 64 → ∀ y x : Bool, (((y && bt 2730 i) && !(bt 18446744073709551615 i && !bt 2184 i)) || ((x && bt 2730 i) && (bt 18446744073709551615 i && !bt 2184 i))) = (((y && bt 2730 i) && !bt 546 i) || (x && bt 546 i)) := by decide +kernel

theorem left_mip (y x : Int) (hy : bits .and .u64 y 2730 = y) :
    bits .or .u64 (bits .andNot .u64 y (bits .andNot .u64 18446744073709551615 2184)) (bits .and .u64 (bits .and .u64 x 2730) (bits .andNot .u64 18446744073709551615 2184)) = mixV y 546 x := by
  unfold mixV
  refine bt_ext _ _ (U_bits _ _ _) (U_bits _ _ _) fun i hi => ?_
  have hb : bt y i = (bt y i && bt 2730 i) := by conv => lhs; rw [← hy, bt_and]
  rw [bt_or, bt_andNot _ _ _ hi, bt_and, bt_and, bt_andNot _ _ _ hi, bt_or, bt_andNot _ _ _ hi, bt_and, hb]
  exact litMip i hi _ _

theorem lit256 : ∀ i, i < 64 → ∀ x : Bool, ((x && bt 924074 i) && bt 786722 i) = (x && bt 786722 i) ∧ (((x && bt 924074 i) && !bt 6144 i) && bt 786722 i) = (x && bt 786722 i) := by decide +kernel

theorem left_256 (y x : Int) : bits .or .u64 (bits .andNot .u64 y 786722) (bits .and .u64 (fitV .mst x) 786722) = mixV y 786722 x := by
  unfold mixV
  refine bt_ext _ _ (U_bits _ _ _) (U_bits _ _ _) fun i hi => ?_
  have hf : bt (bits .and .u64 (fitV .mst x) 786722) i = bt (bits .and .u64 x 786722) i := by
    show bt (bits .and .u64 (if (bits .and .u64 x 6144 == 4096) = true then bits .andNot .u64 (bits .and .u64 x 924074) 6144 else bits .and .u64 x 924074) 786722) i = _
    split
    · rw [bt_and, bt_andNot _ _ _ hi, bt_and, bt_and]; exact (lit256 i hi _).2
    · rw [bt_and, bt_and, bt_and]; exact (lit256 i hi _).1
  rw [bt_or, hf, bt_or]

theorem left_260 (y m x : Int) (hy : bits .and .u64 y 2730 = y) : bits .or .u64 (bits .andNot .u64 y m) (bits .and .u64 (bits .and .u64 x 2730) m) = legal 3 (mixV y m x) := by
  show _ = bits .and .u64 (bits .or .u64 (bits .andNot .u64 y m) (bits .and .u64 x m)) 2730
  refine bt_ext _ _ (U_bits _ _ _) (U_bits _ _ _) fun i hi => ?_
  have hb : bt y i = (bt y i && bt 2730 i) := by conv => lhs; rw [← hy, bt_and]
  rw [bt_or, bt_andNot _ _ _ hi, bt_and, bt_and, bt_and, bt_or, bt_andNot _ _ _ hi, bt_and, hb]
  cases bt y i <;> cases bt m i <;> cases bt x i <;> cases bt 2730 i <;> rfl

theorem lit324 : ∀ i, i < 64 → ∀ y m x : Bool, ((y && !((m && bt 2 i) && !bt 2184 i)) || ((x && bt 2730 i) && ((m && bt 2 i) && !bt 2184 i))) = ((y && !(m && bt 2 i)) || (x && (m && bt 2 i))) := by decide +kernel

theorem left_324 (y m x : Int) : bits .or .u64 (bits .andNot .u64 y (bits .andNot .u64 (bits .and .u64 m 2) 2184)) (bits .and .u64 (bits .and .u64 x 2730) (bits .andNot .u64 (bits .and .u64 m 2) 2184)) = mixV y (bits .and .u64 m 2) x := by
  unfold mixV
  refine bt_ext _ _ (U_bits _ _ _) (U_bits _ _ _) fun i hi => ?_
  rw [bt_or, bt_andNot _ _ _ hi, bt_and, bt_and, bt_andNot _ _ _ hi, bt_and, bt_or, bt_andNot _ _ _ hi, bt_and, bt_and, bt_and]
  exact lit324 i hi _ _ _

/-- A byte of pmpcfg0. -/
theorem at_fld (l : List Int) (h : U (l.getD 16 0)) (k : Nat) : cfgAt l k = fld (l.getD 16 0) (8 * k) 8 := bitsAt_eq _ (8 * k) 8 h.1 h.2 (by omega)

theorem lock8 : ∀ z : Nat, z < 256 → (bits .and .u64 (z : Int) 128 != 0) = ((z : Int) / 128 == 1) := by decide +kernel

theorem lock_eq (l : List Int) (h : U (l.getD 16 0)) (k : Nat) : lockI (l.getD 16 0) k = (cfgAt l k / 128 == 1) := by
  rw [at_fld l h]
  unfold lockI
  have hb := fld_bd (l.getD 16 0) (8 * k) 8
  obtain ⟨z, hz⟩ := Int.eq_ofNat_of_zero_le hb.1
  rw [hz] at hb ⊢
  exact lock8 z (by have : ((2 : Int) ^ 8) = 256 := by decide
                    omega)

theorem U_stay (c : Int) : ∀ k, U (stayI c k) := by
  intro k
  induction k with
  | zero => rw [stayI]; constructor <;> decide
  | succ k ih =>
    rw [stayI]
    split
    · exact U_bits _ _ _
    · exact ih

theorem U_keep (l : List Int) (y : Int) (h : U y) : ∀ k, U (cfgKeep l y k) := by
  intro k
  induction k with
  | zero => exact h
  | succ k ih =>
    rw [cfgKeep]
    split
    · exact U_bits _ _ _
    · exact ih

theorem keep_bits (l : List Int) (h : U (l.getD 16 0)) (y : Int) (i : Nat) (hi : i < 64) : ∀ k, bt (cfgKeep l y k) i = if bt (stayI (l.getD 16 0) k) i = true then bt (l.getD 16 0) i else bt y i := by
  intro k
  induction k with
  | zero =>
    have h0 : bt 0 i = false := by unfold bt; simp
    show bt y i = if bt 0 i = true then _ else _
    rw [h0, if_neg (by decide)]
  | succ k ih =>
    rw [cfgKeep, stayI, lock_eq l h]
    cases (cfgAt l k / 128 == 1) with
    | false => exact ih
    | true =>
      rw [if_pos rfl, if_pos rfl, bt_or, bt_andNot _ _ _ hi, bt_and, bt_or, ih]
      cases bt (IntKind.u64.wrap (255 * 2 ^ (8 * k))) i <;> cases bt (stayI (l.getD 16 0) k) i <;> cases bt (l.getD 16 0) i <;> cases bt y i <;> rfl

theorem left_cfg (l : List Int) (h : U (l.getD 16 0)) (f : Int) (hf : U f) :
    bits .or .u64 (bits .andNot .u64 (l.getD 16 0) (bits .andNot .u64 18446744073709551615 (stayI (l.getD 16 0) 4))) (bits .and .u64 f (bits .andNot .u64 18446744073709551615 (stayI (l.getD 16 0) 4))) = cfgKeep l f 4 := by
  refine bt_ext _ _ (U_bits _ _ _) (U_keep l f hf 4) fun i hi => ?_
  rw [keep_bits l h f i hi, bt_or, bt_andNot _ _ _ hi, bt_and, bt_andNot _ _ _ hi, litAll i hi]
  cases bt (stayI (l.getD 16 0) 4) i <;> cases bt (l.getD 16 0) i <;> cases bt f i <;> rfl

theorem lit159h : ∀ i, i < 64 → 8 ≤ i → bt 159 i = false := by decide +kernel

theorem bt_byte (x : Int) (k i : Nat) (hi : 8 ≤ i) : bt (cfgByte x k) i = false := by
  by_cases h64 : i < 64
  · unfold cfgByte
    split
    · rw [bt_andNot _ _ _ h64, bt_and, lit159h i h64 hi, Bool.and_false, Bool.false_and]
    · rw [bt_and, lit159h i h64 hi, Bool.and_false]
  · exact bt_high _ _ (by omega)

theorem U_byte (x : Int) (k : Nat) : U (cfgByte x k) := by
  unfold cfgByte; split <;> exact U_bits _ _ _

theorem sum_high (x : Int) (i : Nat) (hi : 32 ≤ i) : ∀ k, k ≤ 4 → bt (cfgSum x k) i = false := by
  intro k
  induction k with
  | zero => intro _; unfold bt; simp [cfgSum]
  | succ k ih =>
    intro hk
    rw [cfgSum, bt_or, ih (by omega), bt_shl _ (U_byte x k), bt_byte x k _ (by omega), Bool.and_false, Bool.or_false]

theorem cfg_four (c : Int) (hc : U c) (h : legal 16 c = c) : lockI c 4 = false := by
  have h2 : cfgSum c 4 = c := h
  have e : fld c (8 * 4) 8 = 0 := by
    refine bt_ext _ _ (U_fld _ _ _ (by omega)) (by constructor <;> decide) fun i hi => ?_
    rw [bt_fld c hc _ _ _ (by omega)]
    have : bt c (i + 8 * 4) = false := by rw [← h2]; exact sum_high c _ (by omega) 4 (by omega)
    rw [this, Bool.and_false]
    unfold bt; simp
  unfold lockI
  rw [e]
  decide +kernel

theorem reach_fld (l : List Int) (h : U (l.getD 16 0)) (k : Nat) (hk : k < 4) : reachI (l.getD 16 0) k = bits .and .u64 (cfgAt l k / 8) 3 := by
  rw [at_fld l h]
  have h3 := and_low (fld (l.getD 16 0) (8 * k) 8 / 8) 2 (by have := (fld_bd (l.getD 16 0) (8 * k) 8).1; omega) (by have hu := U_fld (l.getD 16 0) (8 * k) 8 (by omega); have h1 := hu.1; have h2 := hu.2; omega) (by omega)
  rw [show ((2 : Int) ^ 2 - 1) = 3 from by decide, show ((2 : Int) ^ 2) = 4 from by decide] at h3
  rw [h3]
  unfold reachI fld
  rw [Int.pow_add, show ((2 : Int) ^ 3) = 8 from by decide, show ((2 : Int) ^ 2) = 4 from by decide, show ((2 : Int) ^ 8) = 256 from by decide, ← Int.ediv_ediv_of_nonneg (Int.le_of_lt (Int.pow_pos (by omega)))]
  generalize l.getD 16 0 / 2 ^ (8 * k) = z
  omega

theorem addr_stays (l : List Int) (h : U (l.getD 16 0)) (hc : legal 16 (l.getD 16 0) = l.getD 16 0) (e : Nat) (he : e < 4) :
    (lockI (l.getD 16 0) e || (lockI (l.getD 16 0) (e + 1) && (reachI (l.getD 16 0) (e + 1) == 1))) = lockB l e := by
  unfold lockB
  by_cases h3 : e < 3
  · rw [lock_eq l h, lock_eq l h, reach_fld l h _ (by omega), show decide (e < 3) = true from by simpa using h3, Bool.true_and]
  · have : e = 3 := by omega
    subst this
    rw [cfg_four _ h hc, lock_eq l h]
    simp

theorem left_addr (l : List Int) (h : U (l.getD 16 0)) (hc : legal 16 (l.getD 16 0) = l.getD 16 0) (k e : Nat) (he : e < 4) (hk : (ckAt k).2 = .addr e) (hy : U (l.getD k 0)) (x : Int) (hx : U x) :
    leftV l k 18446744073709551615 x = if lockB l e = true then l.getD k 0 else bits .and .u64 x 18014398509481983 := by
  unfold leftV turnsV
  rw [hk]
  show bits .or .u64 (bits .andNot .u64 (l.getD k 0) (bits .andNot .u64 18446744073709551615 (if (lockI (l.getD 16 0) e || (lockI (l.getD 16 0) (e + 1) && (reachI (l.getD 16 0) (e + 1) == 1))) = true then 18446744073709551615 else 0)))
    (bits .and .u64 (bits .and .u64 x 18014398509481983) (bits .andNot .u64 18446744073709551615 (if (lockI (l.getD 16 0) e || (lockI (l.getD 16 0) (e + 1) && (reachI (l.getD 16 0) (e + 1) == 1))) = true then 18446744073709551615 else 0))) = _
  rw [addr_stays l h hc e he]
  cases lockB l e with
  | true => rw [if_pos rfl, if_pos rfl, all_lessAll]; exact or_shut _ _ hy
  | false => rw [if_neg (by decide), if_neg (by decide), all_less0]; exact or_free _ _ (U_bits _ _ _)

theorem left_satp (l : List Int) (hy : U (l.getD 15 0)) (x : Int) (hx : U x) : leftV l 15 18446744073709551615 x = if modeB x = true then x else l.getD 15 0 := by
  unfold leftV turnsV
  show bits .or .u64 (bits .andNot .u64 (l.getD 15 0) (bits .andNot .u64 18446744073709551615 (if modeB x = true then 0 else 18446744073709551615)))
    (bits .and .u64 (if modeB x = true then x else 0) (bits .andNot .u64 18446744073709551615 (if modeB x = true then 0 else 18446744073709551615))) = _
  cases modeB x with
  | true => rw [if_pos rfl, if_pos rfl, if_pos rfl, all_less0]; exact or_free _ _ hx
  | false => rw [if_neg (by decide), if_neg (by decide), if_neg (by decide), all_lessAll]; exact or_shut _ _ hy

theorem okRest_at (l : List Int) : ∀ n k, okRest l n k = true → ∀ j, k ≤ j → j < k + n → okAt j (l.getD j 0) = true := by
  intro n
  induction n with
  | zero => intro k _ j h1 h2; omega
  | succ n ih =>
    intro k h j h1 h2
    rw [okRest, Bool.and_eq_true] at h
    by_cases hj : j = k
    · subst hj; exact h.1
    · exact ih (k + 1) h.2 j (by omega) (by omega)

theorem right_at {m : Nat} {l : List Int} (h : csrsOk m l = true) (j : Nat) (hj : j < 22) : okAt j (l.getD j 0) = true := by
  simp only [csrsOk, Bool.and_eq_true, decide_eq_true_eq] at h
  exact okRest_at l 22 0 h.2 j (by omega) (by omega)

theorem write_own (l : List Int) (n x : Int) (k : Nat) (hf : findV n (l.getD 2 0) 22 0 = ⟨k, n, 18446744073709551615, 18446744073709551615, true⟩) (hw : writeV l n x = putV l k x)
    (h : l.set k (leftV l k 18446744073709551615 x) = putV l k x) : writeI l n x = writeV l n x := by
  unfold writeI
  rw [hf, hw]
  show l.set ((k : Int)).toNat (leftV l ((k : Int)).toNat 18446744073709551615 x) = _
  rw [Int.toNat_natCast]
  exact h

theorem write_free (l : List Int) (n x : Int) (hx : U x) (k : Nat) (hk : k < 22) (h9 : k ≠ 9) (h15 : k ≠ 15) (hh : (ckAt k).2.holds = false) (hf : findV n (l.getD 2 0) 22 0 = ⟨k, n, 18446744073709551615, 18446744073709551615, true⟩) (hw : writeV l n x = putV l k x) (hp : putV l k x = l.set k (legal k x)) :
    writeI l n x = writeV l n x :=
  write_own l n x k hf hw (by rw [left_free l k hh x hx, fit_legal x hx k hk h9 h15, hp])

theorem write_eq (l : List Int) (hz : l.length = 22) (hl : ∀ j, U (l.getD j 0)) (hok : csrsOk 22 l = true) (n x : Int) (hx : U x) (h : knownB n = true) : writeI l n x = writeV l n x := by
  have h9 : bits .and .u64 (l.getD 9 0) 2730 = l.getD 9 0 := by
    have := right_at hok 9 (by omega); exact eq_of_beq this
  have h3 : bits .and .u64 (l.getD 3 0) 2730 = l.getD 3 0 := by
    have := right_at hok 3 (by omega); exact eq_of_beq this
  have h16 : legal 16 (l.getD 16 0) = l.getD 16 0 := by
    have := right_at hok 16 (by omega); exact eq_of_beq this
  rcases known_cases n h with rfl | rfl | h2
  · unfold writeI; rw [findV_none 3860 _ (by decide) 22 0 (by omega)]; rfl
  · unfold writeI; rw [findV_none 769 _ (by decide) 22 0 (by omega)]; rfl
  · rcases nums_cases n h2 with rfl | rfl | rfl | rfl | rfl | rfl | rfl | rfl | rfl | rfl | rfl | rfl | rfl | rfl | rfl | rfl | rfl | rfl | rfl | rfl | rfl | rfl | rfl | rfl | rfl
    · exact write_free l 768 x hx 0 (by omega) (by omega) (by omega) rfl rfl rfl rfl
    · exact write_free l 770 x hx 1 (by omega) (by omega) (by omega) rfl rfl rfl rfl
    · exact write_free l 771 x hx 2 (by omega) (by omega) (by omega) rfl rfl rfl rfl
    · exact write_free l 772 x hx 3 (by omega) (by omega) (by omega) rfl rfl rfl rfl
    · exact write_free l 773 x hx 4 (by omega) (by omega) (by omega) rfl rfl rfl rfl
    · exact write_free l 832 x hx 5 (by omega) (by omega) (by omega) rfl rfl rfl rfl
    · exact write_free l 833 x hx 6 (by omega) (by omega) (by omega) rfl rfl rfl rfl
    · exact write_free l 834 x hx 7 (by omega) (by omega) (by omega) rfl rfl rfl rfl
    · exact write_free l 835 x hx 8 (by omega) (by omega) (by omega) rfl rfl rfl rfl
    · refine write_own l 836 x 9 rfl rfl ?_
      show l.set 9 (bits .or .u64 (bits .andNot .u64 (l.getD 9 0) (bits .andNot .u64 18446744073709551615 2184)) (bits .and .u64 (bits .and .u64 x 2730) (bits .andNot .u64 18446744073709551615 2184))) = l.set 9 (mixV (l.getD 9 0) 546 x)
      rw [left_mip _ x h9]
    · exact write_free l 261 x hx 10 (by omega) (by omega) (by omega) rfl rfl rfl rfl
    · exact write_free l 320 x hx 11 (by omega) (by omega) (by omega) rfl rfl rfl rfl
    · exact write_free l 321 x hx 12 (by omega) (by omega) (by omega) rfl rfl rfl rfl
    · exact write_free l 322 x hx 13 (by omega) (by omega) (by omega) rfl rfl rfl rfl
    · exact write_free l 323 x hx 14 (by omega) (by omega) (by omega) rfl rfl rfl rfl
    · refine write_own l 384 x 15 rfl rfl ?_
      rw [left_satp l (hl 15) x hx]
      show _ = (if ((x / 1152921504606846976 == 0) || (x / 1152921504606846976 == 8)) = true then l.set 15 x else l)
      rw [← mode_eq x hx]
      cases modeB x with
      | true => rfl
      | false => rw [if_neg (by decide), if_neg (by decide), set_same l 15 (by omega)]
    · refine write_own l 928 x 16 rfl rfl ?_
      show l.set 16 (bits .or .u64 (bits .andNot .u64 (l.getD 16 0) (bits .andNot .u64 18446744073709551615 (stayI (l.getD 16 0) 4))) (bits .and .u64 (cfgI x 4) (bits .andNot .u64 18446744073709551615 (stayI (l.getD 16 0) 4)))) = l.set 16 (cfgKeep l (cfgSum x 4) 4)
      rw [cfg_eq x hx, left_cfg l (hl 16) (cfgSum x 4) (by rw [cfgSum]; exact U_bits _ _ _)]
    · refine write_own l 944 x 17 rfl rfl ?_
      rw [left_addr l (hl 16) h16 17 0 (by omega) rfl (hl 17) x hx]
      show _ = (if lockB l 0 = true then l else l.set 17 (bits .and .u64 x 18014398509481983))
      cases lockB l 0 with
      | true => rw [if_pos rfl, if_pos rfl, set_same l 17 (by omega)]
      | false => rfl
    · refine write_own l 945 x 18 rfl rfl ?_
      rw [left_addr l (hl 16) h16 18 1 (by omega) rfl (hl 18) x hx]
      show _ = (if lockB l 1 = true then l else l.set 18 (bits .and .u64 x 18014398509481983))
      cases lockB l 1 with
      | true => rw [if_pos rfl, if_pos rfl, set_same l 18 (by omega)]
      | false => rfl
    · refine write_own l 946 x 19 rfl rfl ?_
      rw [left_addr l (hl 16) h16 19 2 (by omega) rfl (hl 19) x hx]
      show _ = (if lockB l 2 = true then l else l.set 19 (bits .and .u64 x 18014398509481983))
      cases lockB l 2 with
      | true => rw [if_pos rfl, if_pos rfl, set_same l 19 (by omega)]
      | false => rfl
    · refine write_own l 947 x 20 rfl rfl ?_
      rw [left_addr l (hl 16) h16 20 3 (by omega) rfl (hl 20) x hx]
      show _ = (if lockB l 3 = true then l else l.set 20 (bits .and .u64 x 18014398509481983))
      cases lockB l 3 with
      | true => rw [if_pos rfl, if_pos rfl, set_same l 20 (by omega)]
      | false => rfl
    · exact write_free l 2818 x hx 21 (by omega) (by omega) (by omega) rfl rfl rfl rfl
    · show l.set 0 (bits .or .u64 (bits .andNot .u64 (l.getD 0 0) 786722) (bits .and .u64 (fitV .mst x) 786722)) = l.set 0 (mixV (l.getD 0 0) 786722 x)
      rw [left_256]
    · show l.set 3 (bits .or .u64 (bits .andNot .u64 (l.getD 3 0) (l.getD 2 0)) (bits .and .u64 (bits .and .u64 x 2730) (l.getD 2 0))) = l.set 3 (legal 3 (mixV (l.getD 3 0) (l.getD 2 0) x))
      rw [left_260 _ _ _ h3]
    · show l.set 9 (bits .or .u64 (bits .andNot .u64 (l.getD 9 0) (bits .andNot .u64 (bits .and .u64 (l.getD 2 0) 2) 2184)) (bits .and .u64 (bits .and .u64 x 2730) (bits .andNot .u64 (bits .and .u64 (l.getD 2 0) 2) 2184))) = l.set 9 (mixV (l.getD 9 0) (bits .and .u64 (l.getD 2 0) 2) x)
      rw [left_324]

theorem writeB_eq (m : Nat) (l : List Int) (hl : ∀ j, U (l.getD j 0)) (n p : Int) : writeIB m l n p = wokB m l n p := by
  have hb := readB_eq m l hl n p
  unfold readIB at hb
  unfold writeIB wokB
  cases hk : knownB n with
  | false =>
    have h1 : mayB m l n p = false := by unfold mayB; rw [hk]; cases csrsOk m l <;> rfl
    rw [h1, ok_eq, hk]
    simp
  | true =>
    rw [← hb, only_eq n hk, ok_eq, hk]
    cases mayI m l n p <;> cases ((wrap64 (n.tdiv 1024)).tmod 4 == 3) <;> rfl

theorem writeL_eq (m : Nat) (l : List Int) (hz : l.length = m) (hl : ∀ j, U (l.getD j 0)) (n p x : Int) (hx : U x) : writeIL m l n p x = writeL m l n p x := by
  unfold writeIL writeL
  rw [writeB_eq m l hl n p]
  cases hw : wokB m l n p with
  | false => rfl
  | true =>
    rw [if_pos rfl, if_pos rfl]
    have hmay : mayB m l n p = true := by
      unfold wokB at hw
      rw [Bool.and_eq_true] at hw
      exact hw.1
    obtain ⟨rfl, hk⟩ := mayB_parts hmay
    have hok : csrsOk 22 l = true := by
      simp only [mayB, Bool.and_eq_true] at hmay
      exact hmay.1.1.1
    exact write_eq l hz hl hok n x hx hk

theorem word_bd {zs : List Int} (h : ∀ y ∈ zs, (Lit.int .u64 y).wf = true) (j : Nat) : U (zs.getD j 0) := by
  by_cases hk : j < zs.length
  · have h1 := u64_bd (h (zs.getD j 0) (by simp [List.getD, List.getElem?_eq_getElem hk]))
    exact ⟨h1.1, by have := h1.2; omega⟩
  · simp only [List.getD, List.getElem?_eq_none (Nat.le_of_not_lt hk), Option.getD_none]
    constructor <;> decide

end Go.Proofs.Ytcdjfiljlahaeaa
