/- Own lemmas. -/
import Derived.Test.YtilhcfhcdplicaaGreatDoorK12
import Derived.Lib.TrailingZeros
namespace Go.Proofs.YtilhcfhcdplicaaGreatDoor
open Go.RowKit
set_option linter.unusedVariables false

def onesI (a : Int) : Nat := min (Lib.ctz 64 (18446744073709551615 - a).toNat) 53

theorem bit_at (a : Nat) (ha : a < 18446744073709551616) (j : Nat) : (bits .and .u64 ((a : Int) / 2 ^ j) 1 == 1) = a.testBit j := by
  have h := U_div (a : Int) ⟨by omega, by omega⟩ j
  have e := and_low ((a : Int) / 2 ^ j) 1 h.1 h.2 (by omega)
  have e2 : ((2 : Int) ^ 1 - 1) = 1 := rfl
  rw [e2] at e
  rw [e, Nat.testBit_eq_decide_div_mod_eq]
  have e3 : ((a : Int) / 2 ^ j % 2 ^ 1) = ((a / 2 ^ j % 2 : Nat) : Int) := by simp
  rw [e3]
  have : a / 2 ^ j % 2 = 0 ∨ a / 2 ^ j % 2 = 1 := by omega
  rcases this with h | h <;> rw [h] <;> rfl

theorem trail_min (a : Int) (k : Nat) (h1 : ∀ j, j < k → (bits .and .u64 (a / 2 ^ j) 1 == 1) = true) (h2 : (bits .and .u64 (a / 2 ^ k) 1 == 1) = false) : ∀ n i, i ≤ k → trailN a n i = min (i + n) k := by
  intro n
  induction n with
  | zero => intro i hi; show i = min (i + 0) k; omega
  | succ n ih =>
    intro i hi
    unfold trailN
    rcases Nat.lt_or_ge i k with hlt | hge
    · rw [if_pos (h1 i hlt), ih (i + 1) hlt]; omega
    · obtain rfl : i = k := by omega
      rw [if_neg (by rw [h2]; decide)]; omega

theorem ones_eq (a : Int) (h0 : 0 ≤ a) (h1 : a < 18014398509481984) : onesI a = trailN a 53 0 := by
  obtain ⟨n, rfl⟩ : ∃ n : Nat, a = n := ⟨a.toNat, by omega⟩
  have hx : (18446744073709551615 - (n : Int)).toNat = 18446744073709551615 - n := by omega
  unfold onesI
  rw [hx]
  have hne : 18446744073709551615 - n ≠ 0 := by omega
  have hc : Lib.ctz 64 (18446744073709551615 - n) = Lib.ctzFrom 64 (18446744073709551615 - n) := by unfold Lib.ctz; rw [if_neg hne]
  obtain ⟨m, hm, hk⟩ := Lib.ctzFrom_spec 64 (18446744073709551615 - n) (by omega) (by omega)
  rw [hc]
  generalize Lib.ctzFrom 64 (18446744073709551615 - n) = k at *
  have hlt : 2 ^ k * (2 * m + 1) < 2 ^ 64 := by omega
  have hn : n = 2 ^ 64 - (2 ^ k * (2 * m + 1) + 1) := by omega
  have hb : ∀ j, j < 64 → n.testBit j = !(decide (k ≤ j) && (2 * m + 1).testBit (j - k)) := by
    intro j hj
    rw [hn, Nat.testBit_two_pow_sub_succ hlt, Nat.testBit_two_pow_mul, decide_eq_true hj, Bool.true_and]
  rw [trail_min (n : Int) k (fun j hj => by rw [bit_at n (by omega), hb j (by omega), decide_eq_false (by omega)]; rfl)
    (by rw [bit_at n (by omega), hb k hk, Nat.sub_self]; simp) 53 0 (by omega)]
  omega

def headV (l : List Int) (i : Nat) : Int := if (i == 0) = true then 0 else IntKind.u64.wrap (4 * l.getD (16 + i) 0)

def powLo (a : Int) (k : Nat) : Int := IntKind.u64.wrap (4 * IntKind.u64.wrap (a / 2 ^ (k + 1) * 2 ^ (k + 1)))

def powHi (a : Int) (k : Nat) : Int := IntKind.u64.wrap (powLo a k + IntKind.u64.wrap (2 ^ (k + 3)))

def spanV (l : List Int) (i : Nat) : Int × Int :=
  if (reachI (l.getD 16 0) i == 1) = true then (headV l i, IntKind.u64.wrap (4 * l.getD (17 + i) 0))
  else if (reachI (l.getD 16 0) i == 2) = true then (IntKind.u64.wrap (4 * l.getD (17 + i) 0), IntKind.u64.wrap (IntKind.u64.wrap (4 * l.getD (17 + i) 0) + 4))
  else if (reachI (l.getD 16 0) i == 3) = true then (powLo (l.getD (17 + i) 0) (onesI (l.getD (17 + i) 0)), powHi (l.getD (17 + i) 0) (onesI (l.getD (17 + i) 0)))
  else (0, 0)

theorem pow_span (a : Int) (h0 : 0 ≤ a) (h1 : a < 18014398509481984) (k : Nat) (hk : k ≤ 53) : powLo a k = regLo a k ∧ IntKind.u64.wrap (powHi a k - 1) = regHi a k ∧ powLo a k < powHi a k := by
  have hu : U a := ⟨h0, by omega⟩
  have e := andNot_low a hu (k + 1) (by omega)
  have hp : (0 : Int) < 2 ^ (k + 1) := Int.pow_pos (by omega)
  have hle : a / 2 ^ (k + 1) * 2 ^ (k + 1) ≤ a := Int.ediv_mul_le _ (by omega)
  have hge : 0 ≤ a / 2 ^ (k + 1) * 2 ^ (k + 1) := Int.mul_nonneg (U_div a hu (k + 1)).1 (by omega)
  have h8 : ∀ k, k ≤ 53 → (0 : Int) < 2 ^ (k + 3) ∧ (2 : Int) ^ (k + 3) ≤ 72057594037927936 := by decide +kernel
  obtain ⟨h80, h81⟩ := h8 k hk
  have elo : powLo a k = 4 * (a / 2 ^ (k + 1) * 2 ^ (k + 1)) := by
    unfold powLo
    generalize a / 2 ^ (k + 1) * 2 ^ (k + 1) = z at *
    rw [IntKind.wrap_u64, IntKind.wrap_u64]; omega
  have er : regLo a k = 4 * (a / 2 ^ (k + 1) * 2 ^ (k + 1)) := by
    unfold regLo
    rw [e]
    generalize a / 2 ^ (k + 1) * 2 ^ (k + 1) = z at *
    rw [IntKind.wrap_u64]; omega
  refine ⟨elo.trans er.symm, ?_, ?_⟩
  · unfold powHi regHi
    rw [elo, er]
  · unfold powHi
    rw [elo]
    generalize a / 2 ^ (k + 1) * 2 ^ (k + 1) = z at *
    generalize (2 : Int) ^ (k + 3) = q at *
    rw [IntKind.wrap_u64, IntKind.wrap_u64]; omega

theorem span_region {l : List Int} (hl : ∀ j, U (l.getD j 0)) (hok : csrsOk 22 l = true) (i : Nat) (hi : i < 4) :
    regionV l i = if (spanV l i).2 ≤ (spanV l i).1 then (0, 0, false) else ((spanV l i).1, IntKind.u64.wrap ((spanV l i).2 - 1), true) := by
  have er : reachI (l.getD 16 0) i = kindOf l i := reach_fld l (hl 16) i hi
  have ha := addr_bd hl hok (17 + i) (by omega) (by omega)
  unfold regionV spanV
  rw [er]
  cases k1 : (kindOf l i == 1) with
  | true =>
    simp only [if_true]
    have eh : headV l i = regFrom l i := by
      unfold headV regFrom
      rcases Nat.eq_zero_or_pos i with h | h
      · subst h; rfl
      · have : (i == 0) = false := by simp; omega
        rw [this, if_neg (by decide), if_pos h, Int.mul_comm]
    rw [eh, Int.mul_comm 4]
  | false =>
    simp only [Bool.false_eq_true, if_false]
    cases k2 : (kindOf l i == 2) with
    | true =>
      simp only [if_true]
      generalize l.getD (17 + i) 0 = a at *
      rw [Int.mul_comm a 4]
      simp only [IntKind.wrap_u64]
      rw [if_neg (by omega)]
      congr 2
      omega
    | false =>
      simp only [Bool.false_eq_true, if_false]
      cases k3 : (kindOf l i == 3) with
      | true =>
        simp only [if_true]
        rw [ones_eq _ ha.1 ha.2]
        obtain ⟨e1, e2, e3⟩ := pow_span _ ha.1 ha.2 (trailN (l.getD (17 + i) 0) 53 0) (by have := trail_le (l.getD (17 + i) 0) 53 0; omega)
        rw [if_neg (by omega), e1, e2]
      | false =>
        simp only [Bool.false_eq_true, if_false]
        rfl

def pickR (l : List Int) (k : Nat) : Option (Nat × Int × Int × Int) := if (spanV l k).2 ≤ (spanV l k).1 then none else some (k, (spanV l k).1, IntKind.u64.wrap ((spanV l k).2 - 1), fld (l.getD 16 0) (8 * k) 8)

def gotR (l : List Int) (k : Nat) : List (Nat × Int × Int × Int) := (List.range k).filterMap (pickR l)

theorem gotR_none {l : List Int} {k : Nat} (h : (spanV l k).2 ≤ (spanV l k).1) : gotR l (k + 1) = gotR l k := by
  unfold gotR
  rw [List.range_succ, List.filterMap_append]
  have : pickR l k = none := by unfold pickR; rw [if_pos h]
  simp [this]

theorem gotR_some {l : List Int} {k : Nat} (h : ¬ (spanV l k).2 ≤ (spanV l k).1) : gotR l (k + 1) = gotR l k ++ [(k, (spanV l k).1, IntKind.u64.wrap ((spanV l k).2 - 1), fld (l.getD 16 0) (8 * k) 8)] := by
  unfold gotR
  rw [List.range_succ, List.filterMap_append]
  have : pickR l k = some (k, (spanV l k).1, IntKind.u64.wrap ((spanV l k).2 - 1), fld (l.getD 16 0) (8 * k) 8) := by unfold pickR; rw [if_neg h]
  simp [this]

theorem gotR_len (l : List Int) (k : Nat) : (gotR l k).length ≤ k := by
  unfold gotR
  exact Nat.le_trans (List.length_filterMap_le _ _) (by simp)

theorem gotR_pre (l : List Int) : ∀ d k, gotR l k <+: gotR l (k + d) := by
  intro d
  induction d with
  | zero => intro k; exact List.prefix_refl _
  | succ d ih =>
    intro k
    refine (ih k).trans ?_
    show gotR l (k + d) <+: gotR l (k + d + 1)
    unfold gotR
    rw [List.range_succ, List.filterMap_append]
    exact List.prefix_append _ _

theorem find_stop {α : Type} {q : α → Bool} {xs pre ini : List α} {last : α} (h : pre <+: xs) (e : pre = ini ++ [last]) (hi : ∀ p ∈ ini, q p = false) (hl : q last = true) : xs.find? q = some last := by
  obtain ⟨r, rfl⟩ := h
  subst e
  rw [List.append_assoc, List.find?_append]
  have : ini.find? q = none := List.find?_eq_none.2 fun p hp => by rw [hi p hp]; decide
  rw [this]
  simp [hl]

theorem find_done {α : Type} {q : α → Bool} {xs : List α} (hi : ∀ p ∈ xs, q p = false) : xs.find? q = none := List.find?_eq_none.2 fun p hp => by rw [hi p hp]; decide

def meetsB (x y : Int) (p : Nat × Int × Int × Int) : Bool := decide (p.2.1 ≤ y) && decide (x ≤ p.2.2.1)

def metV (l : List Int) (x y : Int) : Int × Int × Int × Bool := match (gotR l 4).find? (meetsB x y) with | some p => (p.2.1, p.2.2.1, p.2.2.2, true) | none => (0, 0, 0, false)

theorem pickR_eq {l : List Int} (hl : ∀ j, U (l.getD j 0)) (hok : csrsOk 22 l = true) (k : Nat) (hk : k < 4) :
    (pickR l k = none ∧ regionV l k = (0, 0, false)) ∨ (∃ lo hi, pickR l k = some (k, lo, hi, cfgAt l k) ∧ regionV l k = (lo, hi, true)) := by
  rw [span_region hl hok k hk]
  unfold pickR
  rw [at_fld l (hl 16) k]
  by_cases h : (spanV l k).2 ≤ (spanV l k).1
  · rw [if_pos h, if_pos h]; exact .inl ⟨rfl, rfl⟩
  · rw [if_neg h, if_neg h]; exact .inr ⟨_, _, rfl, rfl⟩

theorem got_mem {l : List Int} {n : Nat} {p : Nat × Int × Int × Int} (h : p ∈ gotR l n) : p.1 < n ∧ pickR l p.1 = some p := by
  unfold gotR at h
  obtain ⟨a, ha, e⟩ := List.mem_filterMap.1 h
  have h1 : a < n := List.mem_range.1 ha
  have h2 : p.1 = a := by
    unfold pickR at e
    split at e
    · cases e
    · rw [← Option.some.inj e]
  rw [h2]
  exact ⟨h1, e⟩

theorem meets_skip {l : List Int} {k : Nat} {lo hi x y : Int} (er : regionV l k = (lo, hi, true)) : skipB (regionV l k) x y = !meetsB x y (k, lo, hi, cfgAt l k) := by
  rw [er]
  unfold skipB meetsB
  simp only [Bool.not_true, Bool.false_or, Bool.not_and]
  congr 1
  · rw [← decide_not]; congr 1; exact propext ⟨fun h => by omega, fun h => by omega⟩
  · rw [← decide_not]; congr 1; exact propext ⟨fun h => by omega, fun h => by omega⟩

def permO (p x y kind : Int) : Option (Nat × Int × Int × Int) → Bool
  | none => (p == 3)
  | some q => !(decide (x < q.2.1) || decide (q.2.2.1 < y)) && letB q.2.2.2 p kind

theorem perm_find {l : List Int} (hl : ∀ j, U (l.getD j 0)) (hok : csrsOk 22 l = true) (p x y kind : Int) : ∀ n k, k + n ≤ 4 → permRest l p x y kind n k = permO p x y kind (((List.range' k n).filterMap (pickR l)).find? (meetsB x y)) := by
  intro n
  induction n with
  | zero => intro k hk; rfl
  | succ n ih =>
    intro k hk
    rw [permRest, List.range'_succ, List.filterMap_cons]
    rcases pickR_eq hl hok k (by omega) with ⟨e, er⟩ | ⟨lo, hi, e, er⟩
    · rw [e, ih (k + 1) (by omega)]
      have hs : skipB (regionV l k) x y = true := by rw [er]; rfl
      rw [hs, if_pos rfl]
    · rw [e, meets_skip er]
      simp only [List.find?_cons]
      cases hm : meetsB x y (k, lo, hi, cfgAt l k) with
      | false =>
        rw [ih (k + 1) (by omega)]
        rfl
      | true =>
        rw [er]
        rfl

theorem byte8 : ∀ z : Nat, z < 256 → (bits .and .u64 (z : Int) 128 == 0) = ((z : Int) / 128 == 0) ∧ (bits .and .u64 (z : Int) 128 != 0) = ((z : Int) / 128 == 1) ∧ (bits .and .u64 (z : Int) 4 != 0) = (bits .and .u64 ((z : Int) / 4) 1 == 1) ∧ (bits .and .u64 (z : Int) 1 != 0) = (bits .and .u64 (z : Int) 1 == 1) ∧
    (bits .and .u64 (z : Int) 2 != 0) = (bits .and .u64 ((z : Int) / 2) 1 == 1) ∧ (bits .and .u64 (z : Int) 2 == 0) = (bits .and .u64 ((z : Int) / 2) 1 == 0) := by decide +kernel

end Go.Proofs.YtilhcfhcdplicaaGreatDoor
