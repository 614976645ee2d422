/- Own lemmas. -/
import Derived.Test.YtjjpklalihaanaaDoorK01
import Derived.Test.YtjjpklalihaanaaDoorProg
import Derived.Lib.Strings
import Derived.Lib.IndexBytes
import Derived.WalkSpells
import Derived.Lib.ItoaNum
import Derived.Lib.ItoaLen
namespace Go.Proofs.YtjjpklalihaanaaDoor
open Go.RowKit
set_option linter.unusedVariables false

def spl : List UInt8 → List UInt8 → List (List UInt8)
  | cur, [] => [cur]
  | cur, c :: cs => if c = 32 then cur :: spl [] cs else spl (cur ++ [c]) cs

def strV (l : List UInt8) : Value := .string ⟨l.toArray⟩

theorem str_info : ∃ i, Tryd.prog.info? 9 = some i ∧ i.zero = some (.string ⟨#[]⟩) ∧ i.size = 1 ∧ i.bytes = 16 := by
  have h : (Tryd.prog.info? 9).map (fun i => (i.zero, i.size, i.bytes)) = some (some (.string ⟨#[]⟩), 1, 16) := by kernel_rfl
  cases hi : Tryd.prog.info? 9 with
  | none => rw [hi] at h; cases h
  | some i =>
    rw [hi] at h
    simp only [Option.map_some, Option.some.injEq, Prod.mk.injEq] at h
    exact ⟨i, rfl, h.1, h.2.1, h.2.2⟩

theorem ext_take (s : ByteArray) (a b : Nat) : (s.extract a b) = ⟨((s.data.toList.drop a).take (b - a)).toArray⟩ := by
  apply ByteArray.ext
  apply Array.toList_inj.1
  simp

theorem spl_go {L : List UInt8} {from_ i : Nat} {c : UInt8} (hf : from_ ≤ i) (hc : L[i]? = some c) (h : c ≠ 32) : spl ((L.drop from_).take (i - from_)) (L.drop i) = spl ((L.drop from_).take (i + 1 - from_)) (L.drop (i + 1)) := by
  have hi : i < L.length := by
    by_cases hl : i < L.length
    · exact hl
    · rw [List.getElem?_eq_none (by omega)] at hc; cases hc
  have hci : L[i] = c := by rw [List.getElem?_eq_getElem hi] at hc; exact Option.some.inj hc
  rw [List.drop_eq_getElem_cons hi, hci, spl, if_neg h]
  congr 1
  have e : i + 1 - from_ = (i - from_) + 1 := by omega
  rw [e, List.take_succ_eq_append_getElem (by simp; omega)]
  congr 2
  rw [List.getElem_drop]
  simp only [show from_ + (i - from_) = i by omega]
  exact hci.symm

theorem spl_cut {L : List UInt8} {from_ i : Nat} (hc : L[i]? = some 32) : spl ((L.drop from_).take (i - from_)) (L.drop i) = ((L.drop from_).take (i - from_)) :: spl ((L.drop (i + 1)).take (i + 1 - (i + 1))) (L.drop (i + 1)) := by
  have hi : i < L.length := by
    by_cases hl : i < L.length
    · exact hl
    · rw [List.getElem?_eq_none (by omega)] at hc; cases hc
  have hci : L[i] = 32 := by rw [List.getElem?_eq_getElem hi] at hc; exact Option.some.inj hc
  rw [List.drop_eq_getElem_cons hi, hci, spl, if_pos rfl]
  simp

theorem spl_end {L : List UInt8} {from_ : Nat} : spl ((L.drop from_).take (L.length - from_)) (L.drop L.length) = [(L.drop from_).take (L.length - from_)] := by
  simp [spl]

theorem str_at (s : ByteArray) (i : Nat) (h : i < s.size) : s.data.toList[i]? = some (s[i]'h) := by
  rw [Array.getElem?_toList, Array.getElem?_eq_getElem (by exact h)]; rfl

theorem u8_eq {c : UInt8} {k : Nat} (hk : k < 256) (h : c.toNat = k) : c = UInt8.ofNat k := by
  apply UInt8.toNat_inj.1
  rw [h]; simp; omega

set_option maxRecDepth 20000 in
set_option maxHeartbeats 1600000 in
theorem l13Words_any (s : ByteArray) (hs : s.size ≤ 1048576) (w : World) :
    Calls Tryd.prog 49 #[.string s] w fun e w' => ∃ v, e = .returned v ∧ Lst 9 w w' v (spl [] s.data.toList).length ((spl [] s.data.toList).map strV) := by
  obtain ⟨i0, hi, hz0, hz1, hz2⟩ := str_info
  have hlen : s.data.toList.length = s.size := by rw [Array.length_toList]; rfl
  have HL0 := lst_empty 9 w
  go_enter Tryd.func49, Tryd.ntmps49
  go_wp2_with fail
  go_loopw [5, 4, 3] (fun iv fv ov wr => ∃ (i f : Nat) (done : List (List UInt8)), iv = .int .i64 i ∧ fv = .int .i64 f ∧ i ≤ s.size + 1 ∧ f ≤ i ∧ done.length ≤ i ∧ Hid (Lst 9 w wr ov done.length (done.map strV)) ∧
      Hid ((i ≤ s.size ∧ spl [] s.data.toList = done ++ spl ((s.data.toList.drop f).take (i - f)) (s.data.toList.drop i)) ∨ (i = s.size + 1 ∧ spl [] s.data.toList = done)))
    (fun iv _ _ _ => s.size + 1 - (intOf iv).toNat)
  case atStart => exact ⟨0, 0, [], rfl, rfl, by omega, by omega, by simp, HL0, (Or.inl ⟨by omega, by simp⟩ : _ ∨ _)⟩
  case round =>
    obtain ⟨i, f, done, rfl, rfl, hi1, hf, hd, hL, hI⟩ := hrel
    clear HL0
    obtain ⟨a0, c0, hov⟩ := hL.out.slice
    subst hov
    rcases hI.out with ⟨hle, hS⟩ | ⟨hgt, hS⟩
    · by_cases hlt : i < s.size
      · have hat := str_at s i hlt
        by_cases h32 : (s[i]'hlt).toNat = 32
        · have hc : s.data.toList[i]? = some 32 := by rw [hat, u8_eq (by decide) h32]; rfl
          rw [spl_cut hc] at hS
          have HS : Hid (i + 1 ≤ s.size ∧ spl [] s.data.toList = (done ++ [(s.data.toList.drop f).take (i - f)]) ++ spl ((s.data.toList.drop (i + 1)).take (i + 1 - (i + 1))) (s.data.toList.drop (i + 1))) := ⟨hlt, by rw [hS]; simp⟩
          have ht : ((s[i]'hlt).toNat == 32) = true := by simpa using h32
          have hq : ((i : Int) == (s.size : Int)) = false := by simp; omega
          have hwr : wrap64 ((i : Int) + 1) = ((i + 1 : Nat) : Int) := by unfold wrap64; omega
          clear hS hI hat hc h32
          go_wp2_with (at_builtin; refine wpList_push1 rfl (.tmp 23) (.tmp 28) 44 9 rfl i0 (.string ⟨#[]⟩) 16 Tryd.underlying44 hi hz0 hz1 hz2 rfl (by decide) _ done.length (done.map strV) (.string (s.extract f i)) rfl rfl rfl hL.out (by omega) ?_; intro a' c' w' hL' hg')
          have HL' : Hid (Lst 9 w w' (.slice a' (done.length + 1) c') (done ++ [(s.data.toList.drop f).take (i - f)]).length ((done ++ [(s.data.toList.drop f).take (i - f)]).map strV)) := by
            show Lst _ _ _ _ _ _
            rw [ext_take] at hL'
            simpa [strV] using hL'
          clear hL' hg'
          go_roundw
          case rel => exact ⟨i + 1, i + 1, done ++ [(s.data.toList.drop f).take (i - f)], rfl, rfl, by omega, by omega, by simp; omega, HL', (Or.inl HS.out : _ ∨ _)⟩
          case measure => simp [intOf]; omega
        · have hne : (s[i]'hlt) ≠ 32 := fun h => h32 (by rw [h]; rfl)
          rw [spl_go hf hat hne] at hS
          have HS : Hid (i + 1 ≤ s.size ∧ spl [] s.data.toList = done ++ spl ((s.data.toList.drop f).take (i + 1 - f)) (s.data.toList.drop (i + 1))) := ⟨hlt, hS⟩
          have ht : ((s[i]'hlt).toNat == 32) = false := by simpa using h32
          have hq : ((i : Int) == (s.size : Int)) = false := by simp; omega
          have hwr : wrap64 ((i : Int) + 1) = ((i + 1 : Nat) : Int) := by unfold wrap64; omega
          clear hS hI hat hne h32
          go_wp2_with fail
          go_roundw
          case rel => exact ⟨i + 1, f, done, rfl, rfl, by omega, by omega, by omega, hL, (Or.inl HS.out : _ ∨ _)⟩
          case measure => simp [intOf]; omega
      · have hie : i = s.size := by omega
        have hS2 := hS
        rw [hie, ← hlen, spl_end] at hS2
        have HS : Hid (i + 1 = s.size + 1 ∧ spl [] s.data.toList = done ++ [(s.data.toList.drop f).take (i - f)]) := ⟨by omega, by rw [hS2, hlen, hie]⟩
        have hq : ((i : Int) == (s.size : Int)) = true := by simp; omega
        have hwr : wrap64 ((i : Int) + 1) = ((i + 1 : Nat) : Int) := by unfold wrap64; omega
        have hii : i ≤ s.size := by omega
        have hm : s.size + 1 - i = 1 := by omega
        have HM : Hid (i + 1 = s.size + 1) := by show i + 1 = s.size + 1; omega
        clear hS hS2 hI hie hm
        go_wp2_with (at_builtin; refine wpList_push1 rfl (.tmp 23) (.tmp 28) 44 9 rfl i0 (.string ⟨#[]⟩) 16 Tryd.underlying44 hi hz0 hz1 hz2 rfl (by decide) _ done.length (done.map strV) (.string (s.extract f i)) rfl rfl rfl hL.out (by omega) ?_; intro a' c' w' hL' hg')
        have HL' : Hid (Lst 9 w w' (.slice a' (done.length + 1) c') (done ++ [(s.data.toList.drop f).take (i - f)]).length ((done ++ [(s.data.toList.drop f).take (i - f)]).map strV)) := by
          show Lst _ _ _ _ _ _
          rw [ext_take] at hL'
          simpa [strV] using hL'
        clear hL' hg'
        go_roundw
        case rel => exact ⟨i + 1, i + 1, done ++ [(s.data.toList.drop f).take (i - f)], rfl, rfl, by have := HM.out; omega, by omega, by simp; omega, HL', (Or.inr HS.out : _ ∨ _)⟩
        case measure => have := HM.out; simp [intOf]; omega
    · have HL' : Hid (Lst 9 w wr (.slice a0 done.length c0) (spl [] s.data.toList).length ((spl [] s.data.toList).map strV)) := by
        show Lst _ _ _ _ _ _
        rw [hS]; exact hL.out
      have hno : ¬ i ≤ s.size := by omega
      clear hS hI hL
      go_wp2_with fail
      go_ret
      exact ⟨_, rfl, HL'.out⟩

def isDig (c : UInt8) : Bool := decide (48 ≤ c.toNat ∧ c.toNat ≤ 57)

def digStep (a : Nat) (d : UInt8) : Nat := a * 10 + (d.toNat - 48)

def digVal (l : List UInt8) : Nat := l.foldl digStep 0

def numL (l : List UInt8) : Option Int :=
  let neg := decide (l.head? = some 45)
  let ds := if neg then l.tail else l
  if decide (1 ≤ ds.length ∧ ds.length ≤ 18) && ds.all isDig && !(decide (ds.head? = some 48) && (neg || decide (1 < l.length))) then some (if neg then -(digVal ds : Int) else (digVal ds : Int)) else none

theorem digVal_snoc (l : List UInt8) (d : UInt8) : digVal (l ++ [d]) = digVal l * 10 + (d.toNat - 48) := by
  simp [digVal, digStep]

theorem digVal_lt (l : List UInt8) (h : l.all isDig = true) : digVal l < 10 ^ l.length := by
  suffices H : ∀ n (l : List UInt8), l.length = n → l.all isDig = true → digVal l < 10 ^ n from H _ l rfl h
  intro n
  induction n with
  | zero => intro l hl _; rw [List.eq_nil_of_length_eq_zero hl]; simp [digVal]
  | succ n ih =>
    intro l hl ha
    obtain ⟨m, d, rfl⟩ : ∃ m d, l = m ++ [d] := by
      rcases List.eq_nil_or_concat l with h | ⟨m, d, h⟩
      · rw [h] at hl; simp at hl
      · exact ⟨m, d, by simpa using h⟩
    simp only [List.length_append, List.length_cons, List.length_nil, Nat.zero_add, Nat.add_right_cancel_iff] at hl
    simp only [List.all_append, List.all_cons, List.all_nil, Bool.and_true, Bool.and_eq_true] at ha
    have h1 := ih m hl ha.1
    have h2 : 48 ≤ d.toNat ∧ d.toNat ≤ 57 := of_decide_eq_true ha.2
    rw [digVal_snoc, Nat.pow_succ]
    omega

theorem digVal_18 (l : List UInt8) (h : l.all isDig = true) (hl : l.length ≤ 18) : digVal l < 1000000000000000000 :=
  Nat.lt_of_lt_of_le (digVal_lt l h) (Nat.le_trans (Nat.pow_le_pow_right (by decide) hl) (by decide))

theorem decDigits_dig (u : Nat) : (Lib.decDigits u).all isDig = true ∧ digVal (Lib.decDigits u) = u := by
  induction u using Nat.strongRecOn with
  | _ u ih =>
    by_cases h : u < 10
    · rw [Lib.decDigits_one h]
      have : (UInt8.ofNat (48 + u)).toNat = 48 + u := by simp; omega
      simp only [List.all_cons, List.all_nil, Bool.and_true, isDig, this, digVal, digStep, List.foldl_cons, List.foldl_nil]
      exact ⟨by simp; omega, by omega⟩
    · rw [Lib.decDigits, dif_neg h]
      obtain ⟨h1, h2⟩ := ih (u / 10) (by omega)
      have : (UInt8.ofNat (48 + u % 10)).toNat = 48 + u % 10 := by simp; omega
      rw [digVal_snoc, h2, this]
      simp only [List.all_append, h1, List.all_cons, List.all_nil, Bool.and_true, isDig, this]
      exact ⟨by simp; omega, by omega⟩

theorem decDigits_ne (u : Nat) : Lib.decDigits u ≠ [] := by
  intro h
  have := Lib.decDigits_length u
  rw [h] at this
  have := Lib.nDigits_pos u
  simp at *
  omega

theorem decDigits_head (u : Nat) (h : 0 < u) : (Lib.decDigits u).head? ≠ some 48 := by
  induction u using Nat.strongRecOn with
  | _ u ih =>
    by_cases h10 : u < 10
    · rw [Lib.decDigits_one h10]
      intro e
      simp only [List.head?_cons, Option.some.injEq] at e
      have e2 := congrArg UInt8.toNat e
      have e3 : (UInt8.ofNat (48 + u)).toNat = 48 + u := by simp; omega
      rw [e3] at e2
      have : (48 : UInt8).toNat = 48 := rfl
      omega
    · rw [Lib.decDigits, dif_neg h10, List.head?_append]
      have h1 := ih (u / 10) (by omega) (by omega)
      cases hd : (Lib.decDigits (u / 10)).head? with
      | none => exact absurd (List.head?_eq_none_iff.1 hd) (decDigits_ne _)
      | some c => rw [hd] at h1; simpa using h1

theorem decDigits_head45 (u : Nat) : (Lib.decDigits u).head? ≠ some 45 := by
  intro h
  have h1 := (decDigits_dig u).1
  cases hd : Lib.decDigits u with
  | nil => exact absurd hd (decDigits_ne u)
  | cons c l =>
    rw [hd] at h h1
    simp only [List.head?_cons, Option.some.injEq] at h
    subst h
    simp [isDig] at h1

theorem decDigits_short (u : Nat) (h : u < 1000000000000000000) : (Lib.decDigits u).length ≤ 18 := by
  rw [Lib.decDigits_length]
  by_cases h0 : u = 0
  · subst h0; rw [Lib.nDigits_small (by decide)]; decide
  · suffices H : ∀ n u : Nat, 0 < n → u < 10 ^ n → Lib.nDigits u ≤ n from H 18 u (by decide) (by simpa using h)
    intro n
    induction n with
    | zero => intro u h0 _; omega
    | succ n ih =>
      intro u _ hu
      by_cases h10 : u < 10
      · rw [Lib.nDigits_small h10]; omega
      · rw [Lib.nDigits_big h10]
        have hn : 0 < n := by
          rcases Nat.eq_zero_or_pos n with rfl | h
          · simp at hu; omega
          · exact h
        have := ih (u / 10) hn (by rw [Nat.pow_succ] at hu; omega)
        omega

theorem numL_itoa (x : Int) (h0 : -1000000000000000000 < x) (h1 : x < 1000000000000000000) : numL (Lib.itoa x) = some x := by
  by_cases hx : x < 0
  · have e : Lib.itoa x = 45 :: Lib.decDigits x.natAbs := by simp [Lib.itoa, hx]
    have hl := decDigits_short x.natAbs (by omega)
    have hp : 1 ≤ (Lib.decDigits x.natAbs).length := by have := decDigits_ne x.natAbs; cases h : Lib.decDigits x.natAbs with
      | nil => exact absurd h this
      | cons a b => simp
    have hh := decDigits_head x.natAbs (by omega)
    obtain ⟨g1, g2⟩ := decDigits_dig x.natAbs
    unfold numL
    rw [e]
    simp only [List.head?_cons, List.tail_cons, decide_true, if_true]
    rw [g1, g2, decide_eq_true ⟨hp, hl⟩, decide_eq_false hh]
    simp
    omega
  · have e : Lib.itoa x = Lib.decDigits x.toNat := by simp [Lib.itoa, hx]
    have hl := decDigits_short x.toNat (by omega)
    have hp : 1 ≤ (Lib.decDigits x.toNat).length := by have := decDigits_ne x.toNat; cases h : Lib.decDigits x.toNat with
      | nil => exact absurd h this
      | cons a b => simp
    obtain ⟨g1, g2⟩ := decDigits_dig x.toNat
    have h45 := decDigits_head45 x.toNat
    have hz : (decide ((Lib.decDigits x.toNat).head? = some 48) && (false || decide (1 < (Lib.decDigits x.toNat).length))) = false := by
      by_cases h0 : x.toNat = 0
      · rw [h0, Lib.decDigits_one (by decide)]; rfl
      · rw [decide_eq_false (decDigits_head x.toNat (by omega))]; rfl
    unfold numL
    rw [e]
    simp only [decide_eq_false h45, Bool.false_eq_true, if_false]
    rw [hz, g1, g2, decide_eq_true ⟨hp, hl⟩]
    simp
    omega

theorem num_next {L : List UInt8} {j n : Nat} {c : UInt8} (hc : L[j]? = some c) (hd : isDig c = true) (hI : n = digVal (L.take j) ∧ (L.take j).all isDig = true) (hl : L.length ≤ 18) :
    n * 10 + (c.toNat - 48) = digVal (L.take (j + 1)) ∧ (L.take (j + 1)).all isDig = true ∧ n < 100000000000000000 := by
  have hj : j < L.length := by
    by_cases h : j < L.length
    · exact h
    · rw [List.getElem?_eq_none (by omega)] at hc; cases hc
  have e : L.take (j + 1) = L.take j ++ [c] := by
    rw [List.take_succ_eq_append_getElem hj]
    rw [List.getElem?_eq_getElem hj] at hc
    rw [Option.some.inj hc]
  rw [e, digVal_snoc, ← hI.1]
  refine ⟨rfl, by simp [hI.2, hd], ?_⟩
  have := digVal_lt _ hI.2
  rw [← hI.1, List.length_take] at this
  refine Nat.lt_of_lt_of_le this (Nat.le_trans (Nat.pow_le_pow_right (n := 10) (by decide) (show min j L.length ≤ 17 by omega)) (by decide))

theorem not_all {L : List UInt8} {j : Nat} {c : UInt8} (hc : L[j]? = some c) (hd : isDig c = false) : L.all isDig = false := by
  have hm : c ∈ L := List.mem_of_getElem? hc
  cases h : L.all isDig with
  | false => rfl
  | true => rw [List.all_eq_true] at h; rw [h c hm] at hd; cases hd

theorem nat_beq_int (a b : Nat) : ((a : Int) == (b : Int)) = (a == b) := by
  by_cases h : a = b
  · simp [h]
  · have h2 : ¬ (a : Int) = (b : Int) := by omega
    rw [beq_eq_false_iff_ne.2 h, beq_eq_false_iff_ne.2 h2]

def numV (l : List UInt8) : Value := .tuple #[.int .i64 ((numL l).getD 0), .bool (numL l).isSome]

theorem numV_none {l : List UInt8} (h : numL l = none) : numV l = .tuple #[.int .i64 0, .bool false] := by
  unfold numV; rw [h]; rfl

theorem numV_some {l : List UInt8} {n : Int} (h : numL l = some n) : numV l = .tuple #[.int .i64 n, .bool true] := by
  unfold numV; rw [h]; rfl

set_option maxRecDepth 20000 in
set_option maxHeartbeats 3200000 in
theorem l13Number_neg (s : ByteArray) (hs : s.size ≤ 1048576) (h0 : 0 < s.size) (hc0 : ((s[0]'h0).toNat == 45) = true) (w : World) : Calls Tryd.prog 51 #[.string s] w fun e w' => e = .returned (numV s.data.toList) ∧ w' = w := by
  have hE : s.toList.isEmpty = false := by
    rw [Go.ByteArray.toList_eq]
    cases h : s.data.toList with
    | nil => have hl : s.data.toList.length = s.size := by rw [Array.length_toList]; rfl
             rw [h] at hl; simp at hl; omega
    | cons a b => rfl
  obtain ⟨L, hL0⟩ : ∃ L, L = s.data.toList.drop 1 := ⟨_, rfl⟩
  have hlen : s.data.toList.length = s.size := by rw [Array.length_toList]; rfl
  have hLl : L.length = s.size - 1 := by rw [hL0, List.length_drop, hlen]
  have hneg : decide (s.data.toList.head? = some 45) = true := by
    have h1 := str_at s 0 h0
    rw [List.head?_eq_getElem?, h1]
    simp only [Option.some.injEq]
    rw [← hc0]
    cases hq : ((s[0]'h0).toNat == 45) with
    | true => simp only [beq_iff_eq] at hq; exact decide_eq_true (u8_eq (by decide) hq)
    | false => exact decide_eq_false (fun h => by rw [h] at hq; simp at hq)
  have hds : (if true = true then s.data.toList.tail else s.data.toList) = L := by rw [hL0]; simp
  have HN : Hid (numL s.data.toList = if decide (1 ≤ L.length ∧ L.length ≤ 18) && L.all isDig && !(decide (L.head? = some 48) && (true || decide (1 < s.size))) then some (-(digVal L : Int)) else none) := by
    show numL s.data.toList = _
    unfold numL
    dsimp only
    rw [hneg, hlen, hds]
    rfl
  have HAT : Hid (∀ k, 1 ≤ k → ∀ h : k < s.size, L[k - 1]? = some (s[k]'h)) := by
    intro k hk h
    rw [hL0, List.getElem?_drop, ← str_at s k h]
    congr 1; omega
  have HLL : Hid (L.length = s.size - 1) := hLl
  clear hL0 hlen hds hneg hLl
  by_cases hlong : 1 ≤ L.length ∧ L.length ≤ 18
  · have ht1 : ¬ ((s.size : Int) - 1 < 1) := by have := HLL.out; omega
    have ht2 : ¬ (18 < (s.size : Int) - 1) := by have := HLL.out; omega
    have HLO : Hid (1 ≤ L.length ∧ L.length ≤ 18) := hlong
    clear hlong
    go_enter Tryd.func51, Tryd.ntmps51
    go_wp2_with fail
    go_loopw [7, 6] (fun kv nv wr => ∃ (k : Nat) (n : Nat), kv = .int .i64 k ∧ nv = .int .i64 n ∧ 1 ≤ k ∧ k ≤ s.size ∧ n < 1000000000000000000 ∧ Hid (n = digVal (L.take (k - 1)) ∧ (L.take (k - 1)).all isDig = true) ∧ wr = w)
      (fun kv _ _ => s.size - (intOf kv).toNat)
    case atStart => exact ⟨1, 0, rfl, rfl, by omega, by omega, by decide, (by simp [digVal] : _ ∧ _), rfl⟩
    case round =>
      obtain ⟨k, n, rfl, rfl, hk1, hk2, hn, hI, hwr⟩ := hrel
      subst hwr
      by_cases hlt : k < s.size
      · have hat := HAT.out k hk1 hlt
        obtain ⟨c, hc⟩ : ∃ c, c = (s[k]'hlt) := ⟨_, rfl⟩
        rw [← hc] at hat
        by_cases hdig : isDig c = true
        · have hb : 48 ≤ c.toNat ∧ c.toNat ≤ 57 := of_decide_eq_true hdig
          have hcc : (s[k]'hlt).toNat = c.toNat := by rw [hc]
          clear hc
          have hd1 : ¬ ((c.toNat : Int) < 48) := by omega
          have hd2 : ¬ (57 < (c.toNat : Int)) := by omega
          have hk3 : k - 1 + 1 = k + 1 - 1 := by omega
          obtain ⟨hv1, hv2, hv3⟩ := num_next hat hdig hI.out HLO.out.2
          rw [hk3] at hv1 hv2
          have HI2 : Hid (n * 10 + (c.toNat - 48) = digVal (L.take (k + 1 - 1)) ∧ (L.take (k + 1 - 1)).all isDig = true) := ⟨hv1, hv2⟩
          have hsm : Hid (n * 10 + (c.toNat - 48) < 1000000000000000000) := by show _ < _; omega
          clear hv1 hv2 hI hat hdig hk3
          go_wp2_with fail
          go_roundw
          case rel => exact ⟨k + 1, n * 10 + (c.toNat - 48), by go_num, congrArg (Value.int .i64) (by omega), by omega, by omega, hsm.out, HI2, trivial⟩
          case measure => simp [intOf]; omega
        · have hdf : isDig c = false := by simpa using hdig
          have hN := HN.out
          rw [not_all hat hdf, Bool.and_false, Bool.false_and] at hN
          have HR := numV_none (hN.trans (if_neg (by simp)))
          have HR2 : Hid (numV s.data.toList = .tuple #[.int .i64 0, .bool false]) := HR
          clear HR hN hI hat HN HAT
          have hcc : (s[k]'hlt).toNat = c.toNat := by rw [hc]
          clear hc
          by_cases h48 : c.toNat < 48
          · have hd1 : ((c.toNat : Int) < 48) := by omega
            clear hdig hdf
            go_wp2_with fail
            go_ret2
            exact ⟨by rw [HR2.out]; rfl, rfl⟩
          · have hd1 : ¬ ((c.toNat : Int) < 48) := by omega
            have hd2 : (57 < (c.toNat : Int)) := by
              have : ¬ (48 ≤ c.toNat ∧ c.toNat ≤ 57) := of_decide_eq_false hdf
              omega
            clear hdig hdf
            go_wp2_with fail
            go_ret2
            exact ⟨by rw [HR2.out]; rfl, rfl⟩
      · have hke : L.take (k - 1) = L := List.take_of_length_le (by have := HLL.out; omega)
        have hN := HN.out
        obtain ⟨hi1, hi2⟩ := hI.out
        rw [hke] at hi1 hi2
        have hst : 1 < s.size := by have := HLL.out; have := HLO.out; omega
        have hhd : L.head? = some (s[1]'hst) := by rw [List.head?_eq_getElem?]; exact HAT.out 1 (by omega) hst
        rw [hi2, hhd, decide_eq_true HLO.out, Bool.and_true, Bool.true_and, ← hi1] at hN
        have hz : decide (some (s[1]'hst) = some (48 : UInt8)) = ((s[1]'hst).toNat == 48) := by
          cases hq : ((s[1]'hst).toNat == 48) with
          | true => simp only [beq_iff_eq] at hq; exact decide_eq_true (by rw [u8_eq (by decide) hq]; rfl)
          | false => exact decide_eq_false (fun h => by rw [Option.some.inj h] at hq; simp at hq)
        rw [hz] at hN
        have hneg9 : wrap64 (-(n : Int)) = -(n : Int) := by unfold wrap64; omega
        clear hz hhd hi1 hi2 hke hI
        cases hq : ((s[1]'hst).toNat == 48) with
        | false =>
          rw [hq] at hN
          have hqi : ((((s[1]'hst).toNat : Nat) : Int) == 48) = false := (nat_beq_int _ 48).trans hq
          have HR := numV_some (hN.trans (if_pos (by simp)))
          have HR2 : Hid (numV s.data.toList = .tuple #[.int .i64 (-(n : Int)), .bool true]) := HR
          clear HR hN HN HAT
          go_wp2_with fail
          go_ret2
          exact ⟨by rw [HR2.out]; rfl, rfl⟩
        | true =>
          rw [hq] at hN
          have hqi : ((((s[1]'hst).toNat : Nat) : Int) == 48) = true := (nat_beq_int _ 48).trans hq
          have HR := numV_none (hN.trans (if_neg (by simp)))
          have HR2 : Hid (numV s.data.toList = .tuple #[.int .i64 0, .bool false]) := HR
          clear HR hN HN HAT
          go_wp2_with fail
          go_ret2
          exact ⟨by rw [HR2.out]; rfl, rfl⟩
  · have hN := HN.out
    rw [decide_eq_false hlong, Bool.false_and, Bool.false_and] at hN
    have HR := numV_none (hN.trans (if_neg (by simp)))
    have HR2 : Hid (numV s.data.toList = .tuple #[.int .i64 0, .bool false]) := HR
    clear HR hN HN HAT
    have hl2 := HLL.out
    by_cases hsm : s.size - 1 < 1
    · have ht1 : (s.size : Int) - 1 < 1 := by omega
      clear hlong hl2 hsm
      go_enter Tryd.func51, Tryd.ntmps51
      go_wp2_with fail
      go_ret2
      exact ⟨by rw [HR2.out]; rfl, rfl⟩
    · have ht1 : ¬ ((s.size : Int) - 1 < 1) := by omega
      have ht2 : 18 < (s.size : Int) - 1 := by omega
      clear hlong hl2 hsm
      go_enter Tryd.func51, Tryd.ntmps51
      go_wp2_with fail
      go_ret2
      exact ⟨by rw [HR2.out]; rfl, rfl⟩

set_option maxRecDepth 20000 in
set_option maxHeartbeats 3200000 in
theorem l13Number_pos (s : ByteArray) (hs : s.size ≤ 1048576) (h0 : 0 < s.size) (hc0 : ((s[0]'h0).toNat == 45) = false) (w : World) : Calls Tryd.prog 51 #[.string s] w fun e w' => e = .returned (numV s.data.toList) ∧ w' = w := by
  have hE : s.toList.isEmpty = false := by
    rw [Go.ByteArray.toList_eq]
    cases h : s.data.toList with
    | nil => have hl : s.data.toList.length = s.size := by rw [Array.length_toList]; rfl
             rw [h] at hl; simp at hl; omega
    | cons a b => rfl
  obtain ⟨L, hL0⟩ : ∃ L, L = s.data.toList.drop 0 := ⟨_, rfl⟩
  have hlen : s.data.toList.length = s.size := by rw [Array.length_toList]; rfl
  have hLl : L.length = s.size - 0 := by rw [hL0, List.length_drop, hlen]
  have hneg : decide (s.data.toList.head? = some 45) = false := by
    have h1 := str_at s 0 h0
    rw [List.head?_eq_getElem?, h1]
    simp only [Option.some.injEq]
    rw [← hc0]
    cases hq : ((s[0]'h0).toNat == 45) with
    | true => simp only [beq_iff_eq] at hq; exact decide_eq_true (u8_eq (by decide) hq)
    | false => exact decide_eq_false (fun h => by rw [h] at hq; simp at hq)
  have hds : (if false = true then s.data.toList.tail else s.data.toList) = L := by rw [hL0]; simp
  have HN : Hid (numL s.data.toList = if decide (1 ≤ L.length ∧ L.length ≤ 18) && L.all isDig && !(decide (L.head? = some 48) && (false || decide (1 < s.size))) then some (digVal L : Int) else none) := by
    show numL s.data.toList = _
    unfold numL
    dsimp only
    rw [hneg, hlen, hds]
    rfl
  have HAT : Hid (∀ k, 0 ≤ k → ∀ h : k < s.size, L[k - 0]? = some (s[k]'h)) := by
    intro k hk h
    rw [hL0, List.getElem?_drop, ← str_at s k h]
    congr 1; omega
  have HLL : Hid (L.length = s.size - 0) := hLl
  clear hL0 hlen hds hneg hLl
  by_cases hlong : 1 ≤ L.length ∧ L.length ≤ 18
  · have ht1 : ¬ ((s.size : Int) < 1) := by have := HLL.out; omega
    have ht2 : ¬ (18 < (s.size : Int)) := by have := HLL.out; omega
    have HLO : Hid (1 ≤ L.length ∧ L.length ≤ 18) := hlong
    clear hlong
    go_enter Tryd.func51, Tryd.ntmps51
    go_wp2_with fail
    go_loopw [7, 6] (fun kv nv wr => ∃ (k : Nat) (n : Nat), kv = .int .i64 k ∧ nv = .int .i64 n ∧ 0 ≤ k ∧ k ≤ s.size ∧ n < 1000000000000000000 ∧ Hid (n = digVal (L.take (k - 0)) ∧ (L.take (k - 0)).all isDig = true) ∧ wr = w)
      (fun kv _ _ => s.size - (intOf kv).toNat)
    case atStart => exact ⟨0, 0, rfl, rfl, by omega, by omega, by decide, (by simp [digVal] : _ ∧ _), rfl⟩
    case round =>
      obtain ⟨k, n, rfl, rfl, hk1, hk2, hn, hI, hwr⟩ := hrel
      subst hwr
      by_cases hlt : k < s.size
      · have hat := HAT.out k hk1 hlt
        obtain ⟨c, hc⟩ : ∃ c, c = (s[k]'hlt) := ⟨_, rfl⟩
        rw [← hc] at hat
        by_cases hdig : isDig c = true
        · have hb : 48 ≤ c.toNat ∧ c.toNat ≤ 57 := of_decide_eq_true hdig
          have hcc : (s[k]'hlt).toNat = c.toNat := by rw [hc]
          clear hc
          have hd1 : ¬ ((c.toNat : Int) < 48) := by omega
          have hd2 : ¬ (57 < (c.toNat : Int)) := by omega
          have hk3 : k - 0 + 1 = k + 1 - 0 := by omega
          obtain ⟨hv1, hv2, hv3⟩ := num_next hat hdig hI.out HLO.out.2
          rw [hk3] at hv1 hv2
          have HI2 : Hid (n * 10 + (c.toNat - 48) = digVal (L.take (k + 1 - 0)) ∧ (L.take (k + 1 - 0)).all isDig = true) := ⟨hv1, hv2⟩
          have hsm : Hid (n * 10 + (c.toNat - 48) < 1000000000000000000) := by show _ < _; omega
          clear hv1 hv2 hI hat hdig hk3
          go_wp2_with fail
          go_roundw
          case rel => exact ⟨k + 1, n * 10 + (c.toNat - 48), by go_num, congrArg (Value.int .i64) (by omega), by omega, by omega, hsm.out, HI2, trivial⟩
          case measure => simp [intOf]; omega
        · have hdf : isDig c = false := by simpa using hdig
          have hN := HN.out
          rw [not_all hat hdf, Bool.and_false, Bool.false_and] at hN
          have HR := numV_none (hN.trans (if_neg (by simp)))
          have HR2 : Hid (numV s.data.toList = .tuple #[.int .i64 0, .bool false]) := HR
          clear HR hN hI hat HN HAT
          have hcc : (s[k]'hlt).toNat = c.toNat := by rw [hc]
          clear hc
          by_cases h48 : c.toNat < 48
          · have hd1 : ((c.toNat : Int) < 48) := by omega
            clear hdig hdf
            go_wp2_with fail
            go_ret2
            exact ⟨by rw [HR2.out]; rfl, rfl⟩
          · have hd1 : ¬ ((c.toNat : Int) < 48) := by omega
            have hd2 : (57 < (c.toNat : Int)) := by
              have : ¬ (48 ≤ c.toNat ∧ c.toNat ≤ 57) := of_decide_eq_false hdf
              omega
            clear hdig hdf
            go_wp2_with fail
            go_ret2
            exact ⟨by rw [HR2.out]; rfl, rfl⟩
      · have hke : L.take (k - 0) = L := List.take_of_length_le (by have := HLL.out; omega)
        have hN := HN.out
        obtain ⟨hi1, hi2⟩ := hI.out
        rw [hke] at hi1 hi2
        have hst : 0 < s.size := by have := HLL.out; have := HLO.out; omega
        have hhd : L.head? = some (s[0]'hst) := by rw [List.head?_eq_getElem?]; exact HAT.out 0 (by omega) hst
        rw [hi2, hhd, decide_eq_true HLO.out, Bool.and_true, Bool.true_and, ← hi1] at hN
        have hz : decide (some (s[0]'hst) = some (48 : UInt8)) = ((s[0]'hst).toNat == 48) := by
          cases hq : ((s[0]'hst).toNat == 48) with
          | true => simp only [beq_iff_eq] at hq; exact decide_eq_true (by rw [u8_eq (by decide) hq]; rfl)
          | false => exact decide_eq_false (fun h => by rw [Option.some.inj h] at hq; simp at hq)
        rw [hz] at hN
        have hneg9 : wrap64 (-(n : Int)) = -(n : Int) := by unfold wrap64; omega
        clear hz hhd hi1 hi2 hke hI
        cases hq : ((s[0]'hst).toNat == 48) with
        | false =>
          rw [hq] at hN
          have hqi : ((((s[0]'hst).toNat : Nat) : Int) == 48) = false := (nat_beq_int _ 48).trans hq
          have HR := numV_some (hN.trans (if_pos (by simp)))
          have HR2 : Hid (numV s.data.toList = .tuple #[.int .i64 (n : Int), .bool true]) := HR
          clear HR hN HN HAT
          go_wp2_with fail
          go_ret2
          exact ⟨by rw [HR2.out]; rfl, rfl⟩
        | true =>
          rw [hq] at hN
          have hqi : ((((s[0]'hst).toNat : Nat) : Int) == 48) = true := (nat_beq_int _ 48).trans hq
          by_cases h1 : 1 < s.size
          · have HR := numV_none ((by rw [hN, decide_eq_true h1] : numL s.data.toList = _).trans (if_neg (by simp)))
            have HR2 : Hid (numV s.data.toList = .tuple #[.int .i64 0, .bool false]) := HR
            have h2 : (1 : Int) < (s.size : Int) := by omega
            clear HR hN HN HAT
            go_wp2_with fail
            go_ret2
            exact ⟨by rw [HR2.out]; rfl, rfl⟩
          · have HR := numV_some ((by rw [hN, decide_eq_false h1] : numL s.data.toList = _).trans (if_pos (by simp)))
            have HR2 : Hid (numV s.data.toList = .tuple #[.int .i64 (n : Int), .bool true]) := HR
            have h2 : ¬ (1 : Int) < (s.size : Int) := by omega
            clear HR hN HN HAT
            go_wp2_with fail
            go_ret2
            exact ⟨by rw [HR2.out]; rfl, rfl⟩
  · have hN := HN.out
    rw [decide_eq_false hlong, Bool.false_and, Bool.false_and] at hN
    have HR := numV_none (hN.trans (if_neg (by simp)))
    have HR2 : Hid (numV s.data.toList = .tuple #[.int .i64 0, .bool false]) := HR
    clear HR hN HN HAT
    have hl2 := HLL.out
    by_cases hsm : s.size - 0 < 1
    · exact absurd hsm (by omega)
    · have ht1 : ¬ ((s.size : Int) < 1) := by omega
      have ht2 : 18 < (s.size : Int) := by omega
      clear hlong hl2 hsm
      go_enter Tryd.func51, Tryd.ntmps51
      go_wp2_with fail
      go_ret2
      exact ⟨by rw [HR2.out]; rfl, rfl⟩

theorem l13Number_any (s : ByteArray) (hs : s.size ≤ 1048576) (w : World) : Calls Tryd.prog 51 #[.string s] w fun e w' => e = .returned (numV s.data.toList) ∧ w' = w := by
  by_cases h0 : 0 < s.size
  · cases h : ((s[0]'h0).toNat == 45) with
    | true => exact l13Number_neg s hs h0 h w
    | false => exact l13Number_pos s hs h0 h w
  · have hd : s.data.toList = [] := by
      apply List.eq_nil_of_length_eq_zero
      have : s.data.toList.length = s.size := by rw [Array.length_toList]; rfl
      omega
    have he : s = ⟨#[]⟩ := by
      apply ByteArray.ext
      apply Array.toList_inj.1
      rw [hd]
    subst he
    go_enter Tryd.func51, Tryd.ntmps51
    go_wp2_with fail
    go_ret2
    exact ⟨rfl, rfl⟩

end Go.Proofs.YtjjpklalihaanaaDoor
