/- A cache's answers in plain numbers; the program's map finds what the model's slot says. -/
import Derived.Test.YtdllhjehokpefaaSlP
namespace Go.Proofs.Ytdllhjehokpefaa
open Go.RowKit
set_option linter.unusedVariables false

/-- The place of a page by kind and privilege. -/
def plS (k p g : Int) : Int := (g + 5 * k + 3 * p) % 16

/-- Kind and privilege that are kept. -/
def kpB (k p : Int) : Bool := decide (1 ≤ k ∧ k ≤ 3) && decide (0 ≤ p ∧ p ≤ 1)

def okU (s : Slt) (i : Int) : Bool := decide (1 ≤ s.k ∧ s.k ≤ 3) && (decide (0 ≤ s.p ∧ s.p ≤ 1) && (decide (s.g < 4503599627370496) && (decide (s.f < 4503599627370496) && (plS s.k s.p s.g == i))))

def okS (s : Slt) (i : Int) : Bool := if s.u then okU s i else decide (s = slt0)

def okTo (ss : List Slt) (n : Nat) : Bool := (List.range n).all fun i => okS (ss.getD i slt0) i

def cacheB (ss : List Slt) : Bool := decide (ss.length = 16) && okTo ss 16

theorem okTo_succ (ss : List Slt) (n : Nat) : okTo ss (n + 1) = (okTo ss n && okS (ss.getD n slt0) n) := by
  simp [okTo, List.range_succ]

theorem okTo_false {ss : List Slt} {i n : Nat} (hi : i < n) (h : okS (ss.getD i slt0) i = false) : okTo ss n = false := by
  rw [okTo, List.all_eq_false]
  exact ⟨i, by simpa using hi, by simpa using h⟩

theorem okTo_at {ss : List Slt} {n : Nat} (h : okTo ss n = true) {i : Nat} (hi : i < n) : okS (ss.getD i slt0) i = true :=
  List.all_eq_true.1 h i (by simpa using hi)

/-- Pages and frames are words. -/
def Sw (ss : List Slt) : Prop := ∀ s ∈ ss, (0 ≤ s.g ∧ s.g ≤ 18446744073709551615) ∧ (0 ≤ s.f ∧ s.f ≤ 18446744073709551615)

theorem Sw.get {ss : List Slt} (h : Sw ss) (i : Nat) : (0 ≤ (ss.getD i slt0).g ∧ (ss.getD i slt0).g ≤ 18446744073709551615) ∧ (0 ≤ (ss.getD i slt0).f ∧ (ss.getD i slt0).f ≤ 18446744073709551615) := by
  by_cases hi : i < ss.length
  · exact h _ (by simp [List.getD, List.getElem?_eq_getElem hi])
  · simp [List.getD, List.getElem?_eq_none (Nat.le_of_not_lt hi), slt0]

theorem Sw.set {ss : List Slt} (h : Sw ss) (i : Nat) (s : Slt) (hs : (0 ≤ s.g ∧ s.g ≤ 18446744073709551615) ∧ (0 ≤ s.f ∧ s.f ≤ 18446744073709551615)) : Sw (ss.set i s) := by
  intro t ht
  rcases List.mem_or_eq_of_mem_set ht with h1 | h1
  · exact h t h1
  · rw [h1]; exact hs

theorem plS_bd (k p g : Int) : 0 ≤ plS k p g ∧ plS k p g < 16 := by unfold plS; omega

/-- What Lookup tells. -/
def lookS (ss : List Slt) (k p addr : Int) : Option Int :=
  if cacheB ss && kpB k p then
    (fun s : Slt => if s.u && (s.k == k) && (s.p == p) && (s.g == addr / 4096) then some (s.f * 4096 + addr % 4096) else none) (ss.getD (plS k p (addr / 4096)).toNat slt0)
  else none

/-- What Lookup tells, as values. -/
def lookV (o : Option Int) : Value := .tuple #[.int .u64 (o.getD 0), .bool o.isSome]

/-- The slot that Keep lays. -/
def kSlt (k p addr to : Int) : Slt := ⟨true, k, p, addr / 4096, to / 4096⟩

/-- What Keep answers. -/
def keepS (ss : List Slt) (k p addr to : Int) : List Slt :=
  if cacheB ss && kpB k p then ss.set (plS k p (addr / 4096)).toNat (kSlt k p addr to) else []

def dropOne (addr : Int) (all : Bool) (s : Slt) : Slt := if all || (s.u && (s.g == addr / 4096)) then slt0 else s

/-- What Drop answers. -/
def dropS (ss : List Slt) (addr : Int) (all : Bool) : List Slt := if cacheB ss then ss.map (dropOne addr all) else []

/-- A cache's used slots up to j, as the program's map has them. -/
def usedTo (ss : List Slt) (j : Nat) : List Slt := (ss.take j).filter (·.u)

theorem usedTo_succ (ss : List Slt) (j : Nat) (hj : j < ss.length) : usedTo ss (j + 1) = if (ss.getD j slt0).u then usedTo ss j ++ [ss.getD j slt0] else usedTo ss j := by
  unfold usedTo
  have e1 : ss.getD j slt0 = ss[j] := by simp [List.getD, List.getElem?_eq_getElem hj]
  rw [List.take_succ_eq_append_getElem hj, List.filter_append, ← e1]
  generalize ss.getD j slt0 = s
  cases h : s.u <;> simp [h]

theorem mem_usedTo {ss : List Slt} {j : Nat} {s : Slt} (h : s ∈ usedTo ss j) : s.u = true ∧ ∃ i, i < j ∧ i < ss.length ∧ ss.getD i slt0 = s := by
  unfold usedTo at h
  rw [List.mem_filter] at h
  refine ⟨h.2, ?_⟩
  obtain ⟨i, hi, e⟩ := List.mem_iff_getElem.1 h.1
  simp only [List.length_take] at hi
  refine ⟨i, by omega, by omega, ?_⟩
  rw [List.getElem_take] at e
  simp [List.getD, List.getElem?_eq_getElem (show i < ss.length by omega), e]

/-- A used slot of a right cache lies at its place. -/
theorem ok_used {ss : List Slt} {n i : Nat} (h : okTo ss n = true) (hi : i < n) (hu : (ss.getD i slt0).u = true) :
    kpB (ss.getD i slt0).k (ss.getD i slt0).p = true ∧ (ss.getD i slt0).g < 4503599627370496 ∧ (ss.getD i slt0).f < 4503599627370496 ∧ plS (ss.getD i slt0).k (ss.getD i slt0).p (ss.getD i slt0).g = i := by
  have := okTo_at h hi
  rw [okS, if_pos hu, okU] at this
  simp only [Bool.and_eq_true, decide_eq_true_eq, beq_iff_eq] at this
  refine ⟨by unfold kpB; rw [decide_eq_true this.1, decide_eq_true this.2.1]; rfl, this.2.2.1, this.2.2.2.1, this.2.2.2.2⟩

/-- So no key comes twice. -/
theorem key_new {ss : List Slt} {j : Nat} (h : okTo ss 16 = true) (hj : j < 16) (hu : (ss.getD j slt0).u = true) : ∀ s ∈ usedTo ss j, ((ss.getD j slt0).k == s.k && (ss.getD j slt0).p == s.p && (ss.getD j slt0).g == s.g) = false := by
  intro s hs
  obtain ⟨h1, i, hi, _, e⟩ := mem_usedTo hs
  have a := ok_used h hj hu
  have b := ok_used (i := i) h (by omega) (by rw [e]; exact h1)
  rw [e] at b
  cases hc : ((ss.getD j slt0).k == s.k && (ss.getD j slt0).p == s.p && (ss.getD j slt0).g == s.g)
  · rfl
  · simp only [Bool.and_eq_true, beq_iff_eq] at hc
    have h1 := a.2.2.2
    have h2 := b.2.2.2
    rw [hc.1.1, hc.1.2, hc.2] at h1
    omega

/-- What is found among used slots by a key. -/
def findS (l : List Slt) (k p g : Int) : Option Slt := l.find? fun s => k == s.k && p == s.p && g == s.g

theorem find_some {ss : List Slt} (hl : ss.length = 16) (h : okTo ss 16 = true) {k p g : Int} {s : Slt} (hf : findS (usedTo ss 16) k p g = some s) :
    kpB k p = true ∧ ss.getD (plS k p g).toNat slt0 = s ∧ s.u = true ∧ s.k = k ∧ s.p = p ∧ s.g = g := by
  have hm := List.mem_of_find?_eq_some hf
  have hp := List.find?_some hf
  simp only [Bool.and_eq_true, beq_iff_eq] at hp
  obtain ⟨hu, i, hi, _, e⟩ := mem_usedTo hm
  have b := ok_used (i := i) h hi (by rw [e]; exact hu)
  rw [e, ← hp.1.1, ← hp.1.2, ← hp.2] at b
  refine ⟨b.1, ?_, hu, hp.1.1.symm, hp.1.2.symm, hp.2.symm⟩
  rw [b.2.2.2]
  exact e

theorem find_none {ss : List Slt} (hl : ss.length = 16) {k p g : Int} (hf : findS (usedTo ss 16) k p g = none) (s : Slt) (i : Nat) (hs : ss.getD i slt0 = s) (hi : i < 16) (hu : s.u = true) (h1 : s.k = k) (h2 : s.p = p) (h3 : s.g = g) : False := by
  have hm : s ∈ usedTo ss 16 := by
    unfold usedTo
    rw [List.mem_filter, List.take_of_length_le (by omega)]
    refine ⟨?_, hu⟩
    rw [← hs, List.getD_eq_getElem?_getD, List.getElem?_eq_getElem (show i < ss.length by omega)]
    exact List.getElem_mem _
  have := List.find?_eq_none.1 hf s hm
  simp [h1, h2, h3] at this

/-- The program's Lookup is the model's. -/
theorem look_eq {ss : List Slt} (hc : cacheB ss = true) (k p addr : Int) : (findS (usedTo ss 16) k p (addr / 4096)).map (fun s => s.f * 4096 + addr % 4096) = lookS ss k p addr := by
  have hl : ss.length = 16 := by simp [cacheB] at hc; exact hc.1
  have ho : okTo ss 16 = true := by simp [cacheB] at hc; exact hc.2
  cases hf : findS (usedTo ss 16) k p (addr / 4096) with
  | some s =>
    obtain ⟨h1, h2, h3, h4, h5, h6⟩ := find_some hl ho hf
    unfold lookS
    rw [hc, h1, h2]
    simp [h3, h4, h5, h6]
  | none =>
    simp only [Option.map_none]
    unfold lookS
    dsimp only
    split
    · split
      · rename_i hk hs
        simp only [Bool.and_eq_true, beq_iff_eq] at hs
        exact (find_none hl hf _ _ rfl (by have := plS_bd k p (addr / 4096); omega) hs.1.1.1 hs.1.1.2 hs.1.2 hs.2).elim
      · rfl
    · rfl

theorem drop_prog {ss : List Slt} (ho : okTo ss 16 = true) (addr : Int) (i : Nat) (hi : i < 16) : dropOne addr false (ss.getD i slt0) = if (ss.getD i slt0).g == addr / 4096 then slt0 else ss.getD i slt0 := by
  unfold dropOne
  cases hu : (ss.getD i slt0).u
  · have := okTo_at ho hi
    rw [okS, hu] at this
    simp only [Bool.false_eq_true, if_false, decide_eq_true_eq] at this
    rw [this]
    simp [slt0]
  · simp

theorem flatS_take : ∀ (ss : List Slt) (i : Nat), flatS (ss.take i) = (flatS ss).take (i * 5) := by
  intro ss
  induction ss with
  | nil => intro i; simp [flatS]
  | cons s ss ih =>
    intro i
    cases i with
    | zero => simp [flatS]
    | succ i =>
      have hl : s.cs.length = 5 := rfl
      simp only [List.take_succ_cons, flatS, ih i]
      rw [List.take_append, hl, List.take_of_length_le (show s.cs.length ≤ (i + 1) * 5 by omega), show (i + 1) * 5 - 5 = i * 5 by omega]

theorem flatS_drop : ∀ (ss : List Slt) (i : Nat), flatS (ss.drop i) = (flatS ss).drop (i * 5) := by
  intro ss
  induction ss with
  | nil => intro i; simp [flatS]
  | cons s ss ih =>
    intro i
    cases i with
    | zero => simp
    | succ i =>
      have hl : s.cs.length = 5 := rfl
      simp only [List.drop_succ_cons, flatS, ih i]
      rw [List.drop_append, hl, List.drop_of_length_le (show s.cs.length ≤ (i + 1) * 5 by omega), List.nil_append, show (i + 1) * 5 - 5 = i * 5 by omega]

/-- A list with n slots from i on emptied. -/
def zeroed (ss : List Slt) (i m : Nat) : List Slt := ss.take i ++ List.replicate m slt0 ++ ss.drop (i + m)

theorem zeroed_all (ss : List Slt) (n : Nat) (h : ss.length = n) : zeroed ss 0 n = List.replicate n slt0 := by simp [zeroed, ← h]

theorem zeroed_one (ss : List Slt) (i : Nat) (h : i < ss.length) : zeroed ss i 1 = ss.set i slt0 := by
  rw [zeroed, List.set_eq_take_append_cons_drop, if_pos h]
  simp

theorem dropS_all (ss : List Slt) (addr : Int) : ss.map (dropOne addr true) = List.replicate ss.length slt0 := by
  induction ss with
  | nil => rfl
  | cons s ss ih => simp [dropOne, List.replicate_succ, ih]

/-- A dropping loop's list by round j. -/
def DkS (ss : List Slt) (addr : Int) (all : Bool) (j : Nat) : List Slt := (ss.take j).map (dropOne addr all) ++ ss.drop j

theorem DkS_zero (ss : List Slt) (addr : Int) (all : Bool) : DkS ss addr all 0 = ss := by simp [DkS]

theorem DkS_end (ss : List Slt) (addr : Int) (all : Bool) (n : Nat) (h : ss.length = n) : DkS ss addr all n = ss.map (dropOne addr all) := by simp [DkS, ← h]

theorem DkS_len (ss : List Slt) (addr : Int) (all : Bool) (n j : Nat) (h : ss.length = n) (hj : j ≤ n) : (DkS ss addr all j).length = n := by simp [DkS]; omega

theorem DkS_at (ss : List Slt) (addr : Int) (all : Bool) (n j : Nat) (h : ss.length = n) (hj : j < n) : (DkS ss addr all j).getD j slt0 = ss.getD j slt0 := by
  unfold DkS
  have hl : ((ss.take j).map (dropOne addr all)).length = j := by simp; omega
  simp only [List.getD, List.getElem?_append_right (Nat.le_of_eq hl), hl, Nat.sub_self, List.getElem?_drop]
  simp

theorem DkS_set (ss : List Slt) (addr : Int) (all : Bool) (n j : Nat) (h : ss.length = n) (hj : j < n) : (DkS ss addr all j).set j (dropOne addr all (ss.getD j slt0)) = DkS ss addr all (j + 1) := by
  unfold DkS
  have hl : ((ss.take j).map (dropOne addr all)).length = j := by simp; omega
  rw [List.set_append_right _ _ (Nat.le_of_eq hl), hl, Nat.sub_self, List.drop_eq_getElem_cons (show j < ss.length by omega), List.set_cons_zero, List.take_succ_eq_append_getElem (show j < ss.length by omega), List.map_append, List.append_assoc]
  simp [List.getD, List.getElem?_eq_getElem (show j < ss.length by omega)]

theorem DkS_same (ss : List Slt) (addr : Int) (all : Bool) (n j : Nat) (h : ss.length = n) (hj : j < n) (hd : dropOne addr all (ss.getD j slt0) = ss.getD j slt0) : DkS ss addr all (j + 1) = DkS ss addr all j := by
  rw [← DkS_set ss addr all n j h hj, hd, ← DkS_at ss addr all n j h hj]
  have hlt : j < (DkS ss addr all j).length := by rw [DkS_len ss addr all n j h (by omega)]; exact hj
  rw [List.getD_eq_getElem?_getD, List.getElem?_eq_getElem hlt]
  simp

end Go.Proofs.Ytdllhjehokpefaa
