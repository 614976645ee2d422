/- Slots of a cache as plain numbers, their cells one behind the other; a cache's plain answers. -/
import Derived.Test.YtdllhjehokpefaaMem
namespace Go.Proofs.Ytdllhjehokpefaa
open Go.RowKit
set_option linter.unusedVariables false

/-- A slot: used, kind, privilege, page, frame. -/
structure Slt where
  u : Bool
  k : Int
  p : Int
  g : Int
  f : Int
deriving DecidableEq

def slt0 : Slt := ⟨false, 0, 0, 0, 0⟩

def Slt.cs (s : Slt) : List Value := [.bool s.u, .int .i64 s.k, .int .i64 s.p, .int .u64 s.g, .int .u64 s.f]

def Slt.v (s : Slt) : Value := .agg #[.bool s.u, .int .i64 s.k, .int .i64 s.p, .int .u64 s.g, .int .u64 s.f]

def flatS : List Slt → List Value
  | [] => []
  | s :: ss => s.cs ++ flatS ss

theorem flatS_len (ss : List Slt) : (flatS ss).length = ss.length * 5 := by
  induction ss with
  | nil => rfl
  | cons s ss ih => simp [flatS, Slt.cs, ih]; omega

theorem flatS_get (ss : List Slt) : ∀ (i j : Nat), i < ss.length → j < 5 → (flatS ss)[i * 5 + j]? = (ss.getD i slt0).cs[j]? := by
  induction ss with
  | nil => intro i j hi; simp at hi
  | cons s ss ih =>
    intro i j hi hj
    have hl : s.cs.length = 5 := rfl
    cases i with
    | zero => rw [flatS, List.getElem?_append_left (by omega)]; simp [List.getD]
    | succ i =>
      rw [flatS, List.getElem?_append_right (by omega), hl, show (i + 1) * 5 + j - 5 = i * 5 + j by omega, ih i j (by simpa using hi) hj]
      simp [List.getD]

def set5 (l : List Value) (i : Nat) (s : Slt) : List Value := ((((l.set (i * 5) (.bool s.u)).set (i * 5 + 1) (.int .i64 s.k)).set (i * 5 + 2) (.int .i64 s.p)).set (i * 5 + 3) (.int .u64 s.g)).set (i * 5 + 4) (.int .u64 s.f)

theorem flatS_set (s : Slt) : ∀ (ss : List Slt) (i : Nat), i < ss.length → set5 (flatS ss) i s = flatS (ss.set i s) := by
  intro ss
  induction ss with
  | nil => intro i hi; simp at hi
  | cons t ss ih =>
    intro i hi
    cases i with
    | zero => simp [set5, flatS, Slt.cs]
    | succ i =>
      have h := ih i (by simpa using hi)
      simp only [List.set_cons_succ, flatS, ← h]
      have hl : t.cs.length = 5 := rfl
      unfold set5
      rw [List.set_append_right _ _ (by omega), List.set_append_right _ _ (by omega), List.set_append_right _ _ (by omega), List.set_append_right _ _ (by omega), List.set_append_right _ _ (by omega)]
      simp only [hl, show (i + 1) * 5 - 5 = i * 5 by omega, show (i + 1) * 5 + 1 - 5 = i * 5 + 1 by omega, show (i + 1) * 5 + 2 - 5 = i * 5 + 2 by omega, show (i + 1) * 5 + 3 - 5 = i * 5 + 3 by omega, show (i + 1) * 5 + 4 - 5 = i * 5 + 4 by omega]

theorem flatS_append (a b : List Slt) : flatS (a ++ b) = flatS a ++ flatS b := by
  induction a with
  | nil => rfl
  | cons s a ih => simp [flatS, ih]

theorem flatS_inj : ∀ (a b : List Slt), flatS a = flatS b → a = b := by
  intro a
  induction a with
  | nil => intro b h; cases b with
    | nil => rfl
    | cons t b => simp [flatS, Slt.cs] at h
  | cons s a ih => intro b h; cases b with
    | nil => simp [flatS, Slt.cs] at h
    | cons t b =>
      obtain ⟨su, sk, sp, sg, sf⟩ := s
      obtain ⟨tu, tk, tp, tg, tf⟩ := t
      simp only [flatS, Slt.cs, List.cons_append, List.nil_append, List.cons.injEq, Value.bool.injEq, Value.int.injEq, true_and] at h
      obtain ⟨rfl, rfl, rfl, rfl, rfl, h⟩ := h
      rw [ih b h]

/-- The cells that a slice of slots leads to hold these, in memory that was there at w. -/
def Ss (w : World) (a : Option Addr) (ss : List Slt) : Prop :=
  ∀ i, i < ss.length → ∃ b off, a = some ⟨b, off, none⟩ ∧ b < w.heap.size ∧ ∀ j, j < 5 → w.cell? ⟨b, off + i * 5 + j, none⟩ = (ss.getD i slt0).cs[j]?

theorem Ss.below {w w' : World} {a : Option Addr} {ss : List Slt} (h : Ss w a ss) (hb : Below w.heap.size w w') : Ss w' a ss := by
  intro i hi
  obtain ⟨b, off, e, hlt, hc⟩ := h i hi
  exact ⟨b, off, e, Nat.lt_of_lt_of_le hlt hb.size, fun j hj => (hb.cell (by exact hlt)).trans (hc j hj)⟩

/-- A slot's five cells, one by one. -/
theorem Ss.at {w : World} {a : Option Addr} {ss : List Slt} (h : Ss w a ss) (i : Nat) (hi : i < ss.length) (s : Slt) (hs : ss.getD i slt0 = s) :
    ∃ b off, a = some ⟨b, off, none⟩ ∧ b < w.heap.size ∧ w.cell? ⟨b, off + i * 5, none⟩ = some (.bool s.u) ∧ w.cell? ⟨b, off + i * 5 + 1, none⟩ = some (.int .i64 s.k) ∧ w.cell? ⟨b, off + i * 5 + 2, none⟩ = some (.int .i64 s.p) ∧
      w.cell? ⟨b, off + i * 5 + 3, none⟩ = some (.int .u64 s.g) ∧ w.cell? ⟨b, off + i * 5 + 4, none⟩ = some (.int .u64 s.f) := by
  obtain ⟨b, off, e, hlt, hc⟩ := h i hi
  subst hs
  exact ⟨b, off, e, hlt, hc 0 (by omega), hc 1 (by omega), hc 2 (by omega), hc 3 (by omega), hc 4 (by omega)⟩

theorem own_ss {w : World} {base : Nat} {e : TypeId} {a : Option Addr} {n cap : Nat} {ss : List Slt} (h : w.ownsRow base e 5 (.slice a n cap) n (flatS ss)) : Ss w a ss := by
  have hn : ss.length = n := by have := h.1; rw [flatS_len] at this; omega
  rcases h.2 with ⟨h2, h3⟩ | ⟨g', cap', cur, hv, hg, hh, r⟩
  · intro i hi; omega
  · simp only [Value.slice.injEq, true_and] at hv
    obtain ⟨rfl, rfl⟩ := hv
    intro i hi
    refine ⟨g', 0, rfl, ?_, fun j hj => ?_⟩
    · exact own_lt h
    · rw [Nat.zero_add, h.cellAt (i * 5 + j) (by omega), flatS_get ss i j hi hj]

/-- What a copying loop has laid by round j. -/
def LkS (ss : List Slt) (n j : Nat) : List Slt := ss.take j ++ List.replicate (n - j) slt0

theorem LkS_len (ss : List Slt) (n j : Nat) (hz : ss.length = n) (hj : j ≤ n) : (LkS ss n j).length = n := by simp [LkS]; omega

theorem LkS_zero (ss : List Slt) (n : Nat) : LkS ss n 0 = List.replicate n slt0 := by simp [LkS]

theorem LkS_end (ss : List Slt) (n : Nat) (hz : ss.length = n) : LkS ss n n = ss := by simp [LkS, ← hz]

theorem LkS_set (ss : List Slt) (n j : Nat) (hz : ss.length = n) (hj : j < n) : (LkS ss n j).set j (ss.getD j slt0) = LkS ss n (j + 1) := by
  unfold LkS
  have h1 : ss.take (j + 1) = ss.take j ++ [ss.getD j slt0] := by
    rw [List.take_succ_eq_append_getElem (by omega)]
    simp [List.getD, List.getElem?_eq_getElem (show j < ss.length by omega)]
  have h2 : n - j = (n - (j + 1)) + 1 := by omega
  rw [h1, h2, List.replicate_succ, List.set_append_right _ _ (by simp; omega)]
  have h3 : j - (ss.take j).length = 0 := by simp; omega
  rw [h3]
  simp

theorem made_flat (n : Nat) : (madeCells #[.bool false, .int .i64 0, .int .i64 0, .int .u64 0, .int .u64 0] (n * 5)).toList = flatS (List.replicate n slt0) := by
  apply List.ext_getElem?
  intro j
  by_cases hj : j < n * 5
  · have e : j = j / 5 * 5 + j % 5 := by omega
    have h := flatS_get (List.replicate n slt0) (j / 5) (j % 5) (by simp; omega) (by omega)
    rw [← e] at h
    rw [h]
    have hg : (List.replicate n slt0).getD (j / 5) slt0 = slt0 := by simp [List.getD, List.getElem?_replicate]; split <;> rfl
    rw [hg]
    have h5 : j % 5 = 0 ∨ j % 5 = 1 ∨ j % 5 = 2 ∨ j % 5 = 3 ∨ j % 5 = 4 := by omega
    simp only [madeCells, Array.toList_map, List.getElem?_map, Array.toList_range, List.getElem?_range hj, Option.map_some]
    have hs : (#[Value.bool false, .int .i64 0, .int .i64 0, .int .u64 0, .int .u64 0] : Array Value).size = 5 := rfl
    rw [hs]
    rcases h5 with h | h | h | h | h <;> rw [h] <;> rfl
  · rw [List.getElem?_eq_none (by simp [madeCells]; omega), List.getElem?_eq_none (by rw [flatS_len]; simp; omega)]

/-- A slot's five cells, laid one by one. -/
def put5 (w : World) (g i : Nat) (s : Slt) : World :=
  ((((w.setCell ⟨g, i * 5, none⟩ (.bool s.u)).setCell ⟨g, i * 5 + 1, none⟩ (.int .i64 s.k)).setCell ⟨g, i * 5 + 2, none⟩ (.int .i64 s.p)).setCell ⟨g, i * 5 + 3, none⟩ (.int .u64 s.g)).setCell ⟨g, i * 5 + 4, none⟩ (.int .u64 s.f)

theorem own_put5 {w : World} {base : Nat} {e : TypeId} {g n cap : Nat} {ss : List Slt} (h : w.ownsRow base e 5 (.slice (some ⟨g, 0, none⟩) n cap) n (flatS ss)) (i : Nat) (hi : i < ss.length) (s : Slt) :
    (put5 w g i s).ownsRow base e 5 (.slice (some ⟨g, 0, none⟩) n cap) n (flatS (ss.set i s)) ∧ w.grownBy (put5 w g i s) (some g) := by
  have h0 := h.stored (i * 5) (.bool s.u)
  have h1 := h0.1.stored (i * 5 + 1) (.int .i64 s.k)
  have h2 := h1.1.stored (i * 5 + 2) (.int .i64 s.p)
  have h3 := h2.1.stored (i * 5 + 3) (.int .u64 s.g)
  have h4 := h3.1.stored (i * 5 + 4) (.int .u64 s.f)
  refine ⟨?_, grown_trans (grown_trans (grown_trans (grown_trans h0.2 h1.2) h2.2) h3.2) h4.2⟩
  rw [← flatS_set s ss i hi]
  exact h4.1

/-- What a store into a slot of an own row wants: nothing is frozen, five cells are there. -/
theorem own_room {w : World} {base : Nat} {e : TypeId} {g n cap : Nat} {ss : List Slt} (h : w.ownsRow base e 5 (.slice (some ⟨g, 0, none⟩) n cap) n (flatS ss)) (i : Nat) (hi : i < n) :
    (w.frozen? ⟨g, i * 5, none⟩ = false ∧ w.frozen? ⟨g, i * 5 + 1, none⟩ = false ∧ w.frozen? ⟨g, i * 5 + 2, none⟩ = false ∧ w.frozen? ⟨g, i * 5 + 3, none⟩ = false ∧ w.frozen? ⟨g, i * 5 + 4, none⟩ = false) ∧
    ∃ s, ss.getD i slt0 = s ∧ w.cell? ⟨g, i * 5, none⟩ = some (.bool s.u) ∧ w.cell? ⟨g, i * 5 + 1, none⟩ = some (.int .i64 s.k) ∧ w.cell? ⟨g, i * 5 + 2, none⟩ = some (.int .i64 s.p) ∧ w.cell? ⟨g, i * 5 + 3, none⟩ = some (.int .u64 s.g) ∧ w.cell? ⟨g, i * 5 + 4, none⟩ = some (.int .u64 s.f) := by
  have hn : ss.length = n := by have := h.1; rw [flatS_len] at this; omega
  refine ⟨⟨h.frozenAt _, h.frozenAt _, h.frozenAt _, h.frozenAt _, h.frozenAt _⟩, _, rfl, ?_⟩
  obtain ⟨b, off, e, hlt, c⟩ := (own_ss h).at i (by omega) _ rfl
  simp only [Option.some.injEq, Addr.mk.injEq, and_true] at e
  obtain ⟨rfl, rfl⟩ := e
  simpa using c

theorem own_far {w : World} {base : Nat} {e : TypeId} {size : Nat} {v : Value} {n : Nat} {xs : List Value} (h : w.ownsRow base e size v n xs) (p : Addr) (u : Value) (hne : ∀ k, v.ownBlock = some k → k ≠ p.block) : (w.setCell p u).ownsRow base e size v n xs := by
  refine ⟨h.1, ?_⟩
  rcases h.2 with h2 | ⟨g, cap, cur, h1, h2, h3, h4⟩
  · exact .inl h2
  · exact .inr ⟨g, cap, cur, h1, h2, (Below.heap_setCell w p u g (hne g (by rw [h1]; rfl))).trans h3, h4⟩

theorem grown_of_below {w w' : World} (h : Below w.heap.size w w') (row : Option Nat) : w.grownBy w' row := ⟨h.os, h.tape, h.output, h.size, fun k hk _ => h.block k hk⟩

theorem stake_next (xs ys : List Slt) (k n : Nat) (hx : xs.length = n) (hy : ys.length = n) (hk : k < n) (h : xs.take k = ys.take k) (he : xs.getD k slt0 = ys.getD k slt0) : xs.take (k + 1) = ys.take (k + 1) := by
  rw [List.take_succ_eq_append_getElem (by omega), List.take_succ_eq_append_getElem (by omega), h]
  have e1 : xs.getD k slt0 = xs[k] := by simp [List.getD, List.getElem?_eq_getElem (show k < xs.length by omega)]
  have e2 : ys.getD k slt0 = ys[k] := by simp [List.getD, List.getElem?_eq_getElem (show k < ys.length by omega)]
  rw [← e1, ← e2, he]

/-- The mark that a slot gets at number k, and the list of n of them. -/
def mkS (k : Int) : Slt := ⟨k % 3 == 0, k + 1, k + 1 + 1, k + 1 + 1 + 1, k + 1 + 1 + 1 + 1⟩

def marksS (k : Int) (n : Nat) : List Slt := (List.range n).map fun (i : Nat) => mkS (k + 5 * (i : Int))

theorem marksS_len (k : Int) (n : Nat) : (marksS k n).length = n := by simp [marksS]

theorem marksS_get (k : Int) (n i : Nat) (hi : i < n) : (marksS k n).getD i slt0 = mkS (k + 5 * i) := by
  simp [marksS, List.getD, List.getElem?_map, List.getElem?_range hi]

/-- A marking loop's list by round j. -/
def MkS (ss : List Slt) (k : Int) (n j : Nat) : List Slt := marksS k j ++ ss.drop j

theorem MkS_zero (ss : List Slt) (k : Int) (n : Nat) : MkS ss k n 0 = ss := by simp [MkS, marksS]

theorem MkS_len (ss : List Slt) (k : Int) (n j : Nat) (hz : ss.length = n) (hj : j ≤ n) : (MkS ss k n j).length = n := by simp [MkS, marksS_len]; omega

theorem MkS_end (ss : List Slt) (k : Int) (n : Nat) (hz : ss.length = n) : MkS ss k n n = marksS k n := by simp [MkS, ← hz]

theorem MkS_set (ss : List Slt) (k : Int) (n j : Nat) (hz : ss.length = n) (hj : j < n) : (MkS ss k n j).set j (mkS (k + 5 * j)) = MkS ss k n (j + 1) := by
  unfold MkS
  have h1 : marksS k (j + 1) = marksS k j ++ [mkS (k + 5 * j)] := by simp [marksS, List.range_succ]
  rw [h1, List.set_append_right _ _ (by rw [marksS_len]; exact Nat.le_refl _), marksS_len, Nat.sub_self, List.drop_eq_getElem_cons (show j < ss.length by omega), List.set_cons_zero, List.append_assoc]
  rfl

theorem MkS_at (ss : List Slt) (k : Int) (n j : Nat) (hz : ss.length = n) (hj : j < n) : (MkS ss k n j).getD j slt0 = ss.getD j slt0 := by
  unfold MkS
  simp only [List.getD, List.getElem?_append_right (Nat.le_of_eq (marksS_len k j)), marksS_len, Nat.sub_self, List.getElem?_drop]
  simp

end Go.Proofs.Ytdllhjehokpefaa
