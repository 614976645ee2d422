/- A list of one's own, in new memory, that grows by one element at a time. -/
import Derived.Test.YtjjpklalihaanaaDoorMem
import Derived.WalkKit
namespace Go.Proofs.YtjjpklalihaanaaDoor
open Go.RowKit
set_option linter.unusedVariables false

/-- v is a list of n one-cell elements xs in memory that w0 did not have; what w0 had is as it was. -/
def Lst (e : TypeId) (w0 wr : World) (v : Value) (n : Nat) (xs : List Value) : Prop := wr.ownsRow w0.heap.size e 1 v n xs ∧ Below w0.heap.size w0 wr

theorem Lst.below {e : TypeId} {w0 wr wx : World} {v : Value} {n : Nat} {xs : List Value} (h : Lst e w0 wr v n xs) (hb : Below wr.heap.size wr wx) : Lst e w0 wx v n xs :=
  ⟨ownsRow_below h.1 hb, below_trans h.2 hb⟩

theorem Lst.len {e : TypeId} {w0 wr : World} {v : Value} {n : Nat} {xs : List Value} (h : Lst e w0 wr v n xs) : xs.length = n := by
  have := h.1.1; simpa using this

theorem lst_empty (e : TypeId) (w : World) : Lst e w (w.alloc (.cells #[] e (0, 0))) (.slice (some ⟨w.heap.size, 0, none⟩) 0 0) 0 [] :=
  ⟨World.ownsRow_lit w #[] 0 (Nat.le_refl _) (by unfold maxLen; omega) rfl, (Below.refl _ _).alloc (Nat.le_refl _) _⟩

theorem Lst.slice {e : TypeId} {w0 wr : World} {v : Value} {n : Nat} {xs : List Value} (h : Lst e w0 wr v n xs) : ∃ a c, v = .slice a n c := by
  rcases h.1.2 with ⟨e1, e0⟩ | ⟨g, cap, cur, e1, _⟩
  · exact ⟨none, 0, by rw [e1, e0]⟩
  · exact ⟨_, _, e1⟩

/-- The cells of such a list. -/
theorem Lst.cell {e : TypeId} {w0 wr : World} {v : Value} {n : Nat} {xs : List Value} (h : Lst e w0 wr v n xs) (k : Nat) (x : Value) (hx : xs[k]? = some x) : ∃ g c, v = .slice (some ⟨g, 0, none⟩) n c ∧ w0.heap.size ≤ g ∧ wr.cell? ⟨g, k, none⟩ = some x := by
  have hk : k < xs.length := by
    by_cases hl : k < xs.length
    · exact hl
    · rw [List.getElem?_eq_none (by omega)] at hx; cases hx
  have hn := h.len
  obtain ⟨g, c, rfl, hg⟩ := own_shape h.1 (by omega)
  refine ⟨g, c, rfl, hg, ?_⟩
  have := h.1.cells (g := g) rfl k x hx
  cases k <;> simpa [Addr.add] using this

theorem one_cell (w : World) (u : Value) (e : TypeId) (j : Nat) (x : Value) (h : [u][j]? = some x) : (w.alloc (.cells #[u] e (0, 0))).cell? ((⟨w.heap.size, 0, none⟩ : Addr).add j) = some x := by
  have hj : j = 0 := by
    rcases Nat.eq_zero_or_pos j with h0 | h0
    · exact h0
    · rw [List.getElem?_eq_none (by simp; omega)] at h; cases h
  subst hj
  have hn : (w.alloc (.cells #[u] e (0, 0))).heap[w.heap.size]? = some (.cells #[u] e (0, 0)) := heap_alloc_new _ _
  simp at h
  subst h
  show (w.alloc (.cells #[u] e (0, 0))).cell? ⟨w.heap.size, 0, none⟩ = some u
  simp only [World.cell?, hn]
  rfl

/-- append(v, u): the list then has one element more. -/
theorem wpList_push1 {P : Program} {ops : Array Oper} {rest : List Oper} {o : Oper} {a : Act} {Q : Exit → Act → World → Prop} {w0 wr : World} (hgd : o.guard = none) (s x : Operand) (t e : TypeId)
    (ho : o.op = .call { callee := .builtin .append, args := #[s, x], argTypes := #[t, t] }) (i : TypeInfo) (z : Value) (bytes : Nat) (ht : P.underlying t = some (.slice e)) (hi : P.info? e = some i) (hz : i.zero = some z)
    (hsize : i.size = 1) (hby : i.bytes = bytes) (hzs : z.cells.size = 1) (hbb : bytes ≤ 16) (v : Value) (n : Nat) (xs : List Value) (u : Value) (hs : a.eval s = v) (hx : a.eval x = .slice (some ⟨wr.heap.size, 0, none⟩) 1 1) (hu : u.oneCell' = true)
    (hL : Lst e w0 wr v n xs) (hn : n ≤ 1000000000)
    (h : ∀ a' c' w', Lst e w0 w' (.slice a' (n + 1) c') (n + 1) (xs ++ [u]) → (wr.alloc (.cells #[u] e (0, 0))).grownBy w' v.ownBlock → wpList P ops Q rest (a.put o.dst (.slice a' (n + 1) c')) w') :
    wpList P ops Q (o :: rest) a (wr.alloc (.cells #[u] e (0, 0))) := by
  have h1 : Lst e w0 (wr.alloc (.cells #[u] e (0, 0))) v n xs := hL.below ((Below.refl _ _).alloc (Nat.le_refl _) _)
  refine wpList_append_own _ hgd s x t ho w0.heap.size e i z 1 bytes ht hi hz hsize hby hzs (by decide) v n xs hs h1.1 ⟨wr.heap.size, 0, none⟩ 1 1 [u] hx rfl (one_cell wr u e) (by simpa using hu) (by unfold maxLen; omega) (Nat.le_trans (Nat.mul_le_mul (show n + 1 ≤ 1000000001 by omega) hbb) (by decide)) h1.2.size ?_
  intro v' w' hown hg _
  have hL' : Lst e w0 w' v' (n + 1) (xs ++ [u]) := by
    refine ⟨hown, Below.grown h1.2 hg h1.2.size ?_⟩
    intro k hk
    rcases hL.1.2 with ⟨e1, _⟩ | ⟨g, cap, cur, e1, hgg, _⟩
    · rw [e1] at hk; cases hk
    · rw [e1] at hk
      simp [Value.ownBlock] at hk
      omega
  obtain ⟨a', c', rfl⟩ := hL'.slice
  exact h a' c' w' hL' hg

end Go.Proofs.YtjjpklalihaanaaDoor
