/- Devices as values: the laws' copies, comparisons, marks. -/
import Derived.Test.YtdllhjehokpefaaMemC
import Derived.Test.YtdllhjehokpefaaFamP
import Derived.Deep.AppendSrc
namespace Go.Proofs.Ytdllhjehokpefaa
open Go.RowKit
set_option linter.unusedVariables false

/-- A row of bytes. -/
def bRow (a : Option Addr) (n c : Nat) (xs : List Int) : FRow := ⟨5, .slice a n c, n, xs.map (Value.int .u8)⟩

/-- The memory of a device: what came in, what goes out. -/
def devF (a1 : Option Addr) (n1 c1 : Nat) (xs : List Int) (a2 : Option Addr) (n2 c2 : Nat) (ys : List Int) : List FRow := [bRow a1 n1 c1 xs, bRow a2 n2 c2 ys]

theorem Fam.in_ {B E : Nat} {w : World} {a1 : Option Addr} {n1 c1 : Nat} {xs : List Int} {a2 : Option Addr} {n2 c2 : Nat} {ys : List Int} (h : Fam B E w (devF a1 n1 c1 xs a2 n2 c2 ys)) : Sl .u8 w a1 xs := own_sl' (h.own (bRow a1 n1 c1 xs) (by simp [devF]))

theorem Fam.out_ {B E : Nat} {w : World} {a1 : Option Addr} {n1 c1 : Nat} {xs : List Int} {a2 : Option Addr} {n2 c2 : Nat} {ys : List Int} (h : Fam B E w (devF a1 n1 c1 xs a2 n2 c2 ys)) : Sl .u8 w a2 ys := own_sl' (h.own (bRow a2 n2 c2 ys) (by simp [devF]))

theorem dhid {p : Prop} (h : p) : Hid p := h

theorem dstays {w w' : World} (hb : Below w.heap.size w w') {g : Nat} {o : Obj} (h : w.heap[g]? = some o) : w'.heap[g]? = some o := by
  rw [hb.block g (Array.getElem?_eq_some_iff.1 h).1]
  exact h

theorem cells6 {W : World} {g : Nat} {a b c d e f : Value} {t : TypeId} (h : W.heap[g]? = some (.cells #[a, b, c, d, e, f] t (0, 0))) : W.cell? ⟨g, 0, none⟩ = some a ∧ W.cell? ⟨g, 1, none⟩ = some b ∧ W.cell? ⟨g, 2, none⟩ = some c ∧ W.cell? ⟨g, 3, none⟩ = some d ∧ W.cell? ⟨g, 4, none⟩ = some e ∧ W.cell? ⟨g, 5, none⟩ = some f := by
  refine ⟨?_, ?_, ?_, ?_, ?_, ?_⟩ <;> simp [World.cell?, h]

theorem froz {W : World} {g : Nat} {cs : Array Value} {t : TypeId} (h : W.heap[g]? = some (.cells cs t (0, 0))) (i : Nat) : W.frozen? ⟨g, i, none⟩ = false := by simp [World.frozen?, h]

theorem froz6 {W : World} {g : Nat} {cs : Array Value} {t : TypeId} (h : W.heap[g]? = some (.cells cs t (0, 0))) : W.frozen? ⟨g, 0, none⟩ = false ∧ W.frozen? ⟨g, 1, none⟩ = false ∧ W.frozen? ⟨g, 2, none⟩ = false ∧ W.frozen? ⟨g, 3, none⟩ = false ∧ W.frozen? ⟨g, 4, none⟩ = false ∧ W.frozen? ⟨g, 5, none⟩ = false :=
  ⟨froz h 0, froz h 1, froz h 2, froz h 3, froz h 4, froz h 5⟩

theorem rows2 {w w2 : World} {o1 o2 : Obj} (hb : Below ((w.alloc o1).alloc o2).heap.size ((w.alloc o1).alloc o2) w2) : w2.heap[w.heap.size]? = some o1 ∧ w2.heap[w.heap.size + 1]? = some o2 := by
  have e2 := heap_alloc_new (w.alloc o1) o2
  rw [World.size_alloc] at e2
  exact ⟨dstays hb ((Below.heap_alloc _ _ _ (by simp only [World.size_alloc]; omega)).trans (heap_alloc_new w o1)), dstays hb e2⟩

theorem rows3 {w w2 : World} {o1 o2 o3 : Obj} (hb : Below (((w.alloc o1).alloc o2).alloc o3).heap.size (((w.alloc o1).alloc o2).alloc o3) w2) :
    w2.heap[w.heap.size]? = some o1 ∧ w2.heap[w.heap.size + 1]? = some o2 ∧ w2.heap[w.heap.size + 1 + 1]? = some o3 := by
  have e3 := heap_alloc_new ((w.alloc o1).alloc o2) o3
  rw [World.size_alloc, World.size_alloc] at e3
  have h := rows2 (w := w) (o1 := o1) (o2 := o2) (Below.refl _ ((w.alloc o1).alloc o2))
  exact ⟨dstays hb ((Below.heap_alloc _ _ _ (by simp only [World.size_alloc]; omega)).trans h.1), dstays hb ((Below.heap_alloc _ _ _ (by simp only [World.size_alloc]; omega)).trans h.2), dstays hb e3⟩

theorem row_set {w : World} {g : Nat} {cs : Array Value} {t : TypeId} {fr : Nat × Nat} (h : w.heap[g]? = some (.cells cs t fr)) (i : Nat) (v : Value) :
    (w.setCell ⟨g, i, none⟩ v).heap[g]? = some (.cells (cs.setIfInBounds i v) t fr) := by
  simp [World.setCell, Array.getElem?_modify, h]

theorem row_far {w : World} {g : Nat} {o : Obj} (h : w.heap[g]? = some o) (p : Addr) (v : Value) (hne : g ≠ p.block) : (w.setCell p v).heap[g]? = some o := (Below.heap_setCell w p v g hne).trans h

theorem size_set (w : World) (p : Addr) (v : Value) : (w.setCell p v).heap.size = w.heap.size := by simp [World.setCell]

/-- A device's six cells, laid one by one. -/
def put6 (w : World) (g : Nat) (x0 x1 x2 x3 x4 x5 : Value) : World := (((((w.setCell ⟨g, 0, none⟩ x0).setCell ⟨g, 1, none⟩ x1).setCell ⟨g, 2, none⟩ x2).setCell ⟨g, 3, none⟩ x3).setCell ⟨g, 4, none⟩ x4).setCell ⟨g, 5, none⟩ x5

theorem row_put6 {w : World} {g : Nat} {a b c d e f : Value} {t : TypeId} {fr : Nat × Nat} (h : w.heap[g]? = some (.cells #[a, b, c, d, e, f] t fr)) (x0 x1 x2 x3 x4 x5 : Value) : (put6 w g x0 x1 x2 x3 x4 x5).heap[g]? = some (.cells #[x0, x1, x2, x3, x4, x5] t fr) :=
  row_set (row_set (row_set (row_set (row_set (row_set h 0 x0) 1 x1) 2 x2) 3 x3) 4 x4) 5 x5

theorem size_put6 (w : World) (g : Nat) (x0 x1 x2 x3 x4 x5 : Value) : (put6 w g x0 x1 x2 x3 x4 x5).heap.size = w.heap.size := by
  unfold put6
  simp only [size_set]

theorem below_put6 {B : Nat} {v w : World} (h : Below B v w) {g : Nat} (hg : B ≤ g) (x0 x1 x2 x3 x4 x5 : Value) : Below B v (put6 w g x0 x1 x2 x3 x4 x5) :=
  (((((h.setCell (by exact hg) x0).setCell (by exact hg) x1).setCell (by exact hg) x2).setCell (by exact hg) x3).setCell (by exact hg) x4).setCell (by exact hg) x5

theorem Fam.put6 {B E : Nat} {w : World} {L : List FRow} (h : Fam B E w L) (g : Nat) (hg : g < B ∨ E ≤ g) (x0 x1 x2 x3 x4 x5 : Value) : Fam B E (put6 w g x0 x1 x2 x3 x4 x5) L :=
  (((((h.set ⟨g, 0, none⟩ x0 hg).set ⟨g, 1, none⟩ x1 hg).set ⟨g, 2, none⟩ x2 hg).set ⟨g, 3, none⟩ x3 hg).set ⟨g, 4, none⟩ x4 hg).set ⟨g, 5, none⟩ x5 hg

theorem own_empty8 (w : World) (base : Nat) (hb : base ≤ w.heap.size) (o : Obj) (ho : o = .cells #[] 5 (0, 0)) : (w.alloc o).ownsRow base 5 1 (.slice (some ⟨w.heap.size, 0, none⟩) 0 0) 0 [] := by
  subst ho
  exact World.ownsRow_lit w #[] 0 hb (by unfold maxLen; omega) rfl

/-- append([]byte{}, b...), whatever b. -/
theorem wpList_app8 {ops : Array Oper} {rest : List Oper} {o : Oper} {a : Act} {Q : Exit → Act → World → Prop} {w : World} (hgd : o.guard = none) (s x : Operand)
    (ho : o.op = .call { callee := .builtin .append, args := #[s, x], argTypes := #[22, 22] }) (base g : Nat) (hs : a.eval s = .slice (some ⟨g, 0, none⟩) 0 0) (hown : w.ownsRow base 5 1 (.slice (some ⟨g, 0, none⟩) 0 0) 0 [])
    (ad : Option Addr) (m c : Nat) (zs : List Int) (hx : a.eval x = .slice ad m c) (hz : zs.length = m) (hm : m ≤ 1048576) (hsl : Sl .u8 w ad zs) (hbase : base ≤ w.heap.size)
    (h : ∀ a' c' w', w'.ownsRow base 5 1 (.slice a' m c') m (zs.map (Value.int .u8)) → w.grownBy w' (some g) → wpList Try.prog ops Q rest (a.put o.dst (.slice a' m c')) w') : wpList Try.prog ops Q (o :: rest) a w := by
  obtain ⟨i0, hi, hz0, hz1, hz2⟩ := info_parts Try.info5
  cases ad with
  | none =>
    have hm0 : m = 0 := by
      rcases Nat.eq_zero_or_pos m with h0 | h0
      · exact h0
      · obtain ⟨b, off, e, _⟩ := hsl 0 (by omega)
        cases e
    subst hm0
    have hzn : zs = [] := List.length_eq_zero_iff.1 hz
    subst hzn
    refine wpList_plain hgd fun K hK => ?_
    have hr := run_append_room_src (P := Try.prog) w 22 22 o.type 5 i0 Try.underlying22 hi g 0 0 0 (.slice none 0 c) 0 [] (Src.ofNil w Try.underlying22 c) (by omega) (fun j hj => by simp at hj) (fun j hj => by simp at hj)
    unfold Oper.wp execOp
    simp only [ho, resolve, invoke, builtin, Sem.run_bind, Sem.run_pure, Result.andThen_ok, List.map_toArray, List.map_cons, List.map_nil, hs, hx, hr]
    exact hK _ _ (h _ _ w hown ⟨rfl, rfl, rfl, Nat.le_refl _, fun _ _ _ => rfl⟩)
  | some A =>
    have hnews : ∀ j u, (zs.map (Value.int .u8))[j]? = some u → w.cell? (A.add j) = some u := by
      intro j u hu
      have hj : j < zs.length := by
        rcases Nat.lt_or_ge j zs.length with h | h
        · exact h
        · rw [List.getElem?_eq_none (by simpa using h)] at hu; cases hu
      obtain ⟨b, off, e, _, hc⟩ := hsl j hj
      cases e
      rw [adds, hc]
      rw [List.getElem?_map, List.getElem?_eq_getElem hj] at hu
      rw [List.getD_eq_getElem?_getD, List.getElem?_eq_getElem hj]
      exact hu
    refine wpList_append_own _ hgd s x 22 ho base 5 i0 (.int .u8 0) 1 1 Try.underlying22 hi hz0 hz1 hz2 rfl (by decide) _ 0 [] hs hown A m c (zs.map (Value.int .u8)) hx (by rw [List.length_map, hz]; omega) hnews (ints_oneCell _ _) (by unfold maxLen; omega) (by omega) hbase ?_
    intro v' w' h1 h2 h3
    simp only [Nat.zero_add, List.nil_append] at h1
    have hv : ∃ a' c', v' = .slice a' m c' := by
      rcases h1.2 with ⟨e, e0⟩ | ⟨g', cap, cur, e, _⟩
      · exact ⟨none, 0, by rw [e, e0]⟩
      · exact ⟨_, _, e⟩
    obtain ⟨a', c', rfl⟩ := hv
    exact h a' c' w' h1 h2

/-- What szDev tells. -/
def szD (n1 n2 : Nat) (l : Int) : Int := if (n1 : Int) + n2 ≤ l then l - n1 - n2 else -1

end Go.Proofs.Ytdllhjehokpefaa
