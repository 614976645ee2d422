/- Devices as values: the laws' copies, comparisons, marks. -/
import Derived.Test.YtdcihpbggknhgaaRMemC
import Derived.Test.YtdcihpbggknhgaaRFamP
import Derived.Deep.AppendSrc
namespace Go.Proofs.YtdcihpbggknhgaaR
open Go.RowKit
set_option linter.unusedVariables false

/-- A row of bytes. -/
def bRow (a : Option Addr) (n c : Nat) (xs : List Int) : FRow := ⟨5, .slice a n c, n, xs.map (Value.int .u8)⟩

/-- The memory of a device: what came in, what goes out. -/
def devF (a1 : Option Addr) (n1 c1 : Nat) (xs : List Int) (a2 : Option Addr) (n2 c2 : Nat) (ys : List Int) : List FRow := [bRow a1 n1 c1 xs, bRow a2 n2 c2 ys]

theorem Fam.in_ {B E : Nat} {w : World} {a1 : Option Addr} {n1 c1 : Nat} {xs : List Int} {a2 : Option Addr} {n2 c2 : Nat} {ys : List Int} (h : Fam B E w (devF a1 n1 c1 xs a2 n2 c2 ys)) : Sl .u8 w a1 xs := own_sl' (h.own (bRow a1 n1 c1 xs) (by simp [devF]))

theorem Fam.out_ {B E : Nat} {w : World} {a1 : Option Addr} {n1 c1 : Nat} {xs : List Int} {a2 : Option Addr} {n2 c2 : Nat} {ys : List Int} (h : Fam B E w (devF a1 n1 c1 xs a2 n2 c2 ys)) : Sl .u8 w a2 ys := own_sl' (h.own (bRow a2 n2 c2 ys) (by simp [devF]))

theorem dhid {p : Prop} (h : p) : Hid p := h

theorem dstays {w w' : World} (hb : Below w.heap.size w w') {g : Nat} {o : Obj} (h : w.heap[g]? = some o) : w'.heap[g]? = some o := by
  rw [hb.block g (Array.getElem?_eq_some_iff.1 h).1]
  exact h

theorem cells6 {W : World} {g : Nat} {a b c d e f : Value} {t : TypeId} (h : W.heap[g]? = some (.cells #[a, b, c, d, e, f] t (0, 0))) : W.cell? ⟨g, 0, none⟩ = some a ∧ W.cell? ⟨g, 1, none⟩ = some b ∧ W.cell? ⟨g, 2, none⟩ = some c ∧ W.cell? ⟨g, 3, none⟩ = some d ∧ W.cell? ⟨g, 4, none⟩ = some e ∧ W.cell? ⟨g, 5, none⟩ = some f := by
  refine ⟨?_, ?_, ?_, ?_, ?_, ?_⟩ <;> simp [World.cell?, h]

theorem froz {W : World} {g : Nat} {cs : Array Value} {t : TypeId} (h : W.heap[g]? = some (.cells cs t (0, 0))) (i : Nat) : W.frozen? ⟨g, i, none⟩ = false := by simp [World.frozen?, h]

theorem froz6 {W : World} {g : Nat} {cs : Array Value} {t : TypeId} (h : W.heap[g]? = some (.cells cs t (0, 0))) : W.frozen? ⟨g, 0, none⟩ = false ∧ W.frozen? ⟨g, 1, none⟩ = false ∧ W.frozen? ⟨g, 2, none⟩ = false ∧ W.frozen? ⟨g, 3, none⟩ = false ∧ W.frozen? ⟨g, 4, none⟩ = false ∧ W.frozen? ⟨g, 5, none⟩ = false :=
  ⟨froz h 0, froz h 1, froz h 2, froz h 3, froz h 4, froz h 5⟩

theorem rows2 {w w2 : World} {o1 o2 : Obj} (hb : Below ((w.alloc o1).alloc o2).heap.size ((w.alloc o1).alloc o2) w2) : w2.heap[w.heap.size]? = some o1 ∧ w2.heap[w.heap.size + 1]? = some o2 := by
  have e2 := heap_alloc_new (w.alloc o1) o2
  rw [World.size_alloc] at e2
  exact ⟨dstays hb ((Below.heap_alloc _ _ _ (by simp only [World.size_alloc]; omega)).trans (heap_alloc_new w o1)), dstays hb e2⟩

theorem rows3 {w w2 : World} {o1 o2 o3 : Obj} (hb : Below (((w.alloc o1).alloc o2).alloc o3).heap.size (((w.alloc o1).alloc o2).alloc o3) w2) :
    w2.heap[w.heap.size]? = some o1 ∧ w2.heap[w.heap.size + 1]? = some o2 ∧ w2.heap[w.heap.size + 1 + 1]? = some o3 := by
  have e3 := heap_alloc_new ((w.alloc o1).alloc o2) o3
  rw [World.size_alloc, World.size_alloc] at e3
  have h := rows2 (w := w) (o1 := o1) (o2 := o2) (Below.refl _ ((w.alloc o1).alloc o2))
  exact ⟨dstays hb ((Below.heap_alloc _ _ _ (by simp only [World.size_alloc]; omega)).trans h.1), dstays hb ((Below.heap_alloc _ _ _ (by simp only [World.size_alloc]; omega)).trans h.2), dstays hb e3⟩

theorem row_set {w : World} {g : Nat} {cs : Array Value} {t : TypeId} {fr : Nat × Nat} (h : w.heap[g]? = some (.cells cs t fr)) (i : Nat) (v : Value) :
    (w.setCell ⟨g, i, none⟩ v).heap[g]? = some (.cells (cs.setIfInBounds i v) t fr) := by
  simp [World.setCell, Array.getElem?_modify, h]

theorem row_far {w : World} {g : Nat} {o : Obj} (h : w.heap[g]? = some o) (p : Addr) (v : Value) (hne : g ≠ p.block) : (w.setCell p v).heap[g]? = some o := (Below.heap_setCell w p v g hne).trans h

theorem size_set (w : World) (p : Addr) (v : Value) : (w.setCell p v).heap.size = w.heap.size := by simp [World.setCell]

theorem dev_size : (Try.prog.info? 31).map (·.size) = some 6 := by kernel_rfl

/-- A device's six cells, laid one by one. -/
def put6 (w : World) (g : Nat) (x0 x1 x2 x3 x4 x5 : Value) : World := (((((w.setCell ⟨g, 0, none⟩ x0).setCell ⟨g, 1, none⟩ x1).setCell ⟨g, 2, none⟩ x2).setCell ⟨g, 3, none⟩ x3).setCell ⟨g, 4, none⟩ x4).setCell ⟨g, 5, none⟩ x5

theorem row_put6 {w : World} {g : Nat} {a b c d e f : Value} {t : TypeId} {fr : Nat × Nat} (h : w.heap[g]? = some (.cells #[a, b, c, d, e, f] t fr)) (x0 x1 x2 x3 x4 x5 : Value) : (put6 w g x0 x1 x2 x3 x4 x5).heap[g]? = some (.cells #[x0, x1, x2, x3, x4, x5] t fr) :=
  row_set (row_set (row_set (row_set (row_set (row_set h 0 x0) 1 x1) 2 x2) 3 x3) 4 x4) 5 x5

theorem size_put6 (w : World) (g : Nat) (x0 x1 x2 x3 x4 x5 : Value) : (put6 w g x0 x1 x2 x3 x4 x5).heap.size = w.heap.size := by
  unfold put6
  simp only [size_set]

theorem below_put6 {B : Nat} {v w : World} (h : Below B v w) {g : Nat} (hg : B ≤ g) (x0 x1 x2 x3 x4 x5 : Value) : Below B v (put6 w g x0 x1 x2 x3 x4 x5) :=
  (((((h.setCell (by exact hg) x0).setCell (by exact hg) x1).setCell (by exact hg) x2).setCell (by exact hg) x3).setCell (by exact hg) x4).setCell (by exact hg) x5

theorem Fam.put6 {B E : Nat} {w : World} {L : List FRow} (h : Fam B E w L) (g : Nat) (hg : g < B ∨ E ≤ g) (x0 x1 x2 x3 x4 x5 : Value) : Fam B E (put6 w g x0 x1 x2 x3 x4 x5) L :=
  (((((h.set ⟨g, 0, none⟩ x0 hg).set ⟨g, 1, none⟩ x1 hg).set ⟨g, 2, none⟩ x2 hg).set ⟨g, 3, none⟩ x3 hg).set ⟨g, 4, none⟩ x4 hg).set ⟨g, 5, none⟩ x5 hg

theorem own_empty8 (w : World) (base : Nat) (hb : base ≤ w.heap.size) (o : Obj) (ho : o = .cells #[] 5 (0, 0)) : (w.alloc o).ownsRow base 5 1 (.slice (some ⟨w.heap.size, 0, none⟩) 0 0) 0 [] := by
  subst ho
  exact World.ownsRow_lit w #[] 0 hb (by unfold maxLen; omega) rfl

/-- append([]byte{}, b...), whatever b. -/
theorem wpList_app8 {ops : Array Oper} {rest : List Oper} {o : Oper} {a : Act} {Q : Exit → Act → World → Prop} {w : World} (hgd : o.guard = none) (s x : Operand)
    (ho : o.op = .call { callee := .builtin .append, args := #[s, x], argTypes := #[24, 24] }) (base g : Nat) (hs : a.eval s = .slice (some ⟨g, 0, none⟩) 0 0) (hown : w.ownsRow base 5 1 (.slice (some ⟨g, 0, none⟩) 0 0) 0 [])
    (ad : Option Addr) (m c : Nat) (zs : List Int) (hx : a.eval x = .slice ad m c) (hz : zs.length = m) (hm : m ≤ 1048576) (hsl : Sl .u8 w ad zs) (hbase : base ≤ w.heap.size)
    (h : ∀ a' c' w', w'.ownsRow base 5 1 (.slice a' m c') m (zs.map (Value.int .u8)) → w.grownBy w' (some g) → wpList Try.prog ops Q rest (a.put o.dst (.slice a' m c')) w') : wpList Try.prog ops Q (o :: rest) a w := by
  obtain ⟨i0, hi, hz0, hz1, hz2⟩ := info_parts Try.info5
  cases ad with
  | none =>
    have hm0 : m = 0 := by
      rcases Nat.eq_zero_or_pos m with h0 | h0
      · exact h0
      · obtain ⟨b, off, e, _⟩ := hsl 0 (by omega)
        cases e
    subst hm0
    have hzn : zs = [] := List.length_eq_zero_iff.1 hz
    subst hzn
    refine wpList_plain hgd fun K hK => ?_
    have hr := run_append_room_src (P := Try.prog) w 24 24 o.type 5 i0 Try.underlying24 hi g 0 0 0 (.slice none 0 c) 0 [] (Src.ofNil w Try.underlying24 c) (by omega) (fun j hj => by simp at hj) (fun j hj => by simp at hj)
    unfold Oper.wp execOp
    simp only [ho, resolve, invoke, builtin, Sem.run_bind, Sem.run_pure, Result.andThen_ok, List.map_toArray, List.map_cons, List.map_nil, hs, hx, hr]
    exact hK _ _ (h _ _ w hown ⟨rfl, rfl, rfl, Nat.le_refl _, fun _ _ _ => rfl⟩)
  | some A =>
    have hnews : ∀ j u, (zs.map (Value.int .u8))[j]? = some u → w.cell? (A.add j) = some u := by
      intro j u hu
      have hj : j < zs.length := by
        rcases Nat.lt_or_ge j zs.length with h | h
        · exact h
        · rw [List.getElem?_eq_none (by simpa using h)] at hu; cases hu
      obtain ⟨b, off, e, _, hc⟩ := hsl j hj
      cases e
      rw [adds, hc]
      rw [List.getElem?_map, List.getElem?_eq_getElem hj] at hu
      rw [List.getD_eq_getElem?_getD, List.getElem?_eq_getElem hj]
      exact hu
    refine wpList_append_own _ hgd s x 24 ho base 5 i0 (.int .u8 0) 1 1 Try.underlying24 hi hz0 hz1 hz2 rfl (by decide) _ 0 [] hs hown A m c (zs.map (Value.int .u8)) hx (by rw [List.length_map, hz]; omega) hnews (ints_oneCell _ _) (by unfold maxLen; omega) (by omega) hbase ?_
    intro v' w' h1 h2 h3
    simp only [Nat.zero_add, List.nil_append] at h1
    have hv : ∃ a' c', v' = .slice a' m c' := by
      rcases h1.2 with ⟨e, e0⟩ | ⟨g', cap, cur, e, _⟩
      · exact ⟨none, 0, by rw [e, e0]⟩
      · exact ⟨_, _, e⟩
    obtain ⟨a', c', rfl⟩ := hv
    exact h a' c' w' h1 h2

theorem toByteS_g (a : Option Addr) (n c : Nat) (zs : List Int) (w' : World) (h1 : zs.length = n) (h2 : n ≤ 1048576) (h3 : Sl .u8 w' a zs) :
    Calls Try.prog 23 #[.slice a n c] w' fun e w'' => ∃ g, e = .returned (.slice (some ⟨g, 0, none⟩) n n) ∧ w''.ownsRow w'.heap.size 5 1 (.slice (some ⟨g, 0, none⟩) n n) n (zs.map (Value.int .u8)) ∧ Below w'.heap.size w' w'' :=
  (toByteS_any a n c zs w' h1 h2 h3).mono fun e w'' h => ⟨_, h.1, h.2.1, h.2.2⟩

set_option maxRecDepth 100000 in
set_option maxHeartbeats 1600000 in
theorem toDev_any (t cm : Int) (so : Bool) (a1 : Option Addr) (n1 c1 : Nat) (a2 : Option Addr) (n2 c2 : Nat) (ir : Int) (xs ys : List Int) (w : World) (hx : xs.length = n1) (hy : ys.length = n2) (hn1 : n1 ≤ 1048576) (hn2 : n2 ≤ 1048576) (hs1 : Sl .u8 w a1 xs) (hs2 : Sl .u8 w a2 ys) :
    Calls Try.prog 24 #[.agg #[.int .u64 t, .int .u64 cm, .bool so, .slice a1 n1 c1, .slice a2 n2 c2, .int .i64 ir]] w fun e w' => ∃ g1 g2 : Nat, e = .returned (.agg #[.int .u64 t, .int .u64 cm, .bool so, .slice (some ⟨g1, 0, none⟩) n1 n1, .slice (some ⟨g2, 0, none⟩) n2 n2, .int .i64 ir]) ∧
      Fam w.heap.size w'.heap.size w' (devF (some ⟨g1, 0, none⟩) n1 n1 xs (some ⟨g2, 0, none⟩) n2 n2 ys) ∧ Below w.heap.size w w' := by
  have HT1 : Hid (∀ w', Below w.heap.size w w' → Calls Try.prog 23 #[.slice a1 n1 c1] w' fun e w'' => ∃ g, e = .returned (.slice (some ⟨g, 0, none⟩) n1 n1) ∧ w''.ownsRow w'.heap.size 5 1 (.slice (some ⟨g, 0, none⟩) n1 n1) n1 (xs.map (Value.int .u8)) ∧ Below w'.heap.size w' w'') := fun w' hb => toByteS_g a1 n1 c1 xs w' hx hn1 (hs1.below hb)
  have HT2 : Hid (∀ w', Below w.heap.size w w' → Calls Try.prog 23 #[.slice a2 n2 c2] w' fun e w'' => ∃ g, e = .returned (.slice (some ⟨g, 0, none⟩) n2 n2) ∧ w''.ownsRow w'.heap.size 5 1 (.slice (some ⟨g, 0, none⟩) n2 n2) n2 (ys.map (Value.int .u8)) ∧ Below w'.heap.size w' w'') := fun w' hb => toByteS_g a2 n2 c2 ys w' hy hn2 (hs2.below hb)
  have hB3 : ∀ o1 o2 o3, Below w.heap.size w (((w.alloc o1).alloc o2).alloc o3) := fun o1 o2 o3 => (((Below.refl _ _).alloc (Nat.le_refl _) o1).alloc (by simp) o2).alloc (by simp; omega) o3
  clear hs1 hs2 hx hy hn1 hn2
  go_enter Try.func24, Try.ntmps24
  go_wp2_with fail
  refine (HT1.out _ (hB3 _ _ _)).mono ?_
  rintro e w1 ⟨g1, rfl, ow1, hb1⟩
  obtain ⟨r0, r1, r2⟩ := rows3 hb1
  have z1 := hb1.size
  simp only [World.size_alloc] at ow1 z1
  have R0 := dhid r0
  have R1 := dhid r1
  have R2 := dhid r2
  have B1 := dhid (below_trans (hB3 _ _ _) hb1)
  have A1 := dhid ((Fam.nil (w.heap.size + 1 + 1 + 1) (w.heap.size + 1 + 1 + 1) w1).snoc (bRow (some ⟨g1, 0, none⟩) n1 n1 xs) _ w1.heap.size ow1 (Nat.le_refl _) (Nat.le_refl _) (Nat.le_refl _) z1)
  obtain ⟨-, -, -, p3, p4, p5⟩ := cells6 r0
  obtain ⟨q0, q1, q2, q3, q4, q5⟩ := cells6 r2
  have f3 := froz r2 3
  clear r0 r1 r2 ow1 hb1 HT1
  go_wp2_with fail
  refine (HT2.out _ (B1.out.setCell (by simp; omega) _)).mono ?_
  rintro e w2 ⟨g2, rfl, ow2, hb2⟩
  have z2 := hb2.size
  rw [size_set] at ow2 z2
  have S0 := dhid (dstays hb2 (row_far R0.out ⟨w.heap.size + 1 + 1, 3, none⟩ (.slice (some ⟨g1, 0, none⟩) n1 n1) (by dsimp only; omega)))
  have S1 := dhid (dstays hb2 (row_far R1.out ⟨w.heap.size + 1 + 1, 3, none⟩ (.slice (some ⟨g1, 0, none⟩) n1 n1) (by dsimp only; omega)))
  have S2 : Hid (w2.heap[w.heap.size + 1 + 1]? = some (.cells #[.int .u64 t, .int .u64 cm, .bool so, .slice (some ⟨g1, 0, none⟩) n1 n1, .slice none 0 0, .int .i64 0] 31 (0, 0))) := dstays hb2 (row_set R2.out 3 (.slice (some ⟨g1, 0, none⟩) n1 n1))
  have B2 := dhid (below_trans (B1.out.setCell (p := ⟨w.heap.size + 1 + 1, 3, none⟩) (by dsimp only; omega) (.slice (some ⟨g1, 0, none⟩) n1 n1)) hb2)
  have A2 := dhid (((A1.out.set ⟨w.heap.size + 1 + 1, 3, none⟩ (.slice (some ⟨g1, 0, none⟩) n1 n1) (.inl (by dsimp only; omega))).below hb2).snoc (bRow (some ⟨g2, 0, none⟩) n2 n2 ys) _ w2.heap.size ow2 (Nat.le_refl _) z1 (Nat.le_refl _) z2)
  clear p3 p4 p5 q0 q1 q2 q3 q4 q5 f3
  obtain ⟨-, -, -, p3, p4, p5⟩ := cells6 S0.out
  obtain ⟨q0, q1, q2, q3, q4, q5⟩ := cells6 S2.out
  obtain ⟨s0, s1, s2, s3, s4, s5⟩ := cells6 S1.out
  have f4 := froz S2.out 4
  have f5 := froz S2.out 5
  obtain ⟨y0, y1, y2, y3, y4, y5⟩ := froz6 S1.out
  clear z1 z2 ow2 hb2 HT2 R0 R1 R2 B1 A1
  go_wp2_with fail
  have T1 := row_far (row_far S1.out ⟨w.heap.size + 1 + 1, 4, none⟩ (.slice (some ⟨g2, 0, none⟩) n2 n2) (by dsimp only; omega)) ⟨w.heap.size + 1 + 1, 5, none⟩ (.int .i64 ir) (by dsimp only; omega)
  have A3 := ((A2.out.set ⟨w.heap.size + 1 + 1, 4, none⟩ (.slice (some ⟨g2, 0, none⟩) n2 n2) (.inl (by dsimp only; omega))).set ⟨w.heap.size + 1 + 1, 5, none⟩ (.int .i64 ir) (.inl (by dsimp only; omega))).put6 (w.heap.size + 1) (.inl (by omega)) (.int .u64 t) (.int .u64 cm) (.bool so) (.slice (some ⟨g1, 0, none⟩) n1 n1) (.slice (some ⟨g2, 0, none⟩) n2 n2) (.int .i64 ir)
  have B3 := below_put6 ((B2.out.setCell (p := ⟨w.heap.size + 1 + 1, 4, none⟩) (by dsimp only; omega) (.slice (some ⟨g2, 0, none⟩) n2 n2)).setCell (p := ⟨w.heap.size + 1 + 1, 5, none⟩) (by dsimp only; omega) (.int .i64 ir)) (g := w.heap.size + 1) (by omega) (.int .u64 t) (.int .u64 cm) (.bool so) (.slice (some ⟨g1, 0, none⟩) n1 n1) (.slice (some ⟨g2, 0, none⟩) n2 n2) (.int .i64 ir)
  exact bodyPost_ret (results_cell_row Try.results24 _ _ _ _ _ _ _ rfl (row_put6 T1 _ _ _ _ _ _) Try.underlying31 rfl dev_size) rfl ⟨g1, g2, rfl, A3.low (by omega) (by simp only [size_set]; exact Nat.le_refl _), B3⟩

theorem szByteS_any (a : Option Addr) (n c : Nat) (l : Int) (w : World) (h0 : -1 ≤ l) (h1 : l ≤ 1048576) (hn : n ≤ 9223372036854775807) :
    Calls Try.prog 17 #[.slice a n c, .int .i64 l] w fun e w' => e = .returned (.int .i64 (if (n : Int) ≤ l then l - n else -1)) ∧ w' = w := by
  by_cases h : (n : Int) ≤ l
  · have d : decide (l - (n : Int) < 0) = false := by simp; omega
    rw [if_pos h]
    clear h
    go_enter Try.func17, Try.ntmps17
    go_wp2_with fail
    go_ret
    exact ⟨rfl, rfl⟩
  · have d : decide (l - (n : Int) < 0) = true := by simp; omega
    rw [if_neg h]
    clear h
    go_enter Try.func17, Try.ntmps17
    go_wp2_with fail
    go_ret
    exact ⟨rfl, rfl⟩

/-- What szDev tells. -/
def szD (n1 n2 : Nat) (l : Int) : Int := if (n1 : Int) + n2 ≤ l then l - n1 - n2 else -1

theorem szDev_any (t cm : Int) (so : Bool) (a1 : Option Addr) (n1 c1 : Nat) (a2 : Option Addr) (n2 c2 : Nat) (ir l : Int) (w : World) (h0 : 0 ≤ l) (h1 : l ≤ 1048576) (hn1 : n1 ≤ 9223372036854775807) (hn2 : n2 ≤ 9223372036854775807) :
    Calls Try.prog 18 #[.agg #[.int .u64 t, .int .u64 cm, .bool so, .slice a1 n1 c1, .slice a2 n2 c2, .int .i64 ir], .int .i64 l] w fun e w' => e = .returned (.int .i64 (szD n1 n2 l)) ∧ Below w.heap.size w w' := by
  have hB : ∀ o, Below w.heap.size w (w.alloc o) := fun o => (Below.refl _ _).alloc (Nat.le_refl _) o
  by_cases k1 : (n1 : Int) ≤ l
  · have H1 : Hid (∀ w, Calls Try.prog 17 #[.slice a1 n1 c1, .int .i64 l] w fun e w' => e = .returned (.int .i64 (l - n1)) ∧ w' = w) := fun w => by
      have := szByteS_any a1 n1 c1 l w (by omega) h1 hn1
      rw [if_pos k1] at this
      exact this
    have d1 : decide (l - (n1 : Int) < 0) = false := by simp; omega
    by_cases k2 : (n2 : Int) ≤ l - n1
    · have H2 : Hid (∀ w, Calls Try.prog 17 #[.slice a2 n2 c2, .int .i64 (l - n1)] w fun e w' => e = .returned (.int .i64 (l - n1 - n2)) ∧ w' = w) := fun w => by
        have := szByteS_any a2 n2 c2 (l - n1) w (by omega) (by omega) hn2
        rw [if_pos k2] at this
        exact this
      have d2 : decide (l - (n1 : Int) - (n2 : Int) < 0) = false := by simp; omega
      have F : Hid (szD n1 n2 l = l - n1 - n2) := by show szD n1 n2 l = _; unfold szD; rw [if_pos (by omega)]
      clear k1 k2 h0 h1 hn1 hn2
      generalize l - (n1 : Int) - (n2 : Int) = l2 at *
      generalize l - (n1 : Int) = l1 at *
      go_enter Try.func18, Try.ntmps18
      go_wp2_with fail
      refine (H1.out _).mono ?_
      rintro e w1 ⟨rfl, hw1⟩
      subst hw1
      go_wp2_with fail
      refine (H2.out _).mono ?_
      rintro e w1 ⟨rfl, hw1⟩
      subst hw1
      go_wp2_with fail
      go_ret
      exact ⟨by rw [F.out]; rfl, hB _⟩
    · have H2 : Hid (∀ w, Calls Try.prog 17 #[.slice a2 n2 c2, .int .i64 (l - n1)] w fun e w' => e = .returned (.int .i64 (-1)) ∧ w' = w) := fun w => by
        have := szByteS_any a2 n2 c2 (l - n1) w (by omega) (by omega) hn2
        rw [if_neg k2] at this
        exact this
      have F : Hid (szD n1 n2 l = -1) := by show szD n1 n2 l = _; unfold szD; rw [if_neg (by omega)]
      clear k1 k2 h0 h1 hn1 hn2
      generalize l - (n1 : Int) = l1 at *
      go_enter Try.func18, Try.ntmps18
      go_wp2_with fail
      refine (H1.out _).mono ?_
      rintro e w1 ⟨rfl, hw1⟩
      subst hw1
      go_wp2_with fail
      refine (H2.out _).mono ?_
      rintro e w1 ⟨rfl, hw1⟩
      subst hw1
      go_wp2_with fail
      go_ret
      exact ⟨by rw [F.out]; rfl, hB _⟩
  · have H1 : Hid (∀ w, Calls Try.prog 17 #[.slice a1 n1 c1, .int .i64 l] w fun e w' => e = .returned (.int .i64 (-1)) ∧ w' = w) := fun w => by
      have := szByteS_any a1 n1 c1 l w (by omega) h1 hn1
      rw [if_neg k1] at this
      exact this
    have F : Hid (szD n1 n2 l = -1) := by show szD n1 n2 l = _; unfold szD; rw [if_neg (by omega)]
    clear k1 h0 h1 hn1 hn2
    go_enter Try.func18, Try.ntmps18
    go_wp2_with fail
    refine (H1.out _).mono ?_
    rintro e w1 ⟨rfl, hw1⟩
    subst hw1
    go_wp2_with fail
    go_ret
    exact ⟨by rw [F.out]; rfl, hB _⟩

set_option maxRecDepth 100000 in
set_option maxHeartbeats 1600000 in
/-- Two devices that hold the same. -/
theorem eqDev_same (t cm : Int) (so : Bool) (a1 b1 : Option Addr) (n1 c1 d1 : Nat) (a2 b2 : Option Addr) (n2 c2 d2 : Nat) (ir : Int) (xs ys : List Int) (w : World) (hx : xs.length = n1) (hy : ys.length = n2) (hn1 : n1 ≤ 1048576) (hn2 : n2 ≤ 1048576) (hs1 : Sl .u8 w a1 xs) (hs2 : Sl .u8 w a2 ys) (ht1 : Sl .u8 w b1 xs) (ht2 : Sl .u8 w b2 ys) :
    Calls Try.prog 30 #[.agg #[.int .u64 t, .int .u64 cm, .bool so, .slice a1 n1 c1, .slice a2 n2 c2, .int .i64 ir], .agg #[.int .u64 t, .int .u64 cm, .bool so, .slice b1 n1 d1, .slice b2 n2 d2, .int .i64 ir]] w fun e w' => e = .returned (.bool true) ∧ Below w.heap.size w w' := by
  have HE1 : Hid (∀ w', Below w.heap.size w w' → Calls Try.prog 12 #[.slice a1 n1 c1, .slice b1 n1 d1] w' fun e w'' => e = .returned (.bool true) ∧ Below w'.heap.size w' w'') := fun w' hb => by
    have := eqByteS_any a1 b1 n1 n1 c1 d1 xs xs w' hx hx hn1 hn1 (hs1.below hb) (ht1.below hb)
    rw [decide_eq_true rfl] at this
    exact this
  have HE2 : Hid (∀ w', Below w.heap.size w w' → Calls Try.prog 12 #[.slice a2 n2 c2, .slice b2 n2 d2] w' fun e w'' => e = .returned (.bool true) ∧ Below w'.heap.size w' w'') := fun w' hb => by
    have := eqByteS_any a2 b2 n2 n2 c2 d2 ys ys w' hy hy hn2 hn2 (hs2.below hb) (ht2.below hb)
    rw [decide_eq_true rfl] at this
    exact this
  have hB : ∀ o o', Below w.heap.size w ((w.alloc o).alloc o') := fun o o' => ((Below.refl _ _).alloc (Nat.le_refl _) o).alloc (by simp) o'
  have t1 : (t != t) = false := by simp
  have t2 : (cm != cm) = false := by simp
  have t3 : (so != so) = false := by simp
  have t4 : (ir != ir) = false := by simp
  clear hs1 hs2 ht1 ht2 hx hy hn1 hn2
  go_enter Try.func30, Try.ntmps30
  go_wp2_with fail
  refine (HE1.out _ (hB _ _)).mono ?_
  rintro e w1 ⟨rfl, hb1⟩
  obtain ⟨r0, r1⟩ := rows2 hb1
  have B1 := dhid (below_trans (hB _ _) hb1)
  obtain ⟨p0, p1, p2, p3, p4, p5⟩ := cells6 r0
  obtain ⟨q0, q1, q2, q3, q4, q5⟩ := cells6 r1
  have R0 := dhid r0
  have R1 := dhid r1
  clear hb1 r0 r1
  go_wp2_with fail
  refine (HE2.out _ B1.out).mono ?_
  rintro e w2 ⟨rfl, hb2⟩
  have B2 := dhid (below_trans B1.out hb2)
  clear p0 p1 p2 p3 p4 p5 q0 q1 q2 q3 q4 q5
  obtain ⟨p0, p1, p2, p3, p4, p5⟩ := cells6 (dstays hb2 R0.out)
  obtain ⟨q0, q1, q2, q3, q4, q5⟩ := cells6 (dstays hb2 R1.out)
  clear hb2
  go_wp2_with fail
  go_ret
  exact ⟨rfl, B2.out⟩

set_option maxRecDepth 100000 in
set_option maxHeartbeats 1600000 in
theorem markDev_any (t cm : Int) (so : Bool) (a1 : Option Addr) (n1 c1 : Nat) (a2 : Option Addr) (n2 c2 : Nat) (ir k : Int) (xs ys : List Int) (B E : Nat) (w : World) (hn1 : n1 ≤ 1048576) (hn2 : n2 ≤ 1048576) (hk0 : 0 ≤ k) (hk1 : k ≤ 4294967296) (hE : E ≤ w.heap.size) (hf : Fam B E w (devF a1 n1 c1 xs a2 n2 c2 ys)) :
    Calls Try.prog 33 #[.agg #[.int .u64 t, .int .u64 cm, .bool so, .slice a1 n1 c1, .slice a2 n2 c2, .int .i64 ir], .int .i64 k] w fun e w' => e = .returned (.int .i64 (k + n1 + n2)) ∧ Fam B E w' (devF a1 n1 c1 (marks k n1) a2 n2 c2 (marks (k + n1) n2)) ∧ Keep B E w w' := by
  have hB : ∀ o, Below w.heap.size w (w.alloc o) := fun o => (Below.refl _ _).alloc (Nat.le_refl _) o
  have HM1 : Hid (∀ o, Calls Try.prog 14 #[.slice a1 n1 c1, .int .i64 k] (w.alloc o) fun e w' => e = .returned (.int .i64 (k + n1)) ∧ (Fam B E w' (devF a1 n1 c1 (marks k n1) a2 n2 c2 ys) ∧ Keep B E (w.alloc o) w')) := fun o => by
    have hf' := hf.below (hB o)
    refine (markByteS_any a1 n1 c1 B k xs (w.alloc o) hn1 hk0 (by omega) (hf'.own (bRow a1 n1 c1 xs) (by simp [devF]))).mono fun e w' h => ⟨h.1, ?_⟩
    exact Fam.mark (L1 := []) (L2 := [bRow a2 n2 c2 ys]) (r := bRow a1 n1 c1 xs) hf' h.2.2 _ h.2.1
  have HM2 : Hid (∀ w', Fam B E w' (devF a1 n1 c1 (marks k n1) a2 n2 c2 ys) → Calls Try.prog 14 #[.slice a2 n2 c2, .int .i64 (k + n1)] w' fun e w'' => e = .returned (.int .i64 (k + n1 + n2)) ∧ (Fam B E w'' (devF a1 n1 c1 (marks k n1) a2 n2 c2 (marks (k + n1) n2)) ∧ Keep B E w' w'')) := fun w' hf' => by
    refine (markByteS_any a2 n2 c2 B (k + n1) ys w' hn2 (by omega) (by omega) (hf'.own (bRow a2 n2 c2 ys) (by simp [devF]))).mono fun e w'' h => ⟨h.1, ?_⟩
    exact Fam.mark (L1 := [bRow a1 n1 c1 (marks k n1)]) (L2 := []) (r := bRow a2 n2 c2 ys) hf' h.2.2 _ h.2.1
  have HE : Hid (E ≤ w.heap.size) := hE
  clear hf hk0 hk1 hn1 hn2 hE
  generalize k + (n1 : Int) + (n2 : Int) = k2 at *
  generalize k + (n1 : Int) = k1 at *
  go_enter Try.func33, Try.ntmps33
  go_wp2_with fail
  refine (HM1.out _).mono ?_
  rintro e w1 ⟨rfl, fm1, kp1⟩
  have r0 : w1.heap[w.heap.size]? = some (.cells #[.int .u64 t, .int .u64 cm, .bool so, .slice a1 n1 c1, .slice a2 n2 c2, .int .i64 ir] 31 (0, 0)) := (kp1.block w.heap.size (by simp) (.inr HE.out)).trans (heap_alloc_new w _)
  obtain ⟨p0, p1, p2, p3, p4, p5⟩ := cells6 r0
  have FM1 := dhid fm1
  have KP1 := dhid ((Keep.of_below (B := B) (E := E) (hB _)).trans kp1)
  clear r0 fm1 kp1
  go_wp2_with fail
  refine (HM2.out _ FM1.out).mono ?_
  rintro e w2 ⟨rfl, fm2, kp2⟩
  have FM2 := dhid fm2
  have KP2 := dhid (KP1.out.trans kp2)
  clear fm2 kp2
  go_wp2_with fail
  go_ret
  exact ⟨rfl, FM2.out, KP2.out⟩

end Go.Proofs.YtdcihpbggknhgaaR
