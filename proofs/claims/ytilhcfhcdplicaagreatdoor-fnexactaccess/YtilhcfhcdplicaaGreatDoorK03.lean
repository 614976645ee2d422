/- Own lemmas. -/
import Derived.Test.YtilhcfhcdplicaaGreatDoorK01
import Derived.Test.YtilhcfhcdplicaaGreatDoorK02
import Derived.Deep.AppendSrc
import Derived.Test.YtilhcfhcdplicaaGreatDoorProg
namespace Go.Proofs.YtilhcfhcdplicaaGreatDoor
open Go.RowKit
set_option linter.unusedVariables false

def bRow (a : Option Addr) (n c : Nat) (xs : List Int) : FRow := ⟨5, .slice a n c, n, xs.map (Value.int .u8)⟩

def devF (a1 : Option Addr) (n1 c1 : Nat) (xs : List Int) (a2 : Option Addr) (n2 c2 : Nat) (ys : List Int) : List FRow := [bRow a1 n1 c1 xs, bRow a2 n2 c2 ys]

theorem Fam.in_ {B E : Nat} {w : World} {a1 : Option Addr} {n1 c1 : Nat} {xs : List Int} {a2 : Option Addr} {n2 c2 : Nat} {ys : List Int} (h : Fam B E w (devF a1 n1 c1 xs a2 n2 c2 ys)) : Sl .u8 w a1 xs := own_sl' (h.own (bRow a1 n1 c1 xs) (by simp [devF]))

theorem Fam.out_ {B E : Nat} {w : World} {a1 : Option Addr} {n1 c1 : Nat} {xs : List Int} {a2 : Option Addr} {n2 c2 : Nat} {ys : List Int} (h : Fam B E w (devF a1 n1 c1 xs a2 n2 c2 ys)) : Sl .u8 w a2 ys := own_sl' (h.own (bRow a2 n2 c2 ys) (by simp [devF]))

theorem dhid {p : Prop} (h : p) : Hid p := h

theorem dstays {w w' : World} (hb : Below w.heap.size w w') {g : Nat} {o : Obj} (h : w.heap[g]? = some o) : w'.heap[g]? = some o := by
  rw [hb.block g (Array.getElem?_eq_some_iff.1 h).1]
  exact h

theorem cells6 {W : World} {g : Nat} {a b c d e f : Value} {t : TypeId} (h : W.heap[g]? = some (.cells #[a, b, c, d, e, f] t (0, 0))) : W.cell? ⟨g, 0, none⟩ = some a ∧ W.cell? ⟨g, 1, none⟩ = some b ∧ W.cell? ⟨g, 2, none⟩ = some c ∧ W.cell? ⟨g, 3, none⟩ = some d ∧ W.cell? ⟨g, 4, none⟩ = some e ∧ W.cell? ⟨g, 5, none⟩ = some f := by
  refine ⟨?_, ?_, ?_, ?_, ?_, ?_⟩ <;> simp [World.cell?, h]

theorem froz {W : World} {g : Nat} {cs : Array Value} {t : TypeId} (h : W.heap[g]? = some (.cells cs t (0, 0))) (i : Nat) : W.frozen? ⟨g, i, none⟩ = false := by simp [World.frozen?, h]

theorem froz6 {W : World} {g : Nat} {cs : Array Value} {t : TypeId} (h : W.heap[g]? = some (.cells cs t (0, 0))) : W.frozen? ⟨g, 0, none⟩ = false ∧ W.frozen? ⟨g, 1, none⟩ = false ∧ W.frozen? ⟨g, 2, none⟩ = false ∧ W.frozen? ⟨g, 3, none⟩ = false ∧ W.frozen? ⟨g, 4, none⟩ = false ∧ W.frozen? ⟨g, 5, none⟩ = false :=
  ⟨froz h 0, froz h 1, froz h 2, froz h 3, froz h 4, froz h 5⟩

theorem rows2 {w w2 : World} {o1 o2 : Obj} (hb : Below ((w.alloc o1).alloc o2).heap.size ((w.alloc o1).alloc o2) w2) : w2.heap[w.heap.size]? = some o1 ∧ w2.heap[w.heap.size + 1]? = some o2 := by
  have e2 := heap_alloc_new (w.alloc o1) o2
  rw [World.size_alloc] at e2
  exact ⟨dstays hb ((Below.heap_alloc _ _ _ (by simp only [World.size_alloc]; omega)).trans (heap_alloc_new w o1)), dstays hb e2⟩

theorem rows3 {w w2 : World} {o1 o2 o3 : Obj} (hb : Below (((w.alloc o1).alloc o2).alloc o3).heap.size (((w.alloc o1).alloc o2).alloc o3) w2) :
    w2.heap[w.heap.size]? = some o1 ∧ w2.heap[w.heap.size + 1]? = some o2 ∧ w2.heap[w.heap.size + 1 + 1]? = some o3 := by
  have e3 := heap_alloc_new ((w.alloc o1).alloc o2) o3
  rw [World.size_alloc, World.size_alloc] at e3
  have h := rows2 (w := w) (o1 := o1) (o2 := o2) (Below.refl _ ((w.alloc o1).alloc o2))
  exact ⟨dstays hb ((Below.heap_alloc _ _ _ (by simp only [World.size_alloc]; omega)).trans h.1), dstays hb ((Below.heap_alloc _ _ _ (by simp only [World.size_alloc]; omega)).trans h.2), dstays hb e3⟩

theorem row_set {w : World} {g : Nat} {cs : Array Value} {t : TypeId} {fr : Nat × Nat} (h : w.heap[g]? = some (.cells cs t fr)) (i : Nat) (v : Value) :
    (w.setCell ⟨g, i, none⟩ v).heap[g]? = some (.cells (cs.setIfInBounds i v) t fr) := by
  simp [World.setCell, Array.getElem?_modify, h]

theorem row_far {w : World} {g : Nat} {o : Obj} (h : w.heap[g]? = some o) (p : Addr) (v : Value) (hne : g ≠ p.block) : (w.setCell p v).heap[g]? = some o := (Below.heap_setCell w p v g hne).trans h

theorem size_set (w : World) (p : Addr) (v : Value) : (w.setCell p v).heap.size = w.heap.size := by simp [World.setCell]

theorem dev_size : (Tryz.prog.info? 27).map (·.size) = some 6 := by kernel_rfl

def put6 (w : World) (g : Nat) (x0 x1 x2 x3 x4 x5 : Value) : World := (((((w.setCell ⟨g, 0, none⟩ x0).setCell ⟨g, 1, none⟩ x1).setCell ⟨g, 2, none⟩ x2).setCell ⟨g, 3, none⟩ x3).setCell ⟨g, 4, none⟩ x4).setCell ⟨g, 5, none⟩ x5

theorem row_put6 {w : World} {g : Nat} {a b c d e f : Value} {t : TypeId} {fr : Nat × Nat} (h : w.heap[g]? = some (.cells #[a, b, c, d, e, f] t fr)) (x0 x1 x2 x3 x4 x5 : Value) : (put6 w g x0 x1 x2 x3 x4 x5).heap[g]? = some (.cells #[x0, x1, x2, x3, x4, x5] t fr) :=
  row_set (row_set (row_set (row_set (row_set (row_set h 0 x0) 1 x1) 2 x2) 3 x3) 4 x4) 5 x5

theorem below_put6 {B : Nat} {v w : World} (h : Below B v w) {g : Nat} (hg : B ≤ g) (x0 x1 x2 x3 x4 x5 : Value) : Below B v (put6 w g x0 x1 x2 x3 x4 x5) :=
  (((((h.setCell (by exact hg) x0).setCell (by exact hg) x1).setCell (by exact hg) x2).setCell (by exact hg) x3).setCell (by exact hg) x4).setCell (by exact hg) x5

theorem Fam.put6 {B E : Nat} {w : World} {L : List FRow} (h : Fam B E w L) (g : Nat) (hg : g < B ∨ E ≤ g) (x0 x1 x2 x3 x4 x5 : Value) : Fam B E (put6 w g x0 x1 x2 x3 x4 x5) L :=
  (((((h.set ⟨g, 0, none⟩ x0 hg).set ⟨g, 1, none⟩ x1 hg).set ⟨g, 2, none⟩ x2 hg).set ⟨g, 3, none⟩ x3 hg).set ⟨g, 4, none⟩ x4 hg).set ⟨g, 5, none⟩ x5 hg

theorem own_empty8 (w : World) (base : Nat) (hb : base ≤ w.heap.size) (o : Obj) (ho : o = .cells #[] 5 (0, 0)) : (w.alloc o).ownsRow base 5 1 (.slice (some ⟨w.heap.size, 0, none⟩) 0 0) 0 [] := by
  subst ho
  exact World.ownsRow_lit w #[] 0 hb (by unfold maxLen; omega) rfl

theorem wpList_app8 {ops : Array Oper} {rest : List Oper} {o : Oper} {a : Act} {Q : Exit → Act → World → Prop} {w : World} (hgd : o.guard = none) (s x : Operand)
    (ho : o.op = .call { callee := .builtin .append, args := #[s, x], argTypes := #[22, 22] }) (base g : Nat) (hs : a.eval s = .slice (some ⟨g, 0, none⟩) 0 0) (hown : w.ownsRow base 5 1 (.slice (some ⟨g, 0, none⟩) 0 0) 0 [])
    (ad : Option Addr) (m c : Nat) (zs : List Int) (hx : a.eval x = .slice ad m c) (hz : zs.length = m) (hm : m ≤ 1048576) (hsl : Sl .u8 w ad zs) (hbase : base ≤ w.heap.size)
    (h : ∀ a' c' w', w'.ownsRow base 5 1 (.slice a' m c') m (zs.map (Value.int .u8)) → w.grownBy w' (some g) → wpList Tryz.prog ops Q rest (a.put o.dst (.slice a' m c')) w') : wpList Tryz.prog ops Q (o :: rest) a w := by
  obtain ⟨i0, hi, hz0, hz1, hz2⟩ := info_parts Tryz.info5
  cases ad with
  | none =>
    have hm0 : m = 0 := by
      rcases Nat.eq_zero_or_pos m with h0 | h0
      · exact h0
      · obtain ⟨b, off, e, _⟩ := hsl 0 (by omega)
        cases e
    subst hm0
    have hzn : zs = [] := List.length_eq_zero_iff.1 hz
    subst hzn
    refine wpList_plain hgd fun K hK => ?_
    have hr := run_append_room_src (P := Tryz.prog) w 22 22 o.type 5 i0 Tryz.underlying22 hi g 0 0 0 (.slice none 0 c) 0 [] (Src.ofNil w Tryz.underlying22 c) (by omega) (fun j hj => by simp at hj) (fun j hj => by simp at hj)
    unfold Oper.wp execOp
    simp only [ho, resolve, invoke, builtin, Sem.run_bind, Sem.run_pure, Result.andThen_ok, List.map_toArray, List.map_cons, List.map_nil, hs, hx, hr]
    exact hK _ _ (h _ _ w hown ⟨rfl, rfl, rfl, Nat.le_refl _, fun _ _ _ => rfl⟩)
  | some A =>
    have hnews : ∀ j u, (zs.map (Value.int .u8))[j]? = some u → w.cell? (A.add j) = some u := by
      intro j u hu
      have hj : j < zs.length := by
        rcases Nat.lt_or_ge j zs.length with h | h
        · exact h
        · rw [List.getElem?_eq_none (by simpa using h)] at hu; cases hu
      obtain ⟨b, off, e, _, hc⟩ := hsl j hj
      cases e
      rw [adds, hc]
      rw [List.getElem?_map, List.getElem?_eq_getElem hj] at hu
      rw [List.getD_eq_getElem?_getD, List.getElem?_eq_getElem hj]
      exact hu
    refine wpList_append_own _ hgd s x 22 ho base 5 i0 (.int .u8 0) 1 1 Tryz.underlying22 hi hz0 hz1 hz2 rfl (by decide) _ 0 [] hs hown A m c (zs.map (Value.int .u8)) hx (by rw [List.length_map, hz]; omega) hnews (ints_oneCell _ _) (by unfold maxLen; omega) (by omega) hbase ?_
    intro v' w' h1 h2 h3
    simp only [Nat.zero_add, List.nil_append] at h1
    have hv : ∃ a' c', v' = .slice a' m c' := by
      rcases h1.2 with ⟨e, e0⟩ | ⟨g', cap, cur, e, _⟩
      · exact ⟨none, 0, by rw [e, e0]⟩
      · exact ⟨_, _, e⟩
    obtain ⟨a', c', rfl⟩ := hv
    exact h a' c' w' h1 h2

theorem toByteS_g (a : Option Addr) (n c : Nat) (zs : List Int) (w' : World) (h1 : zs.length = n) (h2 : n ≤ 1048576) (h3 : Sl .u8 w' a zs) :
    Calls Tryz.prog 72 #[.slice a n c] w' fun e w'' => ∃ g, e = .returned (.slice (some ⟨g, 0, none⟩) n n) ∧ w''.ownsRow w'.heap.size 5 1 (.slice (some ⟨g, 0, none⟩) n n) n (zs.map (Value.int .u8)) ∧ Below w'.heap.size w' w'' :=
  (toByteS_any a n c zs w' h1 h2 h3).mono fun e w'' h => ⟨_, h.1, h.2.1, h.2.2⟩

set_option maxRecDepth 100000 in
set_option maxHeartbeats 1600000 in
theorem toDev_any (t cm : Int) (so : Bool) (a1 : Option Addr) (n1 c1 : Nat) (a2 : Option Addr) (n2 c2 : Nat) (ir : Int) (xs ys : List Int) (w : World) (hx : xs.length = n1) (hy : ys.length = n2) (hn1 : n1 ≤ 1048576) (hn2 : n2 ≤ 1048576) (hs1 : Sl .u8 w a1 xs) (hs2 : Sl .u8 w a2 ys) :
    Calls Tryz.prog 73 #[.agg #[.int .u64 t, .int .u64 cm, .bool so, .slice a1 n1 c1, .slice a2 n2 c2, .int .i64 ir]] w fun e w' => ∃ g1 g2 : Nat, e = .returned (.agg #[.int .u64 t, .int .u64 cm, .bool so, .slice (some ⟨g1, 0, none⟩) n1 n1, .slice (some ⟨g2, 0, none⟩) n2 n2, .int .i64 ir]) ∧
      Fam w.heap.size w'.heap.size w' (devF (some ⟨g1, 0, none⟩) n1 n1 xs (some ⟨g2, 0, none⟩) n2 n2 ys) ∧ Below w.heap.size w w' := by
  have HT1 : Hid (∀ w', Below w.heap.size w w' → Calls Tryz.prog 72 #[.slice a1 n1 c1] w' fun e w'' => ∃ g, e = .returned (.slice (some ⟨g, 0, none⟩) n1 n1) ∧ w''.ownsRow w'.heap.size 5 1 (.slice (some ⟨g, 0, none⟩) n1 n1) n1 (xs.map (Value.int .u8)) ∧ Below w'.heap.size w' w'') := fun w' hb => toByteS_g a1 n1 c1 xs w' hx hn1 (hs1.below hb)
  have HT2 : Hid (∀ w', Below w.heap.size w w' → Calls Tryz.prog 72 #[.slice a2 n2 c2] w' fun e w'' => ∃ g, e = .returned (.slice (some ⟨g, 0, none⟩) n2 n2) ∧ w''.ownsRow w'.heap.size 5 1 (.slice (some ⟨g, 0, none⟩) n2 n2) n2 (ys.map (Value.int .u8)) ∧ Below w'.heap.size w' w'') := fun w' hb => toByteS_g a2 n2 c2 ys w' hy hn2 (hs2.below hb)
  have hB3 : ∀ o1 o2 o3, Below w.heap.size w (((w.alloc o1).alloc o2).alloc o3) := fun o1 o2 o3 => (((Below.refl _ _).alloc (Nat.le_refl _) o1).alloc (by simp) o2).alloc (by simp; omega) o3
  clear hs1 hs2 hx hy hn1 hn2
  go_enter Tryz.func73, Tryz.ntmps73
  go_wp2_with fail
  refine (HT1.out _ (hB3 _ _ _)).mono ?_
  rintro e w1 ⟨g1, rfl, ow1, hb1⟩
  obtain ⟨r0, r1, r2⟩ := rows3 hb1
  have z1 := hb1.size
  simp only [World.size_alloc] at ow1 z1
  have R0 := dhid r0
  have R1 := dhid r1
  have R2 := dhid r2
  have B1 := dhid (below_trans (hB3 _ _ _) hb1)
  have A1 := dhid ((Fam.nil (w.heap.size + 1 + 1 + 1) (w.heap.size + 1 + 1 + 1) w1).snoc (bRow (some ⟨g1, 0, none⟩) n1 n1 xs) _ w1.heap.size ow1 (Nat.le_refl _) (Nat.le_refl _) (Nat.le_refl _) z1)
  obtain ⟨-, -, -, p3, p4, p5⟩ := cells6 r0
  obtain ⟨q0, q1, q2, q3, q4, q5⟩ := cells6 r2
  have f3 := froz r2 3
  clear r0 r1 r2 ow1 hb1 HT1
  go_wp2_with fail
  refine (HT2.out _ (B1.out.setCell (by simp; omega) _)).mono ?_
  rintro e w2 ⟨g2, rfl, ow2, hb2⟩
  have z2 := hb2.size
  rw [size_set] at ow2 z2
  have S0 := dhid (dstays hb2 (row_far R0.out ⟨w.heap.size + 1 + 1, 3, none⟩ (.slice (some ⟨g1, 0, none⟩) n1 n1) (by dsimp only; omega)))
  have S1 := dhid (dstays hb2 (row_far R1.out ⟨w.heap.size + 1 + 1, 3, none⟩ (.slice (some ⟨g1, 0, none⟩) n1 n1) (by dsimp only; omega)))
  have S2 : Hid (w2.heap[w.heap.size + 1 + 1]? = some (.cells #[.int .u64 t, .int .u64 cm, .bool so, .slice (some ⟨g1, 0, none⟩) n1 n1, .slice none 0 0, .int .i64 0] 27 (0, 0))) := dstays hb2 (row_set R2.out 3 (.slice (some ⟨g1, 0, none⟩) n1 n1))
  have B2 := dhid (below_trans (B1.out.setCell (p := ⟨w.heap.size + 1 + 1, 3, none⟩) (by dsimp only; omega) (.slice (some ⟨g1, 0, none⟩) n1 n1)) hb2)
  have A2 := dhid (((A1.out.set ⟨w.heap.size + 1 + 1, 3, none⟩ (.slice (some ⟨g1, 0, none⟩) n1 n1) (.inl (by dsimp only; omega))).below hb2).snoc (bRow (some ⟨g2, 0, none⟩) n2 n2 ys) _ w2.heap.size ow2 (Nat.le_refl _) z1 (Nat.le_refl _) z2)
  clear p3 p4 p5 q0 q1 q2 q3 q4 q5 f3
  obtain ⟨-, -, -, p3, p4, p5⟩ := cells6 S0.out
  obtain ⟨q0, q1, q2, q3, q4, q5⟩ := cells6 S2.out
  obtain ⟨s0, s1, s2, s3, s4, s5⟩ := cells6 S1.out
  have f4 := froz S2.out 4
  have f5 := froz S2.out 5
  obtain ⟨y0, y1, y2, y3, y4, y5⟩ := froz6 S1.out
  clear z1 z2 ow2 hb2 HT2 R0 R1 R2 B1 A1
  go_wp2_with fail
  have T1 := row_far (row_far S1.out ⟨w.heap.size + 1 + 1, 4, none⟩ (.slice (some ⟨g2, 0, none⟩) n2 n2) (by dsimp only; omega)) ⟨w.heap.size + 1 + 1, 5, none⟩ (.int .i64 ir) (by dsimp only; omega)
  have A3 := ((A2.out.set ⟨w.heap.size + 1 + 1, 4, none⟩ (.slice (some ⟨g2, 0, none⟩) n2 n2) (.inl (by dsimp only; omega))).set ⟨w.heap.size + 1 + 1, 5, none⟩ (.int .i64 ir) (.inl (by dsimp only; omega))).put6 (w.heap.size + 1) (.inl (by omega)) (.int .u64 t) (.int .u64 cm) (.bool so) (.slice (some ⟨g1, 0, none⟩) n1 n1) (.slice (some ⟨g2, 0, none⟩) n2 n2) (.int .i64 ir)
  have B3 := below_put6 ((B2.out.setCell (p := ⟨w.heap.size + 1 + 1, 4, none⟩) (by dsimp only; omega) (.slice (some ⟨g2, 0, none⟩) n2 n2)).setCell (p := ⟨w.heap.size + 1 + 1, 5, none⟩) (by dsimp only; omega) (.int .i64 ir)) (g := w.heap.size + 1) (by omega) (.int .u64 t) (.int .u64 cm) (.bool so) (.slice (some ⟨g1, 0, none⟩) n1 n1) (.slice (some ⟨g2, 0, none⟩) n2 n2) (.int .i64 ir)
  exact bodyPost_ret (results_cell_row Tryz.results73 _ _ _ _ _ _ _ rfl (row_put6 T1 _ _ _ _ _ _) Tryz.underlying27 rfl dev_size) rfl ⟨g1, g2, rfl, A3.low (by omega) (by simp only [size_set]; exact Nat.le_refl _), B3⟩

theorem szByteS_any (a : Option Addr) (n c : Nat) (l : Int) (w : World) (h0 : -1 ≤ l) (h1 : l ≤ 1048576) (hn : n ≤ 9223372036854775807) :
    Calls Tryz.prog 69 #[.slice a n c, .int .i64 l] w fun e w' => e = .returned (.int .i64 (if (n : Int) ≤ l then l - n else -1)) ∧ w' = w := by
  by_cases h : (n : Int) ≤ l
  · have d : decide (l - (n : Int) < 0) = false := by simp; omega
    rw [if_pos h]
    clear h
    go_enter Tryz.func69, Tryz.ntmps69
    go_wp2_with fail
    go_ret
    exact ⟨rfl, rfl⟩
  · have d : decide (l - (n : Int) < 0) = true := by simp; omega
    rw [if_neg h]
    clear h
    go_enter Tryz.func69, Tryz.ntmps69
    go_wp2_with fail
    go_ret
    exact ⟨rfl, rfl⟩

def szD (n1 n2 : Nat) (l : Int) : Int := if (n1 : Int) + n2 ≤ l then l - n1 - n2 else -1

theorem szDev_any (t cm : Int) (so : Bool) (a1 : Option Addr) (n1 c1 : Nat) (a2 : Option Addr) (n2 c2 : Nat) (ir l : Int) (w : World) (h0 : 0 ≤ l) (h1 : l ≤ 1048576) (hn1 : n1 ≤ 9223372036854775807) (hn2 : n2 ≤ 9223372036854775807) :
    Calls Tryz.prog 70 #[.agg #[.int .u64 t, .int .u64 cm, .bool so, .slice a1 n1 c1, .slice a2 n2 c2, .int .i64 ir], .int .i64 l] w fun e w' => e = .returned (.int .i64 (szD n1 n2 l)) ∧ Below w.heap.size w w' := by
  have hB : ∀ o, Below w.heap.size w (w.alloc o) := fun o => (Below.refl _ _).alloc (Nat.le_refl _) o
  by_cases k1 : (n1 : Int) ≤ l
  · have H1 : Hid (∀ w, Calls Tryz.prog 69 #[.slice a1 n1 c1, .int .i64 l] w fun e w' => e = .returned (.int .i64 (l - n1)) ∧ w' = w) := fun w => by
      have := szByteS_any a1 n1 c1 l w (by omega) h1 hn1
      rw [if_pos k1] at this
      exact this
    have d1 : decide (l - (n1 : Int) < 0) = false := by simp; omega
    by_cases k2 : (n2 : Int) ≤ l - n1
    · have H2 : Hid (∀ w, Calls Tryz.prog 69 #[.slice a2 n2 c2, .int .i64 (l - n1)] w fun e w' => e = .returned (.int .i64 (l - n1 - n2)) ∧ w' = w) := fun w => by
        have := szByteS_any a2 n2 c2 (l - n1) w (by omega) (by omega) hn2
        rw [if_pos k2] at this
        exact this
      have d2 : decide (l - (n1 : Int) - (n2 : Int) < 0) = false := by simp; omega
      have F : Hid (szD n1 n2 l = l - n1 - n2) := by show szD n1 n2 l = _; unfold szD; rw [if_pos (by omega)]
      clear k1 k2 h0 h1 hn1 hn2
      generalize l - (n1 : Int) - (n2 : Int) = l2 at *
      generalize l - (n1 : Int) = l1 at *
      go_enter Tryz.func70, Tryz.ntmps70
      go_wp2_with fail
      refine (H1.out _).mono ?_
      rintro e w1 ⟨rfl, hw1⟩
      subst hw1
      go_wp2_with fail
      refine (H2.out _).mono ?_
      rintro e w1 ⟨rfl, hw1⟩
      subst hw1
      go_wp2_with fail
      go_ret
      exact ⟨by rw [F.out]; rfl, hB _⟩
    · have H2 : Hid (∀ w, Calls Tryz.prog 69 #[.slice a2 n2 c2, .int .i64 (l - n1)] w fun e w' => e = .returned (.int .i64 (-1)) ∧ w' = w) := fun w => by
        have := szByteS_any a2 n2 c2 (l - n1) w (by omega) (by omega) hn2
        rw [if_neg k2] at this
        exact this
      have F : Hid (szD n1 n2 l = -1) := by show szD n1 n2 l = _; unfold szD; rw [if_neg (by omega)]
      clear k1 k2 h0 h1 hn1 hn2
      generalize l - (n1 : Int) = l1 at *
      go_enter Tryz.func70, Tryz.ntmps70
      go_wp2_with fail
      refine (H1.out _).mono ?_
      rintro e w1 ⟨rfl, hw1⟩
      subst hw1
      go_wp2_with fail
      refine (H2.out _).mono ?_
      rintro e w1 ⟨rfl, hw1⟩
      subst hw1
      go_wp2_with fail
      go_ret
      exact ⟨by rw [F.out]; rfl, hB _⟩
  · have H1 : Hid (∀ w, Calls Tryz.prog 69 #[.slice a1 n1 c1, .int .i64 l] w fun e w' => e = .returned (.int .i64 (-1)) ∧ w' = w) := fun w => by
      have := szByteS_any a1 n1 c1 l w (by omega) h1 hn1
      rw [if_neg k1] at this
      exact this
    have F : Hid (szD n1 n2 l = -1) := by show szD n1 n2 l = _; unfold szD; rw [if_neg (by omega)]
    clear k1 h0 h1 hn1 hn2
    go_enter Tryz.func70, Tryz.ntmps70
    go_wp2_with fail
    refine (H1.out _).mono ?_
    rintro e w1 ⟨rfl, hw1⟩
    subst hw1
    go_wp2_with fail
    go_ret
    exact ⟨by rw [F.out]; rfl, hB _⟩

set_option maxRecDepth 100000 in
set_option maxHeartbeats 1600000 in
theorem eqDev_same (t cm : Int) (so : Bool) (a1 b1 : Option Addr) (n1 c1 d1 : Nat) (a2 b2 : Option Addr) (n2 c2 d2 : Nat) (ir : Int) (xs ys : List Int) (w : World) (hx : xs.length = n1) (hy : ys.length = n2) (hn1 : n1 ≤ 1048576) (hn2 : n2 ≤ 1048576) (hs1 : Sl .u8 w a1 xs) (hs2 : Sl .u8 w a2 ys) (ht1 : Sl .u8 w b1 xs) (ht2 : Sl .u8 w b2 ys) :
    Calls Tryz.prog 76 #[.agg #[.int .u64 t, .int .u64 cm, .bool so, .slice a1 n1 c1, .slice a2 n2 c2, .int .i64 ir], .agg #[.int .u64 t, .int .u64 cm, .bool so, .slice b1 n1 d1, .slice b2 n2 d2, .int .i64 ir]] w fun e w' => e = .returned (.bool true) ∧ Below w.heap.size w w' := by
  have HE1 : Hid (∀ w', Below w.heap.size w w' → Calls Tryz.prog 75 #[.slice a1 n1 c1, .slice b1 n1 d1] w' fun e w'' => e = .returned (.bool true) ∧ Below w'.heap.size w' w'') := fun w' hb => by
    have := eqByteS_any a1 b1 n1 n1 c1 d1 xs xs w' hx hx hn1 hn1 (hs1.below hb) (ht1.below hb)
    rw [decide_eq_true rfl] at this
    exact this
  have HE2 : Hid (∀ w', Below w.heap.size w w' → Calls Tryz.prog 75 #[.slice a2 n2 c2, .slice b2 n2 d2] w' fun e w'' => e = .returned (.bool true) ∧ Below w'.heap.size w' w'') := fun w' hb => by
    have := eqByteS_any a2 b2 n2 n2 c2 d2 ys ys w' hy hy hn2 hn2 (hs2.below hb) (ht2.below hb)
    rw [decide_eq_true rfl] at this
    exact this
  have hB : ∀ o o', Below w.heap.size w ((w.alloc o).alloc o') := fun o o' => ((Below.refl _ _).alloc (Nat.le_refl _) o).alloc (by simp) o'
  have t1 : (t != t) = false := by simp
  have t2 : (cm != cm) = false := by simp
  have t3 : (so != so) = false := by simp
  have t4 : (ir != ir) = false := by simp
  clear hs1 hs2 ht1 ht2 hx hy hn1 hn2
  go_enter Tryz.func76, Tryz.ntmps76
  go_wp2_with fail
  refine (HE1.out _ (hB _ _)).mono ?_
  rintro e w1 ⟨rfl, hb1⟩
  obtain ⟨r0, r1⟩ := rows2 hb1
  have B1 := dhid (below_trans (hB _ _) hb1)
  obtain ⟨p0, p1, p2, p3, p4, p5⟩ := cells6 r0
  obtain ⟨q0, q1, q2, q3, q4, q5⟩ := cells6 r1
  have R0 := dhid r0
  have R1 := dhid r1
  clear hb1 r0 r1
  go_wp2_with fail
  refine (HE2.out _ B1.out).mono ?_
  rintro e w2 ⟨rfl, hb2⟩
  have B2 := dhid (below_trans B1.out hb2)
  clear p0 p1 p2 p3 p4 p5 q0 q1 q2 q3 q4 q5
  obtain ⟨p0, p1, p2, p3, p4, p5⟩ := cells6 (dstays hb2 R0.out)
  obtain ⟨q0, q1, q2, q3, q4, q5⟩ := cells6 (dstays hb2 R1.out)
  clear hb2
  go_wp2_with fail
  go_ret
  exact ⟨rfl, B2.out⟩

theorem heldDev_any (t cm : Int) (so : Bool) (a1 : Option Addr) (n1 c1 : Nat) (a2 : Option Addr) (n2 c2 : Nat) (ir k : Int) (w : World) (hn1 : n1 ≤ 1048576) (hn2 : n2 ≤ 1048576) (hk0 : 0 ≤ k) (hk1 : k ≤ 4294967296) (hs1 : Sl .u8 w a1 (marks k n1)) (hs2 : Sl .u8 w a2 (marks (k + n1) n2)) :
    Calls Tryz.prog 82 #[.agg #[.int .u64 t, .int .u64 cm, .bool so, .slice a1 n1 c1, .slice a2 n2 c2, .int .i64 ir], .int .i64 k] w fun e w' => e = .returned (.int .i64 (k + n1 + n2)) ∧ Below w.heap.size w w' := by
  have hB : ∀ o, Below w.heap.size w (w.alloc o) := fun o => (Below.refl _ _).alloc (Nat.le_refl _) o
  have H1 : Hid (∀ o, Calls Tryz.prog 81 #[.slice a1 n1 c1, .int .i64 k] (w.alloc o) fun e w' => e = .returned (.int .i64 (k + n1)) ∧ w' = w.alloc o) := fun o => heldByteS_any a1 n1 c1 k (w.alloc o) hn1 hk0 (by omega) (hs1.below (hB o))
  have H2 : Hid (∀ o, Calls Tryz.prog 81 #[.slice a2 n2 c2, .int .i64 (k + n1)] (w.alloc o) fun e w' => e = .returned (.int .i64 (k + n1 + n2)) ∧ w' = w.alloc o) := fun o => heldByteS_any a2 n2 c2 (k + n1) (w.alloc o) hn2 (by omega) (by omega) (hs2.below (hB o))
  have d1 : decide (k + (n1 : Int) < 0) = false := by simp; omega
  have d2 : decide (k + (n1 : Int) + (n2 : Int) < 0) = false := by simp; omega
  clear hs1 hs2 hk0 hk1 hn1 hn2
  generalize k + (n1 : Int) + (n2 : Int) = k2 at *
  generalize k + (n1 : Int) = k1 at *
  go_enter Tryz.func82, Tryz.ntmps82
  go_wp2_with fail
  refine (H1.out _).mono ?_
  rintro e w1 ⟨rfl, hw1⟩
  subst hw1
  go_wp2_with fail
  refine (H2.out _).mono ?_
  rintro e w1 ⟨rfl, hw1⟩
  subst hw1
  go_wp2_with fail
  go_ret
  exact ⟨rfl, hB _⟩

structure DV where
  t : Int
  cm : Int
  so : Bool
  xs : List Int
  ys : List Int
  ir : Int

def zeroD : DV := ⟨0, 0, false, [], [], 0⟩

def dvc (D : DV) (a1 : Option Addr) (c1 : Nat) (a2 : Option Addr) (c2 : Nat) : Array Value := #[.int .u64 D.t, .int .u64 D.cm, .bool D.so, .slice a1 D.xs.length c1, .slice a2 D.ys.length c2, .int .i64 D.ir]

def dvF (D : DV) (a1 : Option Addr) (c1 : Nat) (a2 : Option Addr) (c2 : Nat) : List FRow := devF a1 D.xs.length c1 D.xs a2 D.ys.length c2 D.ys

def bytesOk (D : DV) : Prop := (∀ y ∈ D.xs, (Lit.int .u8 y).wf = true) ∧ ∀ y ∈ D.ys, (Lit.int .u8 y).wf = true

def okD (n1 n2 : Nat) (ir : Int) : Bool := decide (n1 ≤ 16) && decide (n2 ≤ 4096) && decide (0 ≤ ir ∧ ir ≤ 1)

def sel (addr size : Int) : Nat :=
  if addr = 33554432 ∧ size = 4 then 0 else if addr = 33570816 ∧ size = 8 then 1 else if addr = 33603576 ∧ size = 8 then 2 else if addr = 268435456 ∧ size = 1 then 3 else if addr = 268435457 ∧ size = 1 then 4 else if addr = 268435461 ∧ size = 1 then 5 else 6

def oneIf (b : Bool) : Int := if b = true then 1 else 0

def ldV (D : DV) : Nat → Int × DV × Bool
  | 0 => (oneIf D.so, D, true)
  | 1 => (D.cm, D, true)
  | 2 => (D.t, D, true)
  | 3 => (D.xs.getD 0 0, ⟨D.t, D.cm, D.so, D.xs.drop 1, D.ys, D.ir⟩, true)
  | 4 => (IntKind.u64.wrap D.ir, D, true)
  | 5 => (IntKind.u64.wrap (32 + oneIf (decide (0 < D.xs.length))), D, true)
  | _ => (0, zeroD, false)

def stV (D : DV) (x : Int) : Nat → DV × Bool
  | 0 => (⟨D.t, D.cm, bits .and .u64 x 1 == 1, D.xs, D.ys, D.ir⟩, true)
  | 1 => (⟨D.t, x, D.so, D.xs, D.ys, D.ir⟩, true)
  | 2 => (⟨x, D.cm, D.so, D.xs, D.ys, D.ir⟩, true)
  | 3 => (⟨D.t, D.cm, D.so, D.xs, if D.ys.length < 4096 then D.ys ++ [IntKind.u8.wrap x] else D.ys, D.ir⟩, true)
  | 4 => (⟨D.t, D.cm, D.so, D.xs, D.ys, wrap64 (bits .and .u64 x 1)⟩, true)
  | 5 => (D, true)
  | _ => (zeroD, false)

def linesV (D : DV) : Int := IntKind.u64.wrap (IntKind.u64.wrap (IntKind.u64.wrap (8 * oneIf D.so) + IntKind.u64.wrap (128 * oneIf (decide (D.cm ≤ D.t)))) + IntKind.u64.wrap (2048 * oneIf ((D.ir == 1) && decide (0 < D.xs.length))))

def loadD (D : DV) (addr size : Int) : Int × DV × Bool := if okD D.xs.length D.ys.length D.ir = true then ldV D (sel addr size) else (0, zeroD, false)

def storeD (D : DV) (addr size x : Int) : DV × Bool := if okD D.xs.length D.ys.length D.ir = true then stV D x (sel addr size) else (zeroD, false)

def linesD (D : DV) : Int := if okD D.xs.length D.ys.length D.ir = true then linesV D else 0

theorem sel_cases (addr size : Int) (P : Nat → Prop) (h0 : addr = 33554432 → size = 4 → P 0) (h1 : addr = 33570816 → size = 8 → P 1) (h2 : addr = 33603576 → size = 8 → P 2) (h3 : addr = 268435456 → size = 1 → P 3) (h4 : addr = 268435457 → size = 1 → P 4) (h5 : addr = 268435461 → size = 1 → P 5)
    (h6 : (addr = 33554432 → ¬ size = 4) → (addr = 33570816 → ¬ size = 8) → (addr = 33603576 → ¬ size = 8) → (addr = 268435456 → ¬ size = 1) → (addr = 268435457 → ¬ size = 1) → (addr = 268435461 → ¬ size = 1) → P 6) : P (sel addr size) := by
  unfold sel
  split
  · rename_i h; exact h0 h.1 h.2
  · rename_i k0
    split
    · rename_i h; exact h1 h.1 h.2
    · rename_i k1
      split
      · rename_i h; exact h2 h.1 h.2
      · rename_i k2
        split
        · rename_i h; exact h3 h.1 h.2
        · rename_i k3
          split
          · rename_i h; exact h4 h.1 h.2
          · rename_i k4
            split
            · rename_i h; exact h5 h.1 h.2
            · rename_i k5
              exact h6 (fun a b => k0 ⟨a, b⟩) (fun a b => k1 ⟨a, b⟩) (fun a b => k2 ⟨a, b⟩) (fun a b => k3 ⟨a, b⟩) (fun a b => k4 ⟨a, b⟩) (fun a b => k5 ⟨a, b⟩)

theorem fam_zero (B E : Nat) (w : World) : Fam B E w (dvF zeroD none 0 none 0) := by
  refine ⟨fun r hr => ?_, fun r hr k e => ?_, ?_⟩
  · simp only [dvF, devF, List.mem_cons, List.not_mem_nil, or_false] at hr
    rcases hr with rfl | rfl
    · exact ⟨rfl, .inl ⟨rfl, rfl⟩⟩
    · exact ⟨rfl, .inl ⟨rfl, rfl⟩⟩
  · simp only [dvF, devF, List.mem_cons, List.not_mem_nil, or_false] at hr
    rcases hr with rfl | rfl
    · cases e
    · cases e
  · exact List.pairwise_cons.2 ⟨fun s hs k e => (by cases e), List.pairwise_singleton _ _⟩

theorem Fam.newIn {B E : Nat} {w : World} {a1 : Option Addr} {n1 c1 : Nat} {xs : List Int} {a2 : Option Addr} {n2 c2 : Nat} {ys : List Int} (h : Fam B E w (devF a1 n1 c1 xs a2 n2 c2 ys)) (a : Option Addr) (n c : Nat) (zs : List Int) (base E' : Nat) (ho : w.ownsRow base 5 1 (.slice a n c) n (zs.map (Value.int .u8))) (h1 : E ≤ base) (h2 : B ≤ base) (h3 : w.heap.size ≤ E') (h4 : E ≤ E') : Fam B E' w (devF a n c zs a2 n2 c2 ys) := by
  have t : Fam B E w [bRow a2 n2 c2 ys] := ⟨fun r hr => h.own r (List.mem_cons_of_mem _ hr), fun r hr => h.hi r (List.mem_cons_of_mem _ hr), (List.pairwise_cons.1 h.ne).2⟩
  exact t.cons (bRow a n c zs) base E' ho h1 h2 h3 h4

theorem Fam.newOut {B E : Nat} {w : World} {a1 : Option Addr} {n1 c1 : Nat} {xs : List Int} {a2 : Option Addr} {n2 c2 : Nat} {ys : List Int} (h : Fam B E w (devF a1 n1 c1 xs a2 n2 c2 ys)) (a : Option Addr) (n c : Nat) (zs : List Int) (base E' : Nat) (ho : w.ownsRow base 5 1 (.slice a n c) n (zs.map (Value.int .u8))) (h1 : E ≤ base) (h2 : B ≤ base) (h3 : w.heap.size ≤ E') (h4 : E ≤ E') : Fam B E' w (devF a1 n1 c1 xs a n c zs) := by
  have t : Fam B E w [bRow a1 n1 c1 xs] := ⟨fun r hr => h.own r (by rw [List.mem_singleton.1 hr]; exact List.mem_cons_self ..), fun r hr => h.hi r (by rw [List.mem_singleton.1 hr]; exact List.mem_cons_self ..), List.pairwise_singleton _ _⟩
  exact t.snoc (bRow a n c zs) base E' ho h1 h2 h3 h4

theorem results_tct8 {P : Program} {fn : Func} {s p u : Tmp} {ty : TypeId} (h : fn.results = #[.tmp s, .cell p ty, .tmp u]) (tmps : Array Value) (w : World) (g : Nat) (t : TypeId) (cs : Array Value) (fr : Nat × Nat) (d : TypeDesc)
    (hp : tmps.getD p undef = .pointer (some ⟨g, 0, none⟩)) (hg : w.heap[g]? = some (.cells cs t fr))
    (hu : P.underlying ty = some d) (hd : (match d with | .struct _ | .array _ _ => true | _ => false) = true) (hi : (P.info? ty).map (·.size) = some cs.size) :
    (results fn tmps).run P w = .ok (.tuple #[tmps.getD s undef, .agg cs, tmps.getD u undef]) w := by
  have h1 : (results fn tmps).run P w = ((asAddr (tmps.getD p undef)).run P w).andThen fun a w₁ => ((loadVar ty a).run P w₁).andThen fun v w₂ => .ok (.tuple #[tmps.getD s undef, v, tmps.getD u undef]) w₂ := by
    simp only [results, h]
    simp [Sem.run_bind, Result.andThen]
  rw [h1, hp]
  simp [asAddr, run_loadVar_row w g t ty cs fr d hg hu hd hi]

theorem results_ct8 {P : Program} {fn : Func} {p u : Tmp} {ty : TypeId} (h : fn.results = #[.cell p ty, .tmp u]) (tmps : Array Value) (w : World) (g : Nat) (t : TypeId) (cs : Array Value) (fr : Nat × Nat) (d : TypeDesc)
    (hp : tmps.getD p undef = .pointer (some ⟨g, 0, none⟩)) (hg : w.heap[g]? = some (.cells cs t fr))
    (hu : P.underlying ty = some d) (hd : (match d with | .struct _ | .array _ _ => true | _ => false) = true) (hi : (P.info? ty).map (·.size) = some cs.size) :
    (results fn tmps).run P w = .ok (.tuple #[.agg cs, tmps.getD u undef]) w := by
  have h1 : (results fn tmps).run P w = ((asAddr (tmps.getD p undef)).run P w).andThen fun a w₁ => ((loadVar ty a).run P w₁).andThen fun v w₂ => .ok (.tuple #[v, tmps.getD u undef]) w₂ := by
    simp only [results, h]
    simp [Sem.run_bind, Result.andThen]
  rw [h1, hp]
  simp [asAddr, run_loadVar_row w g t ty cs fr d hg hu hd hi]

theorem infoW : (Tryz.prog.info? 24).map (fun i => (i.zero, i.size, i.bytes)) = some (some (.int .u64 0), 1, 8) := by kernel_rfl

theorem map_set_u64 (zs : List Int) (i : Nat) (y : Int) : (zs.map (Value.int .u64)).set i (.int .u64 y) = (zs.set i y).map (Value.int .u64) := by
  rw [List.map_set]

def marksW (k : Int) (n : Nat) : List Int := (List.range n).map fun (i : Nat) => k + (i : Int)

theorem marksW_len (k : Int) (n : Nat) : (marksW k n).length = n := by simp [marksW]

theorem marksW_get (k : Int) (n i : Nat) (h : i < n) : (marksW k n).getD i 0 = k + (i : Int) := by
  simp [marksW, List.getD, h]

def MkW (xs : List Int) (k : Int) (n j : Nat) : List Int := (marksW k n).take j ++ xs.drop j

theorem MkW_zero (xs : List Int) (k : Int) (n : Nat) : MkW xs k n 0 = xs := by simp [MkW]

theorem MkW_end (xs : List Int) (k : Int) (n : Nat) (h : xs.length = n) : MkW xs k n n = marksW k n := by
  have h1 : xs.drop n = [] := List.drop_of_length_le (by omega)
  have h2 : (marksW k n).take n = marksW k n := List.take_of_length_le (by rw [marksW_len]; omega)
  rw [MkW, h1, h2, List.append_nil]

theorem MkW_len (xs : List Int) (k : Int) (n j : Nat) (h : xs.length = n) (hj : j ≤ n) : (MkW xs k n j).length = n := by
  simp [MkW, marksW_len]; omega

theorem MkW_set (xs : List Int) (k : Int) (n j : Nat) (h : xs.length = n) (hj : j < n) : (MkW xs k n j).set j (k + (j : Int)) = MkW xs k n (j + 1) := by
  unfold MkW
  have h1 : (marksW k n).take (j + 1) = (marksW k n).take j ++ [k + (j : Int)] := by
    rw [List.take_succ_eq_append_getElem (by rw [marksW_len]; exact hj)]
    simp [marksW]
  have h2 : xs.drop j = xs[j] :: xs.drop (j + 1) := List.drop_eq_getElem_cons (by omega)
  have h3 : ((marksW k n).take j).length = j := by rw [List.length_take, marksW_len]; omega
  rw [h1, h2, List.set_append_right _ _ (by omega), h3, Nat.sub_self, List.set_cons_zero, List.append_assoc]
  rfl

set_option maxHeartbeats 400000 in
theorem toUint64S_any (a : Option Addr) (n cap : Nat) (zs : List Int) (w : World) (hz : zs.length = n) (hn : n ≤ 1048576) (hs : Sl .u64 w a zs) :
    Calls Tryz.prog 71 #[.slice a n cap] w fun e w' => e = .returned (.slice (some ⟨w.heap.size, 0, none⟩) n n) ∧
      w'.ownsRow w.heap.size 24 1 (.slice (some ⟨w.heap.size, 0, none⟩) n n) n (zs.map (Value.int .u64)) ∧ Below w.heap.size w w' := by
  obtain ⟨i0, hi, hz0, hz1, hz2⟩ := info_parts infoW
  have hb2 : i0.bytes * n ≤ 281474976710656 := by rw [hz2]; omega
  have hb3 : n ≤ maxLen := by unfold maxLen; omega
  have HZ : Hid (zs.length = n) := hz
  clear hz hz2
  go_enter Tryz.func71, Tryz.ntmps71
  go_wp2_with (at_make; refine wpList_make_full _ rfl (.tmp 6) (.tmp 6) 25 rfl w.heap.size 24 i0 (.int .u64 0) 1 Tryz.underlying25 hi hz0 hz1 .i64 .i64 _ _ n rfl rfl rfl rfl hb2 hb3 (Nat.le_refl _) ?_; intro w1 hown hgrow)
  have hown0 : w1.ownsRow w.heap.size 24 1 (.slice (some ⟨w.heap.size, 0, none⟩) n n) n (Lk .u64 zs n 0) := by
    rw [Lk_zero, ← toList_madeCells_one]; simpa [Value.cells] using hown
  have hb1 : Below w.heap.size w w1 := (Below.refl _ _).grown hgrow (Nat.le_refl _) (by intro k h; cases h)
  clear hown hgrow
  go_loopw [4] (fun i wr => ∃ k : Nat, k ≤ n ∧ i = .int .i64 k ∧ wr.ownsRow w.heap.size 24 1 (.slice (some ⟨w.heap.size, 0, none⟩) n n) n (Lk .u64 zs n k) ∧ Below w.heap.size w wr)
    (fun i _ => n - (intOf i).toNat)
  case atStart => exact ⟨0, Nat.zero_le _, rfl, hown0, hb1⟩
  case round =>
    obtain ⟨k, hk, rfl, hown, hbel⟩ := hrel
    clear hown0 hb1
    by_cases hlt : k < n
    · obtain ⟨b, off, rfl, hb, hc⟩ := hs k (by have := HZ.out; omega)
      have hcx : wr.cell? ⟨b, off + k, none⟩ = some (.int .u64 (zs.getD k 0)) := (hbel.cell (by exact hb)).trans hc
      have hfr : wr.frozen? ⟨w.heap.size, k, none⟩ = false := hown.frozenAt k
      have hst := (hown.stored k (.int .u64 (zs.getD k 0))).1
      have hstb : Below w.heap.size w (wr.setCell ⟨w.heap.size, k, none⟩ (.int .u64 (zs.getD k 0))) := hbel.setCell (Nat.le_refl _) _
      obtain ⟨v3, hv3⟩ : ∃ v, wr.cell? ⟨w.heap.size, k, none⟩ = some v := by
        rw [hown.cellAt k (by omega)]
        exact ⟨_, List.getElem?_eq_getElem (by rw [Lk_len _ _ _ _ HZ.out hk]; exact hlt)⟩
      rw [Lk_set _ _ _ _ HZ.out hlt] at hst
      clear hc hown
      go_wp2
      go_roundw
      case rel => exact ⟨k + 1, by omega, by go_num, hst, hstb⟩
      case measure => simp [intOf]; omega
    · have : k = n := by omega
      subst this
      rw [Lk_end _ _ _ HZ.out] at hown
      go_wp2
      go_ret
      exact ⟨rfl, hown, hbel⟩

set_option maxHeartbeats 400000 in
theorem eqUint64S_any (a b : Option Addr) (n m ca cb : Nat) (xs ys : List Int) (w : World) (hx : xs.length = n) (hy : ys.length = m) (hn : n ≤ 1048576) (hm : m ≤ 1048576) (hs : Sl .u64 w a xs) (ht : Sl .u64 w b ys) :
    Calls Tryz.prog 74 #[.slice a n ca, .slice b m cb] w fun e w' => e = .returned (.bool (decide (xs = ys))) ∧ Below w.heap.size w w' := by
  by_cases hnm : n = m
  · subst hnm
    have HX : Hid (xs.length = n) := hx
    have HY : Hid (ys.length = n) := hy
    have hnn : ((n : Int) != (n : Int)) = false := by simp
    clear hx hy
    go_enter Tryz.func74, Tryz.ntmps74
    go_wp2
    go_loopw [5] (fun i wr => ∃ k : Nat, k ≤ n ∧ i = .int .i64 k ∧ Hid (xs.take k = ys.take k) ∧ Below w.heap.size w wr)
      (fun i _ => n - (intOf i).toNat)
    case atStart => exact ⟨0, Nat.zero_le _, rfl, (rfl : xs.take 0 = ys.take 0), Below.refl _ _⟩
    case round =>
      obtain ⟨k, hk, rfl, heq, hbel⟩ := hrel
      by_cases hlt : k < n
      · obtain ⟨b1, o1, rfl, hb1, hc1⟩ := hs k (by have := HX.out; omega)
        obtain ⟨b2, o2, rfl, hb2, hc2⟩ := ht k (by have := HY.out; omega)
        obtain ⟨x, hxx⟩ : ∃ x, x = xs.getD k 0 := ⟨_, rfl⟩
        obtain ⟨y, hyy⟩ : ∃ y, y = ys.getD k 0 := ⟨_, rfl⟩
        have c1 : wr.cell? ⟨b1, o1 + k, none⟩ = some (.int .u64 x) := by rw [hxx]; exact (hbel.cell (by exact hb1)).trans hc1
        have c2 : wr.cell? ⟨b2, o2 + k, none⟩ = some (.int .u64 y) := by rw [hyy]; exact (hbel.cell (by exact hb2)).trans hc2
        have XX : Hid (x = xs.getD k 0) := hxx
        have YY : Hid (y = ys.getD k 0) := hyy
        clear hc1 hc2 hxx hyy
        by_cases hxy : x = y
        · subst hxy
          have R := take_next xs ys k n HX.out HY.out hlt heq.out (XX.out.symm.trans YY.out)
          have RR : Hid (xs.take (k + 1) = ys.take (k + 1)) := R
          clear R
          have hne : (x != x) = false := by simp
          go_wp2
          go_region
          all_goals go_wp2
          all_goals go_roundw
          case rel => exact ⟨k + 1, by omega, by go_num, RR, hbel.drew⟩
          case measure => simp [intOf]; omega
        · have F : Hid (decide (xs = ys) = false) := by
            show decide (xs = ys) = false
            rw [decide_eq_false_iff_not]
            intro h; apply hxy; rw [XX.out, YY.out, h]
          have hne : (x != y) = true := by simpa using hxy
          clear hxy
          go_wp2
          go_region
          all_goals go_wp2
          all_goals go_ret
          all_goals exact ⟨by rw [F.out]; rfl, hbel.drew⟩
      · have hkn : k = n := by omega
        subst hkn
        have F : Hid (decide (xs = ys) = true) := by
          show decide (xs = ys) = true
          rw [decide_eq_true_eq]
          have h := heq.out
          rw [List.take_of_length_le (by have := HX.out; omega), List.take_of_length_le (by have := HY.out; omega)] at h
          exact h
        go_wp2
        go_ret
        exact ⟨by rw [F.out]; rfl, hbel⟩
  · have F : Hid (decide (xs = ys) = false) := by
      show decide (xs = ys) = false
      rw [decide_eq_false_iff_not]
      intro h; apply hnm; rw [← hx, ← hy, h]
    have hne : ((n : Int) != (m : Int)) = true := by simp; omega
    clear hx hy
    go_enter Tryz.func74, Tryz.ntmps74
    go_wp2
    go_ret
    exact ⟨by rw [F.out]; rfl, Below.refl _ _⟩

set_option maxHeartbeats 400000 in
theorem markUint64S_any (a : Option Addr) (n cap base : Nat) (k : Int) (xs : List Int) (w : World) (hn : n ≤ 1048576) (hk0 : 0 ≤ k) (hk1 : k ≤ 1099511627776)
    (hown : w.ownsRow base 24 1 (.slice a n cap) n (xs.map (Value.int .u64))) :
    Calls Tryz.prog 77 #[.slice a n cap, .int .i64 k] w fun e w' => e = .returned (.int .i64 (k + n)) ∧
      w'.ownsRow base 24 1 (.slice a n cap) n ((marksW k n).map (Value.int .u64)) ∧ w.grownBy w' (Value.slice a n cap).ownBlock := by
  have HX : Hid (xs.length = n) := by show xs.length = n; have := hown.1; simpa using this
  rcases hown.2 with ⟨h2, h3⟩ | ⟨g, cap', cur, hv, hg, _⟩
  · simp only [Value.slice.injEq] at h2
    obtain ⟨rfl, rfl, rfl⟩ := h2
    have hx0 : xs = [] := List.eq_nil_of_length_eq_zero HX.out
    subst hx0
    go_enter Tryz.func77, Tryz.ntmps77
    go_wp2
    refine wp_loop_rounds 1 ?_
    rw [rounds_succ]
    go_wp2
    go_ret
    exact ⟨by simp, hown, ⟨rfl, rfl, rfl, Nat.le_refl _, fun _ _ _ => rfl⟩⟩
  · simp only [Value.slice.injEq, true_and] at hv
    obtain ⟨rfl, rfl⟩ := hv
    have hown0 : w.ownsRow base 24 1 (.slice (some ⟨g, 0, none⟩) n cap) n ((MkW xs k n 0).map (Value.int .u64)) := by rw [MkW_zero]; exact hown
    clear hown
    go_enter Tryz.func77, Tryz.ntmps77
    go_wp2
    go_loopw [1, 5] (fun c i wr => ∃ j : Nat, j ≤ n ∧ i = .int .i64 j ∧ c = .int .i64 (k + j) ∧ wr.ownsRow base 24 1 (.slice (some ⟨g, 0, none⟩) n cap) n ((MkW xs k n j).map (Value.int .u64)) ∧ w.grownBy wr (some g))
      (fun _ i _ => n - (intOf i).toNat)
    case atStart => exact ⟨0, Nat.zero_le _, rfl, by simp, hown0, ⟨rfl, rfl, rfl, Nat.le_refl _, fun _ _ _ => rfl⟩⟩
    case round =>
      obtain ⟨j, hj, rfl, rfl, hown, hgr⟩ := hrel
      clear hown0
      by_cases hlt : j < n
      · have hfr : wr.frozen? ⟨g, j, none⟩ = false := hown.frozenAt j
        have hst := hown.stored j (.int .u64 (k + (j : Int)))
        obtain ⟨v3, hv3⟩ : ∃ v, wr.cell? ⟨g, j, none⟩ = some v := by
          rw [hown.cellAt j (by omega)]
          exact ⟨_, List.getElem?_eq_getElem (by rw [List.length_map, MkW_len _ _ _ _ HX.out hj]; exact hlt)⟩
        rw [map_set_u64, MkW_set _ _ _ _ HX.out hlt] at hst
        have hgr2 : w.grownBy (wr.setCell ⟨g, j, none⟩ (.int .u64 (k + (j : Int)))) (some g) :=
          ⟨hst.2.os.trans hgr.os, hst.2.tape.trans hgr.tape, hst.2.output.trans hgr.output, Nat.le_trans hgr.size hst.2.size, fun b hb hne => (hst.2.block b (Nat.lt_of_lt_of_le hb hgr.size) hne).trans (hgr.block b hb hne)⟩
        have hst1 := hst.1
        clear hst hown
        go_wp2
        go_roundw
        case rel => exact ⟨j + 1, by omega, by go_num, by go_num, hst1, hgr2⟩
        case measure => simp [intOf]; omega
      · have : j = n := by omega
        subst this
        rw [MkW_end _ _ _ HX.out] at hown
        go_wp2
        go_ret
        exact ⟨rfl, hown, hgr⟩

theorem heldUint64S_any (a : Option Addr) (n cap : Nat) (k : Int) (w : World) (hn : n ≤ 1048576) (hk0 : 0 ≤ k) (hk1 : k ≤ 1099511627776)
    (hs : Sl .u64 w a (marksW k n)) :
    Calls Tryz.prog 80 #[.slice a n cap, .int .i64 k] w fun e w' => e = .returned (.int .i64 (k + n)) ∧ w' = w := by
  go_enter Tryz.func80, Tryz.ntmps80
  go_wp2
  go_loop [1, 5] (fun c i => ∃ j : Nat, j ≤ n ∧ i = .int .i64 j ∧ c = .int .i64 (k + j)) (fun _ i => n - (intOf i).toNat)
  case atStart => exact ⟨0, Nat.zero_le _, rfl, by simp⟩
  case round =>
    obtain ⟨j, hj, rfl, rfl⟩ := hrel
    by_cases hlt : j < n
    · obtain ⟨b, off, rfl, hb, hc⟩ := hs j (by rw [marksW_len]; exact hlt)
      rw [marksW_get k n j hlt] at hc
      have hne : (k + (j : Int) != k + (j : Int)) = false := by simp
      have hwr : IntKind.u64.wrap (k + (j : Int)) = k + (j : Int) := by rw [IntKind.wrap_u64]; omega
      go_wp2
      go_round
      case rel => exact ⟨j + 1, by omega, by go_num, by go_num⟩
      case measure => simp [intOf]; omega
    · have : j = n := by omega
      subst this
      go_wp2
      go_ret
      exact ⟨rfl, rfl⟩

structure MV where
  pc : Int
  x : List Int
  pr : Int
  cs : List Int
  ram : List Int
  d : DV
  hd : Int
  hl : Bool
  wt : Bool

structure MA where
  ax : Option Addr
  cx : Nat
  ac : Option Addr
  cc : Nat
  ar : Option Addr
  cr : Nat
  ai : Option Addr
  ci : Nat
  ao : Option Addr
  co : Nat

def zeroM : MV := ⟨0, [], 0, [], [], zeroD, 0, false, false⟩

def zeroA : MA := ⟨none, 0, none, 0, none, 0, none, 0, none, 0⟩

def mvc (M : MV) (A : MA) : Array Value := #[.int .u64 M.pc, .slice A.ax M.x.length A.cx, .int .i64 M.pr, .slice A.ac M.cs.length A.cc, .slice A.ar M.ram.length A.cr, .int .u64 M.d.t, .int .u64 M.d.cm, .bool M.d.so, .slice A.ai M.d.xs.length A.ci, .slice A.ao M.d.ys.length A.co, .int .i64 M.d.ir, .int .u64 M.hd, .bool M.hl, .bool M.wt]

def wRow (a : Option Addr) (n c : Nat) (xs : List Int) : FRow := ⟨24, .slice a n c, n, xs.map (Value.int .u64)⟩

def mvF (M : MV) (A : MA) : List FRow := [wRow A.ax M.x.length A.cx M.x, wRow A.ac M.cs.length A.cc M.cs, bRow A.ar M.ram.length A.cr M.ram, bRow A.ai M.d.xs.length A.ci M.d.xs, bRow A.ao M.d.ys.length A.co M.d.ys]

structure MSl (w : World) (M : MV) (A : MA) : Prop where
  x : Sl .u64 w A.ax M.x
  cs : Sl .u64 w A.ac M.cs
  ram : Sl .u8 w A.ar M.ram
  xs : Sl .u8 w A.ai M.d.xs
  ys : Sl .u8 w A.ao M.d.ys

theorem MSl.below {w w' : World} {M : MV} {A : MA} (h : MSl w M A) (hb : Below w.heap.size w w') : MSl w' M A := ⟨h.x.below hb, h.cs.below hb, h.ram.below hb, h.xs.below hb, h.ys.below hb⟩

theorem Fam.msl {B E : Nat} {w : World} {M : MV} {A : MA} (h : Fam B E w (mvF M A)) : MSl w M A :=
  ⟨own_sl' (h.own (wRow A.ax M.x.length A.cx M.x) (by simp [mvF])), own_sl' (h.own (wRow A.ac M.cs.length A.cc M.cs) (by simp [mvF])), own_sl' (h.own (bRow A.ar M.ram.length A.cr M.ram) (by simp [mvF])), own_sl' (h.own (bRow A.ai M.d.xs.length A.ci M.d.xs) (by simp [mvF])), own_sl' (h.own (bRow A.ao M.d.ys.length A.co M.d.ys) (by simp [mvF]))⟩

theorem cells14 {W : World} {g : Nat} {v0 v1 v2 v3 v4 v5 v6 v7 v8 v9 v10 v11 v12 v13 : Value} {t : TypeId} (h : W.heap[g]? = some (.cells #[v0, v1, v2, v3, v4, v5, v6, v7, v8, v9, v10, v11, v12, v13] t (0, 0))) : W.cell? ⟨g, 0, none⟩ = some v0 ∧ W.cell? ⟨g, 1, none⟩ = some v1 ∧ W.cell? ⟨g, 2, none⟩ = some v2 ∧ W.cell? ⟨g, 3, none⟩ = some v3 ∧ W.cell? ⟨g, 4, none⟩ = some v4 ∧ W.cell? ⟨g, 5, none⟩ = some v5 ∧ W.cell? ⟨g, 6, none⟩ = some v6 ∧ W.cell? ⟨g, 7, none⟩ = some v7 ∧ W.cell? ⟨g, 8, none⟩ = some v8 ∧ W.cell? ⟨g, 9, none⟩ = some v9 ∧ W.cell? ⟨g, 10, none⟩ = some v10 ∧ W.cell? ⟨g, 11, none⟩ = some v11 ∧ W.cell? ⟨g, 12, none⟩ = some v12 ∧ W.cell? ⟨g, 13, none⟩ = some v13 := by
  simp [World.cell?, h]

theorem froz14 {W : World} {g : Nat} {cs : Array Value} {t : TypeId} (h : W.heap[g]? = some (.cells cs t (0, 0))) : W.frozen? ⟨g, 0, none⟩ = false ∧ W.frozen? ⟨g, 1, none⟩ = false ∧ W.frozen? ⟨g, 2, none⟩ = false ∧ W.frozen? ⟨g, 3, none⟩ = false ∧ W.frozen? ⟨g, 4, none⟩ = false ∧ W.frozen? ⟨g, 5, none⟩ = false ∧ W.frozen? ⟨g, 6, none⟩ = false ∧ W.frozen? ⟨g, 7, none⟩ = false ∧ W.frozen? ⟨g, 8, none⟩ = false ∧ W.frozen? ⟨g, 9, none⟩ = false ∧ W.frozen? ⟨g, 10, none⟩ = false ∧ W.frozen? ⟨g, 11, none⟩ = false ∧ W.frozen? ⟨g, 12, none⟩ = false ∧ W.frozen? ⟨g, 13, none⟩ = false :=
  ⟨froz h 0, froz h 1, froz h 2, froz h 3, froz h 4, froz h 5, froz h 6, froz h 7, froz h 8, froz h 9, froz h 10, froz h 11, froz h 12, froz h 13⟩

def put14 (w : World) (g : Nat) (x0 x1 x2 x3 x4 x5 x6 x7 x8 x9 x10 x11 x12 x13 : Value) : World := (((((((((((((w.setCell ⟨g, 0, none⟩ x0).setCell ⟨g, 1, none⟩ x1).setCell ⟨g, 2, none⟩ x2).setCell ⟨g, 3, none⟩ x3).setCell ⟨g, 4, none⟩ x4).setCell ⟨g, 5, none⟩ x5).setCell ⟨g, 6, none⟩ x6).setCell ⟨g, 7, none⟩ x7).setCell ⟨g, 8, none⟩ x8).setCell ⟨g, 9, none⟩ x9).setCell ⟨g, 10, none⟩ x10).setCell ⟨g, 11, none⟩ x11).setCell ⟨g, 12, none⟩ x12).setCell ⟨g, 13, none⟩ x13

theorem row_put14 {w : World} {g : Nat} {v0 v1 v2 v3 v4 v5 v6 v7 v8 v9 v10 v11 v12 v13 : Value} {t : TypeId} {fr : Nat × Nat} (h : w.heap[g]? = some (.cells #[v0, v1, v2, v3, v4, v5, v6, v7, v8, v9, v10, v11, v12, v13] t fr)) (x0 x1 x2 x3 x4 x5 x6 x7 x8 x9 x10 x11 x12 x13 : Value) : (put14 w g x0 x1 x2 x3 x4 x5 x6 x7 x8 x9 x10 x11 x12 x13).heap[g]? = some (.cells #[x0, x1, x2, x3, x4, x5, x6, x7, x8, x9, x10, x11, x12, x13] t fr) := by
  have h0 : (w.setCell ⟨g, 0, none⟩ x0).heap[g]? = some (.cells #[x0, v1, v2, v3, v4, v5, v6, v7, v8, v9, v10, v11, v12, v13] t fr) := row_set h 0 x0
  have h1 : ((w.setCell ⟨g, 0, none⟩ x0).setCell ⟨g, 1, none⟩ x1).heap[g]? = some (.cells #[x0, x1, v2, v3, v4, v5, v6, v7, v8, v9, v10, v11, v12, v13] t fr) := row_set h0 1 x1
  have h2 : (((w.setCell ⟨g, 0, none⟩ x0).setCell ⟨g, 1, none⟩ x1).setCell ⟨g, 2, none⟩ x2).heap[g]? = some (.cells #[x0, x1, x2, v3, v4, v5, v6, v7, v8, v9, v10, v11, v12, v13] t fr) := row_set h1 2 x2
  have h3 : ((((w.setCell ⟨g, 0, none⟩ x0).setCell ⟨g, 1, none⟩ x1).setCell ⟨g, 2, none⟩ x2).setCell ⟨g, 3, none⟩ x3).heap[g]? = some (.cells #[x0, x1, x2, x3, v4, v5, v6, v7, v8, v9, v10, v11, v12, v13] t fr) := row_set h2 3 x3
  have h4 : (((((w.setCell ⟨g, 0, none⟩ x0).setCell ⟨g, 1, none⟩ x1).setCell ⟨g, 2, none⟩ x2).setCell ⟨g, 3, none⟩ x3).setCell ⟨g, 4, none⟩ x4).heap[g]? = some (.cells #[x0, x1, x2, x3, x4, v5, v6, v7, v8, v9, v10, v11, v12, v13] t fr) := row_set h3 4 x4
  have h5 : ((((((w.setCell ⟨g, 0, none⟩ x0).setCell ⟨g, 1, none⟩ x1).setCell ⟨g, 2, none⟩ x2).setCell ⟨g, 3, none⟩ x3).setCell ⟨g, 4, none⟩ x4).setCell ⟨g, 5, none⟩ x5).heap[g]? = some (.cells #[x0, x1, x2, x3, x4, x5, v6, v7, v8, v9, v10, v11, v12, v13] t fr) := row_set h4 5 x5
  have h6 : (((((((w.setCell ⟨g, 0, none⟩ x0).setCell ⟨g, 1, none⟩ x1).setCell ⟨g, 2, none⟩ x2).setCell ⟨g, 3, none⟩ x3).setCell ⟨g, 4, none⟩ x4).setCell ⟨g, 5, none⟩ x5).setCell ⟨g, 6, none⟩ x6).heap[g]? = some (.cells #[x0, x1, x2, x3, x4, x5, x6, v7, v8, v9, v10, v11, v12, v13] t fr) := row_set h5 6 x6
  have h7 : ((((((((w.setCell ⟨g, 0, none⟩ x0).setCell ⟨g, 1, none⟩ x1).setCell ⟨g, 2, none⟩ x2).setCell ⟨g, 3, none⟩ x3).setCell ⟨g, 4, none⟩ x4).setCell ⟨g, 5, none⟩ x5).setCell ⟨g, 6, none⟩ x6).setCell ⟨g, 7, none⟩ x7).heap[g]? = some (.cells #[x0, x1, x2, x3, x4, x5, x6, x7, v8, v9, v10, v11, v12, v13] t fr) := row_set h6 7 x7
  have h8 : (((((((((w.setCell ⟨g, 0, none⟩ x0).setCell ⟨g, 1, none⟩ x1).setCell ⟨g, 2, none⟩ x2).setCell ⟨g, 3, none⟩ x3).setCell ⟨g, 4, none⟩ x4).setCell ⟨g, 5, none⟩ x5).setCell ⟨g, 6, none⟩ x6).setCell ⟨g, 7, none⟩ x7).setCell ⟨g, 8, none⟩ x8).heap[g]? = some (.cells #[x0, x1, x2, x3, x4, x5, x6, x7, x8, v9, v10, v11, v12, v13] t fr) := row_set h7 8 x8
  have h9 : ((((((((((w.setCell ⟨g, 0, none⟩ x0).setCell ⟨g, 1, none⟩ x1).setCell ⟨g, 2, none⟩ x2).setCell ⟨g, 3, none⟩ x3).setCell ⟨g, 4, none⟩ x4).setCell ⟨g, 5, none⟩ x5).setCell ⟨g, 6, none⟩ x6).setCell ⟨g, 7, none⟩ x7).setCell ⟨g, 8, none⟩ x8).setCell ⟨g, 9, none⟩ x9).heap[g]? = some (.cells #[x0, x1, x2, x3, x4, x5, x6, x7, x8, x9, v10, v11, v12, v13] t fr) := row_set h8 9 x9
  have h10 : (((((((((((w.setCell ⟨g, 0, none⟩ x0).setCell ⟨g, 1, none⟩ x1).setCell ⟨g, 2, none⟩ x2).setCell ⟨g, 3, none⟩ x3).setCell ⟨g, 4, none⟩ x4).setCell ⟨g, 5, none⟩ x5).setCell ⟨g, 6, none⟩ x6).setCell ⟨g, 7, none⟩ x7).setCell ⟨g, 8, none⟩ x8).setCell ⟨g, 9, none⟩ x9).setCell ⟨g, 10, none⟩ x10).heap[g]? = some (.cells #[x0, x1, x2, x3, x4, x5, x6, x7, x8, x9, x10, v11, v12, v13] t fr) := row_set h9 10 x10
  have h11 : ((((((((((((w.setCell ⟨g, 0, none⟩ x0).setCell ⟨g, 1, none⟩ x1).setCell ⟨g, 2, none⟩ x2).setCell ⟨g, 3, none⟩ x3).setCell ⟨g, 4, none⟩ x4).setCell ⟨g, 5, none⟩ x5).setCell ⟨g, 6, none⟩ x6).setCell ⟨g, 7, none⟩ x7).setCell ⟨g, 8, none⟩ x8).setCell ⟨g, 9, none⟩ x9).setCell ⟨g, 10, none⟩ x10).setCell ⟨g, 11, none⟩ x11).heap[g]? = some (.cells #[x0, x1, x2, x3, x4, x5, x6, x7, x8, x9, x10, x11, v12, v13] t fr) := row_set h10 11 x11
  have h12 : (((((((((((((w.setCell ⟨g, 0, none⟩ x0).setCell ⟨g, 1, none⟩ x1).setCell ⟨g, 2, none⟩ x2).setCell ⟨g, 3, none⟩ x3).setCell ⟨g, 4, none⟩ x4).setCell ⟨g, 5, none⟩ x5).setCell ⟨g, 6, none⟩ x6).setCell ⟨g, 7, none⟩ x7).setCell ⟨g, 8, none⟩ x8).setCell ⟨g, 9, none⟩ x9).setCell ⟨g, 10, none⟩ x10).setCell ⟨g, 11, none⟩ x11).setCell ⟨g, 12, none⟩ x12).heap[g]? = some (.cells #[x0, x1, x2, x3, x4, x5, x6, x7, x8, x9, x10, x11, x12, v13] t fr) := row_set h11 12 x12
  have h13 : ((((((((((((((w.setCell ⟨g, 0, none⟩ x0).setCell ⟨g, 1, none⟩ x1).setCell ⟨g, 2, none⟩ x2).setCell ⟨g, 3, none⟩ x3).setCell ⟨g, 4, none⟩ x4).setCell ⟨g, 5, none⟩ x5).setCell ⟨g, 6, none⟩ x6).setCell ⟨g, 7, none⟩ x7).setCell ⟨g, 8, none⟩ x8).setCell ⟨g, 9, none⟩ x9).setCell ⟨g, 10, none⟩ x10).setCell ⟨g, 11, none⟩ x11).setCell ⟨g, 12, none⟩ x12).setCell ⟨g, 13, none⟩ x13).heap[g]? = some (.cells #[x0, x1, x2, x3, x4, x5, x6, x7, x8, x9, x10, x11, x12, x13] t fr) := row_set h12 13 x13
  exact h13

theorem below_put14 {B : Nat} {v w : World} (h : Below B v w) {g : Nat} (hg : B ≤ g) (x0 x1 x2 x3 x4 x5 x6 x7 x8 x9 x10 x11 x12 x13 : Value) : Below B v (put14 w g x0 x1 x2 x3 x4 x5 x6 x7 x8 x9 x10 x11 x12 x13) :=
  ((((((((((((((h.setCell (p := ⟨g, 0, none⟩) hg x0).setCell (p := ⟨g, 1, none⟩) hg x1).setCell (p := ⟨g, 2, none⟩) hg x2).setCell (p := ⟨g, 3, none⟩) hg x3).setCell (p := ⟨g, 4, none⟩) hg x4).setCell (p := ⟨g, 5, none⟩) hg x5).setCell (p := ⟨g, 6, none⟩) hg x6).setCell (p := ⟨g, 7, none⟩) hg x7).setCell (p := ⟨g, 8, none⟩) hg x8).setCell (p := ⟨g, 9, none⟩) hg x9).setCell (p := ⟨g, 10, none⟩) hg x10).setCell (p := ⟨g, 11, none⟩) hg x11).setCell (p := ⟨g, 12, none⟩) hg x12).setCell (p := ⟨g, 13, none⟩) hg x13)

theorem Fam.put14 {B E : Nat} {w : World} {L : List FRow} (h : Fam B E w L) (g : Nat) (hg : g < B ∨ E ≤ g) (x0 x1 x2 x3 x4 x5 x6 x7 x8 x9 x10 x11 x12 x13 : Value) : Fam B E (put14 w g x0 x1 x2 x3 x4 x5 x6 x7 x8 x9 x10 x11 x12 x13) L :=
  ((((((((((((((h.set ⟨g, 0, none⟩ x0 hg).set ⟨g, 1, none⟩ x1 hg).set ⟨g, 2, none⟩ x2 hg).set ⟨g, 3, none⟩ x3 hg).set ⟨g, 4, none⟩ x4 hg).set ⟨g, 5, none⟩ x5 hg).set ⟨g, 6, none⟩ x6 hg).set ⟨g, 7, none⟩ x7 hg).set ⟨g, 8, none⟩ x8 hg).set ⟨g, 9, none⟩ x9 hg).set ⟨g, 10, none⟩ x10 hg).set ⟨g, 11, none⟩ x11 hg).set ⟨g, 12, none⟩ x12 hg).set ⟨g, 13, none⟩ x13 hg)

theorem mac_size : (Tryz.prog.info? 29).map (·.size) = some 14 := by kernel_rfl

end Go.Proofs.YtilhcfhcdplicaaGreatDoor
