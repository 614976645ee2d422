/- Own lemmas. -/
import Derived.Test.YtcdjfiljlahaeaaK08
import Derived.Test.YtcdjfiljlahaeaaK11
import Derived.Laws.Tables
namespace Go.Proofs.Ytcdjfiljlahaeaa
open Go.RowKit
set_option linter.unusedVariables false

def rawM (ram : List Int) : MV := ⟨2147483648, List.replicate 32 0, 3, List.replicate 22 0, ram, zeroD, 0, false, false⟩

def newM (ram : List Int) : MV := if ramOkB ram.length = true then lineM (rawM ram) else zeroM

theorem zeros64 {w w' : World} {m : Nat} (hown : w'.ownsRow w.heap.size 25 1 (.slice (some ⟨w.heap.size, 0, none⟩) m m) m (madeCells (Value.int .u64 0).cells (m * 1)).toList) : w'.ownsRow w.heap.size 25 1 (.slice (some ⟨w.heap.size, 0, none⟩) m m) m ((List.replicate m (0 : Int)).map (Value.int .u64)) := by
  rw [List.map_replicate, ← toList_madeCells_one]; simpa [Value.cells] using hown

theorem wpH_make {K : Act → World → Prop} {Q : Exit → Act → World → Prop} {o : Oper} {a : Act} {W : World} {ys : Nat → Option Bool} (hw : Region.wanted o ys = true) (m : Nat) (l c : Operand) (hop : o.op = Op.makeSlice 26 l c) (hl : a.eval l = .int .i64 m) (hc : a.eval c = .int .i64 m) (hm : m ≤ 1048576)
    (h : ∀ W', W'.ownsRow W.heap.size 25 1 (.slice (some ⟨W.heap.size, 0, none⟩) m m) m ((List.replicate m (0 : Int)).map (Value.int .u64)) → Below W.heap.size W W' → K (a.put o.dst (.slice (some ⟨W.heap.size, 0, none⟩) m m)) W') :
    if Region.wanted o ys = true then Oper.wp Try.prog o a W K Q else K (a.put o.dst undef) W := by
  obtain ⟨i0, hi, hz0, hz1, hz2⟩ := info_parts infoW
  obtain ⟨w', hrun, r1, r2⟩ := run_make_full (P := Try.prog) W W.heap.size 26 25 i0 (.int .u64 0) 1 Try.underlying26 hi hz0 hz1 .i64 .i64 m (by rw [hz2]; omega) (by unfold maxLen; omega) (Nat.le_refl _)
  rw [if_pos hw]
  unfold Oper.wp
  simp [execOp, hop, hl, hc, hrun, Result.andThen]
  exact h _ (zeros64 r1) ((Below.refl _ _).grown r2 (Nat.le_refl _) (by intro k h; cases h))

theorem app8_new (ty : TypeId) {W : World} (g : Nat) (hown : W.ownsRow 0 5 1 (.slice (some ⟨g, 0, none⟩) 0 0) 0 []) (ad : Addr) (m c : Nat) (zs : List Int) (hz : zs.length = m) (h0 : 0 < m) (hm : m ≤ 1048576) (hsl : Sl .u8 W (some ad) zs) :
    ∃ (k : Nat) (W' : World), (Builtin.append_ #[22, 22] ty #[.slice (some ⟨g, 0, none⟩) 0 0, .slice (some ad) m c]).run Try.prog W = .ok (.slice (some ⟨W.heap.size, 0, none⟩) m k) W' ∧ W'.ownsRow W.heap.size 5 1 (.slice (some ⟨W.heap.size, 0, none⟩) m k) m (zs.map (Value.int .u8)) ∧ Below W.heap.size W W' := by
  obtain ⟨i0, hi, hz0, hz1, hz2⟩ := info_parts Try.info5
  have hnews : ∀ j u, (zs.map (Value.int .u8))[j]? = some u → W.cell? (ad.add j) = some u := by
    intro j u hu
    have hj : j < zs.length := by
      rcases Nat.lt_or_ge j zs.length with h | h
      · exact h
      · rw [List.getElem?_eq_none (by simpa using h)] at hu; cases hu
    obtain ⟨b, off, e, _, hc⟩ := hsl j hj
    cases e
    rw [adds, hc]
    rw [List.getElem?_map, List.getElem?_eq_getElem hj] at hu
    rw [List.getD_eq_getElem?_getD, List.getElem?_eq_getElem hj]
    exact hu
  have hl : (zs.map (Value.int .u8)).length = m * i0.size := by rw [List.length_map, hz, hz1]; omega
  obtain ⟨v', w', hr, h2, h3, h4⟩ := run_append_own (P := Try.prog) W 0 22 ty 5 i0 (.int .u8 0) 1 1 Try.underlying22 hi hz0 hz1 hz2 rfl (by decide) _ 0 [] hown ad m c (zs.map (Value.int .u8)) (by rw [List.length_map, hz]; omega) hnews (ints_oneCell _ _) (by unfold maxLen; omega) (by omega) (Nat.zero_le _)
  have hg := run_append_grow (P := Try.prog) W 22 ty 5 i0 (.int .u8 0) Try.underlying22 hi hz0 ⟨g, 0, none⟩ 0 0 [] (by simp) (fun j v h => by simp at h) ad m c (zs.map (Value.int .u8)) hl hnews (by omega) (by omega) (growslice_fits (by omega) (by rw [hz2]; omega))
  rw [hg] at hr
  simp only [Nat.zero_add, List.nil_append] at h2 hr hg
  injection hr with e1 e2
  subst e1
  subst e2
  refine ⟨_, _, hg, ?_, (Below.refl _ _).drew.alloc (by exact Nat.le_refl _) _⟩
  refine ⟨h2.1, ?_⟩
  rcases h2.2 with ⟨e, e0⟩ | ⟨g', cap, cur, e, hg', r⟩
  · cases e
  · refine .inr ⟨g', cap, cur, e, ?_, r⟩
    simp only [Value.slice.injEq, Option.some.injEq, Addr.mk.injEq] at e
    omega

theorem wpH_app8 {K : Act → World → Prop} {Q : Exit → Act → World → Prop} {o : Oper} {a : Act} {W : World} {ys : Nat → Option Bool} (hw : Region.wanted o ys = true) (s x : Operand) (hop : o.op = .call { callee := .builtin .append, args := #[s, x], argTypes := #[22, 22] }) (g : Nat) (hs : a.eval s = .slice (some ⟨g, 0, none⟩) 0 0) (ad : Addr) (m c : Nat) (zs : List Int) (hx : a.eval x = .slice (some ad) m c)
    (hown : W.ownsRow 0 5 1 (.slice (some ⟨g, 0, none⟩) 0 0) 0 []) (hz : zs.length = m) (h0 : 0 < m) (hm : m ≤ 1048576) (hsl : Sl .u8 W (some ad) zs)
    (h : ∀ k W', W'.ownsRow W.heap.size 5 1 (.slice (some ⟨W.heap.size, 0, none⟩) m k) m (zs.map (Value.int .u8)) → Below W.heap.size W W' → K (a.put o.dst (.slice (some ⟨W.heap.size, 0, none⟩) m k)) W') :
    if Region.wanted o ys = true then Oper.wp Try.prog o a W K Q else K (a.put o.dst undef) W := by
  obtain ⟨k, W', hr, h1, h2⟩ := app8_new o.type g hown ad m c zs hz h0 hm hsl
  rw [if_pos hw]
  unfold Oper.wp execOp
  simp only [hop, resolve, invoke, builtin, Sem.run_bind, Sem.run_pure, Result.andThen_ok, List.map_toArray, List.map_cons, List.map_nil, hs, hx, hr]
  exact h _ _ h1 h2

theorem fam_new {B E : Nat} {w : World} {x c r : FRow} {B1 E1 B2 E2 B3 E3 : Nat} (hx : Fam B1 E1 w [x]) (hc : Fam B2 E2 w [c]) (hr : Fam B3 E3 w [r]) (h1 : B ≤ B1 ∧ E1 ≤ E) (h2 : B ≤ B2 ∧ E2 ≤ E) (h3 : B ≤ B3 ∧ E3 ≤ E) (d12 : E1 ≤ B2 ∨ E2 ≤ B1) (d13 : E1 ≤ B3 ∨ E3 ≤ B1) (d23 : E2 ≤ B3 ∨ E3 ≤ B2) : Fam B E w [x, c, r, bRow none 0 0 [], bRow none 0 0 []] := by
  have mx : x ∈ [x] := List.mem_singleton.2 rfl
  have mc : c ∈ [c] := List.mem_singleton.2 rfl
  have mr : r ∈ [r] := List.mem_singleton.2 rfl
  have lx := fun k e => And.intro ((hx.own x mx).lt k e).1 (hx.hi x mx k e)
  have lc := fun k e => And.intro ((hc.own c mc).lt k e).1 (hc.hi c mc k e)
  have lr := fun k e => And.intro ((hr.own r mr).lt k e).1 (hr.hi r mr k e)
  have en : ∀ k, (bRow none 0 0 []).v.ownBlock ≠ some k := fun k e => by cases e
  refine ⟨fun q hq => ?_, fun q hq k e => ?_, ?_⟩
  · simp only [List.mem_cons, List.not_mem_nil, or_false] at hq
    rcases hq with rfl | rfl | rfl | rfl | rfl
    · exact own_low (hx.own _ mx) h1.1
    · exact own_low (hc.own _ mc) h2.1
    · exact own_low (hr.own _ mr) h3.1
    · exact ⟨rfl, .inl ⟨rfl, rfl⟩⟩
    · exact ⟨rfl, .inl ⟨rfl, rfl⟩⟩
  · simp only [List.mem_cons, List.not_mem_nil, or_false] at hq
    rcases hq with rfl | rfl | rfl | rfl | rfl
    · have := lx k e; omega
    · have := lc k e; omega
    · have := lr k e; omega
    · cases e
    · cases e
  · simp only [List.pairwise_cons, List.mem_cons, List.not_mem_nil, or_false]
    refine ⟨fun s hs k e e2 => ?_, fun s hs k e e2 => ?_, fun s hs k e e2 => ?_, fun s hs k e => (by cases e), fun s hs => hs.elim, List.Pairwise.nil⟩
    · rcases hs with rfl | rfl | rfl | rfl
      · have := lx k e; have := lc k e2; omega
      · have := lx k e; have := lr k e2; omega
      · cases e2
      · cases e2
    · rcases hs with rfl | rfl | rfl
      · have := lc k e; have := lr k e2; omega
      · cases e2
      · cases e2
    · rcases hs with rfl | rfl
      · cases e2
      · cases e2

theorem fam_one {W W' : World} {q : FRow} (h : W'.ownsRow W.heap.size q.t 1 q.v q.n q.xs) (hb : Below W.heap.size W W') : Fam W.heap.size W'.heap.size W' [q] := (Fam.nil W.heap.size W.heap.size W').snoc q _ _ h (Nat.le_refl _) (Nat.le_refl _) (Nat.le_refl _) hb.size

theorem raw_len (ram : List Int) (h : ram.length ≤ 1048576) : MLen (rawM ram) := ⟨by simp [rawM], by simp [rawM], h, by simp [rawM, zeroD], by simp [rawM, zeroD]⟩

theorem ramOk_pos {n : Nat} (h : ramOkB n = true) : 0 < n := by
  rcases Nat.eq_zero_or_pos n with h0 | h0
  · subst h0; revert h; decide
  · exact h0

theorem wpH_row {K : Act → World → Prop} {Q : Exit → Act → World → Prop} {o : Oper} {a : Act} {W : World} {ys : Nat → Option Bool} (hw : Region.wanted o ys = true) (ty : TypeId) (p x : Operand) (hop : o.op = .store ty p x) (g : Nat) (hp : a.eval p = .pointer (some ⟨g, 0, none⟩)) (old cells : Array Value) (hx : a.eval x = .agg cells) (t : TypeId) (hg : W.heap[g]? = some (.cells old t (0, 0)))
    (hi : (Try.prog.info? ty).map (·.size) = some cells.size) (ho : old.size = cells.size) (h1 : cells.all (·.oneCell') = true) (h : K (a.put o.dst undef) (W.setRow g cells)) :
    if Region.wanted o ys = true then Oper.wp Try.prog o a W K Q else K (a.put o.dst undef) W := by
  rw [if_pos hw]
  exact wp_store_row ty p x hop g cells hp hx t old hg hi ho h1 h

theorem fam_setRow {B E : Nat} {w : World} {L : List FRow} (h : Fam B E w L) (g : Nat) (hg : ∀ q ∈ L, q.v.ownBlock ≠ some g) (cs : Array Value) : Fam B E (w.setRow g cs) L :=
  ⟨fun r hr => fown_of (h.own r hr) (fun k e => setRow_other w g k cs (fun e2 => hg r hr (by rw [← e2]; exact e))), h.hi, h.ne⟩

theorem below_row9 {B : Nat} {v w : World} (h : Below B v w) {g : Nat} (hg : B ≤ g) (cs : Array Value) : Below B v (w.setRow g cs) :=
  ⟨h.os, h.tape, h.output, by rw [setRow_size]; exact h.size, fun k hk => (setRow_other w g k cs (by omega)).trans (h.block k hk)⟩

theorem raw_built (gx gc n cr : Nat) (ar : Option Addr) : Try.prog.built 30 [(0, .int .u64 2147483648), (1, .slice (some ⟨gx, 0, none⟩) 32 32), (2, .int .i64 3), (3, .slice (some ⟨gc, 0, none⟩) 22 22), (4, .slice ar n cr)] = some #[.int .u64 2147483648, .slice (some ⟨gx, 0, none⟩) 32 32, .int .i64 3, .slice (some ⟨gc, 0, none⟩) 22 22, .slice ar n cr, .int .u64 0, .int .u64 0, .bool false, .slice none 0 0, .slice none 0 0, .int .i64 0, .int .u64 0, .bool false, .bool false] := by kernel_rfl

theorem raw_one (gx gc n cr : Nat) (ar : Option Addr) : (#[.int .u64 2147483648, .slice (some ⟨gx, 0, none⟩) 32 32, .int .i64 3, .slice (some ⟨gc, 0, none⟩) 22 22, .slice ar n cr, .int .u64 0, .int .u64 0, .bool false, .slice none 0 0, .slice none 0 0, .int .i64 0, .int .u64 0, .bool false, .bool false] : Array Value).all (·.oneCell') = true := by kernel_rfl

theorem yields_build {P : Program} {o : Oper} {a : Act} {w : World} (t : TypeId) (parts : Array (Nat × Operand)) (ho : o.op = .build t parts) (vs : List (Nat × Value)) (hv : parts.toList.map (fun p => (p.1, a.eval p.2)) = vs) (cells : Array Value) (h : P.built t vs = some cells) : (execOp a.eval o).run P w = .ok (.value (.agg cells)) w := by
  have hv2 : (parts.map fun (i, x) => (i, a.eval x)).toList = vs := by rw [Array.toList_map]; exact hv
  subst hv2
  clear hv
  unfold execOp
  simp only [ho, Sem.run_bind, run_build w t _ cells h, Result.andThen_ok]
  rfl

theorem new_ne {w : World} {x c r : FRow} {B1 E1 B2 E2 B3 E3 g : Nat} (hx : Fam B1 E1 w [x]) (hc : Fam B2 E2 w [c]) (hr : Fam B3 E3 w [r]) (h1 : g < B1 ∨ E1 ≤ g) (h2 : g < B2 ∨ E2 ≤ g) (h3 : g < B3 ∨ E3 ≤ g) : ∀ q ∈ [x, c, r, bRow none 0 0 [], bRow none 0 0 []], q.v.ownBlock ≠ some g := by
  intro q hq e
  simp only [List.mem_cons, List.not_mem_nil, or_false] at hq
  rcases hq with rfl | rfl | rfl | rfl | rfl
  · have h4 := ((hx.own q (List.mem_singleton.2 rfl)).lt g e).1; have h5 := hx.hi q (List.mem_singleton.2 rfl) g e; omega
  · have h4 := ((hc.own q (List.mem_singleton.2 rfl)).lt g e).1; have h5 := hc.hi q (List.mem_singleton.2 rfl) g e; omega
  · have h4 := ((hr.own q (List.mem_singleton.2 rfl)).lt g e).1; have h5 := hr.hi q (List.mem_singleton.2 rfl) g e; omega
  · cases e
  · cases e

end Go.Proofs.Ytcdjfiljlahaeaa
