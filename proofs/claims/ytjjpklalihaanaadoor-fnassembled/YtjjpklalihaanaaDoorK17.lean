/- Own lemmas. -/
import Derived.Test.YtjjpklalihaanaaDoorK01
import Derived.Test.YtjjpklalihaanaaDoorK13
import Derived.Test.YtjjpklalihaanaaDoorK16
import Derived.Laws.IdiomStrings
import Derived.Lib.SlBytesConst
import Derived.Maps.AppendAt
import Derived.Great.BuildSlice
import Derived.Deep.Cut
import Derived.Deep.RegionWith
namespace Go.Proofs.YtjjpklalihaanaaDoor
open Go.RowKit
set_option linter.unusedVariables false

structure BBd (g gb m c : Nat) (wr : World) : Prop where
  ne : gb ≠ g
  lt : gb < wr.heap.size
  le : m ≤ c
  cell : ∀ k, k < m → ∃ z : Int, wr.cell? ⟨gb, k, none⟩ = some (.int .u8 z) ∧ wr.frozen? ⟨gb, k, none⟩ = false

theorem frozen_same {w w' : World} {b : Nat} (h : w'.heap[b]? = w.heap[b]?) (k : Nat) : w'.frozen? ⟨b, k, none⟩ = w.frozen? ⟨b, k, none⟩ := by
  unfold World.frozen?
  rw [h]

theorem cell_same {w w' : World} {b : Nat} (h : w'.heap[b]? = w.heap[b]?) (k : Nat) : w'.cell? ⟨b, k, none⟩ = w.cell? ⟨b, k, none⟩ := by
  unfold World.cell?
  rw [h]

theorem BBd.grown {g gb m c : Nat} {wr wx : World} (h : BBd g gb m c wr) {row : Option Nat} (hg : wr.grownBy wx row) (hne : row ≠ some gb) : BBd g gb m c wx := by
  have hb := hg.block gb h.lt (fun e => hne e.symm)
  refine ⟨h.ne, Nat.lt_of_lt_of_le h.lt hg.size, h.le, fun k hk => ?_⟩
  obtain ⟨z, h1, h2⟩ := h.cell k hk
  exact ⟨z, (cell_same hb k).trans h1, (frozen_same hb k).trans h2⟩

theorem BBd.cs {w0 : World} {g : Nat} {a : Option Addr} {n cap : Nat} {gb m c : Nat} {wr wx : World} (h : BBd g gb m c wr) (hs : Cs w0 g a n cap wr wx) : BBd g gb m c wx :=
  h.grown hs.2 (fun e => h.ne (Option.some.inj e).symm)

theorem BBd.below {g gb m c : Nat} {wr wx : World} (h : BBd g gb m c wr) (hb : Below wr.heap.size wr wx) : BBd g gb m c wx := by
  have hbb := hb.block gb h.lt
  refine ⟨h.ne, Nat.lt_of_lt_of_le h.lt hb.size, h.le, fun k hk => ?_⟩
  obtain ⟨z, h1, h2⟩ := h.cell k hk
  exact ⟨z, (cell_same hbb k).trans h1, (frozen_same hbb k).trans h2⟩

theorem BBd.list {g gb m c : Nat} {wr : World} (h : BBd g gb m c wr) : ∃ zs : List Int, zs.length = m ∧ ∀ i, i < m → wr.cell? ⟨gb, 0 + i, none⟩ = some (.int .u8 (zs.getD i 0)) := by
  refine ⟨(List.range m).map (fun k => match wr.cell? ⟨gb, k, none⟩ with | some (.int _ z) => z | _ => 0), by simp, fun i hi => ?_⟩
  obtain ⟨z, h1, _⟩ := h.cell i hi
  rw [Nat.zero_add, h1]
  simp [List.getD, hi, h1]

theorem BBd.put {g gb m c : Nat} {wr : World} (h : BBd g gb m c wr) (k : Nat) (hk : k < m) (z : Int) : BBd g gb m c (wr.setCell ⟨gb, k, none⟩ (.int .u8 z)) := by
  obtain ⟨cs, t, fr, hrow⟩ : ∃ cs t fr, wr.heap[gb]? = some (.cells cs t fr) := by
    obtain ⟨z', h1, _⟩ := h.cell k hk
    unfold World.cell? at h1
    cases hh : wr.heap[gb]? with
    | none => rw [hh] at h1; simp at h1
    | some o => rw [hh] at h1; cases o <;> simp at h1 <;> exact ⟨_, _, _, rfl⟩
  have hr2 : (wr.setCell ⟨gb, k, none⟩ (.int .u8 z)).heap[gb]? = some (.cells (cs.setIfInBounds k (.int .u8 z)) t fr) := by
    simp [World.setCell, Array.getElem?_modify, hrow]
  refine ⟨h.ne, by simpa [World.setCell] using h.lt, h.le, fun j hj => ?_⟩
  obtain ⟨z', h1, h2⟩ := h.cell j hj
  have hc1 : cs[j]? = some (.int .u8 z') := by
    unfold World.cell? at h1
    rw [hrow] at h1
    simpa using h1
  have hjl : j < cs.size := by
    by_cases hl : j < cs.size
    · exact hl
    · rw [Array.getElem?_eq_none (by omega)] at hc1; cases hc1
  have hf : (wr.setCell ⟨gb, k, none⟩ (.int .u8 z)).frozen? ⟨gb, j, none⟩ = false := by
    unfold World.frozen? at h2 ⊢
    rw [hr2]
    rw [hrow] at h2
    simpa using h2
  by_cases hjk : j = k
  · subst hjk
    refine ⟨z, ?_, hf⟩
    unfold World.cell?
    rw [hr2]
    simp [hjl]
  · refine ⟨z', ?_, hf⟩
    unfold World.cell?
    rw [hr2]
    simp [Array.getElem?_setIfInBounds_ne (Ne.symm hjk), hc1]

theorem Cs.putB {w0 : World} {g : Nat} {a : Option Addr} {n cap : Nat} {w wr : World} (h : Cs w0 g a n cap w wr) {gb m c : Nat} (hb : BBd g gb m c wr) (hlo : w.heap.size ≤ gb) (hw0 : w0.heap.size ≤ w.heap.size) (k : Nat) (v : Value) : Cs w0 g a n cap w (wr.setCell ⟨gb, k, none⟩ v) := by
  obtain ⟨⟨h1, h2, i, x, hi, hrow⟩, h3⟩ := h
  refine ⟨⟨h1, h2.setCell (by show w0.heap.size ≤ gb; omega) _, i, x, hi, ?_⟩, ?_⟩
  · rw [heap_setCell_other _ _ _ _ (by show g ≠ gb; exact fun e => hb.ne e.symm)]; exact hrow
  · refine ⟨h3.os, h3.tape, h3.output, by simpa [World.setCell] using h3.size, fun j hj hne => ?_⟩
    rw [heap_setCell_other _ _ _ _ (by show j ≠ gb; omega)]
    exact h3.block j hj hne

theorem bytes_start (w : World) (g : Nat) (hg : g < w.heap.size) (s : ByteArray) (cap : Nat) (hc : s.size ≤ cap) :
    BBd g w.heap.size s.size cap (w.drew.alloc (.cells (bytesRow s cap) 5 ((bytesRow s cap).size, (bytesRow s cap).size + 1))) := by
  refine ⟨by omega, by simp, hc, fun k hk => ?_⟩
  have hk2 : k < s.data.size := hk
  have h1 := bytesRow_at s cap k hk2
  have hkr : k < (bytesRow s cap).size := by
    by_cases hl : k < (bytesRow s cap).size
    · exact hl
    · rw [Array.getElem?_eq_none (by omega)] at h1; cases h1
  refine ⟨_, (World.cell?_alloc_mark w.drew _ _ _ k).trans h1, ?_⟩
  have := World.frozen?_alloc_mark w.drew (bytesRow s cap) 5 (bytesRow s cap).size ((bytesRow s cap).size + 1) k
  refine this.trans ?_
  simp
  omega

theorem Cs.al {w0 : World} {g : Nat} {a : Option Addr} {n cap : Nat} {w wr : World} (h : Cs w0 g a n cap w wr) (o : Obj) : Cs w0 g a n cap w (wr.alloc o) :=
  ⟨h.1.grown (grown_alloc wr o none), grown_trans h.2 (grown_alloc wr o (some g))⟩

theorem Cs.other {w0 : World} {g : Nat} {a : Option Addr} {n cap : Nat} {w wr wx : World} (h : Cs w0 g a n cap w wr) {row : Option Nat} (hg : wr.grownBy wx row) (hne : row ≠ some g) (hlo : ∀ k, row = some k → w.heap.size ≤ k) (hw0 : w0.heap.size ≤ w.heap.size) : Cs w0 g a n cap w wx := by
  have hgl := h.1.lt
  obtain ⟨⟨h1, h2, i, x, hi, hrow⟩, h3⟩ := h
  refine ⟨⟨h1, h2.grown hg (by have := h3.size; omega) (fun k hk => by have := hlo k hk; omega), i, x, hi, ?_⟩, ?_⟩
  · rw [hg.block g hgl (fun e => hne e.symm)]; exact hrow
  · refine ⟨hg.os.trans h3.os, hg.tape.trans h3.tape, hg.output.trans h3.output, Nat.le_trans h3.size hg.size, fun j hj hjg => ?_⟩
    have hjl : j < wr.heap.size := Nat.lt_of_lt_of_le hj h3.size
    exact (hg.block j hjl (fun e => by have := hlo j e.symm; omega)).trans (h3.block j hj hjg)

theorem u8_info : (Tryd.prog.info? 5).map (fun i => (i.zero, i.size, i.bytes)) = some (some (.int .u8 0), 1, 1) := by kernel_rfl

theorem push_many {w0 : World} {g : Nat} {a : Option Addr} {n cap : Nat} {w wr : World} (hC : Cs w0 g a n cap w wr) (hw0 : w0.heap.size ≤ w.heap.size) {gb m c : Nat} (hB : BBd g gb m c wr) (v : Value) (N : Nat) (xs : List Int) (hO : wr.ownsRow w.heap.size 5 1 v N (xs.map (Value.int .u8))) (hv : v ≠ .slice none 0 0)
    (hap : ∀ k, v.ownBlock = some k → k ≠ g ∧ k ≠ gb) (hN : N ≤ 200000) (ad : Addr) (q cc : Nat) (ys : List Int) (hy : ys.length = q) (hq : q ≤ 200000) (hnews : ∀ j u, (ys.map (Value.int .u8))[j]? = some u → wr.cell? (ad.add j) = some u) (ty : TypeId) :
    ∃ v' w', (Builtin.append_ #[22, 22] ty #[v, .slice (some ad) q cc]).run Tryd.prog wr = .ok v' w' ∧ Cs w0 g a n cap w w' ∧ BBd g gb m c w' ∧ w'.ownsRow w.heap.size 5 1 v' (N + q) ((xs ++ ys).map (Value.int .u8)) ∧ v' ≠ .slice none 0 0 ∧ (∀ k, v'.ownBlock = some k → k ≠ g ∧ k ≠ gb) ∧ (∀ r, r < wr.heap.size → v.ownBlock ≠ some r → w'.heap[r]? = wr.heap[r]?) := by
  obtain ⟨i0, hi, hz0, hz1, hz2⟩ := info_parts u8_info
  obtain ⟨v', w', hr, ho, hg, hnil, hat⟩ := run_append_own_at (P := Tryd.prog) wr w.heap.size 22 ty 5 i0 (.int .u8 0) 1 1 Tryd.underlying22 hi hz0 hz1 hz2 rfl (by decide) v N (xs.map (Value.int .u8)) hO ad q cc (ys.map (Value.int .u8)) (by simp [hy]) hnews (by intro u hu; obtain ⟨z, _, rfl⟩ := List.mem_map.1 hu; rfl) (by unfold maxLen; omega) (by omega) hC.2.size
  refine ⟨v', w', hr, hC.other hg (fun e => (hap g e).1 rfl) ?_ hw0, hB.grown hg (fun e => (hap gb e).2 rfl), by rw [List.map_append]; exact ho, fun e => hv (hnil.1 e).1, ?_, fun r hr hne => hg.block r hr (fun e => hne e.symm)⟩
  · intro k hk
    rcases hO.2 with ⟨e1, _⟩ | ⟨g', cap', cur, e1, hgg, _⟩
    · rw [e1] at hk; cases hk
    · rw [e1] at hk
      have h9 : g' = k := Option.some.inj hk
      omega
  · intro k hk
    rcases hat with e | e
    · exact hap k (by rw [← e]; exact hk)
    · rw [hk] at e
      have h9 : k = wr.heap.size := Option.some.inj e
      have h1 := hC.1.lt
      have h2 := hB.lt
      exact ⟨by omega, by omega⟩

theorem bbd_own {w0 : World} {g : Nat} {w wr : World} {v : Value} {N : Nat} {xs : List Int} (hO : wr.ownsRow w.heap.size 5 1 v N (xs.map (Value.int .u8))) (hv : v ≠ .slice none 0 0) (hap : ∀ k, v.ownBlock = some k → k ≠ g) : ∃ gb c, v = .slice (some ⟨gb, 0, none⟩) N c ∧ BBd g gb N c wr ∧ w.heap.size ≤ gb := by
  have hl : xs.length = N := by have := hO.1; simpa using this
  rcases hO.2 with ⟨e1, _⟩ | ⟨gb, cap, cur, e1, hg, hh, hc1, hc2, hc3, hc4⟩
  · exact absurd e1 hv
  · subst e1
    refine ⟨gb, cap, rfl, ⟨hap gb rfl, ?_, by simpa using hc1, fun k hk => ?_⟩, hg⟩
    · by_cases hlt : gb < wr.heap.size
      · exact hlt
      · rw [Array.getElem?_eq_none (by omega)] at hh; cases hh
    · refine ⟨xs.getD k 0, ?_, hO.frozenAt k⟩
      rw [hO.cellAt k (by omega)]
      simp [List.getD, List.getElem?_eq_getElem (show k < xs.length by omega)]

structure Sx (w0 : World) (g : Nat) (a : Option Addr) (n cap : Nat) (w : World) (gb m c : Nat) (v : Value) (N : Nat) (wr : World) : Prop where
  cu : Cs w0 g a n cap w wr
  bb : BBd g gb m c wr
  own : ∃ xs : List Int, wr.ownsRow w.heap.size 5 1 v N (xs.map (Value.int .u8))
  nz : v ≠ .slice none 0 0
  ap : ∀ k, v.ownBlock = some k → k ≠ g ∧ k ≠ gb

theorem sx_new {w0 : World} {g : Nat} {a : Option Addr} {n cap : Nat} {w wr : World} {gb m c : Nat} (hC : Cs w0 g a n cap w wr) (hB : BBd g gb m c wr) : Sx w0 g a n cap w gb m c (.slice (some ⟨wr.heap.size, 0, none⟩) 0 0) 0 (wr.alloc (.cells #[] 5)) := by
  refine ⟨hC.al _, hB.below ((Below.refl _ _).alloc (Nat.le_refl _) _), ⟨[], World.ownsRow_lit wr #[] 0 hC.2.size (by unfold maxLen; omega) (by simp)⟩, (by intro e; cases e), fun k hk => ?_⟩
  have h9 : wr.heap.size = k := Option.some.inj hk
  have h1 := hC.1.lt
  have h2 := hB.lt
  exact ⟨by omega, by omega⟩

theorem Sx.al {w0 : World} {g : Nat} {a : Option Addr} {n cap : Nat} {w wr : World} {gb m c : Nat} {v : Value} {N : Nat} (h : Sx w0 g a n cap w gb m c v N wr) (o : Obj) : Sx w0 g a n cap w gb m c v N (wr.alloc o) := by
  obtain ⟨xs, hx⟩ := h.own
  exact ⟨h.cu.al _, h.bb.below ((Below.refl _ _).alloc (Nat.le_refl _) _), ⟨xs, hx.alloc o⟩, h.nz, h.ap⟩

theorem Sx.push {w0 : World} {g : Nat} {a : Option Addr} {n cap : Nat} {w wr : World} {gb m c : Nat} {v : Value} {N : Nat} (h : Sx w0 g a n cap w gb m c v N wr) (hw0 : w0.heap.size ≤ w.heap.size) (hN : N ≤ 200000) (ad : Addr) (q cc : Nat) (hq : q ≤ 200000) (hnews : ∀ j, j < q → ∃ z : Int, wr.cell? (ad.add j) = some (.int .u8 z)) :
    ∃ v' w', (Builtin.append_ #[22, 22] 22 #[v, .slice (some ad) q cc]).run Tryd.prog wr = .ok v' w' ∧ Sx w0 g a n cap w gb m c v' (N + q) w' ∧ (∀ r, r < wr.heap.size → v.ownBlock ≠ some r → w'.heap[r]? = wr.heap[r]?) := by
  obtain ⟨xs, hx⟩ := h.own
  obtain ⟨ys, hy, hyc⟩ : ∃ ys : List Int, ys.length = q ∧ ∀ j u, (ys.map (Value.int .u8))[j]? = some u → wr.cell? (ad.add j) = some u := by
    refine ⟨(List.range q).map (fun k => match wr.cell? (ad.add k) with | some (.int _ z) => z | _ => 0), by simp, fun j u hu => ?_⟩
    have hj : j < q := by
      by_cases hl : j < q
      · exact hl
      · rw [List.getElem?_eq_none (by simp; omega)] at hu; cases hu
    obtain ⟨z, h1⟩ := hnews j hj
    simp [hj, h1] at hu
    rw [h1, ← hu]
  obtain ⟨v', w', hr, h1, h2, h3, h4, h5, h6⟩ := push_many h.cu hw0 h.bb v N xs hx h.nz h.ap hN ad q cc ys hy hq hyc 22
  exact ⟨v', w', hr, ⟨h1, h2, ⟨_, h3⟩, h4, h5⟩, h6⟩

theorem wp_build0 {o : Oper} {a : Act} {w : World} {K : Act → World → Prop} {Q : Exit → Act → World → Prop} (ho : o.op = .buildSlice 22 0 #[]) (h : K (a.put o.dst (.slice (some ⟨w.heap.size, 0, none⟩) 0 0)) (w.alloc (.cells #[] 5))) : o.wp Tryd.prog a w K Q := by
  obtain ⟨i0, hi, hz0, hz1, hz2⟩ := info_parts u8_info
  have hr : (Instr.buildSlice 22 0 #[]).run Tryd.prog w = .ok (.slice (some ⟨w.heap.size, 0, none⟩) 0 0) (w.alloc (.cells #[] 5)) := by
    have h0 : ∀ f : Nat → Value, Array.map f (Array.range 0) = #[] := fun f => Array.eq_empty_of_size_eq_zero (by simp)
    simp [Instr.buildSlice, run_underlying Tryd.underlying22, sizeOf, typeInfo, hi, Instr.fill, newRow, h0]
  unfold Oper.wp execOp
  simp only [ho, Sem.run_bind, List.map_toArray, List.map_nil, hr, Result.andThen_ok]
  exact h

theorem wp_build1 {o : Oper} {a : Act} {w : World} {K : Act → World → Prop} {Q : Exit → Act → World → Prop} (ho : o.op = .buildSlice 22 1 #[(0, .const (.int .u8 32))]) (h : K (a.put o.dst (.slice (some ⟨w.heap.size, 0, none⟩) 1 1)) (w.alloc (.cells #[.int .u8 32] 5))) : o.wp Tryd.prog a w K Q := by
  obtain ⟨i0, hi, hz0, hz1, hz2⟩ := info_parts u8_info
  exact wp_buildSlice 22 5 1 _ ho #[.int .u8 32] i0 (.int .u8 0) Tryd.underlying22 hi hz0 (by rw [hz1]; decide) (by rw [hz1]; decide) (by rw [hz1]; kernel_rfl) h

theorem wp_push {o : Oper} {a : Act} {w w' : World} {K : Act → World → Prop} {Q : Exit → Act → World → Prop} (s x : Operand) (hop : o.op = .call { callee := .builtin .append, args := #[s, x], argTypes := #[22, 22] }) (v v2 v' : Value) (hs : a.eval s = v) (hx : a.eval x = v2) (hap : (Builtin.append_ #[22, 22] o.type #[v, v2]).run Tryd.prog w = .ok v' w') (h : K (a.put o.dst v') w') : o.wp Tryd.prog a w K Q := by
  unfold Oper.wp execOp
  simp only [hop, resolve, invoke, builtin, Sem.run_bind, Sem.run_pure, Result.andThen_ok, List.map_toArray, List.map_cons, List.map_nil, hs, hx, hap]
  exact h

theorem Sx.done {w0 : World} {g : Nat} {a : Option Addr} {n cap : Nat} {w wr : World} {gb m c : Nat} {v : Value} {N : Nat} (h : Sx w0 g a n cap w gb m c v N wr) : ∃ gb' c', v = .slice (some ⟨gb', 0, none⟩) N c' ∧ Hid (BBd g gb' N c' wr) ∧ Hid (w.heap.size ≤ gb') ∧ Hid (Cs w0 g a n cap w wr) := by
  obtain ⟨xs, hx⟩ := h.own
  obtain ⟨gb', c', h1, h2, h3⟩ := bbd_own (w0 := w0) (g := g) hx h.nz (fun k hk => (h.ap k hk).1)
  exact ⟨gb', c', h1, h2, h3, h.cu⟩

theorem BBd.bys {g gb m c : Nat} {wr : World} (h : BBd g gb m c wr) (ad : Addr) (o q : Nat) (hq : o + q ≤ m) (had : q = 0 ∨ ad = ⟨gb, o, none⟩) : ∀ j, j < q → ∃ z : Int, wr.cell? (ad.add j) = some (.int .u8 z) := by
  intro j hj
  rcases had with h0 | rfl
  · omega
  · obtain ⟨z, h1, _⟩ := h.cell (o + j) (by omega)
    refine ⟨z, ?_⟩
    unfold Addr.add
    by_cases h0 : j = 0
    · subst h0; rw [if_pos rfl]; exact h1
    · rw [if_neg h0]; exact h1

theorem Sx.tail {w0 : World} {g : Nat} {a : Option Addr} {n cap : Nat} {w wr : World} {gb m c k : Nat} {v : Value} (h : Sx w0 g a n cap w gb m c v (0 + k) wr) (hw0 : w0.heap.size ≤ w.heap.size) (hkm : k < m) (hm : m ≤ 100002) (r : Nat) (hr : wr.heap[r]? = some (.cells #[.int .u8 32] 5)) :
    ∃ v8 w8 gb' c' w9, Hid ((Builtin.append_ #[22, 22] 22 #[v, .slice (some ⟨r, 0, none⟩) 1 1]).run Tryd.prog wr = .ok v8 w8) ∧ Hid ((Builtin.append_ #[22, 22] 22 #[v8, .slice (some ⟨gb, k, none⟩) (m - k) (c - k)]).run Tryd.prog w8 = .ok (.slice (some ⟨gb', 0, none⟩) (m + 1) c') w9) ∧ Hid (BBd g gb' (m + 1) c' w9) ∧ Hid (w.heap.size ≤ gb') ∧ Hid (Cs w0 g a n cap w w9) := by
  obtain ⟨v8, w8, h1, S8, _⟩ := h.push hw0 (by omega) ⟨r, 0, none⟩ 1 1 (by omega) (by
    intro j hj
    have : j = 0 := by omega
    subst this
    refine ⟨32, ?_⟩
    unfold Addr.add World.cell?
    rw [if_pos rfl, hr]
    rfl)
  obtain ⟨v9, w9, h2, S9, _⟩ := S8.push hw0 (by omega) ⟨gb, k, none⟩ (m - k) (c - k) (by omega) (S8.bb.bys _ k _ (by omega) (.inr rfl))
  rw [show 0 + k + 1 + (m - k) = m + 1 by omega] at S9
  obtain ⟨gb', c', rfl, h3, h4, h5⟩ := S9.done
  exact ⟨v8, w8, gb', c', w9, h1, h2, h3, h4, h5⟩

theorem lit12 (j : Nat) (hj : j < 12) : ∃ z : Int, (#[.int .u8 48, .int .u8 49, .int .u8 50, .int .u8 57, .int .u8 32, .int .u8 120, .int .u8 97, .int .u8 45, .int .u8 46, .int .u8 10, .int .u8 35, .int .u8 119] : Array Value)[j]? = some (.int .u8 z) := by
  have : j = 0 ∨ j = 1 ∨ j = 2 ∨ j = 3 ∨ j = 4 ∨ j = 5 ∨ j = 6 ∨ j = 7 ∨ j = 8 ∨ j = 9 ∨ j = 10 ∨ j = 11 := by omega
  rcases this with rfl | rfl | rfl | rfl | rfl | rfl | rfl | rfl | rfl | rfl | rfl | rfl <;> exact ⟨_, rfl⟩

set_option maxRecDepth 20000 in
set_option maxHeartbeats 6400000 in
theorem l13Bend_c {w0 : World} {g : Nat} {a : Option Addr} {n cap : Nat} {zs : List Int} (hcd : Code w0 a n zs) (s : ByteArray) (hs : s.size ≤ 100000) (w : World) (hc : Cur w0 w g a n cap) :
    Calls Tryd.prog 18 #[.pointer (some ⟨g, 0, none⟩), .string s] w fun e w' => ∃ t : ByteArray, e = .returned (.string t) ∧ t.size ≤ s.size + 2 ∧ Hid (Cs w0 g a n cap w w') := by
  have HD : Hid (Code w0 a n zs) := hcd
  have hgl := hc.lt
  have HW0 : Hid (w0.heap.size ≤ w.heap.size) := hc.below.size
  obtain ⟨cp, hcp⟩ : ∃ cp, cp = grownCap w s.size 0 5 := ⟨_, rfl⟩
  have hcge : s.size ≤ cp := by rw [hcp]; exact grownCap_ge w s.size 0 5
  have hcv0 := run_bytes_of_string (P := Tryd.prog) w 9 22 5 s Tryd.underlying9 Tryd.underlying22 Tryd.underlying5
  rw [← hcp] at hcv0
  obtain ⟨w1, hw1⟩ : ∃ w1, w1 = w.drew.alloc (.cells (bytesRow s cp) 5 ((bytesRow s cp).size, (bytesRow s cp).size + 1)) := ⟨_, rfl⟩
  rw [← hw1] at hcv0
  have HB1 : Hid (BBd g w.heap.size s.size cp w1) := by rw [hw1]; exact bytes_start w g hgl s cp hcge
  have HC1 : Hid (Cs w0 g a n cap w w1) := by
    rw [hw1]
    have h1 : Cs w0 g a n cap w w.drew := ⟨hc.grown (grown_dN w 1 none), grown_dN w 1 (some g)⟩
    exact h1.al _
  clear hcp hcge hw1 hcd hc hgl
  go_enter Tryd.func18, Tryd.ntmps18
  go_wp2_with fail
  refine (l1Below_c HD.out 3 (by omega) _ HC1.out.1).mono ?_
  rintro e w2 ⟨x9, rfl, ⟨hx9, hx8⟩, hs2⟩
  have HB2 : Hid (BBd g w.heap.size s.size cp w2) := HB1.out.cs hs2.out
  have HC2 : Hid (Cs w0 g a n cap w w2) := HC1.out.trans hs2.out
  clear hs2 HB1 HC1 hcv0
  go_wp2_with fail
  go_loopw [5, 6] (fun bv nv wr => ∃ (gb m c : Nat) (x : Int), bv = .slice (some ⟨gb, 0, none⟩) m c ∧ nv = .int .i64 x ∧ 0 ≤ x ∧ (m : Int) + x ≤ (s.size : Int) + 2 ∧ Hid (BBd g gb m c wr) ∧ Hid (w.heap.size ≤ gb) ∧ Hid (Cs w0 g a n cap w wr))
    (fun _ nv _ => (intOf nv).toNat)
  case atStart => exact ⟨w.heap.size, s.size, cp, x9, rfl, rfl, hx9, by omega, HB2, (Nat.le_refl _ : w.heap.size ≤ w.heap.size), HC2⟩
  case round =>
    clear HB2 HC2 hx9 hx8
    obtain ⟨gb, m, c, x, rfl, rfl, hx0, hsum, hB, hlo, hC⟩ := hrel
    by_cases hgo : 0 < x ∧ 0 < m
    · have hxp := hgo.1
      have hmp := hgo.2
      have hmp2 : (0 : Int) < (m : Int) := by omega
      have hwx : wrap64 (x - 1) = x - 1 := by unfold wrap64; omega
      clear hgo
      go_wp2_with fail
      refine (l1Below_c HD.out (m : Int) hmp2 _ hC.out.1).mono ?_
      rintro e w3 ⟨k0, rfl, ⟨hk0, hk1⟩, hs3⟩
      obtain ⟨k, rfl⟩ : ∃ k : Nat, k0 = (k : Int) := ⟨k0.toNat, by omega⟩
      have hkm : k < m := by omega
      have HB3 : Hid (BBd g gb m c w3) := hB.out.cs hs3.out
      have HC3 : Hid (Cs w0 g a n cap w w3) := hC.out.trans hs3.out
      clear hs3 hB hC hk0 hk1
      go_wp2_with fail
      refine (l1Below_c HD.out 4 (by omega) _ HC3.out.1).mono ?_
      rintro e w4 ⟨q, rfl, ⟨hq0, hq1⟩, hs4⟩
      have HB4 : Hid (BBd g gb m c w4) := HB3.out.cs hs4.out
      have HC4 : Hid (Cs w0 g a n cap w w4) := HC3.out.trans hs4.out
      clear hs4 HB3 HC3
      have hq : q = 0 ∨ q = 1 ∨ q = 2 ∨ q = 3 := by omega
      clear hq0 hq1
      rcases hq with rfl | rfl | rfl | rfl
      · have hcvv := Lib.run_convert_bytes_const (P := Tryd.prog) w4 22 5 #[.int .u8 48, .int .u8 49, .int .u8 50, .int .u8 57, .int .u8 32, .int .u8 120, .int .u8 97, .int .u8 45, .int .u8 46, .int .u8 10, .int .u8 35, .int .u8 119] 12 12 Tryd.underlying22 Tryd.underlying5
        obtain ⟨w5, hw5⟩ : ∃ w5, w5 = w4.alloc (.cells #[.int .u8 48, .int .u8 49, .int .u8 50, .int .u8 57, .int .u8 32, .int .u8 120, .int .u8 97, .int .u8 45, .int .u8 46, .int .u8 10, .int .u8 35, .int .u8 119] 5 ((#[.int .u8 48, .int .u8 49, .int .u8 50, .int .u8 57, .int .u8 32, .int .u8 120, .int .u8 97, .int .u8 45, .int .u8 46, .int .u8 10, .int .u8 35, .int .u8 119] : Array Value).size, (#[.int .u8 48, .int .u8 49, .int .u8 50, .int .u8 57, .int .u8 32, .int .u8 120, .int .u8 97, .int .u8 45, .int .u8 46, .int .u8 10, .int .u8 35, .int .u8 119] : Array Value).size + 1)) := ⟨_, rfl⟩
        have HR5 : Hid (w5.heap[w4.heap.size]? = some (.cells #[.int .u8 48, .int .u8 49, .int .u8 50, .int .u8 57, .int .u8 32, .int .u8 120, .int .u8 97, .int .u8 45, .int .u8 46, .int .u8 10, .int .u8 35, .int .u8 119] 5 ((#[.int .u8 48, .int .u8 49, .int .u8 50, .int .u8 57, .int .u8 32, .int .u8 120, .int .u8 97, .int .u8 45, .int .u8 46, .int .u8 10, .int .u8 35, .int .u8 119] : Array Value).size, (#[.int .u8 48, .int .u8 49, .int .u8 50, .int .u8 57, .int .u8 32, .int .u8 120, .int .u8 97, .int .u8 45, .int .u8 46, .int .u8 10, .int .u8 35, .int .u8 119] : Array Value).size + 1))) := by rw [hw5]; exact heap_alloc_new _ _
        have HB5 : Hid (BBd g gb m c w5) := by rw [hw5]; exact HB4.out.below ((Below.refl _ _).alloc (Nat.le_refl _) _)
        have HC5 : Hid (Cs w0 g a n cap w w5) := by rw [hw5]; exact HC4.out.al _
        have HG5 : Hid (w4.heap.size ≠ g) := by have := HC4.out.1.lt; show w4.heap.size ≠ g; omega
        rw [← hw5] at hcvv
        clear hw5
        clear HB4 HC4
        go_wp2_with fail
        refine (l1Below_c HD.out 12 (by omega) _ HC5.out.1).mono ?_
        rintro e w6 ⟨j0, rfl, ⟨hj0, hj1⟩, hs6⟩
        obtain ⟨j, rfl⟩ : ∃ j : Nat, j0 = (j : Int) := ⟨j0.toNat, by omega⟩
        have hj12 : j < 12 := by omega
        have hj12i : (j : Int) < 12 := by omega
        have HB6 : Hid (BBd g gb m c w6) := HB5.out.cs hs6.out
        have HC6 : Hid (Cs w0 g a n cap w w6) := HC5.out.trans hs6.out
        have hr6 := hs6.out.keep HR5.out HG5.out
        obtain ⟨z, hz⟩ := lit12 j hj12
        have hlc : w6.cell? ⟨w4.heap.size, j, none⟩ = some (.int .u8 z) := by
          unfold World.cell?
          rw [hr6]
          exact hz
        obtain ⟨z2, hbc, hbf⟩ := HB6.out.cell k hkm
        have HB7 : Hid (BBd g gb m c (w6.setCell ⟨gb, k, none⟩ (.int .u8 z))) := HB6.out.put k hkm z
        have HC7 : Hid (Cs w0 g a n cap w (w6.setCell ⟨gb, k, none⟩ (.int .u8 z))) := HC6.out.putB HB6.out hlo.out HW0.out k _
        clear hs6 hr6 hz HB5 HC5 HB6 HC6 hcvv HR5
        go_wp2_with fail
        go_roundw
        case rel => exact ⟨gb, m, c, x - 1, rfl, rfl, by omega, by omega, HB7, hlo, HC7⟩
        case measure => simp [intOf]; omega
      · have hkc : k ≤ c := by have := HB4.out.le; omega
        have HB5 : Hid (BBd g gb k c w4) := ⟨HB4.out.ne, HB4.out.lt, hkc, fun j hj => HB4.out.cell j (by omega)⟩
        go_wp2_with fail
        go_roundw
        case rel => exact ⟨gb, k, c, x - 1, rfl, rfl, by omega, by omega, HB5, hlo, HC4⟩
        case measure => simp [intOf]; omega
      · have hkc : k ≤ c := by have := HB4.out.le; omega
        have hmc : m ≤ c := HB4.out.le
        have hk1m : k + 1 ≤ m := hkm
        have hk1c : k + 1 ≤ c := by omega
        have hm2 : m ≤ 100002 := by omega
        have hwk : wrap64 ((k : Int) + 1) = ((k + 1 : Nat) : Int) := by unfold wrap64; omega
        have C5 : Cs w0 g a n cap w w4.drew := HC4.out.trans ⟨HC4.out.1.grown (grown_dN w4 1 none), grown_dN w4 1 (some g)⟩
        have B5 : BBd g gb m c w4.drew := HB4.out.below (Below.refl _ _).drew
        have S5 := sx_new C5 B5
        obtain ⟨v6, w6, hr6, S6, _⟩ := S5.push HW0.out (by omega) ⟨gb, 0, none⟩ k c (by omega) (S5.bb.bys _ 0 k (by omega) (.inr rfl))
        by_cases hck : c = k + 1
        · obtain ⟨v7, w7, hr7, S7, _⟩ := S6.push HW0.out (by omega) ⟨gb, 0, none⟩ (m - (k + 1)) (c - (k + 1)) (by omega) (S6.bb.bys _ 0 _ (by omega) (.inr rfl))
          rw [show 0 + k + (m - (k + 1)) = m - 1 by omega] at S7
          obtain ⟨gb', c', rfl, HB7, hlo7, HC7⟩ := S7.done
          have R6 : Hid _ := hr6
          have R7 : Hid _ := hr7
          clear hr6 hr7 S5 S6 S7 C5 B5
          go_wp2_with fail
          refine wp_region_any (by kernel_rfl) ?_
          refine wpAny_take (i := 1) (oi := { dst := some 46, op := _, type := _, pos := _, after := _, guard := _ }) (v := .slice (some ⟨gb, 0, none⟩) m c) rfl (by kernel_rfl) (by kernel_rfl) (by kernel_rfl) (fun _ _ _ h => h) (Or.inl ⟨by rfl, ?_⟩) ?_
          · intro w'
            go_simp
          simp only [Act.put, List.setIfInBounds_toArray, List.set_cons_zero, List.set_cons_succ]
          refine wpAny_take (i := 2) (oi := { dst := some 47, op := _, type := _, pos := _, after := _, guard := _ }) (v := .int .i64 (k : Int)) rfl (by kernel_rfl) (by kernel_rfl) (by kernel_rfl) (fun _ _ _ h => h) (Or.inl ⟨by rfl, ?_⟩) ?_
          · intro w'
            go_simp
          simp only [Act.put, List.setIfInBounds_toArray, List.set_cons_zero, List.set_cons_succ]
          refine wpAny_take (i := 3) (oi := { dst := some 48, op := _, type := _, pos := _, after := _, guard := _ }) (v := .slice (some ⟨gb, 0, none⟩) k c) rfl (by kernel_rfl) (by kernel_rfl) (by kernel_rfl) (fun _ _ _ h => h) (Or.inl ⟨by rfl, ?_⟩) ?_
          · intro w'
            go_simp
            try (intro h; omega)
          simp only [Act.put, List.setIfInBounds_toArray, List.set_cons_zero, List.set_cons_succ]
          refine wpAny_take (i := 5) (oi := { dst := some 50, op := _, type := _, pos := _, after := _, guard := _ }) (v := .slice (some ⟨gb, 0, none⟩) m c) rfl (by kernel_rfl) (by kernel_rfl) (by kernel_rfl) (fun _ _ _ h => h) (Or.inl ⟨by rfl, ?_⟩) ?_
          · intro w'
            go_simp
          simp only [Act.put, List.setIfInBounds_toArray, List.set_cons_zero, List.set_cons_succ]
          refine wpAny_take (i := 6) (oi := { dst := some 51, op := _, type := _, pos := _, after := _, guard := _ }) (v := .int .i64 (k : Int)) rfl (by kernel_rfl) (by kernel_rfl) (by kernel_rfl) (fun _ _ _ h => h) (Or.inl ⟨by rfl, ?_⟩) ?_
          · intro w'
            go_simp
          simp only [Act.put, List.setIfInBounds_toArray, List.set_cons_zero, List.set_cons_succ]
          refine wpAny_take (i := 7) (oi := { dst := some 52, op := _, type := _, pos := _, after := _, guard := _ }) (v := .int .i64 ((k + 1 : Nat) : Int)) rfl (by kernel_rfl) (by kernel_rfl) (by kernel_rfl) (fun _ _ _ h => h) (Or.inl ⟨by rfl, ?_⟩) ?_
          · intro w'
            go_simp
            first | (rw [IntKind.wrap_i64]; omega) | (unfold IntKind.wrap; simp; omega)
          simp only [Act.put, List.setIfInBounds_toArray, List.set_cons_zero, List.set_cons_succ]
          refine wpAny_take (i := 8) (oi := { dst := some 53, op := _, type := _, pos := _, after := _, guard := _ }) (v := .slice (some ⟨gb, 0, none⟩) (m - (k + 1)) (c - (k + 1))) rfl (by kernel_rfl) (by kernel_rfl) (by kernel_rfl) (fun _ _ _ h => h) (Or.inl ⟨by rfl, ?_⟩) ?_
          · intro w'
            go_simp
            intro h
            have h9 := h (by omega)
            omega
          simp only [Act.put, List.setIfInBounds_toArray, List.set_cons_zero, List.set_cons_succ]
          refine wpAny_one (i := 0) (o := { dst := some 45, op := _, type := _, pos := _, after := _, guard := _ }) rfl (by kernel_rfl) (fun K hK => ?_)
          rw [if_pos (by rfl)]
          refine wp_build0 rfl ?_
          refine hK.out _ _ ?_
          clear hK
          simp only [Act.put, List.setIfInBounds_toArray, List.set_cons_zero, List.set_cons_succ]
          refine wpAny_one (i := 4) (o := { dst := some 49, op := _, type := _, pos := _, after := _, guard := _ }) rfl (by kernel_rfl) (fun K hK => ?_)
          rw [if_pos (by rfl)]
          refine wp_push (.tmp 45) (.tmp 48) rfl _ _ _ rfl rfl R6.out ?_
          refine hK.out _ _ ?_
          clear hK
          simp only [Act.put, List.setIfInBounds_toArray, List.set_cons_zero, List.set_cons_succ]
          refine wpAny_one (i := 9) (o := { dst := some 54, op := _, type := _, pos := _, after := _, guard := _ }) rfl (by kernel_rfl) (fun K hK => ?_)
          rw [if_pos (by rfl)]
          refine wp_push (.tmp 49) (.tmp 53) rfl _ _ _ rfl rfl R7.out ?_
          refine hK.out _ _ ?_
          clear hK
          simp only [Act.put, List.setIfInBounds_toArray, List.set_cons_zero, List.set_cons_succ]
          refine wpAny_one (i := 10) (o := { dst := some 5, op := _, type := _, pos := _, after := _, guard := _ }) rfl (by kernel_rfl) (fun K hK => ?_)
          go_simp
          refine hK.out _ _ ?_
          clear hK
          refine wpAny_done (by kernel_rfl) ?_ _
          go_wp2_with fail
          go_roundw
          case rel => exact ⟨gb', _, c', x - 1, rfl, rfl, by omega, by omega, HB7, hlo7, HC7⟩
          case measure => simp [intOf]; omega
        · obtain ⟨v7, w7, hr7, S7, _⟩ := S6.push HW0.out (by omega) ⟨gb, k + 1, none⟩ (m - (k + 1)) (c - (k + 1)) (by omega) (S6.bb.bys _ (k + 1) _ (by omega) (.inr rfl))
          rw [show 0 + k + (m - (k + 1)) = m - 1 by omega] at S7
          obtain ⟨gb', c', rfl, HB7, hlo7, HC7⟩ := S7.done
          have R6 : Hid _ := hr6
          have R7 : Hid _ := hr7
          clear hr6 hr7 S5 S6 S7 C5 B5
          go_wp2_with fail
          refine wp_region_any (by kernel_rfl) ?_
          refine wpAny_take (i := 1) (oi := { dst := some 46, op := _, type := _, pos := _, after := _, guard := _ }) (v := .slice (some ⟨gb, 0, none⟩) m c) rfl (by kernel_rfl) (by kernel_rfl) (by kernel_rfl) (fun _ _ _ h => h) (Or.inl ⟨by rfl, ?_⟩) ?_
          · intro w'
            go_simp
          simp only [Act.put, List.setIfInBounds_toArray, List.set_cons_zero, List.set_cons_succ]
          refine wpAny_take (i := 2) (oi := { dst := some 47, op := _, type := _, pos := _, after := _, guard := _ }) (v := .int .i64 (k : Int)) rfl (by kernel_rfl) (by kernel_rfl) (by kernel_rfl) (fun _ _ _ h => h) (Or.inl ⟨by rfl, ?_⟩) ?_
          · intro w'
            go_simp
          simp only [Act.put, List.setIfInBounds_toArray, List.set_cons_zero, List.set_cons_succ]
          refine wpAny_take (i := 3) (oi := { dst := some 48, op := _, type := _, pos := _, after := _, guard := _ }) (v := .slice (some ⟨gb, 0, none⟩) k c) rfl (by kernel_rfl) (by kernel_rfl) (by kernel_rfl) (fun _ _ _ h => h) (Or.inl ⟨by rfl, ?_⟩) ?_
          · intro w'
            go_simp
            try (intro h; omega)
          simp only [Act.put, List.setIfInBounds_toArray, List.set_cons_zero, List.set_cons_succ]
          refine wpAny_take (i := 5) (oi := { dst := some 50, op := _, type := _, pos := _, after := _, guard := _ }) (v := .slice (some ⟨gb, 0, none⟩) m c) rfl (by kernel_rfl) (by kernel_rfl) (by kernel_rfl) (fun _ _ _ h => h) (Or.inl ⟨by rfl, ?_⟩) ?_
          · intro w'
            go_simp
          simp only [Act.put, List.setIfInBounds_toArray, List.set_cons_zero, List.set_cons_succ]
          refine wpAny_take (i := 6) (oi := { dst := some 51, op := _, type := _, pos := _, after := _, guard := _ }) (v := .int .i64 (k : Int)) rfl (by kernel_rfl) (by kernel_rfl) (by kernel_rfl) (fun _ _ _ h => h) (Or.inl ⟨by rfl, ?_⟩) ?_
          · intro w'
            go_simp
          simp only [Act.put, List.setIfInBounds_toArray, List.set_cons_zero, List.set_cons_succ]
          refine wpAny_take (i := 7) (oi := { dst := some 52, op := _, type := _, pos := _, after := _, guard := _ }) (v := .int .i64 ((k + 1 : Nat) : Int)) rfl (by kernel_rfl) (by kernel_rfl) (by kernel_rfl) (fun _ _ _ h => h) (Or.inl ⟨by rfl, ?_⟩) ?_
          · intro w'
            go_simp
            first | (rw [IntKind.wrap_i64]; omega) | (unfold IntKind.wrap; simp; omega)
          simp only [Act.put, List.setIfInBounds_toArray, List.set_cons_zero, List.set_cons_succ]
          refine wpAny_take (i := 8) (oi := { dst := some 53, op := _, type := _, pos := _, after := _, guard := _ }) (v := .slice (some ⟨gb, k + 1, none⟩) (m - (k + 1)) (c - (k + 1))) rfl (by kernel_rfl) (by kernel_rfl) (by kernel_rfl) (fun _ _ _ h => h) (Or.inl ⟨by rfl, ?_⟩) ?_
          · intro w'
            go_simp
            intro h
            have h9 := h (by omega)
            omega
          simp only [Act.put, List.setIfInBounds_toArray, List.set_cons_zero, List.set_cons_succ]
          refine wpAny_one (i := 0) (o := { dst := some 45, op := _, type := _, pos := _, after := _, guard := _ }) rfl (by kernel_rfl) (fun K hK => ?_)
          rw [if_pos (by rfl)]
          refine wp_build0 rfl ?_
          refine hK.out _ _ ?_
          clear hK
          simp only [Act.put, List.setIfInBounds_toArray, List.set_cons_zero, List.set_cons_succ]
          refine wpAny_one (i := 4) (o := { dst := some 49, op := _, type := _, pos := _, after := _, guard := _ }) rfl (by kernel_rfl) (fun K hK => ?_)
          rw [if_pos (by rfl)]
          refine wp_push (.tmp 45) (.tmp 48) rfl _ _ _ rfl rfl R6.out ?_
          refine hK.out _ _ ?_
          clear hK
          simp only [Act.put, List.setIfInBounds_toArray, List.set_cons_zero, List.set_cons_succ]
          refine wpAny_one (i := 9) (o := { dst := some 54, op := _, type := _, pos := _, after := _, guard := _ }) rfl (by kernel_rfl) (fun K hK => ?_)
          rw [if_pos (by rfl)]
          refine wp_push (.tmp 49) (.tmp 53) rfl _ _ _ rfl rfl R7.out ?_
          refine hK.out _ _ ?_
          clear hK
          simp only [Act.put, List.setIfInBounds_toArray, List.set_cons_zero, List.set_cons_succ]
          refine wpAny_one (i := 10) (o := { dst := some 5, op := _, type := _, pos := _, after := _, guard := _ }) rfl (by kernel_rfl) (fun K hK => ?_)
          go_simp
          refine hK.out _ _ ?_
          clear hK
          refine wpAny_done (by kernel_rfl) ?_ _
          go_wp2_with fail
          go_roundw
          case rel => exact ⟨gb', _, c', x - 1, rfl, rfl, by omega, by omega, HB7, hlo7, HC7⟩
          case measure => simp [intOf]; omega
      · have hkc : k ≤ c := by have := HB4.out.le; omega
        have hmc : m ≤ c := HB4.out.le
        have hck : ¬ (c = k) := by omega
        have hm2 : m ≤ 100002 := by omega
        have C5 : Cs w0 g a n cap w w4.drew := HC4.out.trans ⟨HC4.out.1.grown (grown_dN w4 1 none), grown_dN w4 1 (some g)⟩
        have B5 : BBd g gb m c w4.drew := HB4.out.below (Below.refl _ _).drew
        have S5 := sx_new C5 B5
        obtain ⟨v6, w6, hr6, S6, _⟩ := S5.push HW0.out (by omega) ⟨gb, 0, none⟩ k c (by omega) (S5.bb.bys _ 0 k (by omega) (.inr rfl))
        obtain ⟨v1, w1', gb1, c1, w1e, P1, Q1, HBy1, hloy1, HCy1⟩ := (S6.al (.cells #[.int .u8 32] 5)).tail HW0.out hkm hm2 _ (heap_alloc_new _ _)
        have T5 := S5.al (.cells #[.int .u8 32] 5)
        obtain ⟨v7, w7, hr7, S7, k7⟩ := T5.push HW0.out (by omega) ⟨gb, 0, none⟩ k c (by omega) (T5.bb.bys _ 0 k (by omega) (.inr rfl))
        obtain ⟨v2, w2', gb2, c2, w2e, P2, Q2, HBy2, hloy2, HCy2⟩ := S7.tail HW0.out hkm hm2 (w4.drew.alloc (.cells #[] 5)).heap.size ((k7 _ (by simp) (by simp [Value.ownBlock])).trans (heap_alloc_new _ _))
        have U5 := sx_new (C5.al (.cells #[.int .u8 32] 5)) (B5.below ((Below.refl _ _).alloc (Nat.le_refl _) _))
        obtain ⟨v8, w8, hr8, S8, k8⟩ := U5.push HW0.out (by omega) ⟨gb, 0, none⟩ k c (by omega) (U5.bb.bys _ 0 k (by omega) (.inr rfl))
        obtain ⟨v3, w3', gb3, c3, w3e, P3, Q3, HBy3, hloy3, HCy3⟩ := S8.tail HW0.out hkm hm2 w4.drew.heap.size ((k8 _ (by simp; omega) (by simp [Value.ownBlock])).trans ((heap_alloc_old _ _ (by simp)).trans (heap_alloc_new _ _)))
        have R1 : Hid _ := hr6
        have R2 : Hid _ := hr7
        have R3 : Hid _ := hr8
        clear hr6 hr7 hr8 k7 k8 S5 S6 S7 S8 T5 U5 C5 B5
        go_wp2_with fail
        refine wp_region_any (by kernel_rfl) ?_
        refine wpAny_take (i := 1) (oi := { dst := some 58, op := _, type := _, pos := _, after := _, guard := _ }) (v := .slice (some ⟨gb, 0, none⟩) m c) rfl (by kernel_rfl) (by kernel_rfl) (by kernel_rfl) (fun _ _ _ h => h) (Or.inl ⟨by rfl, ?_⟩) ?_
        · intro w'
          go_simp
        simp only [Act.put, List.setIfInBounds_toArray, List.set_cons_zero, List.set_cons_succ]
        refine wpAny_take (i := 2) (oi := { dst := some 59, op := _, type := _, pos := _, after := _, guard := _ }) (v := .int .i64 (k : Int)) rfl (by kernel_rfl) (by kernel_rfl) (by kernel_rfl) (fun _ _ _ h => h) (Or.inl ⟨by rfl, ?_⟩) ?_
        · intro w'
          go_simp
        simp only [Act.put, List.setIfInBounds_toArray, List.set_cons_zero, List.set_cons_succ]
        refine wpAny_take (i := 3) (oi := { dst := some 60, op := _, type := _, pos := _, after := _, guard := _ }) (v := .slice (some ⟨gb, 0, none⟩) k c) rfl (by kernel_rfl) (by kernel_rfl) (by kernel_rfl) (fun _ _ _ h => h) (Or.inl ⟨by rfl, ?_⟩) ?_
        · intro w'
          go_simp
          try (intro h; omega)
        simp only [Act.put, List.setIfInBounds_toArray, List.set_cons_zero, List.set_cons_succ]
        refine wpAny_take (i := 7) (oi := { dst := some 64, op := _, type := _, pos := _, after := _, guard := _ }) (v := .slice (some ⟨gb, 0, none⟩) m c) rfl (by kernel_rfl) (by kernel_rfl) (by kernel_rfl) (fun _ _ _ h => h) (Or.inl ⟨by rfl, ?_⟩) ?_
        · intro w'
          go_simp
        simp only [Act.put, List.setIfInBounds_toArray, List.set_cons_zero, List.set_cons_succ]
        refine wpAny_take (i := 8) (oi := { dst := some 65, op := _, type := _, pos := _, after := _, guard := _ }) (v := .int .i64 (k : Int)) rfl (by kernel_rfl) (by kernel_rfl) (by kernel_rfl) (fun _ _ _ h => h) (Or.inl ⟨by rfl, ?_⟩) ?_
        · intro w'
          go_simp
        simp only [Act.put, List.setIfInBounds_toArray, List.set_cons_zero, List.set_cons_succ]
        refine wpAny_take (i := 9) (oi := { dst := some 66, op := _, type := _, pos := _, after := _, guard := _ }) (v := .slice (some ⟨gb, k, none⟩) (m - k) (c - k)) rfl (by kernel_rfl) (by kernel_rfl) (by kernel_rfl) (fun _ _ _ h => h) (Or.inl ⟨by rfl, ?_⟩) ?_
        · intro w'
          go_simp
          try (intro h; omega)
        simp only [Act.put, List.setIfInBounds_toArray, List.set_cons_zero, List.set_cons_succ]
        refine wpAny_ready (rs := [0, 5]) (by kernel_rfl) (by simp) ?_
        refine AllReady.cons (o := { dst := some 57, op := _, type := _, pos := _, after := _, guard := _ }) rfl (fun K hK => ?_) (AllReady.cons (o := { dst := some 62, op := _, type := _, pos := _, after := _, guard := _ }) rfl (fun K hK => ?_) AllReady.nil)
        · rw [if_pos (by rfl)]
          refine wp_build0 rfl ?_
          refine hK _ _ ?_
          clear hK
          simp only [Act.put, List.setIfInBounds_toArray, List.set_cons_zero, List.set_cons_succ]
          refine wpAny_ready (rs := [4, 5]) (by kernel_rfl) (by simp) ?_
          refine AllReady.cons (o := { dst := some 61, op := _, type := _, pos := _, after := _, guard := _ }) rfl (fun K hK => ?_) (AllReady.cons (o := { dst := some 62, op := _, type := _, pos := _, after := _, guard := _ }) rfl (fun K hK => ?_) AllReady.nil)
          · rw [if_pos (by rfl)]
            refine wp_push (.tmp 57) (.tmp 60) rfl _ _ _ rfl rfl R1.out ?_
            refine hK _ _ ?_
            clear hK
            simp only [Act.put, List.setIfInBounds_toArray, List.set_cons_zero, List.set_cons_succ]
            refine wpAny_one (i := 5) (o := { dst := some 62, op := _, type := _, pos := _, after := _, guard := _ }) rfl (by kernel_rfl) (fun K hK => ?_)
            rw [if_pos (by rfl)]
            refine wp_build1 rfl ?_
            refine hK.out _ _ ?_
            clear hK
            simp only [Act.put, List.setIfInBounds_toArray, List.set_cons_zero, List.set_cons_succ]
            refine wpAny_one (i := 6) (o := { dst := some 63, op := _, type := _, pos := _, after := _, guard := _ }) rfl (by kernel_rfl) (fun K hK => ?_)
            rw [if_pos (by rfl)]
            refine wp_push (.tmp 61) (.tmp 62) rfl _ _ _ rfl rfl P1.out ?_
            refine hK.out _ _ ?_
            clear hK
            simp only [Act.put, List.setIfInBounds_toArray, List.set_cons_zero, List.set_cons_succ]
            refine wpAny_one (i := 10) (o := { dst := some 67, op := _, type := _, pos := _, after := _, guard := _ }) rfl (by kernel_rfl) (fun K hK => ?_)
            rw [if_pos (by rfl)]
            refine wp_push (.tmp 63) (.tmp 66) rfl _ _ _ rfl rfl Q1.out ?_
            refine hK.out _ _ ?_
            clear hK
            simp only [Act.put, List.setIfInBounds_toArray, List.set_cons_zero, List.set_cons_succ]
            refine wpAny_one (i := 11) (o := { dst := some 5, op := _, type := _, pos := _, after := _, guard := _ }) rfl (by kernel_rfl) (fun K hK => ?_)
            go_simp
            refine hK.out _ _ ?_
            clear hK
            refine wpAny_done (by kernel_rfl) ?_ _
            go_wp2_with fail
            go_roundw
            case rel => exact ⟨gb1, _, c1, x - 1, rfl, rfl, by omega, by omega, HBy1, hloy1, HCy1⟩
            case measure => simp [intOf]; omega
          · rw [if_pos (by rfl)]
            refine wp_build1 rfl ?_
            refine hK _ _ ?_
            clear hK
            simp only [Act.put, List.setIfInBounds_toArray, List.set_cons_zero, List.set_cons_succ]
            refine wpAny_one (i := 4) (o := { dst := some 61, op := _, type := _, pos := _, after := _, guard := _ }) rfl (by kernel_rfl) (fun K hK => ?_)
            rw [if_pos (by rfl)]
            refine wp_push (.tmp 57) (.tmp 60) rfl _ _ _ rfl rfl R2.out ?_
            refine hK.out _ _ ?_
            clear hK
            simp only [Act.put, List.setIfInBounds_toArray, List.set_cons_zero, List.set_cons_succ]
            refine wpAny_one (i := 6) (o := { dst := some 63, op := _, type := _, pos := _, after := _, guard := _ }) rfl (by kernel_rfl) (fun K hK => ?_)
            rw [if_pos (by rfl)]
            refine wp_push (.tmp 61) (.tmp 62) rfl _ _ _ rfl rfl P2.out ?_
            refine hK.out _ _ ?_
            clear hK
            simp only [Act.put, List.setIfInBounds_toArray, List.set_cons_zero, List.set_cons_succ]
            refine wpAny_one (i := 10) (o := { dst := some 67, op := _, type := _, pos := _, after := _, guard := _ }) rfl (by kernel_rfl) (fun K hK => ?_)
            rw [if_pos (by rfl)]
            refine wp_push (.tmp 63) (.tmp 66) rfl _ _ _ rfl rfl Q2.out ?_
            refine hK.out _ _ ?_
            clear hK
            simp only [Act.put, List.setIfInBounds_toArray, List.set_cons_zero, List.set_cons_succ]
            refine wpAny_one (i := 11) (o := { dst := some 5, op := _, type := _, pos := _, after := _, guard := _ }) rfl (by kernel_rfl) (fun K hK => ?_)
            go_simp
            refine hK.out _ _ ?_
            clear hK
            refine wpAny_done (by kernel_rfl) ?_ _
            go_wp2_with fail
            go_roundw
            case rel => exact ⟨gb2, _, c2, x - 1, rfl, rfl, by omega, by omega, HBy2, hloy2, HCy2⟩
            case measure => simp [intOf]; omega
        · rw [if_pos (by rfl)]
          refine wp_build1 rfl ?_
          refine hK _ _ ?_
          clear hK
          simp only [Act.put, List.setIfInBounds_toArray, List.set_cons_zero, List.set_cons_succ]
          refine wpAny_one (i := 0) (o := { dst := some 57, op := _, type := _, pos := _, after := _, guard := _ }) rfl (by kernel_rfl) (fun K hK => ?_)
          rw [if_pos (by rfl)]
          refine wp_build0 rfl ?_
          refine hK.out _ _ ?_
          clear hK
          simp only [Act.put, List.setIfInBounds_toArray, List.set_cons_zero, List.set_cons_succ]
          refine wpAny_one (i := 4) (o := { dst := some 61, op := _, type := _, pos := _, after := _, guard := _ }) rfl (by kernel_rfl) (fun K hK => ?_)
          rw [if_pos (by rfl)]
          refine wp_push (.tmp 57) (.tmp 60) rfl _ _ _ rfl rfl R3.out ?_
          refine hK.out _ _ ?_
          clear hK
          simp only [Act.put, List.setIfInBounds_toArray, List.set_cons_zero, List.set_cons_succ]
          refine wpAny_one (i := 6) (o := { dst := some 63, op := _, type := _, pos := _, after := _, guard := _ }) rfl (by kernel_rfl) (fun K hK => ?_)
          rw [if_pos (by rfl)]
          refine wp_push (.tmp 61) (.tmp 62) rfl _ _ _ rfl rfl P3.out ?_
          refine hK.out _ _ ?_
          clear hK
          simp only [Act.put, List.setIfInBounds_toArray, List.set_cons_zero, List.set_cons_succ]
          refine wpAny_one (i := 10) (o := { dst := some 67, op := _, type := _, pos := _, after := _, guard := _ }) rfl (by kernel_rfl) (fun K hK => ?_)
          rw [if_pos (by rfl)]
          refine wp_push (.tmp 63) (.tmp 66) rfl _ _ _ rfl rfl Q3.out ?_
          refine hK.out _ _ ?_
          clear hK
          simp only [Act.put, List.setIfInBounds_toArray, List.set_cons_zero, List.set_cons_succ]
          refine wpAny_one (i := 11) (o := { dst := some 5, op := _, type := _, pos := _, after := _, guard := _ }) rfl (by kernel_rfl) (fun K hK => ?_)
          go_simp
          refine hK.out _ _ ?_
          clear hK
          refine wpAny_done (by kernel_rfl) ?_ _
          go_wp2_with fail
          go_roundw
          case rel => exact ⟨gb3, _, c3, x - 1, rfl, rfl, by omega, by omega, HBy3, hloy3, HCy3⟩
          case measure => simp [intOf]; omega
    · obtain ⟨zs2, hzl, hzc⟩ := hB.out.list
      have hcv := run_convert_bytes_arg (P := Tryd.prog) wr 22 5 Tryd.underlying22 Tryd.underlying5 gb 0 m c zs2 hzl hzc 9 Tryd.underlying9
      obtain ⟨t, ht⟩ : ∃ t, t = strOfNums zs2 := ⟨_, rfl⟩
      rw [← ht] at hcv
      have HT : Hid (t.size = m) := by show t.size = m; rw [ht]; simp [strOfNums, ByteArray.size, hzl]
      have hno : (decide (0 < x) && decide ((0 : Int) < (m : Int))) = false := by
        rw [Bool.and_eq_false_iff]
        by_cases h : 0 < x
        · right; exact decide_eq_false (by omega)
        · left; exact decide_eq_false h
      clear ht hzc hzl
      by_cases hx : 0 < x
      · have hm0 : ¬ ((0 : Int) < (m : Int)) := by omega
        clear hno hgo
        go_wp2_with fail
        go_ret
        exact ⟨t, rfl, by rw [HT.out]; omega, hC⟩
      · clear hno hgo
        go_wp2_with fail
        go_ret
        exact ⟨t, rfl, by rw [HT.out]; omega, hC⟩

end Go.Proofs.YtjjpklalihaanaaDoor
