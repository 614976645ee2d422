/- Own lemmas. -/
import Derived.Laws.BitsAllLaws
import Derived.WalkKit
import Derived.WalkLawsBesides
import Derived.Laws.CopyOwn
import Derived.Test.YtdllhjehokpefaaProg
import Derived.Deep.AppendSrc
namespace Go.Proofs.Ytdllhjehokpefaa
set_option linter.unusedVariables false

def put (zs : List Int) (f : Nat) (x : Int) : Nat → List Int
  | 0 => zs
  | k + 1 => (put zs f x k).set (f + k) (x / 256 ^ k % 256)

end Go.Proofs.Ytdllhjehokpefaa

namespace Go.Proofs.Ytdllhjehokpefaa
open Go.RowKit
set_option linter.unusedVariables false

def Sl (k : IntKind) (w : World) (a : Option Addr) (zs : List Int) : Prop :=
  ∀ i, i < zs.length → ∃ b off, a = some ⟨b, off, none⟩ ∧ b < w.heap.size ∧ w.cell? ⟨b, off + i, none⟩ = some (.int k (zs.getD i 0))

theorem Sl.below {k : IntKind} {w w' : World} {a : Option Addr} {zs : List Int} (h : Sl k w a zs) (hb : Below w.heap.size w w') : Sl k w' a zs := by
  intro i hi
  obtain ⟨b, off, e, hlt, hc⟩ := h i hi
  exact ⟨b, off, e, Nat.lt_of_lt_of_le hlt hb.size, (hb.cell (by exact hlt)).trans hc⟩

theorem ownsRow_below {w w' : World} {base : Nat} {e : TypeId} {size : Nat} {v : Value} {n : Nat} {xs : List Value} (h : w.ownsRow base e size v n xs) (hb : Below w.heap.size w w') : w'.ownsRow base e size v n xs := by
  obtain ⟨h1, h2⟩ := h
  refine ⟨h1, ?_⟩
  rcases h2 with h2 | ⟨g, cap, cur, hv, hg, hh, r⟩
  · exact Or.inl h2
  · have hlt : g < w.heap.size := by
      rcases Nat.lt_or_ge g w.heap.size with h | h
      · exact h
      · rw [Array.getElem?_eq_none h] at hh; cases hh
    exact Or.inr ⟨g, cap, cur, hv, hg, by rw [hb.block g hlt]; exact hh, r⟩

theorem own_lt {w : World} {base : Nat} {e : TypeId} {size g n cap : Nat} {xs : List Value} (h : w.ownsRow base e size (.slice (some ⟨g, 0, none⟩) n cap) n xs) : g < w.heap.size := by
  obtain ⟨h1, h2⟩ := h
  rcases h2 with ⟨h2, _⟩ | ⟨g', cap', cur, hv, hg, hh, r⟩
  · cases h2
  · simp only [Value.slice.injEq, Option.some.injEq, Addr.mk.injEq, and_true, true_and] at hv
    obtain ⟨rfl, rfl⟩ := hv
    rcases Nat.lt_or_ge g w.heap.size with h | h
    · exact h
    · rw [Array.getElem?_eq_none h] at hh; cases hh

theorem own_sl {k : IntKind} {w : World} {base : Nat} {e : TypeId} {g n cap : Nat} {zs : List Int} (h : w.ownsRow base e 1 (.slice (some ⟨g, 0, none⟩) n cap) n (zs.map (Value.int k))) : Sl k w (some ⟨g, 0, none⟩) zs := by
  intro i hi
  have hl : n = zs.length := by have := h.1; simp at this; omega
  refine ⟨g, 0, rfl, own_lt h, ?_⟩
  rw [Nat.zero_add, h.cellAt i (by omega)]
  simp [List.getElem?_map, List.getElem?_eq_getElem hi, List.getD]

def IsRow (k : IntKind) (w : World) (a : Option Addr) (len cap : Nat) (zs : List Int) : Prop :=
  (a = none ∧ len = 0 ∧ cap = 0 ∧ zs = []) ∨
  ∃ x, a = some x ∧ len ≤ cap ∧ cap ≤ maxLen ∧ zs.length = cap ∧ (∀ i, i < zs.length → w.cell? (x.add i) = some (.int k (zs.getD i 0))) ∧ ∀ n ∈ zs, (Lit.int k n).wf = true

theorem IsRow.sl {k : IntKind} {w : World} {a : Option Addr} {len cap : Nat} {zs : List Int} (h : IsRow k w a len cap zs) :
    ∃ ys : List Int, ys.length = len ∧ Sl k w a ys ∧ (∀ y ∈ ys, (Lit.int k y).wf = true) ∧ len ≤ maxLen := by
  rcases h with ⟨rfl, rfl, rfl, rfl⟩ | ⟨x, rfl, hl, hm, hz, hcell, hwz⟩
  · exact ⟨[], rfl, fun i hi => absurd hi (by simp), by simp, by unfold maxLen; omega⟩
  · refine ⟨zs.take len, by simp; omega, ?_, fun y hy => hwz y (List.mem_of_mem_take hy), by omega⟩
    intro i hi
    simp only [List.length_take] at hi
    obtain ⟨b, off, spot⟩ := x
    have hspot : spot = none := by simpa [Addr.add] using World.cell?_spot (hcell 0 (by omega))
    subst hspot
    have ha : (⟨b, off, none⟩ : Addr).add i = ⟨b, off + i, none⟩ := by
      by_cases h0 : i = 0
      · subst h0; simp [Addr.add]
      · simp [Addr.add, h0]
    have hc := hcell i (by omega)
    rw [ha] at hc
    refine ⟨b, off, rfl, World.block_lt_of_cell? _ _ hc, ?_⟩
    have e : (zs.take len).getD i 0 = zs.getD i 0 := by simp [List.getD, show i < len by omega]
    rw [e]
    exact hc

theorem below_trans {w w1 w2 : World} (h : Below w.heap.size w w1) (k : Below w1.heap.size w1 w2) : Below w.heap.size w w2 :=
  h.trans (k.mono h.size)

theorem map_set_u8 (zs : List Int) (i : Nat) (y : Int) : (zs.map (Value.int .u8)).set i (.int .u8 y) = (zs.set i y).map (Value.int .u8) := by
  rw [List.map_set]

theorem grown_trans {w a b : World} {row : Option Nat} (h : w.grownBy a row) (k : a.grownBy b row) : w.grownBy b row :=
  ⟨k.os.trans h.os, k.tape.trans h.tape, k.output.trans h.output, Nat.le_trans h.size k.size, fun i hi hne => (k.block i (Nat.lt_of_lt_of_le hi h.size) hne).trans (h.block i hi hne)⟩

theorem grown_refl (w : World) (row : Option Nat) : w.grownBy w row := ⟨rfl, rfl, rfl, Nat.le_refl _, fun _ _ _ => rfl⟩

theorem adds (b off j : Nat) : (⟨b, off, none⟩ : Addr).add j = ⟨b, off + j, none⟩ := by
  by_cases h0 : j = 0
  · subst h0; simp [Addr.add]
  · simp [Addr.add, h0]

theorem kept_of {w w' : World} {base : Nat} {e : TypeId} {size : Nat} {v : Value} {n : Nat} {xs : List Value} {row : Option Nat} (h : w.ownsRow base e size v n xs) (hg : w.grownBy w' row) (hne : ∀ k, v.ownBlock = some k → row ≠ some k) :
    w'.ownsRow base e size v n xs := by
  refine h.kept hg ?_
  cases hv : v.ownBlock with
  | none => exact .inl rfl
  | some k => exact .inr (fun h => hne k hv h.symm)

theorem own_low {w : World} {base base' : Nat} {e : TypeId} {size : Nat} {v : Value} {n : Nat} {xs : List Value} (h : w.ownsRow base e size v n xs) (hb : base' ≤ base) : w.ownsRow base' e size v n xs := by
  obtain ⟨h1, h2⟩ := h
  refine ⟨h1, ?_⟩
  rcases h2 with h2 | ⟨g, cap, cur, hv, hg, r⟩
  · exact Or.inl h2
  · exact Or.inr ⟨g, cap, cur, hv, Nat.le_trans hb hg, r⟩

def dg (zs : List Int) : Int := zs.foldl (fun h b => (h * 257 + b + 1) % 1000000007) 0

structure FRow where
  t : TypeId
  v : Value
  n : Nat
  xs : List Value

structure Fam (B E : Nat) (w : World) (L : List FRow) : Prop where
  own : ∀ r ∈ L, w.ownsRow B r.t 1 r.v r.n r.xs
  hi : ∀ r ∈ L, ∀ k, r.v.ownBlock = some k → k < E
  ne : L.Pairwise (fun r s => ∀ k, r.v.ownBlock = some k → s.v.ownBlock ≠ some k)

structure Keep (B E : Nat) (w w' : World) : Prop where
  os : w'.os = w.os
  tape : w'.tape = w.tape
  output : w'.output = w.output
  size : w.heap.size ≤ w'.heap.size
  block : ∀ k, k < w.heap.size → (k < B ∨ E ≤ k) → w'.heap[k]? = w.heap[k]?

theorem Keep.refl (B E : Nat) (w : World) : Keep B E w w := ⟨rfl, rfl, rfl, Nat.le_refl _, fun _ _ _ => rfl⟩

theorem Keep.trans {B E : Nat} {a b c : World} (h : Keep B E a b) (k : Keep B E b c) : Keep B E a c :=
  ⟨k.os.trans h.os, k.tape.trans h.tape, k.output.trans h.output, Nat.le_trans h.size k.size, fun i hi ho => (k.block i (Nat.lt_of_lt_of_le hi h.size) ho).trans (h.block i hi ho)⟩

theorem Keep.of_below {B E : Nat} {w w' : World} (h : Below w.heap.size w w') : Keep B E w w' := ⟨h.os, h.tape, h.output, h.size, fun k hk _ => h.block k hk⟩

theorem Keep.below {B0 B E : Nat} {w w' : World} (h : Keep B E w w') (hB : B0 ≤ B) (hw : B0 ≤ w.heap.size) : Below B0 w w' := ⟨h.os, h.tape, h.output, h.size, fun k hk => h.block k (by omega) (.inl (by omega))⟩

theorem fown_of {w w' : World} {B n : Nat} {t : TypeId} {v : Value} {xs : List Value} (h : w.ownsRow B t 1 v n xs) (hk : ∀ k, v.ownBlock = some k → w'.heap[k]? = w.heap[k]?) : w'.ownsRow B t 1 v n xs := by
  refine ⟨h.1, ?_⟩
  rcases h.2 with h2 | ⟨g, cap, cur, h1, h2, h3, h4⟩
  · exact .inl h2
  · exact .inr ⟨g, cap, cur, h1, h2, (hk g (by rw [h1]; rfl)).trans h3, h4⟩

theorem Fam.mono {B E : Nat} {w w' : World} {L : List FRow} (h : Fam B E w L) (hk : ∀ k, B ≤ k → k < E → k < w.heap.size → w'.heap[k]? = w.heap[k]?) : Fam B E w' L :=
  ⟨fun r hr => fown_of (h.own r hr) (fun k e => hk k ((h.own r hr).lt k e).1 (h.hi r hr k e) ((h.own r hr).lt k e).2), h.hi, h.ne⟩

theorem Fam.below {B E : Nat} {w w' : World} {L : List FRow} (h : Fam B E w L) (hb : Below w.heap.size w w') : Fam B E w' L := h.mono fun k _ _ hk => hb.block k hk

theorem Fam.keep {B E B2 E2 : Nat} {w w' : World} {L : List FRow} (h : Fam B E w L) (hk : Keep B2 E2 w w') (hd : E ≤ B2 ∨ E2 ≤ B) : Fam B E w' L := h.mono fun k h1 h2 h3 => hk.block k h3 (by omega)

theorem Fam.set {B E : Nat} {w : World} {L : List FRow} (h : Fam B E w L) (p : Addr) (v : Value) (hp : p.block < B ∨ E ≤ p.block) : Fam B E (w.setCell p v) L := h.mono fun k h1 h2 h3 => Below.heap_setCell w p v k (by omega)

theorem dhid {p : Prop} (h : p) : Hid p := h

theorem dstays {w w' : World} (hb : Below w.heap.size w w') {g : Nat} {o : Obj} (h : w.heap[g]? = some o) : w'.heap[g]? = some o := by
  rw [hb.block g (Array.getElem?_eq_some_iff.1 h).1]
  exact h

theorem froz {W : World} {g : Nat} {cs : Array Value} {t : TypeId} (h : W.heap[g]? = some (.cells cs t (0, 0))) (i : Nat) : W.frozen? ⟨g, i, none⟩ = false := by simp [World.frozen?, h]

theorem rows2 {w w2 : World} {o1 o2 : Obj} (hb : Below ((w.alloc o1).alloc o2).heap.size ((w.alloc o1).alloc o2) w2) : w2.heap[w.heap.size]? = some o1 ∧ w2.heap[w.heap.size + 1]? = some o2 := by
  have e2 := heap_alloc_new (w.alloc o1) o2
  rw [World.size_alloc] at e2
  exact ⟨dstays hb ((Below.heap_alloc _ _ _ (by simp only [World.size_alloc]; omega)).trans (heap_alloc_new w o1)), dstays hb e2⟩

theorem rows3 {w w2 : World} {o1 o2 o3 : Obj} (hb : Below (((w.alloc o1).alloc o2).alloc o3).heap.size (((w.alloc o1).alloc o2).alloc o3) w2) :
    w2.heap[w.heap.size]? = some o1 ∧ w2.heap[w.heap.size + 1]? = some o2 ∧ w2.heap[w.heap.size + 1 + 1]? = some o3 := by
  have e3 := heap_alloc_new ((w.alloc o1).alloc o2) o3
  rw [World.size_alloc, World.size_alloc] at e3
  have h := rows2 (w := w) (o1 := o1) (o2 := o2) (Below.refl _ ((w.alloc o1).alloc o2))
  exact ⟨dstays hb ((Below.heap_alloc _ _ _ (by simp only [World.size_alloc]; omega)).trans h.1), dstays hb ((Below.heap_alloc _ _ _ (by simp only [World.size_alloc]; omega)).trans h.2), dstays hb e3⟩

theorem row_set {w : World} {g : Nat} {cs : Array Value} {t : TypeId} {fr : Nat × Nat} (h : w.heap[g]? = some (.cells cs t fr)) (i : Nat) (v : Value) :
    (w.setCell ⟨g, i, none⟩ v).heap[g]? = some (.cells (cs.setIfInBounds i v) t fr) := by
  simp [World.setCell, Array.getElem?_modify, h]

theorem row_far {w : World} {g : Nat} {o : Obj} (h : w.heap[g]? = some o) (p : Addr) (v : Value) (hne : g ≠ p.block) : (w.setCell p v).heap[g]? = some o := (Below.heap_setCell w p v g hne).trans h

theorem size_set (w : World) (p : Addr) (v : Value) : (w.setCell p v).heap.size = w.heap.size := by simp [World.setCell]

structure Slt where
  u : Bool
  k : Int
  p : Int
  g : Int
  f : Int
deriving DecidableEq

def slt0 : Slt := ⟨false, 0, 0, 0, 0⟩

def Slt.cs (s : Slt) : List Value := [.bool s.u, .int .i64 s.k, .int .i64 s.p, .int .u64 s.g, .int .u64 s.f]

def Slt.v (s : Slt) : Value := .agg #[.bool s.u, .int .i64 s.k, .int .i64 s.p, .int .u64 s.g, .int .u64 s.f]

def flatS : List Slt → List Value
  | [] => []
  | s :: ss => s.cs ++ flatS ss

theorem flatS_len (ss : List Slt) : (flatS ss).length = ss.length * 5 := by
  induction ss with
  | nil => rfl
  | cons s ss ih => simp [flatS, Slt.cs, ih]; omega

theorem flatS_get (ss : List Slt) : ∀ (i j : Nat), i < ss.length → j < 5 → (flatS ss)[i * 5 + j]? = (ss.getD i slt0).cs[j]? := by
  induction ss with
  | nil => intro i j hi; simp at hi
  | cons s ss ih =>
    intro i j hi hj
    have hl : s.cs.length = 5 := rfl
    cases i with
    | zero => rw [flatS, List.getElem?_append_left (by omega)]; simp [List.getD]
    | succ i =>
      rw [flatS, List.getElem?_append_right (by omega), hl, show (i + 1) * 5 + j - 5 = i * 5 + j by omega, ih i j (by simpa using hi) hj]
      simp [List.getD]

def set5 (l : List Value) (i : Nat) (s : Slt) : List Value := ((((l.set (i * 5) (.bool s.u)).set (i * 5 + 1) (.int .i64 s.k)).set (i * 5 + 2) (.int .i64 s.p)).set (i * 5 + 3) (.int .u64 s.g)).set (i * 5 + 4) (.int .u64 s.f)

theorem flatS_set (s : Slt) : ∀ (ss : List Slt) (i : Nat), i < ss.length → set5 (flatS ss) i s = flatS (ss.set i s) := by
  intro ss
  induction ss with
  | nil => intro i hi; simp at hi
  | cons t ss ih =>
    intro i hi
    cases i with
    | zero => simp [set5, flatS, Slt.cs]
    | succ i =>
      have h := ih i (by simpa using hi)
      simp only [List.set_cons_succ, flatS, ← h]
      have hl : t.cs.length = 5 := rfl
      unfold set5
      rw [List.set_append_right _ _ (by omega), List.set_append_right _ _ (by omega), List.set_append_right _ _ (by omega), List.set_append_right _ _ (by omega), List.set_append_right _ _ (by omega)]
      simp only [hl, show (i + 1) * 5 - 5 = i * 5 by omega, show (i + 1) * 5 + 1 - 5 = i * 5 + 1 by omega, show (i + 1) * 5 + 2 - 5 = i * 5 + 2 by omega, show (i + 1) * 5 + 3 - 5 = i * 5 + 3 by omega, show (i + 1) * 5 + 4 - 5 = i * 5 + 4 by omega]

theorem flatS_append (a b : List Slt) : flatS (a ++ b) = flatS a ++ flatS b := by
  induction a with
  | nil => rfl
  | cons s a ih => simp [flatS, ih]

def Ss (w : World) (a : Option Addr) (ss : List Slt) : Prop :=
  ∀ i, i < ss.length → ∃ b off, a = some ⟨b, off, none⟩ ∧ b < w.heap.size ∧ ∀ j, j < 5 → w.cell? ⟨b, off + i * 5 + j, none⟩ = (ss.getD i slt0).cs[j]?

theorem Ss.below {w w' : World} {a : Option Addr} {ss : List Slt} (h : Ss w a ss) (hb : Below w.heap.size w w') : Ss w' a ss := by
  intro i hi
  obtain ⟨b, off, e, hlt, hc⟩ := h i hi
  exact ⟨b, off, e, Nat.lt_of_lt_of_le hlt hb.size, fun j hj => (hb.cell (by exact hlt)).trans (hc j hj)⟩

theorem Ss.at {w : World} {a : Option Addr} {ss : List Slt} (h : Ss w a ss) (i : Nat) (hi : i < ss.length) (s : Slt) (hs : ss.getD i slt0 = s) :
    ∃ b off, a = some ⟨b, off, none⟩ ∧ b < w.heap.size ∧ w.cell? ⟨b, off + i * 5, none⟩ = some (.bool s.u) ∧ w.cell? ⟨b, off + i * 5 + 1, none⟩ = some (.int .i64 s.k) ∧ w.cell? ⟨b, off + i * 5 + 2, none⟩ = some (.int .i64 s.p) ∧
      w.cell? ⟨b, off + i * 5 + 3, none⟩ = some (.int .u64 s.g) ∧ w.cell? ⟨b, off + i * 5 + 4, none⟩ = some (.int .u64 s.f) := by
  obtain ⟨b, off, e, hlt, hc⟩ := h i hi
  subst hs
  exact ⟨b, off, e, hlt, hc 0 (by omega), hc 1 (by omega), hc 2 (by omega), hc 3 (by omega), hc 4 (by omega)⟩

theorem own_ss {w : World} {base : Nat} {e : TypeId} {a : Option Addr} {n cap : Nat} {ss : List Slt} (h : w.ownsRow base e 5 (.slice a n cap) n (flatS ss)) : Ss w a ss := by
  have hn : ss.length = n := by have := h.1; rw [flatS_len] at this; omega
  rcases h.2 with ⟨h2, h3⟩ | ⟨g', cap', cur, hv, hg, hh, r⟩
  · intro i hi; omega
  · simp only [Value.slice.injEq, true_and] at hv
    obtain ⟨rfl, rfl⟩ := hv
    intro i hi
    refine ⟨g', 0, rfl, ?_, fun j hj => ?_⟩
    · exact own_lt h
    · rw [Nat.zero_add, h.cellAt (i * 5 + j) (by omega), flatS_get ss i j hi hj]

theorem made_flat (n : Nat) : (madeCells #[.bool false, .int .i64 0, .int .i64 0, .int .u64 0, .int .u64 0] (n * 5)).toList = flatS (List.replicate n slt0) := by
  apply List.ext_getElem?
  intro j
  by_cases hj : j < n * 5
  · have e : j = j / 5 * 5 + j % 5 := by omega
    have h := flatS_get (List.replicate n slt0) (j / 5) (j % 5) (by simp; omega) (by omega)
    rw [← e] at h
    rw [h]
    have hg : (List.replicate n slt0).getD (j / 5) slt0 = slt0 := by simp [List.getD, List.getElem?_replicate]; split <;> rfl
    rw [hg]
    have h5 : j % 5 = 0 ∨ j % 5 = 1 ∨ j % 5 = 2 ∨ j % 5 = 3 ∨ j % 5 = 4 := by omega
    simp only [madeCells, Array.toList_map, List.getElem?_map, Array.toList_range, List.getElem?_range hj, Option.map_some]
    have hs : (#[Value.bool false, .int .i64 0, .int .i64 0, .int .u64 0, .int .u64 0] : Array Value).size = 5 := rfl
    rw [hs]
    rcases h5 with h | h | h | h | h <;> rw [h] <;> rfl
  · rw [List.getElem?_eq_none (by simp [madeCells]; omega), List.getElem?_eq_none (by rw [flatS_len]; simp; omega)]

def put5 (w : World) (g i : Nat) (s : Slt) : World :=
  ((((w.setCell ⟨g, i * 5, none⟩ (.bool s.u)).setCell ⟨g, i * 5 + 1, none⟩ (.int .i64 s.k)).setCell ⟨g, i * 5 + 2, none⟩ (.int .i64 s.p)).setCell ⟨g, i * 5 + 3, none⟩ (.int .u64 s.g)).setCell ⟨g, i * 5 + 4, none⟩ (.int .u64 s.f)

theorem own_put5 {w : World} {base : Nat} {e : TypeId} {g n cap : Nat} {ss : List Slt} (h : w.ownsRow base e 5 (.slice (some ⟨g, 0, none⟩) n cap) n (flatS ss)) (i : Nat) (hi : i < ss.length) (s : Slt) :
    (put5 w g i s).ownsRow base e 5 (.slice (some ⟨g, 0, none⟩) n cap) n (flatS (ss.set i s)) ∧ w.grownBy (put5 w g i s) (some g) := by
  have h0 := h.stored (i * 5) (.bool s.u)
  have h1 := h0.1.stored (i * 5 + 1) (.int .i64 s.k)
  have h2 := h1.1.stored (i * 5 + 2) (.int .i64 s.p)
  have h3 := h2.1.stored (i * 5 + 3) (.int .u64 s.g)
  have h4 := h3.1.stored (i * 5 + 4) (.int .u64 s.f)
  refine ⟨?_, grown_trans (grown_trans (grown_trans (grown_trans h0.2 h1.2) h2.2) h3.2) h4.2⟩
  rw [← flatS_set s ss i hi]
  exact h4.1

theorem own_room {w : World} {base : Nat} {e : TypeId} {g n cap : Nat} {ss : List Slt} (h : w.ownsRow base e 5 (.slice (some ⟨g, 0, none⟩) n cap) n (flatS ss)) (i : Nat) (hi : i < n) :
    (w.frozen? ⟨g, i * 5, none⟩ = false ∧ w.frozen? ⟨g, i * 5 + 1, none⟩ = false ∧ w.frozen? ⟨g, i * 5 + 2, none⟩ = false ∧ w.frozen? ⟨g, i * 5 + 3, none⟩ = false ∧ w.frozen? ⟨g, i * 5 + 4, none⟩ = false) ∧
    ∃ s, ss.getD i slt0 = s ∧ w.cell? ⟨g, i * 5, none⟩ = some (.bool s.u) ∧ w.cell? ⟨g, i * 5 + 1, none⟩ = some (.int .i64 s.k) ∧ w.cell? ⟨g, i * 5 + 2, none⟩ = some (.int .i64 s.p) ∧ w.cell? ⟨g, i * 5 + 3, none⟩ = some (.int .u64 s.g) ∧ w.cell? ⟨g, i * 5 + 4, none⟩ = some (.int .u64 s.f) := by
  have hn : ss.length = n := by have := h.1; rw [flatS_len] at this; omega
  refine ⟨⟨h.frozenAt _, h.frozenAt _, h.frozenAt _, h.frozenAt _, h.frozenAt _⟩, _, rfl, ?_⟩
  obtain ⟨b, off, e, hlt, c⟩ := (own_ss h).at i (by omega) _ rfl
  simp only [Option.some.injEq, Addr.mk.injEq, and_true] at e
  obtain ⟨rfl, rfl⟩ := e
  simpa using c

theorem own_far {w : World} {base : Nat} {e : TypeId} {size : Nat} {v : Value} {n : Nat} {xs : List Value} (h : w.ownsRow base e size v n xs) (p : Addr) (u : Value) (hne : ∀ k, v.ownBlock = some k → k ≠ p.block) : (w.setCell p u).ownsRow base e size v n xs := by
  refine ⟨h.1, ?_⟩
  rcases h.2 with h2 | ⟨g, cap, cur, h1, h2, h3, h4⟩
  · exact .inl h2
  · exact .inr ⟨g, cap, cur, h1, h2, (Below.heap_setCell w p u g (hne g (by rw [h1]; rfl))).trans h3, h4⟩

theorem grown_of_below {w w' : World} (h : Below w.heap.size w w') (row : Option Nat) : w.grownBy w' row := ⟨h.os, h.tape, h.output, h.size, fun k hk _ => h.block k hk⟩

theorem Try.info60 : (Try.prog.info? 60).map (fun i => (i.zero, i.size, i.bytes)) = some (some (.agg #[.bool false, .int .i64 0, .int .i64 0, .int .u64 0, .int .u64 0]), 5, 40) := by kernel_rfl

theorem slot_size : (Try.prog.info? 60).map (·.size) = some 5 := by kernel_rfl

theorem cache_size : (Try.prog.info? 26).map (·.size) = some 1 := by kernel_rfl

theorem row_at1 {W : World} {g : Nat} {a : Value} {t : TypeId} (h : W.heap[g]? = some (.cells #[a] t (0, 0))) : W.cell? ⟨g, 0, none⟩ = some a := by simp [World.cell?, h]

def plS (k p g : Int) : Int := (g + 5 * k + 3 * p) % 16

def kpB (k p : Int) : Bool := decide (1 ≤ k ∧ k ≤ 3) && decide (0 ≤ p ∧ p ≤ 1)

def okU (s : Slt) (i : Int) : Bool := decide (1 ≤ s.k ∧ s.k ≤ 3) && (decide (0 ≤ s.p ∧ s.p ≤ 1) && (decide (s.g < 4503599627370496) && (decide (s.f < 4503599627370496) && (plS s.k s.p s.g == i))))

def okS (s : Slt) (i : Int) : Bool := if s.u then okU s i else decide (s = slt0)

def okTo (ss : List Slt) (n : Nat) : Bool := (List.range n).all fun i => okS (ss.getD i slt0) i

def cacheB (ss : List Slt) : Bool := decide (ss.length = 16) && okTo ss 16

theorem okTo_succ (ss : List Slt) (n : Nat) : okTo ss (n + 1) = (okTo ss n && okS (ss.getD n slt0) n) := by
  simp [okTo, List.range_succ]

theorem okTo_false {ss : List Slt} {i n : Nat} (hi : i < n) (h : okS (ss.getD i slt0) i = false) : okTo ss n = false := by
  rw [okTo, List.all_eq_false]
  exact ⟨i, by simpa using hi, by simpa using h⟩

theorem okTo_at {ss : List Slt} {n : Nat} (h : okTo ss n = true) {i : Nat} (hi : i < n) : okS (ss.getD i slt0) i = true :=
  List.all_eq_true.1 h i (by simpa using hi)

def Sw (ss : List Slt) : Prop := ∀ s ∈ ss, (0 ≤ s.g ∧ s.g ≤ 18446744073709551615) ∧ (0 ≤ s.f ∧ s.f ≤ 18446744073709551615)

theorem Sw.get {ss : List Slt} (h : Sw ss) (i : Nat) : (0 ≤ (ss.getD i slt0).g ∧ (ss.getD i slt0).g ≤ 18446744073709551615) ∧ (0 ≤ (ss.getD i slt0).f ∧ (ss.getD i slt0).f ≤ 18446744073709551615) := by
  by_cases hi : i < ss.length
  · exact h _ (by simp [List.getD, List.getElem?_eq_getElem hi])
  · simp [List.getD, List.getElem?_eq_none (Nat.le_of_not_lt hi), slt0]

theorem Sw.set {ss : List Slt} (h : Sw ss) (i : Nat) (s : Slt) (hs : (0 ≤ s.g ∧ s.g ≤ 18446744073709551615) ∧ (0 ≤ s.f ∧ s.f ≤ 18446744073709551615)) : Sw (ss.set i s) := by
  intro t ht
  rcases List.mem_or_eq_of_mem_set ht with h1 | h1
  · exact h t h1
  · rw [h1]; exact hs

theorem plS_bd (k p g : Int) : 0 ≤ plS k p g ∧ plS k p g < 16 := by unfold plS; omega

def lookS (ss : List Slt) (k p addr : Int) : Option Int :=
  if cacheB ss && kpB k p then
    (fun s : Slt => if s.u && (s.k == k) && (s.p == p) && (s.g == addr / 4096) then some (s.f * 4096 + addr % 4096) else none) (ss.getD (plS k p (addr / 4096)).toNat slt0)
  else none

def lookV (o : Option Int) : Value := .tuple #[.int .u64 (o.getD 0), .bool o.isSome]

def kSlt (k p addr to : Int) : Slt := ⟨true, k, p, addr / 4096, to / 4096⟩

def keepS (ss : List Slt) (k p addr to : Int) : List Slt :=
  if cacheB ss && kpB k p then ss.set (plS k p (addr / 4096)).toNat (kSlt k p addr to) else []

def dropOne (addr : Int) (all : Bool) (s : Slt) : Slt := if all || (s.u && (s.g == addr / 4096)) then slt0 else s

def dropS (ss : List Slt) (addr : Int) (all : Bool) : List Slt := if cacheB ss then ss.map (dropOne addr all) else []

def usedTo (ss : List Slt) (j : Nat) : List Slt := (ss.take j).filter (·.u)

theorem usedTo_succ (ss : List Slt) (j : Nat) (hj : j < ss.length) : usedTo ss (j + 1) = if (ss.getD j slt0).u then usedTo ss j ++ [ss.getD j slt0] else usedTo ss j := by
  unfold usedTo
  have e1 : ss.getD j slt0 = ss[j] := by simp [List.getD, List.getElem?_eq_getElem hj]
  rw [List.take_succ_eq_append_getElem hj, List.filter_append, ← e1]
  generalize ss.getD j slt0 = s
  cases h : s.u <;> simp [h]

theorem mem_usedTo {ss : List Slt} {j : Nat} {s : Slt} (h : s ∈ usedTo ss j) : s.u = true ∧ ∃ i, i < j ∧ i < ss.length ∧ ss.getD i slt0 = s := by
  unfold usedTo at h
  rw [List.mem_filter] at h
  refine ⟨h.2, ?_⟩
  obtain ⟨i, hi, e⟩ := List.mem_iff_getElem.1 h.1
  simp only [List.length_take] at hi
  refine ⟨i, by omega, by omega, ?_⟩
  rw [List.getElem_take] at e
  simp [List.getD, List.getElem?_eq_getElem (show i < ss.length by omega), e]

theorem ok_used {ss : List Slt} {n i : Nat} (h : okTo ss n = true) (hi : i < n) (hu : (ss.getD i slt0).u = true) :
    kpB (ss.getD i slt0).k (ss.getD i slt0).p = true ∧ (ss.getD i slt0).g < 4503599627370496 ∧ (ss.getD i slt0).f < 4503599627370496 ∧ plS (ss.getD i slt0).k (ss.getD i slt0).p (ss.getD i slt0).g = i := by
  have := okTo_at h hi
  rw [okS, if_pos hu, okU] at this
  simp only [Bool.and_eq_true, decide_eq_true_eq, beq_iff_eq] at this
  refine ⟨by unfold kpB; rw [decide_eq_true this.1, decide_eq_true this.2.1]; rfl, this.2.2.1, this.2.2.2.1, this.2.2.2.2⟩

theorem key_new {ss : List Slt} {j : Nat} (h : okTo ss 16 = true) (hj : j < 16) (hu : (ss.getD j slt0).u = true) : ∀ s ∈ usedTo ss j, ((ss.getD j slt0).k == s.k && (ss.getD j slt0).p == s.p && (ss.getD j slt0).g == s.g) = false := by
  intro s hs
  obtain ⟨h1, i, hi, _, e⟩ := mem_usedTo hs
  have a := ok_used h hj hu
  have b := ok_used (i := i) h (by omega) (by rw [e]; exact h1)
  rw [e] at b
  cases hc : ((ss.getD j slt0).k == s.k && (ss.getD j slt0).p == s.p && (ss.getD j slt0).g == s.g)
  · rfl
  · simp only [Bool.and_eq_true, beq_iff_eq] at hc
    have h1 := a.2.2.2
    have h2 := b.2.2.2
    rw [hc.1.1, hc.1.2, hc.2] at h1
    omega

def findS (l : List Slt) (k p g : Int) : Option Slt := l.find? fun s => k == s.k && p == s.p && g == s.g

theorem find_some {ss : List Slt} (hl : ss.length = 16) (h : okTo ss 16 = true) {k p g : Int} {s : Slt} (hf : findS (usedTo ss 16) k p g = some s) :
    kpB k p = true ∧ ss.getD (plS k p g).toNat slt0 = s ∧ s.u = true ∧ s.k = k ∧ s.p = p ∧ s.g = g := by
  have hm := List.mem_of_find?_eq_some hf
  have hp := List.find?_some hf
  simp only [Bool.and_eq_true, beq_iff_eq] at hp
  obtain ⟨hu, i, hi, _, e⟩ := mem_usedTo hm
  have b := ok_used (i := i) h hi (by rw [e]; exact hu)
  rw [e, ← hp.1.1, ← hp.1.2, ← hp.2] at b
  refine ⟨b.1, ?_, hu, hp.1.1.symm, hp.1.2.symm, hp.2.symm⟩
  rw [b.2.2.2]
  exact e

theorem find_none {ss : List Slt} (hl : ss.length = 16) {k p g : Int} (hf : findS (usedTo ss 16) k p g = none) (s : Slt) (i : Nat) (hs : ss.getD i slt0 = s) (hi : i < 16) (hu : s.u = true) (h1 : s.k = k) (h2 : s.p = p) (h3 : s.g = g) : False := by
  have hm : s ∈ usedTo ss 16 := by
    unfold usedTo
    rw [List.mem_filter, List.take_of_length_le (by omega)]
    refine ⟨?_, hu⟩
    rw [← hs, List.getD_eq_getElem?_getD, List.getElem?_eq_getElem (show i < ss.length by omega)]
    exact List.getElem_mem _
  have := List.find?_eq_none.1 hf s hm
  simp [h1, h2, h3] at this

theorem look_eq {ss : List Slt} (hc : cacheB ss = true) (k p addr : Int) : (findS (usedTo ss 16) k p (addr / 4096)).map (fun s => s.f * 4096 + addr % 4096) = lookS ss k p addr := by
  have hl : ss.length = 16 := by simp [cacheB] at hc; exact hc.1
  have ho : okTo ss 16 = true := by simp [cacheB] at hc; exact hc.2
  cases hf : findS (usedTo ss 16) k p (addr / 4096) with
  | some s =>
    obtain ⟨h1, h2, h3, h4, h5, h6⟩ := find_some hl ho hf
    unfold lookS
    rw [hc, h1, h2]
    simp [h3, h4, h5, h6]
  | none =>
    simp only [Option.map_none]
    unfold lookS
    dsimp only
    split
    · split
      · rename_i hk hs
        simp only [Bool.and_eq_true, beq_iff_eq] at hs
        exact (find_none hl hf _ _ rfl (by have := plS_bd k p (addr / 4096); omega) hs.1.1.1 hs.1.1.2 hs.1.2 hs.2).elim
      · rfl
    · rfl

theorem drop_prog {ss : List Slt} (ho : okTo ss 16 = true) (addr : Int) (i : Nat) (hi : i < 16) : dropOne addr false (ss.getD i slt0) = if (ss.getD i slt0).g == addr / 4096 then slt0 else ss.getD i slt0 := by
  unfold dropOne
  cases hu : (ss.getD i slt0).u
  · have := okTo_at ho hi
    rw [okS, hu] at this
    simp only [Bool.false_eq_true, if_false, decide_eq_true_eq] at this
    rw [this]
    simp [slt0]
  · simp

theorem flatS_take : ∀ (ss : List Slt) (i : Nat), flatS (ss.take i) = (flatS ss).take (i * 5) := by
  intro ss
  induction ss with
  | nil => intro i; simp [flatS]
  | cons s ss ih =>
    intro i
    cases i with
    | zero => simp [flatS]
    | succ i =>
      have hl : s.cs.length = 5 := rfl
      simp only [List.take_succ_cons, flatS, ih i]
      rw [List.take_append, hl, List.take_of_length_le (show s.cs.length ≤ (i + 1) * 5 by omega), show (i + 1) * 5 - 5 = i * 5 by omega]

theorem flatS_drop : ∀ (ss : List Slt) (i : Nat), flatS (ss.drop i) = (flatS ss).drop (i * 5) := by
  intro ss
  induction ss with
  | nil => intro i; simp [flatS]
  | cons s ss ih =>
    intro i
    cases i with
    | zero => simp
    | succ i =>
      have hl : s.cs.length = 5 := rfl
      simp only [List.drop_succ_cons, flatS, ih i]
      rw [List.drop_append, hl, List.drop_of_length_le (show s.cs.length ≤ (i + 1) * 5 by omega), List.nil_append, show (i + 1) * 5 - 5 = i * 5 by omega]

def zeroed (ss : List Slt) (i m : Nat) : List Slt := ss.take i ++ List.replicate m slt0 ++ ss.drop (i + m)

theorem zeroed_all (ss : List Slt) (n : Nat) (h : ss.length = n) : zeroed ss 0 n = List.replicate n slt0 := by simp [zeroed, ← h]

theorem zeroed_one (ss : List Slt) (i : Nat) (h : i < ss.length) : zeroed ss i 1 = ss.set i slt0 := by
  rw [zeroed, List.set_eq_take_append_cons_drop, if_pos h]
  simp

theorem dropS_all (ss : List Slt) (addr : Int) : ss.map (dropOne addr true) = List.replicate ss.length slt0 := by
  induction ss with
  | nil => rfl
  | cons s ss ih => simp [dropOne, List.replicate_succ, ih]

def DkS (ss : List Slt) (addr : Int) (all : Bool) (j : Nat) : List Slt := (ss.take j).map (dropOne addr all) ++ ss.drop j

theorem DkS_zero (ss : List Slt) (addr : Int) (all : Bool) : DkS ss addr all 0 = ss := by simp [DkS]

theorem DkS_end (ss : List Slt) (addr : Int) (all : Bool) (n : Nat) (h : ss.length = n) : DkS ss addr all n = ss.map (dropOne addr all) := by simp [DkS, ← h]

theorem DkS_len (ss : List Slt) (addr : Int) (all : Bool) (n j : Nat) (h : ss.length = n) (hj : j ≤ n) : (DkS ss addr all j).length = n := by simp [DkS]; omega

theorem DkS_at (ss : List Slt) (addr : Int) (all : Bool) (n j : Nat) (h : ss.length = n) (hj : j < n) : (DkS ss addr all j).getD j slt0 = ss.getD j slt0 := by
  unfold DkS
  have hl : ((ss.take j).map (dropOne addr all)).length = j := by simp; omega
  simp only [List.getD, List.getElem?_append_right (Nat.le_of_eq hl), hl, Nat.sub_self, List.getElem?_drop]
  simp

theorem DkS_set (ss : List Slt) (addr : Int) (all : Bool) (n j : Nat) (h : ss.length = n) (hj : j < n) : (DkS ss addr all j).set j (dropOne addr all (ss.getD j slt0)) = DkS ss addr all (j + 1) := by
  unfold DkS
  have hl : ((ss.take j).map (dropOne addr all)).length = j := by simp; omega
  rw [List.set_append_right _ _ (Nat.le_of_eq hl), hl, Nat.sub_self, List.drop_eq_getElem_cons (show j < ss.length by omega), List.set_cons_zero, List.take_succ_eq_append_getElem (show j < ss.length by omega), List.map_append, List.append_assoc]
  simp [List.getD, List.getElem?_eq_getElem (show j < ss.length by omega)]

theorem DkS_same (ss : List Slt) (addr : Int) (all : Bool) (n j : Nat) (h : ss.length = n) (hj : j < n) (hd : dropOne addr all (ss.getD j slt0) = ss.getD j slt0) : DkS ss addr all (j + 1) = DkS ss addr all j := by
  rw [← DkS_set ss addr all n j h hj, hd, ← DkS_at ss addr all n j h hj]
  have hlt : j < (DkS ss addr all j).length := by rw [DkS_len ss addr all n j h (by omega)]; exact hj
  rw [List.getD_eq_getElem?_getD, List.getElem?_eq_getElem hlt]
  simp

theorem slt_stood : Try.prog.stoodInHeld 60 = false := by kernel_rfl

theorem slt_guard : Try.prog.eqGuardType Try.prog.depth 60 = false := by kernel_rfl

theorem slt_dec (s t : Slt) : (s.u == t.u && s.k == t.k && s.p == t.p && s.g == t.g && s.f == t.f) = decide (s = t) := by
  obtain ⟨a, b, c, d, e⟩ := s
  obtain ⟨a', b', c', d', e'⟩ := t
  by_cases h1 : a = a' <;> by_cases h2 : b = b' <;> by_cases h3 : c = c' <;> by_cases h4 : d = d' <;> by_cases h5 : e = e' <;> simp [h1, h2, h3, h4, h5]

set_option maxHeartbeats 400000 in
theorem run_sameSlt (s t : Slt) (w : World) : (Op.equalIn (9999 + 1) 60 s.v t.v).run Try.prog w = .ok (decide (s = t)) w := by
  rw [← slt_dec]
  obtain ⟨a, b, c, d, e⟩ := s
  obtain ⟨a', b', c', d', e'⟩ := t
  simp only [Slt.v]
  rw [run_equalIn_struct w 9999 _ _ _ (by rw [Program.fieldsOf, Try.underlying60]) slt_stood]
  simp only [Program.fieldsOf, Try.underlying60]
  have PI : ∀ (k : Nat) (x1 x2 x3 x4 x5 v : Value), (#[x1, x2, x3, x4, x5] : Array Value)[k]? = some v → ∀ w, (part 2 #[x1, x2, x3, x4, x5] k).run Try.prog w = .ok v w := by
    intro k x1 x2 x3 x4 x5 v h w
    simp [part, isAgg, run_underlying Try.underlying2, h]
  have PU : ∀ (k : Nat) (x1 x2 x3 x4 x5 v : Value), (#[x1, x2, x3, x4, x5] : Array Value)[k]? = some v → ∀ w, (part 27 #[x1, x2, x3, x4, x5] k).run Try.prog w = .ok v w := by
    intro k x1 x2 x3 x4 x5 v h w
    simp [part, isAgg, run_underlying Try.underlying27, h]
  have PB : ∀ (k : Nat) (x1 x2 x3 x4 x5 v : Value), (#[x1, x2, x3, x4, x5] : Array Value)[k]? = some v → ∀ w, (part 4 #[x1, x2, x3, x4, x5] k).run Try.prog w = .ok v w := by
    intro k x1 x2 x3 x4 x5 v h w
    simp [part, isAgg, run_underlying Try.underlying4, h]
  have QI : ∀ (x y : Int) (w : World), (Op.equalIn 9999 2 (.int .i64 x) (.int .i64 y)).run Try.prog w = .ok (x == y) w := fun x y w => run_equalIn_int w 9998 2 .i64 .i64 x y Try.underlying2
  have QU : ∀ (x y : Int) (w : World), (Op.equalIn 9999 27 (.int .u64 x) (.int .u64 y)).run Try.prog w = .ok (x == y) w := fun x y w => run_equalIn_int w 9998 27 .u64 .u64 x y Try.underlying27
  have QB : ∀ (x y : Bool) (w : World), (Op.equalIn 9999 4 (.bool x) (.bool y)).run Try.prog w = .ok (x == y) w := fun x y w => run_equalIn_bool w 9998 4 x y Try.underlying4
  simp [Op.eqFields, Sem.run_bind, PB 0 _ _ _ _ _ _ rfl, PI 1 _ _ _ _ _ _ rfl, PI 2 _ _ _ _ _ _ rfl, PU 3 _ _ _ _ _ _ rfl, PU 4 _ _ _ _ _ _ rfl, QI, QU, QB]
  by_cases h1 : a = a' <;> by_cases h2 : b = b' <;> by_cases h3 : c = c' <;> by_cases h4 : d = d' <;> by_cases h5 : e = e' <;> simp [h1, h2, h3, h4, h5]

theorem run_neqSlt (s t : Slt) (w : World) : (binOp .neq 60 s.v t.v).run Try.prog w = .ok (.bool (!decide (s = t))) w := by
  have h := run_sameSlt s t w
  simp only [Slt.v] at h ⊢
  rw [run_neq_struct, h]
  rfl

theorem run_eqlSlt (s t : Slt) (w : World) : (binOp .eql 60 s.v t.v).run Try.prog w = .ok (.bool (decide (s = t))) w := by
  have h := run_sameSlt s t w
  simp only [Slt.v] at h ⊢
  rw [run_eql_struct, h]
  rfl

theorem wpList_neqSlt {ops : Array Oper} {rest : List Oper} {o : Oper} {A : Act} {w : World} {Q : Exit → Act → World → Prop} {s t : Slt} (hw : Region.wanted o (yielded ops A.tmps) = true) (x y : Operand) (ty : TypeId) (ho : o.op = .binOp .neq 60 x y ty)
    (hx : A.eval x = s.v) (hy : A.eval y = t.v) (nb : Bool) (hn : (!decide (s = t)) = nb) (h : wpList Try.prog ops Q rest (A.put o.dst (.bool nb)) w) : wpList Try.prog ops Q (o :: rest) A w := by
  unfold wpList
  rw [if_pos hw]
  refine Or.inl ?_
  subst hn
  have h1 := run_neqSlt s t w
  simp only [Slt.v] at h1 hx hy
  unfold Oper.wp execOp
  simp only [ho, hx, hy, Sem.run_bind, run_eqGuard_agg w _ _ _ _ _ _ slt_guard, h1, Result.andThen_ok]
  exact h

theorem wpList_eqlSlt {ops : Array Oper} {rest : List Oper} {o : Oper} {A : Act} {w : World} {Q : Exit → Act → World → Prop} {s t : Slt} (hw : Region.wanted o (yielded ops A.tmps) = true) (x y : Operand) (ty : TypeId) (ho : o.op = .binOp .eql 60 x y ty)
    (hx : A.eval x = s.v) (hy : A.eval y = t.v) (nb : Bool) (hn : decide (s = t) = nb) (h : wpList Try.prog ops Q rest (A.put o.dst (.bool nb)) w) : wpList Try.prog ops Q (o :: rest) A w := by
  unfold wpList
  rw [if_pos hw]
  refine Or.inl ?_
  subst hn
  have h1 := run_eqlSlt s t w
  simp only [Slt.v] at h1 hx hy
  unfold Oper.wp execOp
  simp only [ho, hx, hy, Sem.run_bind, run_eqGuard_agg w _ _ _ _ _ _ slt_guard, h1, Result.andThen_ok]
  exact h

theorem flatS_one (ss : List Slt) : ∀ u ∈ flatS ss, u.oneCell' = true := by
  induction ss with
  | nil => intro u hu; simp [flatS] at hu
  | cons s ss ih =>
    intro u hu
    rw [flatS, List.mem_append] at hu
    rcases hu with hu | hu
    · simp only [Slt.cs, List.mem_cons, List.not_mem_nil, or_false] at hu
      rcases hu with rfl | rfl | rfl | rfl | rfl <;> rfl
    · exact ih u hu

theorem zeroCells_flat (n : Nat) : (Builtin.zeroCells #[.bool false, .int .i64 0, .int .i64 0, .int .u64 0, .int .u64 0] n).toList = flatS (List.replicate n slt0) := by
  rw [← made_flat]
  rfl

theorem run_clear_own {w : World} {base g n cap : Nat} {ss : List Slt} (h : w.ownsRow base 60 5 (.slice (some ⟨g, 0, none⟩) n cap) n (flatS ss)) (i m c : Nat) (ty : TypeId) (hm : 0 < m) (him : i + m ≤ n) :
    ∃ w', (Builtin.clear_ #[24] ty #[.slice (some ⟨g, i * 5, none⟩) m c]).run Try.prog w = .ok (.tuple #[]) w' ∧ w'.ownsRow base 60 5 (.slice (some ⟨g, 0, none⟩) n cap) n (flatS (zeroed ss i m)) ∧ w.grownBy w' (some g) := by
  have hn : ss.length = n := by have := h.1; rw [flatS_len] at this; omega
  rcases h.2 with ⟨h2, _⟩ | ⟨g', c', cur, hv, hbg, hh, hnc, hcm, hcs, htake⟩
  · cases h2
  · simp only [Value.slice.injEq, Option.some.injEq, Addr.mk.injEq, and_true, true_and] at hv
    obtain ⟨rfl, rfl⟩ := hv
    have hl : (flatS (List.replicate m slt0)).length = m * 5 := by rw [flatS_len]; simp
    have hst := run_storeCells_at (P := Try.prog) g (i * 5) 60 (flatS (List.replicate m slt0)) 0 cur w hh (by rw [hl]; omega) (flatS_one _)
    obtain ⟨m', rfl⟩ : ∃ k, m = k + 1 := ⟨m - 1, by omega⟩
    have hzc : (Builtin.zeroCells (Value.cells (.agg #[.bool false, .int .i64 0, .int .i64 0, .int .u64 0, .int .u64 0])) (m' + 1)).toList = flatS (List.replicate (m' + 1) slt0) := zeroCells_flat (m' + 1)
    have hrun : (Builtin.clear_ #[24] ty #[.slice (some ⟨g, i * 5, none⟩) (m' + 1) c]).run Try.prog w = .ok (.tuple #[]) (w.setRow g (cur.toList.take (i * 5 + 0) ++ flatS (List.replicate (m' + 1) slt0) ++ cur.toList.drop (i * 5 + 0 + (flatS (List.replicate (m' + 1) slt0)).length)).toArray) := by
      generalize flatS (List.replicate (m' + 1) slt0) = F at hst hzc ⊢
      simp only [Nat.add_zero] at hst ⊢
      simp [Builtin.clear_, run_underlying Try.underlying24, hzc, hst]
    refine ⟨_, hrun, ⟨?_, .inr ⟨g, cap, _, rfl, hbg, setRow_heap w g _ _ 60 _ hh, hnc, hcm, ?_, ?_⟩⟩, ⟨rfl, rfl, rfl, by simp, fun k _ hk => setRow_other w g k _ (fun e => hk (by rw [e]))⟩⟩
    · rw [flatS_len]; simp [zeroed]; omega
    · rw [hl]; simp; omega
    · have e : flatS (zeroed ss i (m' + 1)) = (flatS ss).take (i * 5) ++ flatS (List.replicate (m' + 1) slt0) ++ (flatS ss).drop ((i + (m' + 1)) * 5) := by
        rw [zeroed, flatS_append, flatS_append, flatS_take, flatS_drop]
      rw [e, ← htake, hl, Nat.add_zero, List.take_take, List.take_append, List.take_append]
      have hlc : cur.toList.length = cap * 5 := by rw [Array.length_toList, hcs]
      have e1 : (cur.toList.take (i * 5)).length = i * 5 := by rw [List.length_take]; omega
      simp only [List.length_append, e1, hl]
      rw [List.take_of_length_le (by omega), List.take_of_length_le (l := flatS (List.replicate (m' + 1) slt0)) (by rw [hl]; omega), List.drop_take, Nat.min_eq_left (by omega)]
      congr 2
      · omega
      · congr 1; omega

theorem own_empty5 (w : World) (base : Nat) (hb : base ≤ w.heap.size) (o : Obj) (ho : o = .cells #[] 60 (0, 0)) : (w.alloc o).ownsRow base 60 5 (.slice (some ⟨w.heap.size, 0, none⟩) 0 0) 0 [] := by
  subst ho
  exact World.ownsRow_lit w #[] 0 hb (by unfold maxLen; omega) rfl

theorem ss_news {w : World} {A : Addr} {ss : List Slt} (hs : Ss w (some A) ss) : ∀ j u, (flatS ss)[j]? = some u → w.cell? (A.add j) = some u := by
  intro j u hu
  have hj : j < ss.length * 5 := by
    rcases Nat.lt_or_ge j (ss.length * 5) with h | h
    · exact h
    · rw [List.getElem?_eq_none (by rw [flatS_len]; exact h)] at hu; cases hu
  obtain ⟨b, off, e, _, hc⟩ := hs (j / 5) (by omega)
  have h1 := flatS_get ss (j / 5) (j % 5) (by omega) (by omega)
  have h2 := hc (j % 5) (by omega)
  cases e
  have e1 : j / 5 * 5 + j % 5 = j := by omega
  have e2 : off + j / 5 * 5 + j % 5 = off + j := by omega
  rw [e1] at h1
  rw [e2] at h2
  rw [adds, h2, ← h1]
  exact hu

theorem wpList_app5 {ops : Array Oper} {rest : List Oper} {o : Oper} {a : Act} {Q : Exit → Act → World → Prop} {w : World} (hgd : o.guard = none) (s x : Operand)
    (ho : o.op = .call { callee := .builtin .append, args := #[s, x], argTypes := #[24, 24] }) (base g : Nat) (hs : a.eval s = .slice (some ⟨g, 0, none⟩) 0 0) (hown : w.ownsRow base 60 5 (.slice (some ⟨g, 0, none⟩) 0 0) 0 [])
    (ad : Option Addr) (m c : Nat) (ss : List Slt) (hx : a.eval x = .slice ad m c) (hz : ss.length = m) (hm0 : 0 < m) (hm : m ≤ 1048576) (hsl : Ss w ad ss) (hbase : base ≤ w.heap.size)
    (h : ∀ g' c' w', w'.ownsRow base 60 5 (.slice (some ⟨g', 0, none⟩) m c') m (flatS ss) → w.grownBy w' (some g) → base ≤ g' → wpList Try.prog ops Q rest (a.put o.dst (.slice (some ⟨g', 0, none⟩) m c')) w') : wpList Try.prog ops Q (o :: rest) a w := by
  obtain ⟨i0, hi, hz0, hz1, hz2⟩ := info_parts Try.info60
  cases ad with
  | none =>
    obtain ⟨b, off, e, _⟩ := hsl 0 (by omega)
    cases e
  | some A =>
    refine wpList_append_own _ hgd s x 24 ho base 60 i0 _ 5 40 Try.underlying24 hi hz0 hz1 hz2 rfl (by decide) _ 0 [] hs hown A m c (flatS ss) hx (by rw [flatS_len, hz]) (ss_news hsl) (flatS_one _) (by unfold maxLen; omega) (by omega) hbase ?_
    intro v' w' h1 h2 h3
    simp only [Nat.zero_add, List.nil_append] at h1
    rcases h1.2 with ⟨e, e0⟩ | ⟨g', cap, cur, e, hg', _⟩
    · omega
    · subst e
      exact h g' cap w' h1 h2 hg'

theorem l1In_s (x a b : Int) (w : World) : Calls Try.prog 36 #[.int .i64 x, .int .i64 a, .int .i64 b] w fun e w' => e = .returned (.bool (decide (a ≤ x ∧ x ≤ b))) ∧ w' = w := by
  by_cases h1 : a ≤ x
  · have d1 : decide (a ≤ x) = true := by simpa using h1
    by_cases h2 : x ≤ b
    · have d2 : decide (x ≤ b) = true := by simpa using h2
      have F := dhid (show decide (a ≤ x ∧ x ≤ b) = true by simp [h1, h2])
      clear h1 h2
      go_enter Try.func36, Try.ntmps36
      go_wp2_with fail
      go_ret
      exact ⟨by rw [F.out]; rfl, rfl⟩
    · have d2 : decide (x ≤ b) = false := by simpa using h2
      have F := dhid (show decide (a ≤ x ∧ x ≤ b) = false by simp [h2])
      clear h1 h2
      go_enter Try.func36, Try.ntmps36
      go_wp2_with fail
      go_ret
      exact ⟨by rw [F.out]; rfl, rfl⟩
  · have d1 : decide (a ≤ x) = false := by simpa using h1
    have F := dhid (show decide (a ≤ x ∧ x ≤ b) = false by simp [h1])
    clear h1
    go_enter Try.func36, Try.ntmps36
    go_wp2_with fail
    go_ret
    exact ⟨by rw [F.out]; rfl, rfl⟩

theorem l6Kind_s (k : Int) (w : World) : Calls Try.prog 35 #[.int .i64 k] w fun e w' => e = .returned (.bool (decide (1 ≤ k ∧ k ≤ 3))) ∧ w' = w := by
  have H := dhid (l1In_s k 1 3)
  obtain ⟨t, ht⟩ : ∃ t, decide (1 ≤ k ∧ k ≤ 3) = t := ⟨_, rfl⟩
  rw [ht] at H ⊢
  clear ht
  go_enter Try.func35, Try.ntmps35
  go_wp2_with fail
  refine (H.out _).mono ?_
  rintro e w1 ⟨rfl, rfl⟩
  go_wp2_with fail
  go_ret
  exact ⟨rfl, rfl⟩

theorem l10Place_any (k p addr : Int) (hk : 1 ≤ k ∧ k ≤ 3) (hp : 0 ≤ p ∧ p ≤ 1) (ha : 0 ≤ addr ∧ addr ≤ 18446744073709551615) (w : World) :
    Calls Try.prog 39 #[.int .i64 k, .int .i64 p, .int .u64 addr] w fun e w' => e = .returned (.int .u64 (plS k p (addr / 4096))) ∧ w' = w := by
  have hk' : k = 1 ∨ k = 2 ∨ k = 3 := by omega
  have hp' : p = 0 ∨ p = 1 := by omega
  unfold plS
  have b0 : 0 ≤ addr / 4096 := by omega
  have b1 : addr / 4096 ≤ 4503599627370495 := by omega
  go_enter Try.func39, Try.ntmps39
  go_wp2_with fail
  go_ret
  exact ⟨rfl, rfl⟩

set_option maxRecDepth 100000 in
set_option maxHeartbeats 3200000 in
theorem specCacheOk_any (a : Option Addr) (n cap : Nat) (ss : List Slt) (w : World) (hz : ss.length = n) (hn : n ≤ 1048576) (hw : Sw ss) (hs : Ss w a ss) :
    Calls Try.prog 20 #[.agg #[.slice a n cap]] w fun e w' => e = .returned (.bool (cacheB ss)) ∧ Below w.heap.size w w' := by
  have HZ : Hid (ss.length = n) := hz
  by_cases h16 : n = 16
  case neg =>
    have F := dhid (show cacheB ss = false by simp [cacheB]; intro h; omega)
    have d : ((n : Int) != 16) = true := by simp; omega
    clear h16 hz hs hw
    go_enter Try.func20, Try.ntmps20
    go_wp2_with fail
    go_ret
    exact ⟨by rw [F.out]; rfl, (Below.refl _ _).alloc (Nat.le_refl _) _⟩
  subst h16
  have HS := dhid hs
  have HW := dhid hw
  clear hz hs hw
  go_enter Try.func20, Try.ntmps20
  go_wp2_with fail
  obtain ⟨W, hW⟩ : ∃ W, W = w.alloc (.cells #[.slice a 16 cap] 26) := ⟨_, rfl⟩
  rw [← hW]
  have hWB : Below w.heap.size w W := by rw [hW]; exact (Below.refl _ _).alloc (Nat.le_refl _) _
  have hWr : W.heap[w.heap.size]? = some (.cells #[.slice a 16 cap] 26 (0, 0)) := by rw [hW]; exact heap_alloc_new _ _
  clear hW
  have RW := dhid hWr
  have BW := dhid hWB
  clear hWr hWB
  go_loopw [3] (fun i wr => ∃ k : Nat, k ≤ 16 ∧ i = .int .i64 k ∧ Hid (okTo ss k = true) ∧ Below W.heap.size W wr) (fun i _ => 16 - (intOf i).toNat)
  case atStart => exact ⟨0, by omega, rfl, rfl, Below.refl _ _⟩
  case round =>
    obtain ⟨k, hk, rfl, hok, hbel⟩ := hrel
    have q0 := row_at1 (dstays hbel RW.out)
    by_cases hlt : k < 16
    · obtain ⟨s, hss⟩ : ∃ s, ss.getD k slt0 = s := ⟨_, rfl⟩
      obtain ⟨b, off, rfl, hb, c0, c1, c2, c3, c4⟩ := ((HS.out.below BW.out).below hbel).at k (by have := HZ.out; omega) s hss
      obtain ⟨⟨g0, g1⟩, f0, f1⟩ : (0 ≤ s.g ∧ s.g ≤ 18446744073709551615) ∧ (0 ≤ s.f ∧ s.f ≤ 18446744073709551615) := by rw [← hss]; exact HW.out.get k
      have NXT := dhid (fun (h : okS s k = true) => show okTo ss (k + 1) = true by rw [okTo_succ, hok.out, hss, h]; rfl)
      have BAD := dhid (fun (h : okS s k = false) => show cacheB ss = false by rw [cacheB, okTo_false hlt (by rw [hss]; exact h), Bool.and_false])
      have HB := dhid hbel
      have HB2 := dhid (below_trans BW.out hbel)
      obtain ⟨u, kk, p, g, f⟩ := s
      dsimp only at c0 c1 c2 c3 c4 g0 g1 f0 f1
      clear hss hok hbel hb
      cases u
      case false =>
        by_cases he : (⟨false, kk, p, g, f⟩ : Slt) = slt0
        · have NX := dhid (NXT.out (by rw [okS, he]; rfl))
          have dn := dhid (show (!decide ((⟨false, kk, p, g, f⟩ : Slt) = slt0)) = false by simp [he])
          clear NXT BAD he
          go_wp2_with (refine wpList_neqSlt (s := ⟨false, kk, p, g, f⟩) (t := slt0) rfl (.tmp 21) (.tmp 22) _ rfl rfl rfl _ dn.out ?_)
          go_roundw
          case rel => exact ⟨k + 1, by omega, by go_num, NX, HB.out.alloc HB.out.size _⟩
          case measure => simp [intOf]; omega
        · have BD := dhid (BAD.out (by rw [okS]; simp [he]))
          have dn := dhid (show (!decide ((⟨false, kk, p, g, f⟩ : Slt) = slt0)) = true by simp [he])
          clear NXT BAD he
          go_wp2_with (refine wpList_neqSlt (s := ⟨false, kk, p, g, f⟩) (t := slt0) rfl (.tmp 21) (.tmp 22) _ rfl rfl rfl _ dn.out ?_)
          go_ret
          exact ⟨by rw [BD.out]; rfl, HB2.out.alloc HB2.out.size _⟩
      case true =>
        have H1 := dhid (l6Kind_s kk)
        have H2 := dhid (l1In_s p 0 1)
        have OK : okS ⟨true, kk, p, g, f⟩ k = okU ⟨true, kk, p, g, f⟩ k := rfl
        rw [OK, okU] at NXT BAD
        dsimp only at NXT BAD
        clear OK
        cases t1 : decide (1 ≤ kk ∧ kk ≤ 3)
        case false =>
          rw [t1] at H1 BAD
          have H3 := dhid (fun w => l1In_s 0 0 0 w)
          have BD := dhid (BAD.out (by rfl))
          clear NXT BAD
          go_wp2_with (first | (go_at_call 35; refine (H1.out _).mono ?_; rintro e w1 ⟨rfl, rfl⟩) | (go_at_call 36; refine (H2.out _).mono ?_; rintro e w1 ⟨rfl, rfl⟩) | (go_at_call 39; refine (H3.out _).mono ?_; rintro e w1 ⟨rfl, rfl⟩))
          go_ret
          exact ⟨by rw [BD.out]; rfl, HB2.out.alloc HB2.out.size _⟩
        cases t2 : decide (0 ≤ p ∧ p ≤ 1)
        case false =>
          rw [t1] at H1 BAD
          rw [t2] at H2 BAD
          have H3 := dhid (fun w => l1In_s 0 0 0 w)
          have BD := dhid (BAD.out (by rfl))
          clear NXT BAD
          go_wp2_with (first | (go_at_call 35; refine (H1.out _).mono ?_; rintro e w1 ⟨rfl, rfl⟩) | (go_at_call 36; refine (H2.out _).mono ?_; rintro e w1 ⟨rfl, rfl⟩) | (go_at_call 39; refine (H3.out _).mono ?_; rintro e w1 ⟨rfl, rfl⟩))
          go_ret
          exact ⟨by rw [BD.out]; rfl, HB2.out.alloc HB2.out.size _⟩
        rw [t1] at H1 BAD NXT
        rw [t2] at H2 BAD NXT
        have k12 : 1 ≤ kk ∧ kk ≤ 3 := of_decide_eq_true t1
        have p12 : 0 ≤ p ∧ p ≤ 1 := of_decide_eq_true t2
        clear t1 t2
        by_cases hg : g < 4503599627370496
        case neg =>
          have dg : (g / 4503599627370496 != 0) = true := by simp; omega
          have H3 := dhid (fun w => l1In_s 0 0 0 w)
          rw [decide_eq_false hg] at BAD
          clear k12 p12
          have BD := dhid (BAD.out (by rfl))
          clear NXT BAD
          go_wp2_with (first | (go_at_call 35; refine (H1.out _).mono ?_; rintro e w1 ⟨rfl, rfl⟩) | (go_at_call 36; refine (H2.out _).mono ?_; rintro e w1 ⟨rfl, rfl⟩) | (go_at_call 39; refine (H3.out _).mono ?_; rintro e w1 ⟨rfl, rfl⟩))
          go_ret
          exact ⟨by rw [BD.out]; rfl, HB2.out.alloc HB2.out.size _⟩
        by_cases hf : f < 4503599627370496
        case neg =>
          have dg : (g / 4503599627370496 != 0) = false := by simp; omega
          have df : (f / 4503599627370496 != 0) = true := by simp; omega
          have H3 := dhid (fun w => l1In_s 0 0 0 w)
          rw [decide_eq_true hg, decide_eq_false hf] at BAD
          clear k12 p12
          have BD := dhid (BAD.out (by rfl))
          clear NXT BAD
          go_wp2_with (first | (go_at_call 35; refine (H1.out _).mono ?_; rintro e w1 ⟨rfl, rfl⟩) | (go_at_call 36; refine (H2.out _).mono ?_; rintro e w1 ⟨rfl, rfl⟩) | (go_at_call 39; refine (H3.out _).mono ?_; rintro e w1 ⟨rfl, rfl⟩))
          go_ret
          exact ⟨by rw [BD.out]; rfl, HB2.out.alloc HB2.out.size _⟩
        have dg : (g / 4503599627370496 != 0) = false := by simp; omega
        have df : (f / 4503599627370496 != 0) = false := by simp; omega
        have H3 := dhid (fun w => l10Place_any kk p (g * 4096) k12 p12 (by omega) w)
        rw [show g * 4096 / 4096 = g by omega] at H3
        rw [decide_eq_true hg, decide_eq_true hf] at BAD NXT
        have PB := plS_bd kk p g
        obtain ⟨q, hq⟩ : ∃ q, plS kk p g = q := ⟨_, rfl⟩
        rw [hq] at H3 BAD NXT PB
        clear k12 p12 hq
        cases te : (q == (k : Int))
        case false =>
          have dq : (q != (k : Int)) = true := by simp [bne, te]
          rw [te] at BAD
          clear te
          have BD := dhid (BAD.out (by rfl))
          clear NXT BAD
          go_wp2_with (first | (go_at_call 35; refine (H1.out _).mono ?_; rintro e w1 ⟨rfl, rfl⟩) | (go_at_call 36; refine (H2.out _).mono ?_; rintro e w1 ⟨rfl, rfl⟩) | (go_at_call 39; refine (H3.out _).mono ?_; rintro e w1 ⟨rfl, rfl⟩))
          go_ret
          exact ⟨by rw [BD.out]; rfl, HB2.out.alloc HB2.out.size _⟩
        have dq : (q != (k : Int)) = false := by simp [bne, te]
        rw [te] at NXT
        have NX := dhid (NXT.out rfl)
        clear te NXT BAD
        go_wp2_with (first | (go_at_call 35; refine (H1.out _).mono ?_; rintro e w1 ⟨rfl, rfl⟩) | (go_at_call 36; refine (H2.out _).mono ?_; rintro e w1 ⟨rfl, rfl⟩) | (go_at_call 39; refine (H3.out _).mono ?_; rintro e w1 ⟨rfl, rfl⟩))
        go_roundw
        case rel => exact ⟨k + 1, by omega, by go_num, NX, HB.out.alloc HB.out.size _⟩
        case measure => simp [intOf]; omega
    · have : k = 16 := by omega
      subst this
      have F := dhid (show cacheB ss = true by rw [cacheB, hok.out, HZ.out]; rfl)
      go_wp2_with fail
      go_ret
      exact ⟨by rw [F.out]; rfl, below_trans BW.out hbel⟩

theorem specNewCache_any (w : World) : Calls Try.prog 23 #[] w fun e w' => ∃ g, e = .returned (.agg #[.slice (some ⟨g, 0, none⟩) 16 16]) ∧
    w'.ownsRow w.heap.size 60 5 (.slice (some ⟨g, 0, none⟩) 16 16) 16 (flatS (List.replicate 16 slt0)) ∧ Below w.heap.size w w' := by
  obtain ⟨i0, hi, hz0, hz1, hz2⟩ := info_parts Try.info60
  have hb2 : i0.bytes * 16 ≤ 281474976710656 := by rw [hz2]; omega
  have hb3 : 16 ≤ maxLen := by unfold maxLen; omega
  clear hz2
  go_enter Try.func23, Try.ntmps23
  go_wp2_with (at_make; refine wpList_make_full _ rfl (.const (.int .i64 16)) (.const (.int .i64 16)) 24 rfl w.heap.size 60 i0 _ 5 Try.underlying24 hi hz0 hz1 .i64 .i64 _ _ 16 rfl rfl rfl rfl hb2 hb3 (by simp) ?_; intro w1 hown hgrow; have r1 := (hgrow.block w.heap.size (by simp) (by simp)).trans (heap_alloc_new _ _); have q0 := row_at1 r1; have f0 := froz r1 0; have HG := dhid hgrow; have HO := dhid hown; have R1 := dhid r1; clear hown hgrow r1)
  have OW : w1.ownsRow w.heap.size 60 5 (.slice (some ⟨w.heap.size + 1, 0, none⟩) 16 16) 16 (flatS (List.replicate 16 slt0)) := by
    rw [← made_flat]; simpa [Value.cells] using HO.out
  have T1 := row_set R1.out 0 (.slice (some ⟨w.heap.size + 1, 0, none⟩) 16 16)
  have O1 := own_far OW ⟨w.heap.size, 0, none⟩ (.slice (some ⟨w.heap.size + 1, 0, none⟩) 16 16) (by intro k hk; simp [Value.ownBlock] at hk; dsimp only; omega)
  have B1 : Below w.heap.size w w1 := ((Below.refl _ _).alloc (Nat.le_refl _) _).grown HG.out (by simp) (by intro k h; cases h)
  exact bodyPost_ret (results_cell_row Try.results23 _ _ _ _ _ _ _ rfl T1 Try.underlying26 rfl cache_size) rfl ⟨_, rfl, O1, B1.setCell (by exact Nat.le_refl _) _⟩

set_option maxRecDepth 100000 in
theorem l10Copy_any (a : Option Addr) (n cap : Nat) (ss : List Slt) (w : World) (hz : ss.length = n) (hn0 : 0 < n) (hn : n ≤ 1048576) (hs : Ss w a ss) :
    Calls Try.prog 37 #[.agg #[.slice a n cap]] w fun e w' => ∃ g c, e = .returned (.agg #[.slice (some ⟨g, 0, none⟩) n c]) ∧
      w'.ownsRow w.heap.size 60 5 (.slice (some ⟨g, 0, none⟩) n c) n (flatS ss) ∧ Below w.heap.size w w' := by
  have hB3 : ∀ o1 o2 o3, Below w.heap.size w (((w.alloc o1).alloc o2).alloc o3) := fun o1 o2 o3 => (((Below.refl _ _).alloc (Nat.le_refl _) o1).alloc (by simp) o2).alloc (by simp; omega) o3
  have HS := dhid (fun o1 o2 o3 => hs.below (hB3 o1 o2 o3))
  have hE : ∀ o1 o2, (((w.alloc o1).alloc o2).alloc (.cells #[] 60 (0, 0))).ownsRow w.heap.size 60 5 (.slice (some ⟨w.heap.size + 1 + 1, 0, none⟩) 0 0) 0 [] := fun o1 o2 => by
    have := own_empty5 ((w.alloc o1).alloc o2) w.heap.size (by simp; omega) _ rfl
    simpa only [World.size_alloc] using this
  clear hs
  go_enter Try.func37, Try.ntmps37
  go_wp2_with (at_builtin; refine wpList_app5 rfl (.tmp 3) (.tmp 5) rfl w.heap.size _ rfl (hE _ _) a n cap ss rfl hz hn0 hn (HS.out _ _ _) (by simp; omega) ?_; intro g c w1 ow gr hg; have r1 := (gr.block (w.heap.size + 1) (by simp only [World.size_alloc]; omega) (by simp)).trans (rows3 (Below.refl _ _)).2.1; have q0 := row_at1 r1; have f0 := froz r1 0; have HG := dhid gr; have HO := dhid ow; have R1 := dhid r1; clear gr ow r1)
  have hgl : g < w1.heap.size := own_lt HO.out
  have hne : g ≠ w.heap.size + 1 := by
    intro e
    rcases HO.out.2 with ⟨h, _⟩ | ⟨g', _, cur, h, _, hh, _⟩
    · cases h
    · simp only [Value.slice.injEq, Option.some.injEq, Addr.mk.injEq, and_true, true_and] at h
      rw [← h.1, e, R1.out] at hh
      simp at hh
  have T1 := row_set R1.out 0 (.slice (some ⟨g, 0, none⟩) n c)
  have O1 := own_far HO.out ⟨w.heap.size + 1, 0, none⟩ (.slice (some ⟨g, 0, none⟩) n c) (by intro k hk; simp [Value.ownBlock] at hk; dsimp only; omega)
  have B1 : Below w.heap.size w w1 := (hB3 _ _ _).grown HG.out (by simp only [World.size_alloc]; omega) (by intro k h; cases h; omega)
  exact bodyPost_ret (results_cell_row Try.results37 _ _ _ _ _ _ _ rfl T1 Try.underlying26 rfl cache_size) rfl ⟨_, _, rfl, O1, B1.setCell (by dsimp only; omega) _⟩

end Go.Proofs.Ytdllhjehokpefaa
