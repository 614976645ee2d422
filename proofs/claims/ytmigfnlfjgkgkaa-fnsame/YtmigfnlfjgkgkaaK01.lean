/- Own lemmas. -/
import Derived.Laws.BitsAllLaws
import Derived.WalkKit
import Derived.WalkLawsBesides
import Derived.Laws.CopyOwn
import Derived.Test.YtmigfnlfjgkgkaaProg
import Derived.Deep.AppendSrc
import Derived.Deep.RegionWith
import Derived.BigQuiet
import Derived.Laws.Tables
import Derived.RegionTactic
namespace Go.Proofs.Ytmigfnlfjgkgkaa
set_option linter.unusedVariables false

def ramOkB (n : Nat) : Bool := decide (4096 ≤ n ∧ n ≤ 65536 ∧ n % 4096 = 0)

theorem ramOkB_bd {n : Nat} (h : ramOkB n = true) : 4096 ≤ n ∧ n ≤ 65536 := by
  unfold ramOkB at h
  have := of_decide_eq_true h
  omega

def sizeB (s : Int) : Bool := decide (s = 1 ∨ s = 2 ∨ s = 4 ∨ s = 8)

def okB (n : Nat) (addr size : Int) : Bool := ramOkB n && sizeB size && decide (2147483648 ≤ addr ∧ addr - 2147483648 + size ≤ n)

theorem okB_true {n : Nat} {addr size : Int} (h : okB n addr size = true) :
    ramOkB n = true ∧ sizeB size = true ∧ 2147483648 ≤ addr ∧ addr - 2147483648 + size ≤ n ∧ 1 ≤ size ∧ size ≤ 8 ∧ 4096 ≤ n ∧ n ≤ 65536 := by
  simp only [okB, Bool.and_eq_true, decide_eq_true_eq] at h
  obtain ⟨⟨h1, h2⟩, h3, h4⟩ := h
  have h5 : size = 1 ∨ size = 2 ∨ size = 4 ∨ size = 8 := of_decide_eq_true h2
  have h6 := ramOkB_bd h1
  exact ⟨h1, h2, h3, h4, by omega, by omega, h6.1, h6.2⟩

def put (zs : List Int) (f : Nat) (x : Int) : Nat → List Int
  | 0 => zs
  | k + 1 => (put zs f x k).set (f + k) (x / 256 ^ k % 256)

theorem put_len (zs : List Int) (f : Nat) (x : Int) : ∀ k, (put zs f x k).length = zs.length := by
  intro k
  induction k with
  | zero => rfl
  | succ k ih => simp [put, ih]

theorem put_bd (zs : List Int) (hz : ∀ y ∈ zs, 0 ≤ y ∧ y ≤ 255) (f : Nat) (x : Int) : ∀ k, ∀ y ∈ put zs f x k, 0 ≤ y ∧ y ≤ 255 := by
  intro k
  induction k with
  | zero => exact hz
  | succ k ih =>
    intro y hy
    rcases List.mem_or_eq_of_mem_set hy with h | h
    · exact ih y h
    · subst h; omega

end Go.Proofs.Ytmigfnlfjgkgkaa

namespace Go.Proofs.Ytmigfnlfjgkgkaa
open Go.RowKit
set_option linter.unusedVariables false

def Sl (k : IntKind) (w : World) (a : Option Addr) (zs : List Int) : Prop :=
  ∀ i, i < zs.length → ∃ b off, a = some ⟨b, off, none⟩ ∧ b < w.heap.size ∧ w.cell? ⟨b, off + i, none⟩ = some (.int k (zs.getD i 0))

theorem Sl.below {k : IntKind} {w w' : World} {a : Option Addr} {zs : List Int} (h : Sl k w a zs) (hb : Below w.heap.size w w') : Sl k w' a zs := by
  intro i hi
  obtain ⟨b, off, e, hlt, hc⟩ := h i hi
  exact ⟨b, off, e, Nat.lt_of_lt_of_le hlt hb.size, (hb.cell (by exact hlt)).trans hc⟩

theorem ownsRow_below {w w' : World} {base : Nat} {e : TypeId} {size : Nat} {v : Value} {n : Nat} {xs : List Value} (h : w.ownsRow base e size v n xs) (hb : Below w.heap.size w w') : w'.ownsRow base e size v n xs := by
  obtain ⟨h1, h2⟩ := h
  refine ⟨h1, ?_⟩
  rcases h2 with h2 | ⟨g, cap, cur, hv, hg, hh, r⟩
  · exact Or.inl h2
  · have hlt : g < w.heap.size := by
      rcases Nat.lt_or_ge g w.heap.size with h | h
      · exact h
      · rw [Array.getElem?_eq_none h] at hh; cases hh
    exact Or.inr ⟨g, cap, cur, hv, hg, by rw [hb.block g hlt]; exact hh, r⟩

theorem own_lt {w : World} {base : Nat} {e : TypeId} {size g n cap : Nat} {xs : List Value} (h : w.ownsRow base e size (.slice (some ⟨g, 0, none⟩) n cap) n xs) : g < w.heap.size := by
  obtain ⟨h1, h2⟩ := h
  rcases h2 with ⟨h2, _⟩ | ⟨g', cap', cur, hv, hg, hh, r⟩
  · cases h2
  · simp only [Value.slice.injEq, Option.some.injEq, Addr.mk.injEq, and_true, true_and] at hv
    obtain ⟨rfl, rfl⟩ := hv
    rcases Nat.lt_or_ge g w.heap.size with h | h
    · exact h
    · rw [Array.getElem?_eq_none h] at hh; cases hh

theorem own_sl {k : IntKind} {w : World} {base : Nat} {e : TypeId} {g n cap : Nat} {zs : List Int} (h : w.ownsRow base e 1 (.slice (some ⟨g, 0, none⟩) n cap) n (zs.map (Value.int k))) : Sl k w (some ⟨g, 0, none⟩) zs := by
  intro i hi
  have hl : n = zs.length := by have := h.1; simp at this; omega
  refine ⟨g, 0, rfl, own_lt h, ?_⟩
  rw [Nat.zero_add, h.cellAt i (by omega)]
  simp [List.getElem?_map, List.getElem?_eq_getElem hi, List.getD]

theorem own_sl' {k : IntKind} {w : World} {base : Nat} {e : TypeId} {a : Option Addr} {n cap : Nat} {zs : List Int} (h : w.ownsRow base e 1 (.slice a n cap) n (zs.map (Value.int k))) : Sl k w a zs := by
  rcases h.2 with ⟨h2, h3⟩ | ⟨g', cap', cur, hv, hg, hh, r⟩
  · intro i hi
    have := h.1
    simp at this
    omega
  · simp only [Value.slice.injEq, true_and] at hv
    obtain ⟨rfl, rfl⟩ := hv
    exact own_sl h

theorem take_next (xs ys : List Int) (k n : Nat) (hx : xs.length = n) (hy : ys.length = n) (hk : k < n) (h : xs.take k = ys.take k) (he : xs.getD k 0 = ys.getD k 0) : xs.take (k + 1) = ys.take (k + 1) := by
  rw [List.take_succ_eq_append_getElem (by omega), List.take_succ_eq_append_getElem (by omega), h]
  have e1 : xs.getD k 0 = xs[k] := by simp [List.getD, List.getElem?_eq_getElem (show k < xs.length by omega)]
  have e2 : ys.getD k 0 = ys[k] := by simp [List.getD, List.getElem?_eq_getElem (show k < ys.length by omega)]
  rw [← e1, ← e2, he]

def IsRow (k : IntKind) (w : World) (a : Option Addr) (len cap : Nat) (zs : List Int) : Prop :=
  (a = none ∧ len = 0 ∧ cap = 0 ∧ zs = []) ∨
  ∃ x, a = some x ∧ len ≤ cap ∧ cap ≤ maxLen ∧ zs.length = cap ∧ (∀ i, i < zs.length → w.cell? (x.add i) = some (.int k (zs.getD i 0))) ∧ ∀ n ∈ zs, (Lit.int k n).wf = true

theorem IsRow.sl {k : IntKind} {w : World} {a : Option Addr} {len cap : Nat} {zs : List Int} (h : IsRow k w a len cap zs) :
    ∃ ys : List Int, ys.length = len ∧ Sl k w a ys ∧ (∀ y ∈ ys, (Lit.int k y).wf = true) ∧ len ≤ maxLen := by
  rcases h with ⟨rfl, rfl, rfl, rfl⟩ | ⟨x, rfl, hl, hm, hz, hcell, hwz⟩
  · exact ⟨[], rfl, fun i hi => absurd hi (by simp), by simp, by unfold maxLen; omega⟩
  · refine ⟨zs.take len, by simp; omega, ?_, fun y hy => hwz y (List.mem_of_mem_take hy), by omega⟩
    intro i hi
    simp only [List.length_take] at hi
    obtain ⟨b, off, spot⟩ := x
    have hspot : spot = none := by simpa [Addr.add] using World.cell?_spot (hcell 0 (by omega))
    subst hspot
    have ha : (⟨b, off, none⟩ : Addr).add i = ⟨b, off + i, none⟩ := by
      by_cases h0 : i = 0
      · subst h0; simp [Addr.add]
      · simp [Addr.add, h0]
    have hc := hcell i (by omega)
    rw [ha] at hc
    refine ⟨b, off, rfl, World.block_lt_of_cell? _ _ hc, ?_⟩
    have e : (zs.take len).getD i 0 = zs.getD i 0 := by simp [List.getD, show i < len by omega]
    rw [e]
    exact hc

theorem below_trans {w w1 w2 : World} (h : Below w.heap.size w w1) (k : Below w1.heap.size w1 w2) : Below w.heap.size w w2 :=
  h.trans (k.mono h.size)

theorem map_set_u8 (zs : List Int) (i : Nat) (y : Int) : (zs.map (Value.int .u8)).set i (.int .u8 y) = (zs.set i y).map (Value.int .u8) := by
  rw [List.map_set]

theorem u64_bd {x : Int} (h : (Lit.int .u64 x).wf = true) : 0 ≤ x ∧ x ≤ 18446744073709551615 := by
  simpa [Lit.wf, IntKind.min, IntKind.max, IntKind.signed, IntKind.bits] using h

theorem grown_trans {w a b : World} {row : Option Nat} (h : w.grownBy a row) (k : a.grownBy b row) : w.grownBy b row :=
  ⟨k.os.trans h.os, k.tape.trans h.tape, k.output.trans h.output, Nat.le_trans h.size k.size, fun i hi hne => (k.block i (Nat.lt_of_lt_of_le hi h.size) hne).trans (h.block i hi hne)⟩

theorem grown_refl (w : World) (row : Option Nat) : w.grownBy w row := ⟨rfl, rfl, rfl, Nat.le_refl _, fun _ _ _ => rfl⟩

theorem own_shape {w : World} {base n : Nat} {e : TypeId} {v : Value} {xs : List Value} (h : w.ownsRow base e 1 v n xs) (hn : 0 < n) : ∃ g c, v = .slice (some ⟨g, 0, none⟩) n c ∧ base ≤ g := by
  rcases h.2 with ⟨_, h3⟩ | ⟨g, cap, cur, hv, hg, _⟩
  · omega
  · exact ⟨g, cap, hv, hg⟩

theorem adds (b off j : Nat) : (⟨b, off, none⟩ : Addr).add j = ⟨b, off + j, none⟩ := by
  by_cases h0 : j = 0
  · subst h0; simp [Addr.add]
  · simp [Addr.add, h0]

theorem kept_of {w w' : World} {base : Nat} {e : TypeId} {size : Nat} {v : Value} {n : Nat} {xs : List Value} {row : Option Nat} (h : w.ownsRow base e size v n xs) (hg : w.grownBy w' row) (hne : ∀ k, v.ownBlock = some k → row ≠ some k) :
    w'.ownsRow base e size v n xs := by
  refine h.kept hg ?_
  cases hv : v.ownBlock with
  | none => exact .inl rfl
  | some k => exact .inr (fun h => hne k hv h.symm)

theorem own_low {w : World} {base base' : Nat} {e : TypeId} {size : Nat} {v : Value} {n : Nat} {xs : List Value} (h : w.ownsRow base e size v n xs) (hb : base' ≤ base) : w.ownsRow base' e size v n xs := by
  obtain ⟨h1, h2⟩ := h
  refine ⟨h1, ?_⟩
  rcases h2 with h2 | ⟨g, cap, cur, hv, hg, r⟩
  · exact Or.inl h2
  · exact Or.inr ⟨g, cap, cur, hv, Nat.le_trans hb hg, r⟩

theorem Try.info5 : (Try.prog.info? 5).map (fun i => (i.zero, i.size, i.bytes)) = some (some (.int .u8 0), 1, 1) := by kernel_rfl

theorem specRamOk_any (a : Option Addr) (n cap : Nat) (w : World) (hn : n ≤ 1048576) :
    Calls Try.prog 34 #[.slice a n cap] w fun e w' => e = .returned (.bool (ramOkB n)) ∧ w' = w := by
  by_cases h1 : 4096 ≤ n
  · by_cases h2 : n ≤ 65536
    · have d2 : decide ((n : Int) ≤ 65536) = true := by simp; omega
      by_cases h3 : n % 4096 = 0
      · have F : Hid (ramOkB n = true) := by show ramOkB n = true; simp [ramOkB, h1, h2, h3]
        have d3 : ((n : Int) % 4096 == 0) = true := by simp; omega
        go_enter Try.func34, Try.ntmps34
        go_wp2
        go_ret
        exact ⟨by rw [F.out]; rfl, rfl⟩
      · have F : Hid (ramOkB n = false) := by show ramOkB n = false; simp [ramOkB, h3]
        have d3 : ((n : Int) % 4096 == 0) = false := by simp; omega
        go_enter Try.func34, Try.ntmps34
        go_wp2
        go_ret
        exact ⟨by rw [F.out]; rfl, rfl⟩
    · have F : Hid (ramOkB n = false) := by show ramOkB n = false; simp [ramOkB, h2]
      have d2 : decide ((n : Int) ≤ 65536) = false := by simp; omega
      go_enter Try.func34, Try.ntmps34
      go_wp2
      go_ret
      exact ⟨by rw [F.out]; rfl, rfl⟩
  · have F : Hid (ramOkB n = false) := by show ramOkB n = false; simp [ramOkB, h1]
    have d1 : decide ((4096 : Int) ≤ n) = false := by simp; omega
    go_enter Try.func34, Try.ntmps34
    go_wp2
    go_ret
    exact ⟨by rw [F.out]; rfl, rfl⟩

theorem implRamOk_any (a : Option Addr) (n cap : Nat) (w : World) (hn : n ≤ 1048576) :
    Calls Try.prog 24 #[.slice a n cap] w fun e w' => e = .returned (.bool (ramOkB n)) ∧ w' = w := by
  by_cases h1 : 4096 ≤ n
  · by_cases h2 : n ≤ 65536
    · have d2 : decide ((n : Int) ≤ 65536) = true := by simp; omega
      by_cases h3 : n % 4096 = 0
      · have F : Hid (ramOkB n = true) := by show ramOkB n = true; simp [ramOkB, h1, h2, h3]
        have d3 : ((n : Int) % 4096 == 0) = true := by simp; omega
        go_enter Try.func24, Try.ntmps24
        go_wp2
        go_ret
        exact ⟨by rw [F.out]; rfl, rfl⟩
      · have F : Hid (ramOkB n = false) := by show ramOkB n = false; simp [ramOkB, h3]
        have d3 : ((n : Int) % 4096 == 0) = false := by simp; omega
        go_enter Try.func24, Try.ntmps24
        go_wp2
        go_ret
        exact ⟨by rw [F.out]; rfl, rfl⟩
    · have F : Hid (ramOkB n = false) := by show ramOkB n = false; simp [ramOkB, h2]
      have d2 : decide ((n : Int) ≤ 65536) = false := by simp; omega
      go_enter Try.func24, Try.ntmps24
      go_wp2
      go_ret
      exact ⟨by rw [F.out]; rfl, rfl⟩
  · have F : Hid (ramOkB n = false) := by show ramOkB n = false; simp [ramOkB, h1]
    have d1 : decide ((4096 : Int) ≤ n) = false := by simp; omega
    go_enter Try.func24, Try.ntmps24
    go_wp2
    go_ret
    exact ⟨by rw [F.out]; rfl, rfl⟩

set_option maxHeartbeats 400000 in
theorem l1Put_any (g n cap f m base : Nat) (zs : List Int) (x : Int) (w : World) (hn : n ≤ 1048576) (hm : m ≤ 8) (hf : f + m ≤ n) (hx0 : 0 ≤ x) (hx1 : x ≤ 18446744073709551615)
    (hown : w.ownsRow base 5 1 (.slice (some ⟨g, 0, none⟩) n cap) n (zs.map (Value.int .u8))) :
    Calls Try.prog 43 #[.slice (some ⟨g, 0, none⟩) n cap, .int .u64 (2147483648 + (f : Int)), .int .i64 (m : Int), .int .u64 x] w fun e w' => e = .returned (.tuple #[]) ∧
      w'.ownsRow base 5 1 (.slice (some ⟨g, 0, none⟩) n cap) n ((put zs f x m).map (Value.int .u8)) ∧ w.grownBy w' (some g) := by
  have HX : Hid (zs.length = n) := by show zs.length = n; have := hown.1; simpa using this
  go_enter Try.func43, Try.ntmps43
  go_wp2
  go_loopw [3, 9] (fun y i wr => ∃ j : Nat, j ≤ m ∧ i = .int .i64 (j : Int) ∧ y = .int .u64 (x / 256 ^ j) ∧ wr.ownsRow base 5 1 (.slice (some ⟨g, 0, none⟩) n cap) n ((put zs f x j).map (Value.int .u8)) ∧ w.grownBy wr (some g))
    (fun _ i _ => m - (intOf i).toNat)
  case atStart => exact ⟨0, Nat.zero_le _, rfl, by simp, hown, grown_refl _ _⟩
  case round =>
    obtain ⟨j, hj, rfl, rfl, hown1, hgr⟩ := hrel
    clear hown
    by_cases hlt : j < m
    · have hfr : wr.frozen? ⟨g, f + j, none⟩ = false := hown1.frozenAt (f + j)
      have hst := hown1.stored (f + j) (.int .u8 (x / 256 ^ j % 256))
      obtain ⟨v3, hv3⟩ : ∃ v, wr.cell? ⟨g, f + j, none⟩ = some v := by
        rw [hown1.cellAt (f + j) (by omega)]
        exact ⟨_, List.getElem?_eq_getElem (by rw [List.length_map, put_len, HX.out]; omega)⟩
      rw [map_set_u8] at hst
      have hst1 : (wr.setCell ⟨g, f + j, none⟩ (.int .u8 (x / 256 ^ j % 256))).ownsRow base 5 1 (.slice (some ⟨g, 0, none⟩) n cap) n ((put zs f x (j + 1)).map (Value.int .u8)) := hst.1
      have hgr2 := grown_trans hgr hst.2
      have N : Hid (x / 256 ^ (j + 1) = x / 256 ^ j / 256) := by
        show x / 256 ^ (j + 1) = x / 256 ^ j / 256
        rw [Int.pow_succ, Int.ediv_ediv_of_nonneg (Int.le_of_lt (Int.pow_pos (by omega)))]
      have hy0 : 0 ≤ x / 256 ^ j := Int.ediv_nonneg hx0 (Int.le_of_lt (Int.pow_pos (by omega)))
      have hy1 : x / 256 ^ j ≤ 18446744073709551615 := Int.le_trans (Int.ediv_le_self _ hx0) hx1
      obtain ⟨y, hyy⟩ : ∃ y, y = x / 256 ^ j := ⟨_, rfl⟩
      rw [← hyy] at hst1 hgr2 hy0 hy1 N ⊢
      clear hst hown1 hyy
      go_wp2
      go_roundw
      case rel => exact ⟨j + 1, by omega, by go_num, by rw [N.out], hst1, hgr2⟩
      case measure => simp [intOf]; omega
    · have : j = m := by omega
      subst this
      go_wp2
      go_end0
      exact ⟨rfl, hown1, hgr⟩

structure FRow where
  t : TypeId
  v : Value
  n : Nat
  xs : List Value

structure Fam (B E : Nat) (w : World) (L : List FRow) : Prop where
  own : ∀ r ∈ L, w.ownsRow B r.t 1 r.v r.n r.xs
  hi : ∀ r ∈ L, ∀ k, r.v.ownBlock = some k → k < E
  ne : L.Pairwise (fun r s => ∀ k, r.v.ownBlock = some k → s.v.ownBlock ≠ some k)

structure Keep (B E : Nat) (w w' : World) : Prop where
  os : w'.os = w.os
  tape : w'.tape = w.tape
  output : w'.output = w.output
  size : w.heap.size ≤ w'.heap.size
  block : ∀ k, k < w.heap.size → (k < B ∨ E ≤ k) → w'.heap[k]? = w.heap[k]?

theorem Keep.of_below {B E : Nat} {w w' : World} (h : Below w.heap.size w w') : Keep B E w w' := ⟨h.os, h.tape, h.output, h.size, fun k hk _ => h.block k hk⟩

theorem Keep.below {B0 B E : Nat} {w w' : World} (h : Keep B E w w') (hB : B0 ≤ B) (hw : B0 ≤ w.heap.size) : Below B0 w w' := ⟨h.os, h.tape, h.output, h.size, fun k hk => h.block k (by omega) (.inl (by omega))⟩

theorem Keep.of_grown {B E : Nat} {w w' : World} {row : Option Nat} (h : w.grownBy w' row) (hr : ∀ k, row = some k → B ≤ k ∧ k < E) : Keep B E w w' :=
  ⟨h.os, h.tape, h.output, h.size, fun k hk ho => h.block k hk (fun e => by have := hr k e.symm; omega)⟩

theorem fown_of {w w' : World} {B n : Nat} {t : TypeId} {v : Value} {xs : List Value} (h : w.ownsRow B t 1 v n xs) (hk : ∀ k, v.ownBlock = some k → w'.heap[k]? = w.heap[k]?) : w'.ownsRow B t 1 v n xs := by
  refine ⟨h.1, ?_⟩
  rcases h.2 with h2 | ⟨g, cap, cur, h1, h2, h3, h4⟩
  · exact .inl h2
  · exact .inr ⟨g, cap, cur, h1, h2, (hk g (by rw [h1]; rfl)).trans h3, h4⟩

theorem Fam.mono {B E : Nat} {w w' : World} {L : List FRow} (h : Fam B E w L) (hk : ∀ k, B ≤ k → k < E → k < w.heap.size → w'.heap[k]? = w.heap[k]?) : Fam B E w' L :=
  ⟨fun r hr => fown_of (h.own r hr) (fun k e => hk k ((h.own r hr).lt k e).1 (h.hi r hr k e) ((h.own r hr).lt k e).2), h.hi, h.ne⟩

theorem Fam.below {B E : Nat} {w w' : World} {L : List FRow} (h : Fam B E w L) (hb : Below w.heap.size w w') : Fam B E w' L := h.mono fun k _ _ hk => hb.block k hk

theorem Fam.low {B B' E E' : Nat} {w : World} {L : List FRow} (h : Fam B E w L) (hb : B' ≤ B) (he : E ≤ E') : Fam B' E' w L :=
  ⟨fun r hr => own_low (h.own r hr) hb, fun r hr k e => Nat.lt_of_lt_of_le (h.hi r hr k e) he, h.ne⟩

theorem Fam.set {B E : Nat} {w : World} {L : List FRow} (h : Fam B E w L) (p : Addr) (v : Value) (hp : p.block < B ∨ E ≤ p.block) : Fam B E (w.setCell p v) L := h.mono fun k h1 h2 h3 => Below.heap_setCell w p v k (by omega)

theorem Fam.nil (B E : Nat) (w : World) : Fam B E w [] := ⟨fun r hr => (nomatch hr), fun r hr => (nomatch hr), List.Pairwise.nil⟩

theorem Fam.cons {B E : Nat} {w : World} {L : List FRow} (h : Fam B E w L) (r : FRow) (base E' : Nat) (ho : w.ownsRow base r.t 1 r.v r.n r.xs) (h1 : E ≤ base) (h2 : B ≤ base) (h3 : w.heap.size ≤ E') (h4 : E ≤ E') : Fam B E' w (r :: L) := by
  refine ⟨fun s hs => ?_, fun s hs k e => ?_, List.pairwise_cons.2 ⟨fun s hs k e e2 => ?_, h.ne⟩⟩
  · rcases List.mem_cons.1 hs with rfl | hs
    · exact own_low ho h2
    · exact h.own s hs
  · rcases List.mem_cons.1 hs with rfl | hs
    · have := (ho.lt k e).2; omega
    · have := h.hi s hs k e; omega
  · have := (ho.lt k e).1
    have := h.hi s hs k e2
    omega

theorem Fam.snoc {B E : Nat} {w : World} {L : List FRow} (h : Fam B E w L) (r : FRow) (base E' : Nat) (ho : w.ownsRow base r.t 1 r.v r.n r.xs) (h1 : E ≤ base) (h2 : B ≤ base) (h3 : w.heap.size ≤ E') (h4 : E ≤ E') : Fam B E' w (L ++ [r]) := by
  have c := h.cons r base E' ho h1 h2 h3 h4
  refine ⟨fun s hs => c.own s ?_, fun s hs => c.hi s ?_, List.pairwise_append.2 ⟨h.ne, List.pairwise_singleton _ _, fun s hs q hq k e e2 => ?_⟩⟩
  · rcases List.mem_append.1 hs with hs | hs
    · exact List.mem_cons_of_mem _ hs
    · rw [List.mem_singleton.1 hs]; exact List.mem_cons_self ..
  · rcases List.mem_append.1 hs with hs | hs
    · exact List.mem_cons_of_mem _ hs
    · rw [List.mem_singleton.1 hs]; exact List.mem_cons_self ..
  · simp only [List.mem_singleton] at hq
    subst hq
    exact (List.pairwise_cons.1 c.ne).1 s hs k e2 e

theorem Fam.mark {B E : Nat} {w w' : World} {L1 L2 : List FRow} {r : FRow} (h : Fam B E w (L1 ++ r :: L2)) (hg : w.grownBy w' r.v.ownBlock) (xs : List Value) (ho : w'.ownsRow B r.t 1 r.v r.n xs) : Fam B E w' (L1 ++ ⟨r.t, r.v, r.n, xs⟩ :: L2) ∧ Keep B E w w' := by
  have hne := List.pairwise_append.1 h.ne
  have hne2 := List.pairwise_cons.1 hne.2.1
  have kept : ∀ s ∈ L1 ++ r :: L2, (∀ k, s.v.ownBlock = some k → r.v.ownBlock ≠ some k) → w'.ownsRow B s.t 1 s.v s.n s.xs := fun s hs hd => fown_of (h.own s hs) (fun k e => hg.block k ((h.own s hs).lt k e).2 (fun e2 => hd k e e2.symm))
  have hr : r ∈ L1 ++ r :: L2 := by simp
  refine ⟨⟨fun s hs => ?_, fun s hs k e => ?_, ?_⟩, Keep.of_grown hg fun k e => ⟨((h.own r hr).lt k e).1, h.hi r hr k e⟩⟩
  · rcases List.mem_append.1 hs with hs | hs
    · exact kept s (List.mem_append_left _ hs) (fun k e => hne.2.2 s hs r (List.mem_cons_self ..) k e)
    · rcases List.mem_cons.1 hs with rfl | hs
      · exact ho
      · exact kept s (List.mem_append_right _ (List.mem_cons_of_mem _ hs)) (fun k e e2 => hne2.1 s hs k e2 e)
  · rcases List.mem_append.1 hs with hs | hs
    · exact h.hi s (List.mem_append_left _ hs) k e
    · rcases List.mem_cons.1 hs with rfl | hs
      · exact h.hi r hr k e
      · exact h.hi s (List.mem_append_right _ (List.mem_cons_of_mem _ hs)) k e
  · refine List.pairwise_append.2 ⟨hne.1, List.pairwise_cons.2 ⟨fun s hs k e => hne2.1 s hs k e, hne2.2⟩, fun s hs q hq k e => ?_⟩
    rcases List.mem_cons.1 hq with rfl | hq
    · exact hne.2.2 s hs r (List.mem_cons_self ..) k e
    · exact hne.2.2 s hs q (List.mem_cons_of_mem _ hq) k e

def bRow (a : Option Addr) (n c : Nat) (xs : List Int) : FRow := ⟨5, .slice a n c, n, xs.map (Value.int .u8)⟩

def devF (a1 : Option Addr) (n1 c1 : Nat) (xs : List Int) (a2 : Option Addr) (n2 c2 : Nat) (ys : List Int) : List FRow := [bRow a1 n1 c1 xs, bRow a2 n2 c2 ys]

theorem dhid {p : Prop} (h : p) : Hid p := h

theorem dstays {w w' : World} (hb : Below w.heap.size w w') {g : Nat} {o : Obj} (h : w.heap[g]? = some o) : w'.heap[g]? = some o := by
  rw [hb.block g (Array.getElem?_eq_some_iff.1 h).1]
  exact h

theorem cells6 {W : World} {g : Nat} {a b c d e f : Value} {t : TypeId} (h : W.heap[g]? = some (.cells #[a, b, c, d, e, f] t (0, 0))) : W.cell? ⟨g, 0, none⟩ = some a ∧ W.cell? ⟨g, 1, none⟩ = some b ∧ W.cell? ⟨g, 2, none⟩ = some c ∧ W.cell? ⟨g, 3, none⟩ = some d ∧ W.cell? ⟨g, 4, none⟩ = some e ∧ W.cell? ⟨g, 5, none⟩ = some f := by
  refine ⟨?_, ?_, ?_, ?_, ?_, ?_⟩ <;> simp [World.cell?, h]

theorem froz {W : World} {g : Nat} {cs : Array Value} {t : TypeId} (h : W.heap[g]? = some (.cells cs t (0, 0))) (i : Nat) : W.frozen? ⟨g, i, none⟩ = false := by simp [World.frozen?, h]

theorem froz6 {W : World} {g : Nat} {cs : Array Value} {t : TypeId} (h : W.heap[g]? = some (.cells cs t (0, 0))) : W.frozen? ⟨g, 0, none⟩ = false ∧ W.frozen? ⟨g, 1, none⟩ = false ∧ W.frozen? ⟨g, 2, none⟩ = false ∧ W.frozen? ⟨g, 3, none⟩ = false ∧ W.frozen? ⟨g, 4, none⟩ = false ∧ W.frozen? ⟨g, 5, none⟩ = false :=
  ⟨froz h 0, froz h 1, froz h 2, froz h 3, froz h 4, froz h 5⟩

theorem rows2 {w w2 : World} {o1 o2 : Obj} (hb : Below ((w.alloc o1).alloc o2).heap.size ((w.alloc o1).alloc o2) w2) : w2.heap[w.heap.size]? = some o1 ∧ w2.heap[w.heap.size + 1]? = some o2 := by
  have e2 := heap_alloc_new (w.alloc o1) o2
  rw [World.size_alloc] at e2
  exact ⟨dstays hb ((Below.heap_alloc _ _ _ (by simp only [World.size_alloc]; omega)).trans (heap_alloc_new w o1)), dstays hb e2⟩

theorem rows3 {w w2 : World} {o1 o2 o3 : Obj} (hb : Below (((w.alloc o1).alloc o2).alloc o3).heap.size (((w.alloc o1).alloc o2).alloc o3) w2) :
    w2.heap[w.heap.size]? = some o1 ∧ w2.heap[w.heap.size + 1]? = some o2 ∧ w2.heap[w.heap.size + 1 + 1]? = some o3 := by
  have e3 := heap_alloc_new ((w.alloc o1).alloc o2) o3
  rw [World.size_alloc, World.size_alloc] at e3
  have h := rows2 (w := w) (o1 := o1) (o2 := o2) (Below.refl _ ((w.alloc o1).alloc o2))
  exact ⟨dstays hb ((Below.heap_alloc _ _ _ (by simp only [World.size_alloc]; omega)).trans h.1), dstays hb ((Below.heap_alloc _ _ _ (by simp only [World.size_alloc]; omega)).trans h.2), dstays hb e3⟩

theorem row_set {w : World} {g : Nat} {cs : Array Value} {t : TypeId} {fr : Nat × Nat} (h : w.heap[g]? = some (.cells cs t fr)) (i : Nat) (v : Value) :
    (w.setCell ⟨g, i, none⟩ v).heap[g]? = some (.cells (cs.setIfInBounds i v) t fr) := by
  simp [World.setCell, Array.getElem?_modify, h]

theorem row_far {w : World} {g : Nat} {o : Obj} (h : w.heap[g]? = some o) (p : Addr) (v : Value) (hne : g ≠ p.block) : (w.setCell p v).heap[g]? = some o := (Below.heap_setCell w p v g hne).trans h

theorem size_set (w : World) (p : Addr) (v : Value) : (w.setCell p v).heap.size = w.heap.size := by simp [World.setCell]

theorem dev_size : (Try.prog.info? 27).map (·.size) = some 6 := by kernel_rfl

def put6 (w : World) (g : Nat) (x0 x1 x2 x3 x4 x5 : Value) : World := (((((w.setCell ⟨g, 0, none⟩ x0).setCell ⟨g, 1, none⟩ x1).setCell ⟨g, 2, none⟩ x2).setCell ⟨g, 3, none⟩ x3).setCell ⟨g, 4, none⟩ x4).setCell ⟨g, 5, none⟩ x5

theorem row_put6 {w : World} {g : Nat} {a b c d e f : Value} {t : TypeId} {fr : Nat × Nat} (h : w.heap[g]? = some (.cells #[a, b, c, d, e, f] t fr)) (x0 x1 x2 x3 x4 x5 : Value) : (put6 w g x0 x1 x2 x3 x4 x5).heap[g]? = some (.cells #[x0, x1, x2, x3, x4, x5] t fr) :=
  row_set (row_set (row_set (row_set (row_set (row_set h 0 x0) 1 x1) 2 x2) 3 x3) 4 x4) 5 x5

theorem size_put6 (w : World) (g : Nat) (x0 x1 x2 x3 x4 x5 : Value) : (put6 w g x0 x1 x2 x3 x4 x5).heap.size = w.heap.size := by
  unfold put6
  simp only [size_set]

theorem below_put6 {B : Nat} {v w : World} (h : Below B v w) {g : Nat} (hg : B ≤ g) (x0 x1 x2 x3 x4 x5 : Value) : Below B v (put6 w g x0 x1 x2 x3 x4 x5) :=
  (((((h.setCell (by exact hg) x0).setCell (by exact hg) x1).setCell (by exact hg) x2).setCell (by exact hg) x3).setCell (by exact hg) x4).setCell (by exact hg) x5

theorem Fam.put6 {B E : Nat} {w : World} {L : List FRow} (h : Fam B E w L) (g : Nat) (hg : g < B ∨ E ≤ g) (x0 x1 x2 x3 x4 x5 : Value) : Fam B E (put6 w g x0 x1 x2 x3 x4 x5) L :=
  (((((h.set ⟨g, 0, none⟩ x0 hg).set ⟨g, 1, none⟩ x1 hg).set ⟨g, 2, none⟩ x2 hg).set ⟨g, 3, none⟩ x3 hg).set ⟨g, 4, none⟩ x4 hg).set ⟨g, 5, none⟩ x5 hg

theorem own_empty8 (w : World) (base : Nat) (hb : base ≤ w.heap.size) (o : Obj) (ho : o = .cells #[] 5 (0, 0)) : (w.alloc o).ownsRow base 5 1 (.slice (some ⟨w.heap.size, 0, none⟩) 0 0) 0 [] := by
  subst ho
  exact World.ownsRow_lit w #[] 0 hb (by unfold maxLen; omega) rfl

theorem wpList_app8 {ops : Array Oper} {rest : List Oper} {o : Oper} {a : Act} {Q : Exit → Act → World → Prop} {w : World} (hgd : o.guard = none) (s x : Operand)
    (ho : o.op = .call { callee := .builtin .append, args := #[s, x], argTypes := #[22, 22] }) (base g : Nat) (hs : a.eval s = .slice (some ⟨g, 0, none⟩) 0 0) (hown : w.ownsRow base 5 1 (.slice (some ⟨g, 0, none⟩) 0 0) 0 [])
    (ad : Option Addr) (m c : Nat) (zs : List Int) (hx : a.eval x = .slice ad m c) (hz : zs.length = m) (hm : m ≤ 1048576) (hsl : Sl .u8 w ad zs) (hbase : base ≤ w.heap.size)
    (h : ∀ a' c' w', w'.ownsRow base 5 1 (.slice a' m c') m (zs.map (Value.int .u8)) → w.grownBy w' (some g) → wpList Try.prog ops Q rest (a.put o.dst (.slice a' m c')) w') : wpList Try.prog ops Q (o :: rest) a w := by
  obtain ⟨i0, hi, hz0, hz1, hz2⟩ := info_parts Try.info5
  cases ad with
  | none =>
    have hm0 : m = 0 := by
      rcases Nat.eq_zero_or_pos m with h0 | h0
      · exact h0
      · obtain ⟨b, off, e, _⟩ := hsl 0 (by omega)
        cases e
    subst hm0
    have hzn : zs = [] := List.length_eq_zero_iff.1 hz
    subst hzn
    refine wpList_plain hgd fun K hK => ?_
    have hr := run_append_room_src (P := Try.prog) w 22 22 o.type 5 i0 Try.underlying22 hi g 0 0 0 (.slice none 0 c) 0 [] (Src.ofNil w Try.underlying22 c) (by omega) (fun j hj => by simp at hj) (fun j hj => by simp at hj)
    unfold Oper.wp execOp
    simp only [ho, resolve, invoke, builtin, Sem.run_bind, Sem.run_pure, Result.andThen_ok, List.map_toArray, List.map_cons, List.map_nil, hs, hx, hr]
    exact hK _ _ (h _ _ w hown ⟨rfl, rfl, rfl, Nat.le_refl _, fun _ _ _ => rfl⟩)
  | some A =>
    have hnews : ∀ j u, (zs.map (Value.int .u8))[j]? = some u → w.cell? (A.add j) = some u := by
      intro j u hu
      have hj : j < zs.length := by
        rcases Nat.lt_or_ge j zs.length with h | h
        · exact h
        · rw [List.getElem?_eq_none (by simpa using h)] at hu; cases hu
      obtain ⟨b, off, e, _, hc⟩ := hsl j hj
      cases e
      rw [adds, hc]
      rw [List.getElem?_map, List.getElem?_eq_getElem hj] at hu
      rw [List.getD_eq_getElem?_getD, List.getElem?_eq_getElem hj]
      exact hu
    refine wpList_append_own _ hgd s x 22 ho base 5 i0 (.int .u8 0) 1 1 Try.underlying22 hi hz0 hz1 hz2 rfl (by decide) _ 0 [] hs hown A m c (zs.map (Value.int .u8)) hx (by rw [List.length_map, hz]; omega) hnews (ints_oneCell _ _) (by unfold maxLen; omega) (by omega) hbase ?_
    intro v' w' h1 h2 h3
    simp only [Nat.zero_add, List.nil_append] at h1
    have hv : ∃ a' c', v' = .slice a' m c' := by
      rcases h1.2 with ⟨e, e0⟩ | ⟨g', cap, cur, e, _⟩
      · exact ⟨none, 0, by rw [e, e0]⟩
      · exact ⟨_, _, e⟩
    obtain ⟨a', c', rfl⟩ := hv
    exact h a' c' w' h1 h2

structure DV where
  t : Int
  cm : Int
  so : Bool
  xs : List Int
  ys : List Int
  ir : Int

def zeroD : DV := ⟨0, 0, false, [], [], 0⟩

def dvc (D : DV) (a1 : Option Addr) (c1 : Nat) (a2 : Option Addr) (c2 : Nat) : Array Value := #[.int .u64 D.t, .int .u64 D.cm, .bool D.so, .slice a1 D.xs.length c1, .slice a2 D.ys.length c2, .int .i64 D.ir]

def dvF (D : DV) (a1 : Option Addr) (c1 : Nat) (a2 : Option Addr) (c2 : Nat) : List FRow := devF a1 D.xs.length c1 D.xs a2 D.ys.length c2 D.ys

def bytesOk (D : DV) : Prop := (∀ y ∈ D.xs, (Lit.int .u8 y).wf = true) ∧ ∀ y ∈ D.ys, (Lit.int .u8 y).wf = true

def okD (n1 n2 : Nat) (ir : Int) : Bool := decide (n1 ≤ 16) && decide (n2 ≤ 4096) && decide (0 ≤ ir ∧ ir ≤ 1)

def oneIf (b : Bool) : Int := if b = true then 1 else 0

def linesV (D : DV) : Int := IntKind.u64.wrap (IntKind.u64.wrap (IntKind.u64.wrap (8 * oneIf D.so) + IntKind.u64.wrap (128 * oneIf (decide (D.cm ≤ D.t)))) + IntKind.u64.wrap (2048 * oneIf ((D.ir == 1) && decide (0 < D.xs.length))))

def linesD (D : DV) : Int := if okD D.xs.length D.ys.length D.ir = true then linesV D else 0

theorem fam_zero (B E : Nat) (w : World) : Fam B E w (dvF zeroD none 0 none 0) := by
  refine ⟨fun r hr => ?_, fun r hr k e => ?_, ?_⟩
  · simp only [dvF, devF, List.mem_cons, List.not_mem_nil, or_false] at hr
    rcases hr with rfl | rfl
    · exact ⟨rfl, .inl ⟨rfl, rfl⟩⟩
    · exact ⟨rfl, .inl ⟨rfl, rfl⟩⟩
  · simp only [dvF, devF, List.mem_cons, List.not_mem_nil, or_false] at hr
    rcases hr with rfl | rfl
    · cases e
    · cases e
  · exact List.pairwise_cons.2 ⟨fun s hs k e => (by cases e), List.pairwise_singleton _ _⟩

theorem Fam.newIn {B E : Nat} {w : World} {a1 : Option Addr} {n1 c1 : Nat} {xs : List Int} {a2 : Option Addr} {n2 c2 : Nat} {ys : List Int} (h : Fam B E w (devF a1 n1 c1 xs a2 n2 c2 ys)) (a : Option Addr) (n c : Nat) (zs : List Int) (base E' : Nat) (ho : w.ownsRow base 5 1 (.slice a n c) n (zs.map (Value.int .u8))) (h1 : E ≤ base) (h2 : B ≤ base) (h3 : w.heap.size ≤ E') (h4 : E ≤ E') : Fam B E' w (devF a n c zs a2 n2 c2 ys) := by
  have t : Fam B E w [bRow a2 n2 c2 ys] := ⟨fun r hr => h.own r (List.mem_cons_of_mem _ hr), fun r hr => h.hi r (List.mem_cons_of_mem _ hr), (List.pairwise_cons.1 h.ne).2⟩
  exact t.cons (bRow a n c zs) base E' ho h1 h2 h3 h4

theorem Fam.newOut {B E : Nat} {w : World} {a1 : Option Addr} {n1 c1 : Nat} {xs : List Int} {a2 : Option Addr} {n2 c2 : Nat} {ys : List Int} (h : Fam B E w (devF a1 n1 c1 xs a2 n2 c2 ys)) (a : Option Addr) (n c : Nat) (zs : List Int) (base E' : Nat) (ho : w.ownsRow base 5 1 (.slice a n c) n (zs.map (Value.int .u8))) (h1 : E ≤ base) (h2 : B ≤ base) (h3 : w.heap.size ≤ E') (h4 : E ≤ E') : Fam B E' w (devF a1 n1 c1 xs a n c zs) := by
  have t : Fam B E w [bRow a1 n1 c1 xs] := ⟨fun r hr => h.own r (by rw [List.mem_singleton.1 hr]; exact List.mem_cons_self ..), fun r hr => h.hi r (by rw [List.mem_singleton.1 hr]; exact List.mem_cons_self ..), List.pairwise_singleton _ _⟩
  exact t.snoc (bRow a n c zs) base E' ho h1 h2 h3 h4

theorem results_tct8 {P : Program} {fn : Func} {s p u : Tmp} {ty : TypeId} (h : fn.results = #[.tmp s, .cell p ty, .tmp u]) (tmps : Array Value) (w : World) (g : Nat) (t : TypeId) (cs : Array Value) (fr : Nat × Nat) (d : TypeDesc)
    (hp : tmps.getD p undef = .pointer (some ⟨g, 0, none⟩)) (hg : w.heap[g]? = some (.cells cs t fr))
    (hu : P.underlying ty = some d) (hd : (match d with | .struct _ | .array _ _ => true | _ => false) = true) (hi : (P.info? ty).map (·.size) = some cs.size) :
    (results fn tmps).run P w = .ok (.tuple #[tmps.getD s undef, .agg cs, tmps.getD u undef]) w := by
  have h1 : (results fn tmps).run P w = ((asAddr (tmps.getD p undef)).run P w).andThen fun a w₁ => ((loadVar ty a).run P w₁).andThen fun v w₂ => .ok (.tuple #[tmps.getD s undef, v, tmps.getD u undef]) w₂ := by
    simp only [results, h]
    simp [Sem.run_bind, Result.andThen]
  rw [h1, hp]
  simp [asAddr, run_loadVar_row w g t ty cs fr d hg hu hd hi]

theorem results_ct8 {P : Program} {fn : Func} {p u : Tmp} {ty : TypeId} (h : fn.results = #[.cell p ty, .tmp u]) (tmps : Array Value) (w : World) (g : Nat) (t : TypeId) (cs : Array Value) (fr : Nat × Nat) (d : TypeDesc)
    (hp : tmps.getD p undef = .pointer (some ⟨g, 0, none⟩)) (hg : w.heap[g]? = some (.cells cs t fr))
    (hu : P.underlying ty = some d) (hd : (match d with | .struct _ | .array _ _ => true | _ => false) = true) (hi : (P.info? ty).map (·.size) = some cs.size) :
    (results fn tmps).run P w = .ok (.tuple #[.agg cs, tmps.getD u undef]) w := by
  have h1 : (results fn tmps).run P w = ((asAddr (tmps.getD p undef)).run P w).andThen fun a w₁ => ((loadVar ty a).run P w₁).andThen fun v w₂ => .ok (.tuple #[v, tmps.getD u undef]) w₂ := by
    simp only [results, h]
    simp [Sem.run_bind, Result.andThen]
  rw [h1, hp]
  simp [asAddr, run_loadVar_row w g t ty cs fr d hg hu hd hi]

theorem infoW : (Try.prog.info? 24).map (fun i => (i.zero, i.size, i.bytes)) = some (some (.int .u64 0), 1, 8) := by kernel_rfl

theorem map_set_u64 (zs : List Int) (i : Nat) (y : Int) : (zs.map (Value.int .u64)).set i (.int .u64 y) = (zs.set i y).map (Value.int .u64) := by
  rw [List.map_set]

structure MV where
  pc : Int
  x : List Int
  pr : Int
  cs : List Int
  ram : List Int
  d : DV
  hd : Int
  hl : Bool
  wt : Bool

structure MA where
  ax : Option Addr
  cx : Nat
  ac : Option Addr
  cc : Nat
  ar : Option Addr
  cr : Nat
  ai : Option Addr
  ci : Nat
  ao : Option Addr
  co : Nat

def zeroM : MV := ⟨0, [], 0, [], [], zeroD, 0, false, false⟩

def zeroA : MA := ⟨none, 0, none, 0, none, 0, none, 0, none, 0⟩

def mvc (M : MV) (A : MA) : Array Value := #[.int .u64 M.pc, .slice A.ax M.x.length A.cx, .int .i64 M.pr, .slice A.ac M.cs.length A.cc, .slice A.ar M.ram.length A.cr, .int .u64 M.d.t, .int .u64 M.d.cm, .bool M.d.so, .slice A.ai M.d.xs.length A.ci, .slice A.ao M.d.ys.length A.co, .int .i64 M.d.ir, .int .u64 M.hd, .bool M.hl, .bool M.wt]

def wRow (a : Option Addr) (n c : Nat) (xs : List Int) : FRow := ⟨24, .slice a n c, n, xs.map (Value.int .u64)⟩

def mvF (M : MV) (A : MA) : List FRow := [wRow A.ax M.x.length A.cx M.x, wRow A.ac M.cs.length A.cc M.cs, bRow A.ar M.ram.length A.cr M.ram, bRow A.ai M.d.xs.length A.ci M.d.xs, bRow A.ao M.d.ys.length A.co M.d.ys]

structure MSl (w : World) (M : MV) (A : MA) : Prop where
  x : Sl .u64 w A.ax M.x
  cs : Sl .u64 w A.ac M.cs
  ram : Sl .u8 w A.ar M.ram
  xs : Sl .u8 w A.ai M.d.xs
  ys : Sl .u8 w A.ao M.d.ys

theorem MSl.below {w w' : World} {M : MV} {A : MA} (h : MSl w M A) (hb : Below w.heap.size w w') : MSl w' M A := ⟨h.x.below hb, h.cs.below hb, h.ram.below hb, h.xs.below hb, h.ys.below hb⟩

theorem Fam.msl {B E : Nat} {w : World} {M : MV} {A : MA} (h : Fam B E w (mvF M A)) : MSl w M A :=
  ⟨own_sl' (h.own (wRow A.ax M.x.length A.cx M.x) (by simp [mvF])), own_sl' (h.own (wRow A.ac M.cs.length A.cc M.cs) (by simp [mvF])), own_sl' (h.own (bRow A.ar M.ram.length A.cr M.ram) (by simp [mvF])), own_sl' (h.own (bRow A.ai M.d.xs.length A.ci M.d.xs) (by simp [mvF])), own_sl' (h.own (bRow A.ao M.d.ys.length A.co M.d.ys) (by simp [mvF]))⟩

theorem cells14 {W : World} {g : Nat} {v0 v1 v2 v3 v4 v5 v6 v7 v8 v9 v10 v11 v12 v13 : Value} {t : TypeId} (h : W.heap[g]? = some (.cells #[v0, v1, v2, v3, v4, v5, v6, v7, v8, v9, v10, v11, v12, v13] t (0, 0))) : W.cell? ⟨g, 0, none⟩ = some v0 ∧ W.cell? ⟨g, 1, none⟩ = some v1 ∧ W.cell? ⟨g, 2, none⟩ = some v2 ∧ W.cell? ⟨g, 3, none⟩ = some v3 ∧ W.cell? ⟨g, 4, none⟩ = some v4 ∧ W.cell? ⟨g, 5, none⟩ = some v5 ∧ W.cell? ⟨g, 6, none⟩ = some v6 ∧ W.cell? ⟨g, 7, none⟩ = some v7 ∧ W.cell? ⟨g, 8, none⟩ = some v8 ∧ W.cell? ⟨g, 9, none⟩ = some v9 ∧ W.cell? ⟨g, 10, none⟩ = some v10 ∧ W.cell? ⟨g, 11, none⟩ = some v11 ∧ W.cell? ⟨g, 12, none⟩ = some v12 ∧ W.cell? ⟨g, 13, none⟩ = some v13 := by
  simp [World.cell?, h]

theorem froz14 {W : World} {g : Nat} {cs : Array Value} {t : TypeId} (h : W.heap[g]? = some (.cells cs t (0, 0))) : W.frozen? ⟨g, 0, none⟩ = false ∧ W.frozen? ⟨g, 1, none⟩ = false ∧ W.frozen? ⟨g, 2, none⟩ = false ∧ W.frozen? ⟨g, 3, none⟩ = false ∧ W.frozen? ⟨g, 4, none⟩ = false ∧ W.frozen? ⟨g, 5, none⟩ = false ∧ W.frozen? ⟨g, 6, none⟩ = false ∧ W.frozen? ⟨g, 7, none⟩ = false ∧ W.frozen? ⟨g, 8, none⟩ = false ∧ W.frozen? ⟨g, 9, none⟩ = false ∧ W.frozen? ⟨g, 10, none⟩ = false ∧ W.frozen? ⟨g, 11, none⟩ = false ∧ W.frozen? ⟨g, 12, none⟩ = false ∧ W.frozen? ⟨g, 13, none⟩ = false :=
  ⟨froz h 0, froz h 1, froz h 2, froz h 3, froz h 4, froz h 5, froz h 6, froz h 7, froz h 8, froz h 9, froz h 10, froz h 11, froz h 12, froz h 13⟩

def put14 (w : World) (g : Nat) (x0 x1 x2 x3 x4 x5 x6 x7 x8 x9 x10 x11 x12 x13 : Value) : World := (((((((((((((w.setCell ⟨g, 0, none⟩ x0).setCell ⟨g, 1, none⟩ x1).setCell ⟨g, 2, none⟩ x2).setCell ⟨g, 3, none⟩ x3).setCell ⟨g, 4, none⟩ x4).setCell ⟨g, 5, none⟩ x5).setCell ⟨g, 6, none⟩ x6).setCell ⟨g, 7, none⟩ x7).setCell ⟨g, 8, none⟩ x8).setCell ⟨g, 9, none⟩ x9).setCell ⟨g, 10, none⟩ x10).setCell ⟨g, 11, none⟩ x11).setCell ⟨g, 12, none⟩ x12).setCell ⟨g, 13, none⟩ x13

theorem row_put14 {w : World} {g : Nat} {v0 v1 v2 v3 v4 v5 v6 v7 v8 v9 v10 v11 v12 v13 : Value} {t : TypeId} {fr : Nat × Nat} (h : w.heap[g]? = some (.cells #[v0, v1, v2, v3, v4, v5, v6, v7, v8, v9, v10, v11, v12, v13] t fr)) (x0 x1 x2 x3 x4 x5 x6 x7 x8 x9 x10 x11 x12 x13 : Value) : (put14 w g x0 x1 x2 x3 x4 x5 x6 x7 x8 x9 x10 x11 x12 x13).heap[g]? = some (.cells #[x0, x1, x2, x3, x4, x5, x6, x7, x8, x9, x10, x11, x12, x13] t fr) := by
  have h0 : (w.setCell ⟨g, 0, none⟩ x0).heap[g]? = some (.cells #[x0, v1, v2, v3, v4, v5, v6, v7, v8, v9, v10, v11, v12, v13] t fr) := row_set h 0 x0
  have h1 : ((w.setCell ⟨g, 0, none⟩ x0).setCell ⟨g, 1, none⟩ x1).heap[g]? = some (.cells #[x0, x1, v2, v3, v4, v5, v6, v7, v8, v9, v10, v11, v12, v13] t fr) := row_set h0 1 x1
  have h2 : (((w.setCell ⟨g, 0, none⟩ x0).setCell ⟨g, 1, none⟩ x1).setCell ⟨g, 2, none⟩ x2).heap[g]? = some (.cells #[x0, x1, x2, v3, v4, v5, v6, v7, v8, v9, v10, v11, v12, v13] t fr) := row_set h1 2 x2
  have h3 : ((((w.setCell ⟨g, 0, none⟩ x0).setCell ⟨g, 1, none⟩ x1).setCell ⟨g, 2, none⟩ x2).setCell ⟨g, 3, none⟩ x3).heap[g]? = some (.cells #[x0, x1, x2, x3, v4, v5, v6, v7, v8, v9, v10, v11, v12, v13] t fr) := row_set h2 3 x3
  have h4 : (((((w.setCell ⟨g, 0, none⟩ x0).setCell ⟨g, 1, none⟩ x1).setCell ⟨g, 2, none⟩ x2).setCell ⟨g, 3, none⟩ x3).setCell ⟨g, 4, none⟩ x4).heap[g]? = some (.cells #[x0, x1, x2, x3, x4, v5, v6, v7, v8, v9, v10, v11, v12, v13] t fr) := row_set h3 4 x4
  have h5 : ((((((w.setCell ⟨g, 0, none⟩ x0).setCell ⟨g, 1, none⟩ x1).setCell ⟨g, 2, none⟩ x2).setCell ⟨g, 3, none⟩ x3).setCell ⟨g, 4, none⟩ x4).setCell ⟨g, 5, none⟩ x5).heap[g]? = some (.cells #[x0, x1, x2, x3, x4, x5, v6, v7, v8, v9, v10, v11, v12, v13] t fr) := row_set h4 5 x5
  have h6 : (((((((w.setCell ⟨g, 0, none⟩ x0).setCell ⟨g, 1, none⟩ x1).setCell ⟨g, 2, none⟩ x2).setCell ⟨g, 3, none⟩ x3).setCell ⟨g, 4, none⟩ x4).setCell ⟨g, 5, none⟩ x5).setCell ⟨g, 6, none⟩ x6).heap[g]? = some (.cells #[x0, x1, x2, x3, x4, x5, x6, v7, v8, v9, v10, v11, v12, v13] t fr) := row_set h5 6 x6
  have h7 : ((((((((w.setCell ⟨g, 0, none⟩ x0).setCell ⟨g, 1, none⟩ x1).setCell ⟨g, 2, none⟩ x2).setCell ⟨g, 3, none⟩ x3).setCell ⟨g, 4, none⟩ x4).setCell ⟨g, 5, none⟩ x5).setCell ⟨g, 6, none⟩ x6).setCell ⟨g, 7, none⟩ x7).heap[g]? = some (.cells #[x0, x1, x2, x3, x4, x5, x6, x7, v8, v9, v10, v11, v12, v13] t fr) := row_set h6 7 x7
  have h8 : (((((((((w.setCell ⟨g, 0, none⟩ x0).setCell ⟨g, 1, none⟩ x1).setCell ⟨g, 2, none⟩ x2).setCell ⟨g, 3, none⟩ x3).setCell ⟨g, 4, none⟩ x4).setCell ⟨g, 5, none⟩ x5).setCell ⟨g, 6, none⟩ x6).setCell ⟨g, 7, none⟩ x7).setCell ⟨g, 8, none⟩ x8).heap[g]? = some (.cells #[x0, x1, x2, x3, x4, x5, x6, x7, x8, v9, v10, v11, v12, v13] t fr) := row_set h7 8 x8
  have h9 : ((((((((((w.setCell ⟨g, 0, none⟩ x0).setCell ⟨g, 1, none⟩ x1).setCell ⟨g, 2, none⟩ x2).setCell ⟨g, 3, none⟩ x3).setCell ⟨g, 4, none⟩ x4).setCell ⟨g, 5, none⟩ x5).setCell ⟨g, 6, none⟩ x6).setCell ⟨g, 7, none⟩ x7).setCell ⟨g, 8, none⟩ x8).setCell ⟨g, 9, none⟩ x9).heap[g]? = some (.cells #[x0, x1, x2, x3, x4, x5, x6, x7, x8, x9, v10, v11, v12, v13] t fr) := row_set h8 9 x9
  have h10 : (((((((((((w.setCell ⟨g, 0, none⟩ x0).setCell ⟨g, 1, none⟩ x1).setCell ⟨g, 2, none⟩ x2).setCell ⟨g, 3, none⟩ x3).setCell ⟨g, 4, none⟩ x4).setCell ⟨g, 5, none⟩ x5).setCell ⟨g, 6, none⟩ x6).setCell ⟨g, 7, none⟩ x7).setCell ⟨g, 8, none⟩ x8).setCell ⟨g, 9, none⟩ x9).setCell ⟨g, 10, none⟩ x10).heap[g]? = some (.cells #[x0, x1, x2, x3, x4, x5, x6, x7, x8, x9, x10, v11, v12, v13] t fr) := row_set h9 10 x10
  have h11 : ((((((((((((w.setCell ⟨g, 0, none⟩ x0).setCell ⟨g, 1, none⟩ x1).setCell ⟨g, 2, none⟩ x2).setCell ⟨g, 3, none⟩ x3).setCell ⟨g, 4, none⟩ x4).setCell ⟨g, 5, none⟩ x5).setCell ⟨g, 6, none⟩ x6).setCell ⟨g, 7, none⟩ x7).setCell ⟨g, 8, none⟩ x8).setCell ⟨g, 9, none⟩ x9).setCell ⟨g, 10, none⟩ x10).setCell ⟨g, 11, none⟩ x11).heap[g]? = some (.cells #[x0, x1, x2, x3, x4, x5, x6, x7, x8, x9, x10, x11, v12, v13] t fr) := row_set h10 11 x11
  have h12 : (((((((((((((w.setCell ⟨g, 0, none⟩ x0).setCell ⟨g, 1, none⟩ x1).setCell ⟨g, 2, none⟩ x2).setCell ⟨g, 3, none⟩ x3).setCell ⟨g, 4, none⟩ x4).setCell ⟨g, 5, none⟩ x5).setCell ⟨g, 6, none⟩ x6).setCell ⟨g, 7, none⟩ x7).setCell ⟨g, 8, none⟩ x8).setCell ⟨g, 9, none⟩ x9).setCell ⟨g, 10, none⟩ x10).setCell ⟨g, 11, none⟩ x11).setCell ⟨g, 12, none⟩ x12).heap[g]? = some (.cells #[x0, x1, x2, x3, x4, x5, x6, x7, x8, x9, x10, x11, x12, v13] t fr) := row_set h11 12 x12
  have h13 : ((((((((((((((w.setCell ⟨g, 0, none⟩ x0).setCell ⟨g, 1, none⟩ x1).setCell ⟨g, 2, none⟩ x2).setCell ⟨g, 3, none⟩ x3).setCell ⟨g, 4, none⟩ x4).setCell ⟨g, 5, none⟩ x5).setCell ⟨g, 6, none⟩ x6).setCell ⟨g, 7, none⟩ x7).setCell ⟨g, 8, none⟩ x8).setCell ⟨g, 9, none⟩ x9).setCell ⟨g, 10, none⟩ x10).setCell ⟨g, 11, none⟩ x11).setCell ⟨g, 12, none⟩ x12).setCell ⟨g, 13, none⟩ x13).heap[g]? = some (.cells #[x0, x1, x2, x3, x4, x5, x6, x7, x8, x9, x10, x11, x12, x13] t fr) := row_set h12 13 x13
  exact h13

theorem below_put14 {B : Nat} {v w : World} (h : Below B v w) {g : Nat} (hg : B ≤ g) (x0 x1 x2 x3 x4 x5 x6 x7 x8 x9 x10 x11 x12 x13 : Value) : Below B v (put14 w g x0 x1 x2 x3 x4 x5 x6 x7 x8 x9 x10 x11 x12 x13) :=
  ((((((((((((((h.setCell (p := ⟨g, 0, none⟩) hg x0).setCell (p := ⟨g, 1, none⟩) hg x1).setCell (p := ⟨g, 2, none⟩) hg x2).setCell (p := ⟨g, 3, none⟩) hg x3).setCell (p := ⟨g, 4, none⟩) hg x4).setCell (p := ⟨g, 5, none⟩) hg x5).setCell (p := ⟨g, 6, none⟩) hg x6).setCell (p := ⟨g, 7, none⟩) hg x7).setCell (p := ⟨g, 8, none⟩) hg x8).setCell (p := ⟨g, 9, none⟩) hg x9).setCell (p := ⟨g, 10, none⟩) hg x10).setCell (p := ⟨g, 11, none⟩) hg x11).setCell (p := ⟨g, 12, none⟩) hg x12).setCell (p := ⟨g, 13, none⟩) hg x13)

theorem Fam.put14 {B E : Nat} {w : World} {L : List FRow} (h : Fam B E w L) (g : Nat) (hg : g < B ∨ E ≤ g) (x0 x1 x2 x3 x4 x5 x6 x7 x8 x9 x10 x11 x12 x13 : Value) : Fam B E (put14 w g x0 x1 x2 x3 x4 x5 x6 x7 x8 x9 x10 x11 x12 x13) L :=
  ((((((((((((((h.set ⟨g, 0, none⟩ x0 hg).set ⟨g, 1, none⟩ x1 hg).set ⟨g, 2, none⟩ x2 hg).set ⟨g, 3, none⟩ x3 hg).set ⟨g, 4, none⟩ x4 hg).set ⟨g, 5, none⟩ x5 hg).set ⟨g, 6, none⟩ x6 hg).set ⟨g, 7, none⟩ x7 hg).set ⟨g, 8, none⟩ x8 hg).set ⟨g, 9, none⟩ x9 hg).set ⟨g, 10, none⟩ x10 hg).set ⟨g, 11, none⟩ x11 hg).set ⟨g, 12, none⟩ x12 hg).set ⟨g, 13, none⟩ x13 hg)

theorem mac_size : (Try.prog.info? 29).map (·.size) = some 14 := by kernel_rfl

structure MLen (M : MV) : Prop where
  x : M.x.length ≤ 1048576
  cs : M.cs.length ≤ 1048576
  ram : M.ram.length ≤ 1048576
  xs : M.d.xs.length ≤ 1048576
  ys : M.d.ys.length ≤ 1048576

structure KeepL (L : List FRow) (w w' : World) : Prop where
  os : w'.os = w.os
  tape : w'.tape = w.tape
  output : w'.output = w.output
  size : w.heap.size ≤ w'.heap.size
  block : ∀ k, k < w.heap.size → (∀ q ∈ L, q.v.ownBlock ≠ some k) → w'.heap[k]? = w.heap[k]?

theorem KeepL.trans {L : List FRow} {a b c : World} (h : KeepL L a b) (k : KeepL L b c) : KeepL L a c :=
  ⟨k.os.trans h.os, k.tape.trans h.tape, k.output.trans h.output, Nat.le_trans h.size k.size, fun i hi ho => (k.block i (Nat.lt_of_lt_of_le hi h.size) ho).trans (h.block i hi ho)⟩

theorem KeepL.of_below {L : List FRow} {w w' : World} (h : Below w.heap.size w w') : KeepL L w w' := ⟨h.os, h.tape, h.output, h.size, fun k hk _ => h.block k hk⟩

theorem KeepL.of_grown {L : List FRow} {w w' : World} {q : FRow} (h : w.grownBy w' q.v.ownBlock) (hq : q ∈ L) : KeepL L w w' :=
  ⟨h.os, h.tape, h.output, h.size, fun k hk ho => h.block k hk (fun e => ho q hq e.symm)⟩

theorem KeepL.keep {L : List FRow} {B E : Nat} {w w' : World} (h : KeepL L w w') (hf : Fam B E w L) : Keep B E w w' :=
  ⟨h.os, h.tape, h.output, h.size, fun k hk ho => h.block k hk (fun q hq e => by have h1 := ((hf.own q hq).lt k e).1; have h2 := hf.hi q hq k e; omega)⟩

theorem Fam.markL {B E : Nat} {w w' : World} {L1 L2 : List FRow} {r : FRow} (h : Fam B E w (L1 ++ r :: L2)) (hg : w.grownBy w' r.v.ownBlock) (xs : List Value) (ho : w'.ownsRow B r.t 1 r.v r.n xs) : Fam B E w' (L1 ++ ⟨r.t, r.v, r.n, xs⟩ :: L2) ∧ KeepL (L1 ++ r :: L2) w w' :=
  ⟨(h.mark hg xs ho).1, KeepL.of_grown hg (by simp)⟩

theorem l3If_dev (b : Bool) (w : World) : Calls Try.prog 52 #[.bool b] w fun e w' => e = .returned (.int .u64 (oneIf b)) ∧ w' = w := by
  cases b with
  | false =>
    go_enter Try.func52, Try.ntmps52
    go_wp2_with fail
    go_ret
    exact ⟨rfl, rfl⟩
  | true =>
    go_enter Try.func52, Try.ntmps52
    go_wp2_with fail
    go_ret
    exact ⟨rfl, rfl⟩

theorem l1In_8 (x : Int) (w : World) : Calls Try.prog 51 #[.int .i64 x, .int .i64 0, .int .i64 1] w fun e w' => e = .returned (.bool (decide (0 ≤ x ∧ x ≤ 1))) ∧ w' = w := by
  by_cases h1 : 0 ≤ x
  · by_cases h2 : x ≤ 1
    · have F : Hid (decide (0 ≤ x ∧ x ≤ 1) = true) := by show decide (0 ≤ x ∧ x ≤ 1) = true; simp [h1, h2]
      have d1 : decide (0 ≤ x) = true := by simpa using h1
      have d2 : decide (x ≤ 1) = true := by simpa using h2
      clear h1 h2
      generalize decide (0 ≤ x ∧ x ≤ 1) = v at *
      go_enter Try.func51, Try.ntmps51
      go_wp2
      go_ret
      exact ⟨by rw [F.out]; rfl, rfl⟩
    · have F : Hid (decide (0 ≤ x ∧ x ≤ 1) = false) := by show _ = false; simp; omega
      have d1 : decide (0 ≤ x) = true := by simpa using h1
      have d2 : decide (x ≤ 1) = false := by simpa using h2
      clear h1 h2
      generalize decide (0 ≤ x ∧ x ≤ 1) = v at *
      go_enter Try.func51, Try.ntmps51
      go_wp2
      go_ret
      exact ⟨by rw [F.out]; rfl, rfl⟩
  · have F : Hid (decide (0 ≤ x ∧ x ≤ 1) = false) := by show _ = false; simp; omega
    have d1 : decide (0 ≤ x) = false := by simpa using h1
    clear h1
    generalize decide (0 ≤ x ∧ x ≤ 1) = v at *
    go_enter Try.func51, Try.ntmps51
    go_wp2
    go_ret
    exact ⟨by rw [F.out]; rfl, rfl⟩

theorem specDevOk_any (t cm : Int) (so : Bool) (a1 : Option Addr) (n1 c1 : Nat) (a2 : Option Addr) (n2 c2 : Nat) (ir : Int) (w : World) (hn1 : n1 ≤ 1048576) (hn2 : n2 ≤ 1048576) :
    Calls Try.prog 35 #[.agg #[.int .u64 t, .int .u64 cm, .bool so, .slice a1 n1 c1, .slice a2 n2 c2, .int .i64 ir]] w fun e w' => e = .returned (.bool (okD n1 n2 ir)) ∧ Below w.heap.size w w' := by
  have HI : Hid (∀ w, Calls Try.prog 51 #[.int .i64 ir, .int .i64 0, .int .i64 1] w fun e w' => e = .returned (.bool (decide (0 ≤ ir ∧ ir ≤ 1))) ∧ w' = w) := l1In_8 ir
  have hB : ∀ o, Below w.heap.size w (w.alloc o) := fun o => (Below.refl _ _).alloc (Nat.le_refl _) o
  have F : okD n1 n2 ir = (decide (n1 ≤ 16) && decide (n2 ≤ 4096) && decide (0 ≤ ir ∧ ir ≤ 1)) := rfl
  generalize okD n1 n2 ir = v at *
  generalize decide (0 ≤ ir ∧ ir ≤ 1) = q at *
  by_cases h1 : n1 ≤ 16
  · have d1 : decide ((n1 : Int) ≤ 16) = true := by simp; omega
    by_cases h2 : n2 ≤ 4096
    · have d2 : decide ((n2 : Int) ≤ 4096) = true := by simp; omega
      have F2 : Hid (v = q) := by show v = q; rw [F, decide_eq_true h1, decide_eq_true h2]; rfl
      clear F h1 h2 hn1 hn2
      go_enter Try.func35, Try.ntmps35
      go_wp2_with fail
      refine (HI.out _).mono ?_
      rintro e w1 ⟨rfl, hw1⟩
      subst hw1
      go_wp2_with fail
      go_ret
      exact ⟨by rw [F2.out]; rfl, hB _⟩
    · have d2 : decide ((n2 : Int) ≤ 4096) = false := by simp; omega
      have F2 : Hid (v = false) := by show v = _; rw [F, decide_eq_true h1, decide_eq_false h2]; rfl
      clear F h1 h2 hn1 hn2
      go_enter Try.func35, Try.ntmps35
      go_wp2_with fail
      go_ret
      exact ⟨by rw [F2.out]; rfl, hB _⟩
  · have d1 : decide ((n1 : Int) ≤ 16) = false := by simp; omega
    have F2 : Hid (v = false) := by show v = _; rw [F, decide_eq_false h1]; rfl
    clear F h1 hn1 hn2
    go_enter Try.func35, Try.ntmps35
    go_wp2_with fail
    go_ret
    exact ⟨by rw [F2.out]; rfl, hB _⟩

theorem row_al8 {W : World} {g : Nat} {o : Obj} (h : W.heap[g]? = some o) (o' : Obj) : (W.alloc o').heap[g]? = some o := (Below.heap_alloc W o' g (Array.getElem?_eq_some_iff.1 h).1).trans h

theorem app2 {w w1 : World} {o1 o2 o3 : Obj} (gr : (((w.alloc o1).alloc o2).alloc o3).grownBy w1 (some (w.heap.size + 1 + 1))) : w1.heap[w.heap.size]? = some o1 ∧ w1.heap[w.heap.size + 1]? = some o2 ∧ Below w.heap.size w w1 ∧ w.heap.size + 1 + 1 + 1 ≤ w1.heap.size := by
  obtain ⟨h1, h2, _⟩ := rows3 (w := w) (o1 := o1) (o2 := o2) (o3 := o3) (Below.refl _ (((w.alloc o1).alloc o2).alloc o3))
  have hs := gr.size
  simp only [World.size_alloc] at hs
  refine ⟨(gr.block _ (by simp only [World.size_alloc]; omega) (by simp; omega)).trans h1, (gr.block _ (by simp only [World.size_alloc]; omega) (by simp)).trans h2, ?_, hs⟩
  exact Below.grown ((((Below.refl _ _).alloc (Nat.le_refl _) o1).alloc (by simp) o2).alloc (by simp; omega) o3) gr (by simp only [World.size_alloc]; omega) (fun k hk => by simp at hk; omega)

theorem app1 {w w1 : World} {o : Obj} {g : Nat} (gr : (w.alloc o).grownBy w1 (some g)) (hg : g = w.heap.size) : Below w.heap.size w w1 := by
  subst hg
  exact Below.grown ((Below.refl _ _).alloc (Nat.le_refl _) o) gr (by simp) (fun k hk => by simp at hk; omega)

set_option maxRecDepth 100000 in
set_option maxHeartbeats 1600000 in
theorem l8Copy_any (t cm : Int) (so : Bool) (a1 : Option Addr) (n1 c1 : Nat) (a2 : Option Addr) (n2 c2 : Nat) (ir : Int) (xs ys : List Int) (w : World) (hx : xs.length = n1) (hy : ys.length = n2) (hn1 : n1 ≤ 1048576) (hn2 : n2 ≤ 1048576) (hs1 : Sl .u8 w a1 xs) (hs2 : Sl .u8 w a2 ys) :
    Calls Try.prog 30 #[.agg #[.int .u64 t, .int .u64 cm, .bool so, .slice a1 n1 c1, .slice a2 n2 c2, .int .i64 ir]] w fun e w' => ∃ (b1 : Option Addr) (d1 : Nat) (b2 : Option Addr) (d2 : Nat), e = .returned (.agg #[.int .u64 t, .int .u64 cm, .bool so, .slice b1 n1 d1, .slice b2 n2 d2, .int .i64 ir]) ∧
      Fam w.heap.size w'.heap.size w' (devF b1 n1 d1 xs b2 n2 d2 ys) ∧ Below w.heap.size w w' := by
  have hB2 : ∀ o1 o2, Below w.heap.size w ((w.alloc o1).alloc o2) := fun o1 o2 => ((Below.refl _ _).alloc (Nat.le_refl _) o1).alloc (by simp) o2
  have hE := own_empty8 ((w.alloc (.cells #[.int .u64 t, .int .u64 cm, .bool so, .slice a1 n1 c1, .slice a2 n2 c2, .int .i64 ir] 27)).alloc (.cells #[.int .u64 0, .int .u64 0, .bool false, .slice none 0 0, .slice none 0 0, .int .i64 0] 27)) (w.heap.size + 1 + 1) (by simp) (.cells #[] 5 (0, 0)) rfl
  rw [World.size_alloc, World.size_alloc] at hE
  have HS1 : Hid (∀ w', Below w.heap.size w w' → Sl .u8 w' a1 xs) := fun w' hb => hs1.below hb
  have HS2 : Hid (∀ w', Below w.heap.size w w' → Sl .u8 w' a2 ys) := fun w' hb => hs2.below hb
  have HX : Hid (xs.length = n1 ∧ ys.length = n2 ∧ n1 ≤ 1048576 ∧ n2 ≤ 1048576) := ⟨hx, hy, hn1, hn2⟩
  clear hs1 hs2 hx hy hn1 hn2
  go_enter Try.func30, Try.ntmps30
  go_wp2_with (first
    | (at_builtin; refine wpList_app8 rfl (.tmp 3) (.tmp 5) rfl (w.heap.size + 1 + 1) _ rfl hE a1 n1 c1 xs rfl HX.out.1 HX.out.2.2.1 (HS1.out _ ((hB2 _ _).alloc (hB2 _ _).size _)) (by simp) ?_; intro b1 d1 w1 ow1 gr1; obtain ⟨r0, r1, hb1, z1⟩ := app2 gr1; have R0 := dhid r0; have R1 := dhid r1; have B1 := dhid hb1; have Z1 := dhid z1; have A1 := dhid ((Fam.nil (w.heap.size + 1 + 1) (w.heap.size + 1 + 1) w1).snoc (bRow b1 n1 d1 xs) _ w1.heap.size ow1 (Nat.le_refl _) (Nat.le_refl _) (Nat.le_refl _) (by omega)); obtain ⟨p0, p1, p2, p3, p4, p5⟩ := cells6 r0; have f3 := froz r0 3; have hE2 := own_empty8 (w1.setCell ⟨w.heap.size, 3, none⟩ (.slice b1 n1 d1)) w1.heap.size (by rw [size_set]; exact Nat.le_refl _) (.cells #[] 5 (0, 0)) rfl; rw [size_set] at hE2; have R0' : (w1.setCell ⟨w.heap.size, 3, none⟩ (.slice b1 n1 d1)).heap[w.heap.size]? = some (.cells #[.int .u64 t, .int .u64 cm, .bool so, .slice b1 n1 d1, .slice a2 n2 c2, .int .i64 ir] 27 (0, 0)) := row_set R0.out 3 (.slice b1 n1 d1); have p4' := fun o => (cells6 (row_al8 R0' o)).2.2.2.2.1; clear r0 r1 hb1 z1 ow1 gr1 R0')
    | (at_builtin; refine wpList_app8 rfl (.tmp 8) (.tmp 10) rfl w1.heap.size _ rfl hE2 a2 n2 c2 ys rfl HX.out.2.1 HX.out.2.2.2 (HS2.out _ ((B1.out.setCell (p := ⟨w.heap.size, 3, none⟩) (Nat.le_refl _) _).alloc (B1.out.setCell (p := ⟨w.heap.size, 3, none⟩) (Nat.le_refl _) _).size _)) (by rw [World.size_alloc, size_set]; omega) ?_; intro b2 d2 w2 ow2 gr2; have hb2 := app1 gr2 (by rw [size_set]); have z2 := hb2.size; have S0 : Hid (w2.heap[w.heap.size]? = some (.cells #[.int .u64 t, .int .u64 cm, .bool so, .slice b1 n1 d1, .slice a2 n2 c2, .int .i64 ir] 27 (0, 0))) := dstays hb2 (row_set R0.out 3 (.slice b1 n1 d1)); have S1 := dhid (dstays hb2 (row_far R1.out ⟨w.heap.size, 3, none⟩ (.slice b1 n1 d1) (by dsimp only; omega))); have B2 := dhid (below_trans (B1.out.setCell (p := ⟨w.heap.size, 3, none⟩) (Nat.le_refl _) (.slice b1 n1 d1)) hb2); rw [size_set] at z2; have A2 := dhid (((A1.out.set ⟨w.heap.size, 3, none⟩ (.slice b1 n1 d1) (.inl (by dsimp only; omega))).below hb2).snoc (bRow b2 n2 d2 ys) _ w2.heap.size ow2 (Nat.le_refl _) (by have := Z1.out; omega) (Nat.le_refl _) z2); clear p0 p1 p2 p3 p4 p5 f3 p4'; obtain ⟨p0, p1, p2, p3, p4, p5⟩ := cells6 S0.out; have f4 := froz S0.out 4; obtain ⟨s0, s1, s2, s3, s4, s5⟩ := cells6 S1.out; obtain ⟨y0, y1, y2, y3, y4, y5⟩ := froz6 S1.out; clear ow2 gr2 hb2 z2))
  have T1 := row_far S1.out ⟨w.heap.size, 4, none⟩ (.slice b2 n2 d2) (by dsimp only; omega)
  have A3 := (A2.out.set ⟨w.heap.size, 4, none⟩ (.slice b2 n2 d2) (.inl (by dsimp only; omega))).put6 (w.heap.size + 1) (.inl (by omega)) (.int .u64 t) (.int .u64 cm) (.bool so) (.slice b1 n1 d1) (.slice b2 n2 d2) (.int .i64 ir)
  have B3 := below_put6 (B2.out.setCell (p := ⟨w.heap.size, 4, none⟩) (Nat.le_refl _) (.slice b2 n2 d2)) (g := w.heap.size + 1) (by omega) (.int .u64 t) (.int .u64 cm) (.bool so) (.slice b1 n1 d1) (.slice b2 n2 d2) (.int .i64 ir)
  exact bodyPost_ret (results_cell_row Try.results30 _ _ _ _ _ _ _ rfl (row_put6 T1 _ _ _ _ _ _) Try.underlying27 rfl dev_size) rfl ⟨b1, d1, b2, d2, rfl, A3.low (by omega) (by simp only [size_set]; exact Nat.le_refl _), B3⟩

set_option maxRecDepth 100000 in
set_option maxHeartbeats 1600000 in
theorem l8Lines_any (t cm : Int) (so : Bool) (a1 : Option Addr) (n1 c1 : Nat) (a2 : Option Addr) (n2 c2 : Nat) (ir : Int) (w : World) (hn1 : n1 ≤ 1048576) :
    Calls Try.prog 36 #[.agg #[.int .u64 t, .int .u64 cm, .bool so, .slice a1 n1 c1, .slice a2 n2 c2, .int .i64 ir]] w fun e w' => e = .returned (.int .u64 (IntKind.u64.wrap (IntKind.u64.wrap (IntKind.u64.wrap (8 * oneIf so) + IntKind.u64.wrap (128 * oneIf (decide (cm ≤ t)))) + IntKind.u64.wrap (2048 * oneIf ((ir == 1) && decide (0 < n1)))))) ∧ Below w.heap.size w w' := by
  have HI : Hid (∀ (b : Bool) w, Calls Try.prog 52 #[.bool b] w fun e w' => e = .returned (.int .u64 (oneIf b)) ∧ ∃ m, w' = w.drewN m) := fun b w => (l3If_dev b w).mono fun _ _ h => ⟨h.1, 0, h.2⟩
  have hB : ∀ o m, Below w.heap.size w ((w.alloc o).drewN m) := fun o m => ⟨rfl, rfl, rfl, by simp, fun k hk => Below.heap_alloc w o k hk⟩
  clear hn1
  cases ti : (ir == 1) with
  | true =>
    go_enter Try.func36, Try.ntmps36
    go_wp2_with fail
    go_quiet (first | (go_at_call 52; with_reducible refine Calls.quiet_of (HI.out _ _)))
    go_wp2_with fail
    go_ret
    exact ⟨rfl, hB _ _⟩
  | false =>
    go_enter Try.func36, Try.ntmps36
    go_wp2_with fail
    go_quiet (first | (go_at_call 52; with_reducible refine Calls.quiet_of (HI.out _ _)))
    go_wp2_with fail
    go_ret
    exact ⟨rfl, hB _ _⟩

set_option maxRecDepth 100000 in
set_option maxHeartbeats 6400000 in
theorem l9Line_x (pc : Int) (ax : Option Addr) (nx cx : Nat) (pr : Int) (g cc : Nat) (ar : Option Addr) (nr cr : Nat) (t cm : Int) (so : Bool) (ai : Option Addr) (ni ci : Nat) (ao : Option Addr) (no co : Nat) (ir hd : Int) (hl wt : Bool) (b : Nat) (y ln : Int) (w : World) (hrow : w.heap[b]? = some (.cells #[.int .u64 pc, .slice ax nx cx, .int .i64 pr, .slice (some ⟨g, 0, none⟩) 22 cc, .slice ar nr cr, .int .u64 t, .int .u64 cm, .bool so, .slice ai ni ci, .slice ao no co, .int .i64 ir, .int .u64 hd, .bool hl, .bool wt] 29 (0, 0))) (hcell : w.cell? ⟨g, 9, none⟩ = some (.int .u64 y)) (hfz : w.frozen? ⟨g, 9, none⟩ = false) (hg : g < w.heap.size)
    (hN : ∀ w', Below w.heap.size w w' → Calls Try.prog 36 #[.agg #[.int .u64 t, .int .u64 cm, .bool so, .slice ai ni ci, .slice ao no co, .int .i64 ir]] w' fun e w'' => e = .returned (.int .u64 ln) ∧ Below w'.heap.size w' w'') :
    Calls Try.prog 48 #[.pointer (some ⟨b, 0, none⟩)] w fun e w' => e = .returned (.tuple #[]) ∧ ∃ w1, Below w.heap.size w w1 ∧ w' = w1.setCell ⟨g, 9, none⟩ (.int .u64 (bits .or .u64 (bits .andNot .u64 y 2184) ln)) := by
  have HN : Hid (Calls Try.prog 36 #[.agg #[.int .u64 t, .int .u64 cm, .bool so, .slice ai ni ci, .slice ao no co, .int .i64 ir]] w.drew fun e w'' => e = .returned (.int .u64 ln) ∧ Below w.drew.heap.size w.drew w'') := hN w.drew (Below.refl _ _).drew
  have HROW := dhid hrow
  have HG := dhid hg
  have HC := dhid (And.intro hcell hfz)
  obtain ⟨p0, p1, p2, p3, p4, p5, p6, p7, p8, p9, p10, p11, p12, p13⟩ := cells14 hrow
  clear hN hrow hg
  go_enter Try.func48, Try.ntmps48
  go_wp2_with fail
  go_region_with (first | (go_at_call 36; with_reducible refine HN.out.mono ?_; rintro e w1 ⟨rfl, hb1⟩; have B1 := dhid (below_trans (Below.refl w.heap.size w).drew hb1); clear hb1; obtain ⟨q0, q1, q2, q3, q4, q5, q6, q7, q8, q9, q10, q11, q12, q13⟩ := cells14 (dstays B1.out HROW.out); have hc1 := (B1.out.cell (p := ⟨g, 9, none⟩) HG.out).trans HC.out.1; have hf1 : w1.frozen? ⟨g, 9, none⟩ = false := (by have h1 := HC.out.2; have h2 := B1.out.block g HG.out; unfold World.frozen? at h1 ⊢; dsimp only at h1 ⊢; rw [h2]; exact h1)))
  all_goals go_wp2_with fail
  all_goals refine bodyPost_end (results_none rfl _ _ _) rfl ?_
  all_goals exact ⟨rfl, w1, B1.out, rfl⟩

def lineM (M : MV) : MV := ⟨M.pc, M.x, M.pr, M.cs.set 9 (bits .or .u64 (bits .andNot .u64 (M.cs.getD 9 0) 2184) (linesV M.d)), M.ram, M.d, M.hd, M.hl, M.wt⟩

theorem mvc_line (M : MV) (A : MA) : mvc (lineM M) A = mvc M A := by
  simp [mvc, lineM]

theorem grown_one (w : World) (g i : Nat) (v : Value) : w.grownBy (w.setCell ⟨g, i, none⟩ v) (some g) :=
  ⟨rfl, rfl, rfl, by rw [size_set]; exact Nat.le_refl _, fun k _ hk => Below.heap_setCell w ⟨g, i, none⟩ v k (fun h => hk (by rw [h]))⟩

theorem l9Line_any (M : MV) (A : MA) (b B E : Nat) (w : World) (h22 : M.cs.length = 22) (hl : MLen M) (hrow : w.heap[b]? = some (.cells (mvc M A) 29 (0, 0))) (hf : Fam B E w (mvF M A)) (hb : ∀ q ∈ mvF M A, q.v.ownBlock ≠ some b) :
    Calls Try.prog 48 #[.pointer (some ⟨b, 0, none⟩)] w fun e w' => e = .returned (.tuple #[]) ∧ w'.heap[b]? = some (.cells (mvc (lineM M) A) 29 (0, 0)) ∧ Fam B E w' (mvF (lineM M) A) ∧ KeepL (mvF M A) w w' := by
  have hmem : wRow A.ac M.cs.length A.cc M.cs ∈ mvF M A := by simp [mvF]
  have ho := hf.own _ hmem
  have hsl := hf.msl
  obtain ⟨g, off, hac, hg, hc⟩ := hsl.cs 9 (by omega)
  have hoff : off = 0 := by
    rcases ho.2 with ⟨e, _⟩ | ⟨g', cap, cur, e, _⟩
    · have e2 : Value.slice A.ac M.cs.length A.cc = .slice none 0 0 := e
      injection e2 with e3
      rw [hac] at e3
      cases e3
    · have e2 : Value.slice A.ac M.cs.length A.cc = .slice (some ⟨g', 0, none⟩) M.cs.length cap := e
      injection e2 with e3
      rw [hac] at e3
      injection e3 with e4
      injection e4
  subst hoff
  rw [Nat.zero_add] at hc
  have hblk : (wRow A.ac M.cs.length A.cc M.cs).v.ownBlock = some g := by show (Value.slice A.ac M.cs.length A.cc).ownBlock = _; rw [hac]; rfl
  have hgb : g ≠ b := fun e => hb _ hmem (by rw [hblk, e])
  have hfz : w.frozen? ⟨g, 9, none⟩ = false := by
    rcases ho.2 with ⟨e, _⟩ | ⟨g', cap, cur, e, h1, h2, _⟩
    · have e2 : Value.slice A.ac M.cs.length A.cc = .slice none 0 0 := e
      rw [hac] at e2
      cases e2
    · have e2 : Value.slice A.ac M.cs.length A.cc = .slice (some ⟨g', 0, none⟩) M.cs.length cap := e
      rw [hac] at e2
      injection e2 with e3
      injection e3 with e4
      injection e4 with e5
      subst e5
      exact froz h2 9
  have hr2 := hrow
  unfold mvc at hr2
  rw [hac, h22] at hr2
  refine (l9Line_x _ _ _ _ _ g _ _ _ _ _ _ _ _ _ _ _ _ _ _ _ _ _ b (M.cs.getD 9 0) (linesV M.d) w hr2 hc hfz hg (fun w' hw => l8Lines_any _ _ _ _ _ _ _ _ _ _ w' hl.xs)).mono ?_
  rintro e w' ⟨rfl, w1, hb1, rfl⟩
  have hf1 := hf.below hb1
  have ho1 := hf1.own _ hmem
  refine ⟨rfl, ?_, ?_⟩
  · rw [mvc_line]
    exact row_far (dstays hb1 hrow) ⟨g, 9, none⟩ _ (fun e => hgb e.symm)
  · have hgr : w1.grownBy (w1.setCell ⟨g, 9, none⟩ (.int .u64 (bits .or .u64 (bits .andNot .u64 (M.cs.getD 9 0) 2184) (linesV M.d)))) (wRow A.ac M.cs.length A.cc M.cs).v.ownBlock := by rw [hblk]; exact grown_one _ _ _ _
    have hst : (w1.setCell ⟨g, 9, none⟩ (.int .u64 (bits .or .u64 (bits .andNot .u64 (M.cs.getD 9 0) 2184) (linesV M.d)))).ownsRow B 24 1 (.slice A.ac M.cs.length A.cc) M.cs.length ((lineM M).cs.map (Value.int .u64)) := by
      have h2 : w1.ownsRow B 24 1 (.slice A.ac M.cs.length A.cc) M.cs.length (M.cs.map (Value.int .u64)) := ho1
      rw [hac] at h2 ⊢
      have h3 := (h2.stored 9 (.int .u64 (bits .or .u64 (bits .andNot .u64 (M.cs.getD 9 0) 2184) (linesV M.d)))).1
      rw [map_set_u64] at h3
      exact h3
    have hm := Fam.markL (L1 := [wRow A.ax M.x.length A.cx M.x]) (L2 := [bRow A.ar M.ram.length A.cr M.ram, bRow A.ai M.d.xs.length A.ci M.d.xs, bRow A.ao M.d.ys.length A.co M.d.ys]) (r := wRow A.ac M.cs.length A.cc M.cs) hf1 hgr _ hst
    refine ⟨?_, (KeepL.of_below hb1).trans hm.2⟩
    have hlen : (lineM M).cs.length = M.cs.length := by simp [lineM]
    unfold mvF
    rw [hlen]
    exact hm.1

theorem row_below {B : Nat} {v w : World} (h : Below B v w) {g : Nat} (hg : B ≤ g) (cs : Array Value) : Below B v (w.setRow g cs) :=
  ⟨h.os, h.tape, h.output, by rw [setRow_size]; exact h.size, fun k hk => (setRow_other w g k cs (by omega)).trans (h.block k hk)⟩

structure Mp (B r : Nat) (M : MV) (A : MA) (W : World) : Prop where
  row : W.heap[r]? = some (.cells (mvc M A) 29 (0, 0))
  fam : Fam B W.heap.size W (mvF M A)
  ne : ∀ q ∈ mvF M A, q.v.ownBlock ≠ some r
  lo : B ≤ r

structure Kx (r : Nat) (L L' : List FRow) (w w' : World) : Prop where
  os : w'.os = w.os
  tape : w'.tape = w.tape
  output : w'.output = w.output
  size : w.heap.size ≤ w'.heap.size
  block : ∀ k, k < w.heap.size → k ≠ r → (∀ q ∈ L, q.v.ownBlock ≠ some k) → w'.heap[k]? = w.heap[k]?
  own : ∀ q ∈ L', ∀ k, q.v.ownBlock = some k → k < w.heap.size → ∃ q0 ∈ L, q0.v.ownBlock = some k

theorem Kx.of_keepL {r : Nat} {L L' : List FRow} {w w' : World} (h : KeepL L w w') (hs : ∀ q ∈ L', ∃ q0 ∈ L, q0.v = q.v) : Kx r L L' w w' :=
  ⟨h.os, h.tape, h.output, h.size, fun k hk _ ho => h.block k hk ho, fun q hq k e _ => by obtain ⟨q0, h0, e0⟩ := hs q hq; exact ⟨q0, h0, by rw [e0]; exact e⟩⟩

theorem Kx.below {r B : Nat} {L L' : List FRow} {w w' : World} (h : Kx r L L' w w') (hr : B ≤ r) (hB : B ≤ w.heap.size) (hL : ∀ q ∈ L, ∀ k, q.v.ownBlock = some k → B ≤ k) : Below B w w' :=
  ⟨h.os, h.tape, h.output, h.size, fun k hk => h.block k (by omega) (by omega) (fun q hq e => by have := hL q hq k e; omega)⟩

theorem Mp.lt {B r : Nat} {M : MV} {A : MA} {w : World} (h : Mp B r M A w) : r < w.heap.size := (Array.getElem?_eq_some_iff.1 h.row).1

theorem Mp.under {B r : Nat} {M M' : MV} {A A' : MA} {w w' : World} (h : Mp B r M A w) (k : Kx r (mvF M A) (mvF M' A') w w') : Below B w w' :=
  k.below h.lo (by have := h.lt; have := h.lo; omega) (fun q hq i e => ((h.fam.own q hq).lt i e).1)

theorem mvF_same {M M' : MV} {A : MA} (h1 : M'.x.length = M.x.length) (h2 : M'.cs.length = M.cs.length) (h3 : M'.ram.length = M.ram.length) (h4 : M'.d.xs.length = M.d.xs.length) (h5 : M'.d.ys.length = M.d.ys.length) : ∀ q ∈ mvF M' A, ∃ q0 ∈ mvF M A, q0.v = q.v := by
  intro q hq
  simp only [mvF, List.mem_cons, List.not_mem_nil, or_false] at hq
  rcases hq with rfl | rfl | rfl | rfl | rfl
  · exact ⟨wRow A.ax M.x.length A.cx M.x, by simp [mvF], by rw [h1]; rfl⟩
  · exact ⟨wRow A.ac M.cs.length A.cc M.cs, by simp [mvF], by rw [h2]; rfl⟩
  · exact ⟨bRow A.ar M.ram.length A.cr M.ram, by simp [mvF], by rw [h3]; rfl⟩
  · exact ⟨bRow A.ai M.d.xs.length A.ci M.d.xs, by simp [mvF], by rw [h4]; rfl⟩
  · exact ⟨bRow A.ao M.d.ys.length A.co M.d.ys, by simp [mvF], by rw [h5]; rfl⟩

theorem l9Line_mp (M : MV) (A : MA) (B r : Nat) (w : World) (h22 : M.cs.length = 22) (hl : MLen M) (h : Mp B r M A w) :
    Calls Try.prog 48 #[.pointer (some ⟨r, 0, none⟩)] w fun e w' => e = .returned (.tuple #[]) ∧ Mp B r (lineM M) A w' ∧ Kx r (mvF M A) (mvF (lineM M) A) w w' := by
  refine (l9Line_any M A r B w.heap.size w h22 hl h.row h.fam h.ne).mono fun e w' ⟨h1, h2, h3, h4⟩ => ⟨h1, ⟨h2, h3.low (Nat.le_refl _) h4.size, ?_, h.lo⟩, Kx.of_keepL h4 (mvF_same rfl (by simp [lineM]) rfl rfl rfl)⟩
  intro q hq e
  obtain ⟨q0, h0, e0⟩ := mvF_same (M := M) (M' := lineM M) (A := A) rfl (by simp [lineM]) rfl rfl rfl q hq
  exact h.ne q0 h0 (by rw [e0]; exact e)

end Go.Proofs.Ytmigfnlfjgkgkaa
