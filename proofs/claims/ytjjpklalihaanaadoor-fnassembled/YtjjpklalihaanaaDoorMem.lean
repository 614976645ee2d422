/- Lists of bytes in memory: where they lie, what is owned, what stays: lemmas on worlds and lists. -/
import Derived.Test.YtjjpklalihaanaaDoorPlain
import Derived.WalkKit
import Derived.WalkLawsBesides
import Derived.Laws.CopyOwn
namespace Go.Proofs.YtjjpklalihaanaaDoor
open Go.RowKit
set_option linter.unusedVariables false

/-- The cells that a slice value leads to hold these numbers, in memory that was there at w. -/
def Sl (k : IntKind) (w : World) (a : Option Addr) (zs : List Int) : Prop :=
  ∀ i, i < zs.length → ∃ b off, a = some ⟨b, off, none⟩ ∧ b < w.heap.size ∧ w.cell? ⟨b, off + i, none⟩ = some (.int k (zs.getD i 0))

theorem Sl.below {k : IntKind} {w w' : World} {a : Option Addr} {zs : List Int} (h : Sl k w a zs) (hb : Below w.heap.size w w') : Sl k w' a zs := by
  intro i hi
  obtain ⟨b, off, e, hlt, hc⟩ := h i hi
  exact ⟨b, off, e, Nat.lt_of_lt_of_le hlt hb.size, (hb.cell (by exact hlt)).trans hc⟩

/-- What a copying loop has laid by round k. -/
def Lk (k : IntKind) (zs : List Int) (n j : Nat) : List Value := (zs.take j).map (Value.int k) ++ List.replicate (n - j) (.int k 0)

theorem Lk_len (k : IntKind) (zs : List Int) (n j : Nat) (hz : zs.length = n) (hj : j ≤ n) : (Lk k zs n j).length = n := by
  simp [Lk]; omega

theorem Lk_zero (k : IntKind) (zs : List Int) (n : Nat) : Lk k zs n 0 = List.replicate n (.int k 0) := by simp [Lk]

theorem Lk_end (k : IntKind) (zs : List Int) (n : Nat) (hz : zs.length = n) : Lk k zs n n = zs.map (Value.int k) := by
  simp [Lk, ← hz]

theorem Lk_set (k : IntKind) (zs : List Int) (n j : Nat) (hz : zs.length = n) (hj : j < n) : (Lk k zs n j).set j (.int k (zs.getD j 0)) = Lk k zs n (j + 1) := by
  unfold Lk
  have h1 : zs.take (j + 1) = zs.take j ++ [zs.getD j 0] := by
    rw [List.take_succ_eq_append_getElem (by omega)]
    simp [List.getD, List.getElem?_eq_getElem (show j < zs.length by omega)]
  have h2 : n - j = (n - (j + 1)) + 1 := by omega
  rw [h1, h2, List.replicate_succ, List.set_append_right _ _ (by simp; omega)]
  have h3 : j - ((zs.take j).map (Value.int k)).length = 0 := by simp; omega
  rw [h3]
  simp

theorem ownsRow_below {w w' : World} {base : Nat} {e : TypeId} {size : Nat} {v : Value} {n : Nat} {xs : List Value} (h : w.ownsRow base e size v n xs) (hb : Below w.heap.size w w') : w'.ownsRow base e size v n xs := by
  obtain ⟨h1, h2⟩ := h
  refine ⟨h1, ?_⟩
  rcases h2 with h2 | ⟨g, cap, cur, hv, hg, hh, r⟩
  · exact Or.inl h2
  · have hlt : g < w.heap.size := by
      rcases Nat.lt_or_ge g w.heap.size with h | h
      · exact h
      · rw [Array.getElem?_eq_none h] at hh; cases hh
    exact Or.inr ⟨g, cap, cur, hv, hg, by rw [hb.block g hlt]; exact hh, r⟩

theorem own_lt {w : World} {base : Nat} {e : TypeId} {size g n cap : Nat} {xs : List Value} (h : w.ownsRow base e size (.slice (some ⟨g, 0, none⟩) n cap) n xs) : g < w.heap.size := by
  obtain ⟨h1, h2⟩ := h
  rcases h2 with ⟨h2, _⟩ | ⟨g', cap', cur, hv, hg, hh, r⟩
  · cases h2
  · simp only [Value.slice.injEq, Option.some.injEq, Addr.mk.injEq, and_true, true_and] at hv
    obtain ⟨rfl, rfl⟩ := hv
    rcases Nat.lt_or_ge g w.heap.size with h | h
    · exact h
    · rw [Array.getElem?_eq_none h] at hh; cases hh

theorem own_sl {k : IntKind} {w : World} {base : Nat} {e : TypeId} {g n cap : Nat} {zs : List Int} (h : w.ownsRow base e 1 (.slice (some ⟨g, 0, none⟩) n cap) n (zs.map (Value.int k))) : Sl k w (some ⟨g, 0, none⟩) zs := by
  intro i hi
  have hl : n = zs.length := by have := h.1; simp at this; omega
  refine ⟨g, 0, rfl, own_lt h, ?_⟩
  rw [Nat.zero_add, h.cellAt i (by omega)]
  simp [List.getElem?_map, List.getElem?_eq_getElem hi, List.getD]

theorem own_sl' {k : IntKind} {w : World} {base : Nat} {e : TypeId} {a : Option Addr} {n cap : Nat} {zs : List Int} (h : w.ownsRow base e 1 (.slice a n cap) n (zs.map (Value.int k))) : Sl k w a zs := by
  rcases h.2 with ⟨h2, h3⟩ | ⟨g', cap', cur, hv, hg, hh, r⟩
  · intro i hi
    have := h.1
    simp at this
    omega
  · simp only [Value.slice.injEq, true_and] at hv
    obtain ⟨rfl, rfl⟩ := hv
    exact own_sl h

theorem take_next (xs ys : List Int) (k n : Nat) (hx : xs.length = n) (hy : ys.length = n) (hk : k < n) (h : xs.take k = ys.take k) (he : xs.getD k 0 = ys.getD k 0) : xs.take (k + 1) = ys.take (k + 1) := by
  rw [List.take_succ_eq_append_getElem (by omega), List.take_succ_eq_append_getElem (by omega), h]
  have e1 : xs.getD k 0 = xs[k] := by simp [List.getD, List.getElem?_eq_getElem (show k < xs.length by omega)]
  have e2 : ys.getD k 0 = ys[k] := by simp [List.getD, List.getElem?_eq_getElem (show k < ys.length by omega)]
  rw [← e1, ← e2, he]

def IsRow (k : IntKind) (w : World) (a : Option Addr) (len cap : Nat) (zs : List Int) : Prop :=
  (a = none ∧ len = 0 ∧ cap = 0 ∧ zs = []) ∨
  ∃ x, a = some x ∧ len ≤ cap ∧ cap ≤ maxLen ∧ zs.length = cap ∧ (∀ i, i < zs.length → w.cell? (x.add i) = some (.int k (zs.getD i 0))) ∧ ∀ n ∈ zs, (Lit.int k n).wf = true

/-- Of a slice that came in: its elements, where they lie, and that each fits its kind. -/
theorem IsRow.sl {k : IntKind} {w : World} {a : Option Addr} {len cap : Nat} {zs : List Int} (h : IsRow k w a len cap zs) :
    ∃ ys : List Int, ys.length = len ∧ Sl k w a ys ∧ (∀ y ∈ ys, (Lit.int k y).wf = true) ∧ len ≤ maxLen := by
  rcases h with ⟨rfl, rfl, rfl, rfl⟩ | ⟨x, rfl, hl, hm, hz, hcell, hwz⟩
  · exact ⟨[], rfl, fun i hi => absurd hi (by simp), by simp, by unfold maxLen; omega⟩
  · refine ⟨zs.take len, by simp; omega, ?_, fun y hy => hwz y (List.mem_of_mem_take hy), by omega⟩
    intro i hi
    simp only [List.length_take] at hi
    obtain ⟨b, off, spot⟩ := x
    have hspot : spot = none := by simpa [Addr.add] using World.cell?_spot (hcell 0 (by omega))
    subst hspot
    have ha : (⟨b, off, none⟩ : Addr).add i = ⟨b, off + i, none⟩ := by
      by_cases h0 : i = 0
      · subst h0; simp [Addr.add]
      · simp [Addr.add, h0]
    have hc := hcell i (by omega)
    rw [ha] at hc
    refine ⟨b, off, rfl, World.block_lt_of_cell? _ _ hc, ?_⟩
    have e : (zs.take len).getD i 0 = zs.getD i 0 := by simp [List.getD, show i < len by omega]
    rw [e]
    exact hc

theorem below_trans {w w1 w2 : World} (h : Below w.heap.size w w1) (k : Below w1.heap.size w1 w2) : Below w.heap.size w w2 :=
  h.trans (k.mono h.size)

theorem byte_bd {zs : List Int} (h : ∀ y ∈ zs, (Lit.int .u8 y).wf = true) (k : Nat) : 0 ≤ zs.getD k 0 ∧ zs.getD k 0 ≤ 255 := by
  by_cases hk : k < zs.length
  · have := h (zs.getD k 0) (by simp [List.getD, List.getElem?_eq_getElem hk])
    simpa [Lit.wf, IntKind.min, IntKind.max, IntKind.signed, IntKind.bits] using this
  · simp [List.getD, List.getElem?_eq_none (Nat.le_of_not_lt hk)]

theorem map_set_u8 (zs : List Int) (i : Nat) (y : Int) : (zs.map (Value.int .u8)).set i (.int .u8 y) = (zs.set i y).map (Value.int .u8) := by
  rw [List.map_set]

theorem size_cases (s : Int) : (s = 1 ∨ s = 2 ∨ s = 4 ∨ s = 8) ∨ ((s == 1) = false ∧ (s == 2) = false ∧ (s == 4) = false ∧ (s == 8) = false) := by
  by_cases h1 : s = 1
  · exact .inl (.inl h1)
  · by_cases h2 : s = 2
    · exact .inl (.inr (.inl h2))
    · by_cases h3 : s = 4
      · exact .inl (.inr (.inr (.inl h3)))
      · by_cases h4 : s = 8
        · exact .inl (.inr (.inr (.inr h4)))
        · exact .inr (by simp [h1, h2, h3, h4])

theorem sizeB_no {s : Int} (h : (s == 1) = false ∧ (s == 2) = false ∧ (s == 4) = false ∧ (s == 8) = false) : sizeB s = false := by
  simp at h; simp [sizeB, h]

theorem u64_bd {x : Int} (h : (Lit.int .u64 x).wf = true) : 0 ≤ x ∧ x ≤ 18446744073709551615 := by
  simpa [Lit.wf, IntKind.min, IntKind.max, IntKind.signed, IntKind.bits] using h

theorem grown_trans {w a b : World} {row : Option Nat} (h : w.grownBy a row) (k : a.grownBy b row) : w.grownBy b row :=
  ⟨k.os.trans h.os, k.tape.trans h.tape, k.output.trans h.output, Nat.le_trans h.size k.size, fun i hi hne => (k.block i (Nat.lt_of_lt_of_le hi h.size) hne).trans (h.block i hi hne)⟩

theorem grown_refl (w : World) (row : Option Nat) : w.grownBy w row := ⟨rfl, rfl, rfl, Nat.le_refl _, fun _ _ _ => rfl⟩

theorem news_of {w : World} {b off : Nat} {zs : List Int} (hs : Sl .u8 w (some ⟨b, off, none⟩) zs) (o : Obj) (j : Nat) (u : Value) (hu : (zs.map (Value.int .u8))[j]? = some u) :
    (w.alloc o).cell? ((⟨b, off, none⟩ : Addr).add j) = some u := by
  have hj : j < zs.length := by
    rcases Nat.lt_or_ge j zs.length with h | h
    · exact h
    · rw [List.getElem?_eq_none (by simpa using h)] at hu; cases hu
  obtain ⟨b', off', e, hlt, hc⟩ := hs j hj
  simp only [Option.some.injEq, Addr.mk.injEq, and_true] at e
  obtain ⟨rfl, rfl⟩ := e
  have ha : (⟨b, off, none⟩ : Addr).add j = ⟨b, off + j, none⟩ := by
    by_cases h0 : j = 0
    · subst h0; simp [Addr.add]
    · simp [Addr.add, h0]
  have hu' : u = .int .u8 (zs.getD j 0) := by
    simp [List.getElem?_eq_getElem hj] at hu
    simp [List.getD, List.getElem?_eq_getElem hj, hu]
  rw [ha, hu', ← hc]
  exact ((Below.refl w.heap.size w).alloc (Nat.le_refl _) o).cell (by exact hlt)

theorem own_shape {w : World} {base n : Nat} {e : TypeId} {v : Value} {xs : List Value} (h : w.ownsRow base e 1 v n xs) (hn : 0 < n) : ∃ g c, v = .slice (some ⟨g, 0, none⟩) n c ∧ base ≤ g := by
  rcases h.2 with ⟨_, h3⟩ | ⟨g, cap, cur, hv, hg, _⟩
  · omega
  · exact ⟨g, cap, hv, hg⟩

theorem adds (b off j : Nat) : (⟨b, off, none⟩ : Addr).add j = ⟨b, off + j, none⟩ := by
  by_cases h0 : j = 0
  · subst h0; simp [Addr.add]
  · simp [Addr.add, h0]

/-- 'copy' of a whole list into a row of the call's own that is as long. -/
theorem wpList_copy_full {P : Program} {w : World} {ops : Array Oper} {rest : List Oper} {o : Oper} {a : Act} {Q : Exit → Act → World → Prop} (hgd : o.guard = none) (d s : Operand) (dT : TypeId)
    (ho : o.op = .call { callee := .builtin .copy, args := #[d, s], argTypes := #[dT, dT] }) (e : TypeId) (hu : P.underlying dT = some (.slice e)) (hsz : (P.info? e).map (·.size) = some 1)
    (k : IntKind) (base g n c b off cap : Nat) (zs : List Int) (ys : List Value) (hd : a.eval d = .slice (some ⟨g, 0, none⟩) n c) (hs : a.eval s = .slice (some ⟨b, off, none⟩) n cap)
    (hown : w.ownsRow base e 1 (.slice (some ⟨g, 0, none⟩) n c) n ys) (hsl : Sl k w (some ⟨b, off, none⟩) zs) (hz : zs.length = n)
    (h : ∀ w', w'.ownsRow base e 1 (.slice (some ⟨g, 0, none⟩) n c) n (zs.map (Value.int k)) → w.grownBy w' (some g) → wpList P ops Q rest (a.put o.dst (goInt n)) w') : wpList P ops Q (o :: rest) a w := by
  rcases hown.2 with ⟨h2, _⟩ | ⟨g', c', cur, hv, hbg, hh, hnc, hcm, hcs, htake⟩
  · cases h2
  · simp only [Value.slice.injEq, Option.some.injEq, Addr.mk.injEq, and_true, true_and] at hv
    obtain ⟨rfl, rfl⟩ := hv
    have hl : (zs.map (Value.int k)).length = n := by rw [List.length_map, hz]
    have hcs' : cur.toList.length = c := by rw [Array.length_toList]; omega
    refine wpList_copy_own hgd d s dT dT ho e hu hsz g 0 n c ⟨b, off, none⟩ n cap hd hs cur e hh (zs.map (Value.int k)) (by rw [hl]; exact (Nat.min_self n).symm) ?_ (by rw [hl]; omega) (ints_oneCell _ _) ?_
    · intro j u hu'
      have hj : j < zs.length := by
        rcases Nat.lt_or_ge j zs.length with h | h
        · exact h
        · rw [List.getElem?_eq_none (by simpa using h)] at hu'; cases hu'
      obtain ⟨b', off', e', hlt, hc⟩ := hsl j hj
      simp only [Option.some.injEq, Addr.mk.injEq, and_true] at e'
      obtain ⟨rfl, rfl⟩ := e'
      have hu2 : u = .int k (zs.getD j 0) := by
        simp [List.getElem?_eq_getElem hj] at hu'
        simp [List.getD, List.getElem?_eq_getElem hj, hu']
      rw [adds, hu2]; exact hc
    · rw [hl]
      refine h _ ⟨by rw [hl]; omega, .inr ⟨g, c, _, rfl, hbg, setRow_heap w g _ _ e _ hh, hnc, hcm, ?_, ?_⟩⟩ ⟨rfl, rfl, rfl, by simp [World.setRow], fun i hi hne => setRow_other w g i _ (by intro h; apply hne; rw [h])⟩
      · simp [hz]; omega
      · simp [hz]

theorem kept_of {w w' : World} {base : Nat} {e : TypeId} {size : Nat} {v : Value} {n : Nat} {xs : List Value} {row : Option Nat} (h : w.ownsRow base e size v n xs) (hg : w.grownBy w' row) (hne : ∀ k, v.ownBlock = some k → row ≠ some k) :
    w'.ownsRow base e size v n xs := by
  refine h.kept hg ?_
  cases hv : v.ownBlock with
  | none => exact .inl rfl
  | some k => exact .inr (fun h => hne k hv h.symm)

theorem own_low {w : World} {base base' : Nat} {e : TypeId} {size : Nat} {v : Value} {n : Nat} {xs : List Value} (h : w.ownsRow base e size v n xs) (hb : base' ≤ base) : w.ownsRow base' e size v n xs := by
  obtain ⟨h1, h2⟩ := h
  refine ⟨h1, ?_⟩
  rcases h2 with h2 | ⟨g, cap, cur, hv, hg, r⟩
  · exact Or.inl h2
  · exact Or.inr ⟨g, cap, cur, hv, Nat.le_trans hb hg, r⟩

end Go.Proofs.YtjjpklalihaanaaDoor
