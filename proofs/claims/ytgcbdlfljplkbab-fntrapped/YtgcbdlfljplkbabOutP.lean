/- Registers of our own that are written while a side's struct and the argument stay. -/
import Derived.Test.YtgcbdlfljplkbabTrapK
import Derived.Test.YtgcbdlfljplkbabPendT
namespace Go.Proofs.Ytgcbdlfljplkbab
open Go.RowKit
set_option linter.unusedVariables false

/-- The side's struct lies at block g, the argument at b, registers of our own at block h, behind both. -/
def TP (g : Nat) (c : Bool) (b off : Nat) (l : List Int) (h : Nat) (w : World) : Prop :=
  w.heap[g]? = some (.cells (sideC c) 89 (0, 0)) ∧ Sl .u64 w (some ⟨b, off, none⟩) l ∧ g < h ∧ b < h ∧ ∃ vs : List Int, vs.length = 22 ∧ w.ownsRow h 24 1 (.slice (some ⟨h, 0, none⟩) 22 22) 22 (vs.map (Value.int .u64))

theorem TP.below {g : Nat} {c : Bool} {b off : Nat} {l : List Int} {h : Nat} {w w' : World} (p : TP g c b off l h w) (hb : Below w.heap.size w w') : TP g c b off l h w' := by
  obtain ⟨h1, h2, h3, h4, vs, hv, h5⟩ := p
  have hg : g < w.heap.size := by
    rcases Nat.lt_or_ge g w.heap.size with e | e
    · exact e
    · rw [Array.getElem?_eq_none e] at h1; cases h1
  exact ⟨(hb.block g hg).trans h1, h2.below hb, h3, h4, vs, hv, ownsRow_below h5 hb⟩

theorem TP.drew {g : Nat} {c : Bool} {b off : Nat} {l : List Int} {h : Nat} {w : World} (p : TP g c b off l h w) : TP g c b off l h w.drew := p.below (Below.refl _ _).drew

theorem TP.side {g : Nat} {c : Bool} {b off : Nat} {l : List Int} {h : Nat} {w : World} (p : TP g c b off l h w) (i : Nat) : w.cell? ⟨g, i, none⟩ = (sideC c)[i]? := cell_of_row _ _ _ _ _ _ p.1

theorem TP.arg {g : Nat} {c : Bool} {b off : Nat} {l : List Int} {h : Nat} {w : World} (p : TP g c b off l h w) (k : Nat) (hk : k < l.length) : w.cell? ⟨b, off + k, none⟩ = some (.int .u64 (l.getD k 0)) := (sl_at p.2.1 k hk).2

theorem TP.froz {g : Nat} {c : Bool} {b off : Nat} {l : List Int} {h : Nat} {w : World} (p : TP g c b off l h w) (k : Nat) : w.frozen? ⟨h, k, none⟩ = false := by
  obtain ⟨_, _, _, _, vs, hv, h5⟩ := p
  exact h5.frozenAt k

theorem TP.out {g : Nat} {c : Bool} {b off : Nat} {l : List Int} {h : Nat} {w : World} (p : TP g c b off l h w) (k : Nat) (hk : k < 22) : ∃ v, w.cell? ⟨h, k, none⟩ = some v := by
  obtain ⟨_, _, _, _, vs, hv, h5⟩ := p
  rw [h5.cellAt k (by omega)]
  exact ⟨_, List.getElem?_eq_getElem (by rw [List.length_map, hv]; exact hk)⟩

theorem TP.set {g : Nat} {c : Bool} {b off : Nat} {l : List Int} {h : Nat} {w : World} (p : TP g c b off l h w) (k : Nat) (x : Int) : TP g c b off l h (w.setCell ⟨h, k, none⟩ (.int .u64 x)) := by
  obtain ⟨h1, h2, h3, h4, vs, hv, h5⟩ := p
  have hb : Below h w (w.setCell ⟨h, k, none⟩ (.int .u64 x)) := (Below.refl h w).setCell (p := ⟨h, k, none⟩) (Nat.le_refl h) _
  refine ⟨(hb.block g h3).trans h1, ?_, h3, h4, vs.set k x, by rw [List.length_set, hv], ?_⟩
  · intro i hi
    obtain ⟨b', off', e, hlt, hc⟩ := h2 i hi
    have e2 := e
    simp only [Option.some.injEq, Addr.mk.injEq, and_true] at e2
    obtain ⟨rfl, rfl⟩ := e2
    exact ⟨b, off, rfl, Nat.lt_of_lt_of_le hlt hb.size, (hb.cell (by exact h4)).trans hc⟩
  · have hst := (h5.stored k (.int .u64 x)).1
    rw [map_set_u64] at hst
    exact hst

theorem TP.grown {g : Nat} {c : Bool} {b off : Nat} {l : List Int} {h : Nat} {w w' : World} (p : TP g c b off l h w) (vs : List Int) (o : w'.ownsRow h 24 1 (.slice (some ⟨h, 0, none⟩) 22 22) 22 (vs.map (Value.int .u64))) (gr : w.grownBy w' (some h)) : TP g c b off l h w' := by
  obtain ⟨h1, h2, h3, h4, us, hv, h5⟩ := p
  have hlt : h < w.heap.size := own_lt h5
  have hb : Below h w w' := (Below.refl h w).grown gr (by omega) (by intro k e; cases e; exact Nat.le_refl _)
  refine ⟨(hb.block g h3).trans h1, ?_, h3, h4, vs, by have := o.1; simpa using this, o⟩
  intro i hi
  obtain ⟨b', off', e, hlt, hc⟩ := h2 i hi
  have e2 := e
  simp only [Option.some.injEq, Addr.mk.injEq, and_true] at e2
  obtain ⟨rfl, rfl⟩ := e2
  exact ⟨b, off, rfl, Nat.lt_of_lt_of_le hlt hb.size, (hb.cell (by exact h4)).trans hc⟩

/-- What of our own registers a store finds. -/
theorem TP.outs (g : Nat) (c : Bool) (b off : Nat) (l : List Int) (h k : Nat) (hk : k < 22) : ∃ vf : World → Value, ∀ w, TP g c b off l h w → w.cell? ⟨h, k, none⟩ = some (vf w) :=
  ⟨fun w => (w.cell? ⟨h, k, none⟩).getD undef, fun w p => by obtain ⟨v, e⟩ := p.out k hk; show _ = some ((w.cell? ⟨h, k, none⟩).getD undef); rw [e]; rfl⟩

end Go.Proofs.Ytgcbdlfljplkbab
