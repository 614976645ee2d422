/- The model's WriteCsr and ReadCsr. -/
import Derived.Test.YtaicnnkcdpdhaacDoorCsrX
import Derived.OwnWalk
namespace Go.Proofs.YtaicnnkcdpdhaacDoor
open Go.RowKit
set_option linter.unusedVariables false

theorem own_emptyW (w : World) (base : Nat) (hb : base ≤ w.heap.size) (o : Obj) (ho : o = .cells #[] 25 (0, 0)) : (w.alloc o).ownsRow base 25 1 (.slice (some ⟨w.heap.size, 0, none⟩) 0 0) 0 (([] : List Int).map (Value.int .u64)) := by
  subst ho
  exact World.ownsRow_lit w #[] 0 hb (by unfold maxLen; omega) rfl

theorem news_ofW {w : World} {b off : Nat} {zs : List Int} (hs : Sl .u64 w (some ⟨b, off, none⟩) zs) (o : Obj) (j : Nat) (u : Value) (hu : (zs.map (Value.int .u64))[j]? = some u) :
    (w.alloc o).cell? ((⟨b, off, none⟩ : Addr).add j) = some u := by
  have hj : j < zs.length := by
    rcases Nat.lt_or_ge j zs.length with h | h
    · exact h
    · rw [List.getElem?_eq_none (by simpa using h)] at hu; cases hu
  obtain ⟨b', off', e, hlt, hc⟩ := hs j hj
  simp only [Option.some.injEq, Addr.mk.injEq, and_true] at e
  obtain ⟨rfl, rfl⟩ := e
  have ha : (⟨b, off, none⟩ : Addr).add j = ⟨b, off + j, none⟩ := by
    by_cases h0 : j = 0
    · subst h0; simp [Addr.add]
    · simp [Addr.add, h0]
  have hu' : u = .int .u64 (zs.getD j 0) := by
    simp [List.getElem?_eq_getElem hj] at hu
    simp [List.getD, List.getElem?_eq_getElem hj, hu]
  rw [ha, hu', ← hc]
  exact ((Below.refl w.heap.size w).alloc (Nat.le_refl _) o).cell (by exact hlt)

theorem readV_cases (n : Int) : n = 3860 ∨ n = 769 ∨ n = 256 ∨ n = 260 ∨ n = 324 ∨ ((n == 3860) = false ∧ (n == 769) = false ∧ (n == 256) = false ∧ (n == 260) = false ∧ (n == 324) = false) := by
  simp only [beq_eq_false_iff_ne]; omega

/-- What ReadCsr hands back. -/
def readO (m : Nat) (l : List Int) (n p : Int) : Int := if mayB m l n p = true then readV l n else 0

end Go.Proofs.YtaicnnkcdpdhaacDoor
