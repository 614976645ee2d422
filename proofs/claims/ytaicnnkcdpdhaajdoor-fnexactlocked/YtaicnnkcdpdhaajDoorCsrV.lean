/- The program's WriteCsr. -/
import Derived.Test.YtaicnnkcdpdhaajDoorCsrO
namespace Go.Proofs.YtaicnnkcdpdhaajDoor
open Go.RowKit
set_option linter.unusedVariables false

def writeIB (m : Nat) (l : List Int) (n p : Int) : Bool := mayI m l n p && !onlyB n && ((findV n (l.getD 2 0) 22 0).ok || fixB n)

/-- The registers behind a write. -/
def writeI (l : List Int) (n x : Int) : List Int :=
  if (findV n (l.getD 2 0) 22 0).ok = true then l.set (findV n (l.getD 2 0) 22 0).at_.toNat (leftV l (findV n (l.getD 2 0) 22 0).at_.toNat (findV n (l.getD 2 0) 22 0).wr x) else l

def writeIL (m : Nat) (l : List Int) (n p x : Int) : List Int := if writeIB m l n p = true then writeI l n x else []

theorem own_lower {w : World} {base base' : Nat} {e : TypeId} {size : Nat} {v : Value} {n : Nat} {xs : List Value} (h : w.ownsRow base e size v n xs) (hb : base' ≤ base) : w.ownsRow base' e size v n xs := by
  obtain ⟨h1, h2⟩ := h
  refine ⟨h1, ?_⟩
  rcases h2 with h2 | ⟨g, cap, cur, hv, hg, r⟩
  · exact Or.inl h2
  · exact Or.inr ⟨g, cap, cur, hv, Nat.le_trans hb hg, r⟩

end Go.Proofs.YtaicnnkcdpdhaajDoor
