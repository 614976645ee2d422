/- The program's NewCsrs, Place, ReadCsr and WriteCsr, and the model's NewCsrs. -/
import Derived.Test.YtaicnnkcdpdhaajDoorCsrN
namespace Go.Proofs.YtaicnnkcdpdhaajDoor
open Go.RowKit
set_option linter.unusedVariables false

theorem below_dN' {B : Nat} {a w : World} (h : Below B a w) (n : Nat) : Below B a (w.drewN n) := ⟨h.os, h.tape, h.output, h.size, h.block⟩

theorem own_nilW (w : World) (base : Nat) : w.ownsRow base 23 1 (.slice none 0 0) 0 (([] : List Int).map (Value.int .u64)) := ⟨rfl, .inl ⟨rfl, rfl⟩⟩

theorem findV_bd (n m : Int) : ∀ f k, k + f ≤ 22 → (findV n m f k).ok = true → ∃ j : Nat, j < 22 ∧ (findV n m f k).at_ = (j : Int) := by
  intro f
  induction f with
  | zero => intro k _ h; cases h
  | succ f ih =>
    intro k hk
    unfold findV
    split
    · intro _; exact ⟨k, by omega, rfl⟩
    · split
      · intro _; exact ⟨k, by omega, rfl⟩
      · exact ih (k + 1) (by omega)

/-- What the program's ReadCsr hands back. -/
def mayI (m : Nat) (l : List Int) (n p : Int) : Bool := fitsOk m l && reachB n p

def readIB (m : Nat) (l : List Int) (n p : Int) : Bool := mayI m l n p && ((findV n (l.getD 2 0) 22 0).ok || fixB n)

def readIV (m : Nat) (l : List Int) (n p : Int) : Int :=
  if mayI m l n p = true then (if (findV n (l.getD 2 0) 22 0).ok = true then bits .and .u64 (l.getD (findV n (l.getD 2 0) 22 0).at_.toNat 0) (findV n (l.getD 2 0) 22 0).rd else fixV n) else 0

theorem fitsOk_len {m : Nat} {l : List Int} (h : fitsOk m l = true) : m = 22 := by
  simp only [fitsOk, Bool.and_eq_true, decide_eq_true_eq] at h
  exact h.1

end Go.Proofs.YtaicnnkcdpdhaajDoor
