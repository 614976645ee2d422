/- Interrupts that are pending, in plain numbers. -/
import Derived.Test.YtgcbdlfljplkbabTrapP
namespace Go.Proofs.Ytgcbdlfljplkbab
open Go.RowKit
set_option linter.unusedVariables false

/-- The interrupts by their priority. -/
def ranks : List Nat := [11, 3, 7, 9, 1, 5]

def firstIn (x : Int) : List Nat → Int
  | [] => -1
  | n :: r => match (bitAt x n == 1) with | true => n | false => firstIn x r

def firstV (x : Int) : Int := firstIn x ranks

def waitV (l : List Int) : Int := bits .and .u64 (l.getD 9 0) (l.getD 3 0)

def hearM (l : List Int) (p : Int) : Bool := (p != 3) || (bitAt (l.getD 0 0) 3 == 1)

def hearS (l : List Int) (p : Int) : Bool := (p == 0) || ((p == 1) && (bitAt (l.getD 0 0) 1 == 1))

def pendS (l : List Int) (p : Int) : Int := match hearS l p with
  | true => firstV (bits .and .u64 (waitV l) (l.getD 2 0)) | false => -1

def pendV (l : List Int) (p : Int) : Int := match (hearM l p && decide (firstV (bits .andNot .u64 (waitV l) (l.getD 2 0)) ≥ 0)) with
  | true => firstV (bits .andNot .u64 (waitV l) (l.getD 2 0)) | false => pendS l p

def pendB (n : Nat) (l : List Int) (p : Int) : Int := match legalB n l p with | true => pendV l p | false => -1

theorem firstIn_bd (x : Int) : ∀ r : List Nat, firstIn x r = -1 ∨ ∃ n ∈ r, firstIn x r = (n : Int) ∧ (bitAt x n == 1) = true := by
  intro r
  induction r with
  | nil => exact .inl rfl
  | cons n r ih =>
    unfold firstIn
    cases h : (bitAt x n == 1) with
    | true => exact .inr ⟨n, by simp, rfl, h⟩
    | false =>
      rcases ih with h | ⟨m, hm, h⟩
      · exact .inl h
      · exact .inr ⟨m, by simp [hm], h⟩

end Go.Proofs.Ytgcbdlfljplkbab
