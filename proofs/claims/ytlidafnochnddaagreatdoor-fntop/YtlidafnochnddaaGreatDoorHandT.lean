/- An operation of a region that draws, taken first: shorter spellings. -/
import Derived.WalkKit
import Derived.Deep.RegionHeld3
namespace Go.Proofs.YtlidafnochnddaaGreatDoor
open Go.RowKit
set_option linter.unusedVariables false

theorem handZ {α : Type} (x y : α) (l : List α) : (x :: l).set 0 y = y :: l := rfl

theorem handS {α : Type} (x y : α) (l : List α) (n : Nat) : (x :: l).set (n + 1) y = x :: l.set n y := rfl

section
variable {P : Program} {ops : Array Oper} {Q : Exit → Act → World → Prop} {md : Region.Mode} {S : World → Prop} {op : Op} {ty : TypeId} {pos : String} {af : Array Edge} {gd : Option (Nat × Bool)} {fuel : Nat} {listed : Array Bool} {l m : List Value} {df : List Deferred} {w : World}

theorem tkL (i d : Nat) (v : Value)
    (h : wpAnyH P md ops Q S fuel (listed.setIfInBounds i true) { tmps := m.toArray, defers := df } w)
    (hi : ops[i]? = some { dst := some d, op := op, type := ty, pos := pos, after := af, guard := gd } := by rfl)
    (hm : l.set d v = m := by simp only [handZ, handS]; rfl)
    (hb : (Region.noSelect ops && (Region.free md ops listed i && (Region.ready md ops listed).contains i)) = true := by kernel_rfl)
    (hQ : ∀ c a w, Q (.panic c) (a.put (some d) v) w → Q (.panic c) a w := by exact fun _ _ _ h => h)
    (hw : Region.wanted { dst := some d, op := op, type := ty, pos := pos, after := af, guard := gd } (yielded ops l.toArray) = true := by rfl)
    (hy : ∀ w, S w → (execOp (Act.eval { tmps := l.toArray, defers := df }) { dst := some d, op := op, type := ty, pos := pos, after := af, guard := gd }).run P w = .ok (.value v) w := by intro w' hSw; go_simp) (hS : S w := by assumption) :
    wpAnyH P md ops Q S (fuel + 1) listed { tmps := l.toArray, defers := df } w := by
  subst hm
  simp only [Bool.and_eq_true] at hb
  refine wpAnyH_take hi hb.1 hb.2.1 hb.2.2 hQ (Or.inl ⟨hw, hy⟩) hS ?_
  simpa only [Act.put, List.setIfInBounds_toArray] using h

theorem tkR (i d : Nat)
    (h : wpAnyH P md ops Q S fuel (listed.setIfInBounds i true) { tmps := m.toArray, defers := df } w)
    (hi : ops[i]? = some { dst := some d, op := op, type := ty, pos := pos, after := af, guard := gd } := by rfl)
    (hm : l.set d undef = m := by simp only [handZ, handS]; rfl)
    (hb : (Region.noSelect ops && (Region.free md ops listed i && (Region.ready md ops listed).contains i)) = true := by kernel_rfl)
    (hQ : ∀ c a w, Q (.panic c) (a.put (some d) undef) w → Q (.panic c) a w := by exact fun _ _ _ h => h)
    (hw : Region.wanted { dst := some d, op := op, type := ty, pos := pos, after := af, guard := gd } (yielded ops l.toArray) = false := by rfl) (hS : S w := by assumption) :
    wpAnyH P md ops Q S (fuel + 1) listed { tmps := l.toArray, defers := df } w := by
  subst hm
  simp only [Bool.and_eq_true] at hb
  refine wpAnyH_take hi hb.1 hb.2.1 hb.2.2 hQ (Or.inr ⟨hw, rfl⟩) hS ?_
  simpa only [Act.put, List.setIfInBounds_toArray] using h

/-- The one operation that may come up. -/
theorem rdy (i d : Nat) (h : ∀ K' : Act → World → Prop, Shut (∀ a w, S w → (S w → wpAnyH P md ops Q S fuel (listed.setIfInBounds i true) a w) → K' a w) → if Region.wanted { dst := some d, op := op, type := ty, pos := pos, after := af, guard := gd } (yielded ops l.toArray) = true then Oper.wp P { dst := some d, op := op, type := ty, pos := pos, after := af, guard := gd } { tmps := l.toArray, defers := df } w K' Q else K' (Act.put { tmps := l.toArray, defers := df } (some d) undef) w)
    (ho : ops[i]? = some { dst := some d, op := op, type := ty, pos := pos, after := af, guard := gd } := by rfl) (hr : Region.ready md ops listed = [i] := by kernel_rfl) :
    wpAnyH P md ops Q S (fuel + 1) listed { tmps := l.toArray, defers := df } w :=
  wpAnyH_ready hr (by simp) (AllReadyH.cons ho h AllReadyH.nil)

end

end Go.Proofs.YtlidafnochnddaaGreatDoor
