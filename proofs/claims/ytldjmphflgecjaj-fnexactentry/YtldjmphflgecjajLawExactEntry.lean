/- The walk of laws.FnExactEntry: it returns true at every frame and bits, and writes nothing that was there. By tools/genLawEE.py. -/
import Derived.Test.YtldjmphflgecjajEntI
import Derived.Test.YtldjmphflgecjajWalkS
namespace Go.Proofs.Ytldjmphflgecjaj.fnExactEntry
open Go.RowKit
set_option linter.unusedVariables false

theorem walk (a0 a1 : Int) (w0 : (Lit.int .u64 a0).wf = true) (w1 : (Lit.int .i64 a1).wf = true) (w : World) :
    Calls Try.prog 4 #[.int .u64 a0, .int .i64 a1] w fun e w' => e = .returned (.bool true) ∧ Below w.heap.size w w' := by
  have h0 : 0 ≤ a0 := by
    have h := w0
    simp only [Lit.wf, Bool.and_eq_true, decide_eq_true_eq] at h
    exact h.1
  have HI := implEntry_any a0 a1 h0
  clear h0
  have HS := specEntry_any a0 a1
  clear w0 w1
  generalize entryV a0 a1 = v at *
  have tv : (v != v) = false := by simp
  go_enter Try.func4, Try.ntmps4
  go_wp2_with fail
  refine (HS _).mono ?_
  rintro e w1 ⟨rfl, hw1⟩
  have hw2 := hw1.symm
  subst hw2
  go_wp2_with fail
  refine (HI _).mono ?_
  rintro e w2 ⟨rfl, hb⟩
  go_wp2_with fail
  go_ret
  exact ⟨rfl, hb⟩

end Go.Proofs.Ytldjmphflgecjaj.fnExactEntry
