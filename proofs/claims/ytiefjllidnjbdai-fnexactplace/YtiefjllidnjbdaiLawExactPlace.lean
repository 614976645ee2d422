/- The walk of laws.FnExactPlace: it returns true at every number, and writes nothing that was there. -/
import Derived.Test.YtiefjllidnjbdaiCsrE
import Derived.Test.YtiefjllidnjbdaiCsrY
namespace Go.Proofs.Ytiefjllidnjbdai.fnExactPlace
open Go.RowKit
set_option linter.unusedVariables false

theorem walk (a0 : Int) (w0 : (Lit.int .i64 a0).wf = true) (w : World) : Calls Try.prog 4 #[.int .i64 a0] w fun e w' => e = .returned (.bool true) ∧ Below w.heap.size w w' := by
  have HE : Hid ((findV a0 0 22 0).at_ = placeV a0) := place_eq a0 0
  clear w0
  go_enter Try.func4, Try.ntmps4
  go_wp2_with fail
  refine (specPlace_any a0 _).mono ?_
  rintro e w1 ⟨rfl, hb1⟩
  go_wp2_with fail
  refine (implPlace_any a0 _).mono ?_
  rw [HE.out]
  rintro e w2 ⟨rfl, hb2⟩
  generalize placeV a0 = o at *
  have tk : (o != o) = false := by simp
  go_wp2_with fail
  go_ret
  exact ⟨rfl, below_trans hb1 hb2⟩

end Go.Proofs.Ytiefjllidnjbdai.fnExactPlace
