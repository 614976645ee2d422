/- Own lemmas. -/
import Derived.Test.YtjjpklalihaanaaDoorK09
import Derived.Test.YtjjpklalihaanaaDoorK17
import Derived.Test.YtjjpklalihaanaaDoorK20
namespace Go.Proofs.YtjjpklalihaanaaDoor
open Go.RowKit
set_option linter.unusedVariables false

theorem showL_len (i : Ins) (h : IW i) : (showL i).length ≤ 120 := by
  unfold showL
  split
  · exact shText_len i h
  · simp

end Go.Proofs.YtjjpklalihaanaaDoor
