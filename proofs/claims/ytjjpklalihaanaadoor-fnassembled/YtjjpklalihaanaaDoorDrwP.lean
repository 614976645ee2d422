/- What Show and Parse are drawn. -/
import Derived.Test.YtjjpklalihaanaaDoorBenC
import Derived.Test.YtjjpklalihaanaaDoorDrawJ
import Derived.Test.YtjjpklalihaanaaDoorShoP
namespace Go.Proofs.YtjjpklalihaanaaDoor
open Go.RowKit
set_option linter.unusedVariables false

theorem showL_len (i : Ins) (h : IW i) : (showL i).length ≤ 120 := by
  unfold showL
  split
  · exact shText_len i h
  · simp

end Go.Proofs.YtjjpklalihaanaaDoor
