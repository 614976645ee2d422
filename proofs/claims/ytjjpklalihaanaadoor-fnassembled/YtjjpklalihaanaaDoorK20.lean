/- Own lemmas. -/
import Derived.Test.YtjjpklalihaanaaDoorK07
import Derived.Test.YtjjpklalihaanaaDoorK18
namespace Go.Proofs.YtjjpklalihaanaaDoor
open Go.RowKit
set_option linter.unusedVariables false

theorem word_U (i : Ins) : U (wordS i) := by
  unfold wordS layS
  split <;> exact bits_range _ _ _

end Go.Proofs.YtjjpklalihaanaaDoor
