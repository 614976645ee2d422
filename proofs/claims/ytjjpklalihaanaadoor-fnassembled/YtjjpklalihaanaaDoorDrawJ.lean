/- A drawn instruction, right or not; what Decode and Encode are drawn. -/
import Derived.Test.YtjjpklalihaanaaDoorDrawI
import Derived.Test.YtjjpklalihaanaaDoorEncS
namespace Go.Proofs.YtjjpklalihaanaaDoor
open Go.RowKit
set_option linter.unusedVariables false

theorem ins_one (a b c d e : Int) : (#[Value.int .i64 a, .int .i64 b, .int .i64 c, .int .i64 d, .int .i64 e] : Array Value).all (·.oneCell') = true := by
  simp [Value.oneCell']

theorem word_U (i : Ins) : U (wordS i) := by
  unfold wordS layS
  split <;> exact bits_range _ _ _

end Go.Proofs.YtjjpklalihaanaaDoor
