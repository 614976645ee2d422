/- Own lemmas. -/
import Derived.Test.YtjjpklalihaanaaDoorK01
import Derived.Test.YtjjpklalihaanaaDoorProg
namespace Go.Proofs.YtjjpklalihaanaaDoor
open Go.RowKit
set_option linter.unusedVariables false

theorem infoW : (Tryd.prog.info? 33).map (fun i => (i.zero, i.size, i.bytes)) = some (some (.int .u64 0), 1, 8) := by kernel_rfl

end Go.Proofs.YtjjpklalihaanaaDoor
