/- The model's state registers: what is written. -/
import Derived.Test.YtldjmphflgecjajCsrT
import Derived.BigQuiet
namespace Go.Proofs.Ytldjmphflgecjaj
open Go.RowKit
set_option linter.unusedVariables false

end Go.Proofs.Ytldjmphflgecjaj
