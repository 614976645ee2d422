/- The model's state registers: what is written. -/
import Derived.Test.YtiefjllidnjbdahCsrT
import Derived.BigQuiet
namespace Go.Proofs.Ytiefjllidnjbdah
open Go.RowKit
set_option linter.unusedVariables false

end Go.Proofs.Ytiefjllidnjbdah
