/- The walk of laws.FnExactParse: both parse a text alike. -/
import Derived.Test.YtjjpklalihaanaaDoorParI
namespace Go.Proofs.YtjjpklalihaanaaDoor
open Go.RowKit
set_option linter.unusedVariables false

namespace fnExactParse

end fnExactParse

end Go.Proofs.YtjjpklalihaanaaDoor
