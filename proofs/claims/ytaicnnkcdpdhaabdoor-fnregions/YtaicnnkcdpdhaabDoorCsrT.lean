/- The model's state registers: who may, what is read. -/
import Derived.Test.YtaicnnkcdpdhaabDoorCsrS
namespace Go.Proofs.YtaicnnkcdpdhaabDoor
open Go.RowKit
set_option linter.unusedVariables false

end Go.Proofs.YtaicnnkcdpdhaabDoor
