/- Bytes: the specification's GetNums. -/
import Derived.Test.YtpplmecddmpjbaaSPuts11
namespace Go.Proofs.Ytpplmecddmpjbaa.SGets11
open Go.ChangeShapes Go.WideShapes Go.ChangeAt Go.RowKit SBytes SPut11 SPuts11
set_option linter.unusedVariables false
set_option linter.unusedSimpArgs false

end Go.Proofs.Ytpplmecddmpjbaa.SGets11
