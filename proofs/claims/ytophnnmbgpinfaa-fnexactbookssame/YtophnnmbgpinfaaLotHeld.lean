/- The laws' own look at marks on lists of structs of 5 numbers (Lot), from any number on. -/
import Derived.Test.YtophnnmbgpinfaaLotHelp
namespace Go.Proofs.Ytophnnmbgpinfaa.LotHeld
open Go.ChangeShapes Go.WideShapes Go.ChangeAt Go.RowKit Tup5
open LotHelp (marks marks_len marks_getD)
set_option linter.unusedVariables false
set_option linter.unusedSimpArgs false

end Go.Proofs.Ytophnnmbgpinfaa.LotHeld
