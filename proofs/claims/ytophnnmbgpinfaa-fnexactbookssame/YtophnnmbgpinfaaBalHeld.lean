/- The laws' own look at marks on lists of structs of 3 numbers (Bal), from any number on. -/
import Derived.Test.YtophnnmbgpinfaaBalHelp
namespace Go.Proofs.Ytophnnmbgpinfaa.BalHeld
open Go.ChangeShapes Go.WideShapes Go.ChangeAt Go.RowKit Triples
open BalHelp (marks marks_len marks_getD)
set_option linter.unusedVariables false
set_option linter.unusedSimpArgs false

end Go.Proofs.Ytophnnmbgpinfaa.BalHeld
