/- The laws' own look at marks on lists of structs of 8 numbers (Trade), from any number on. -/
import Derived.Test.YtophnnmbgpinfaaTradeHelp
namespace Go.Proofs.Ytophnnmbgpinfaa.TradeHeld
open Go.ChangeShapes Go.WideShapes Go.ChangeAt Go.RowKit Tup8
open TradeHelp (marks marks_len marks_getD)
set_option linter.unusedVariables false
set_option linter.unusedSimpArgs false

end Go.Proofs.Ytophnnmbgpinfaa.TradeHeld
