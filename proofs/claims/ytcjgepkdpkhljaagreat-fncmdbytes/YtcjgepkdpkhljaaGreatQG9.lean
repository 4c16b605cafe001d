/- Lemmas. -/
import Derived.Test.YtcjgepkdpkhljaaGreatQG3
import Derived.WalkSmall
import Derived.Sort.Grow
open Go.ChangeShapes Go.WideShapes Go.ChangeAt Go.RowKit
set_option linter.unusedVariables false
set_option linter.unusedSimpArgs false
set_option maxRecDepth 100000
set_option maxHeartbeats 32000000
namespace Go.Proofs.YtcjgepkdpkhljaaGreat
namespace CmpL
open Tup5 Lots Takes
theorem at0{w:World}{g:Nat}{x0 x1 x2 x3 x4:Int}(h:Holds5 w g 0 (x0,x1,x2,x3,x4)):w.cell? ⟨g,0,none⟩=some (.int .i64 x0)∧w.cell? ⟨g,1,none⟩=some (.int .i64 x1)∧w.cell? ⟨g,2,none⟩=some (.int .i64 x2)∧w.cell? ⟨g,3,none⟩=some (.int .i64 x3)∧w.cell? ⟨g,4,none⟩=some (.int .i64 x4):=h
end CmpL
end Go.Proofs.YtcjgepkdpkhljaaGreat
