/- Lemmas. -/
import Derived.Test.YtcjgepkdpkhljaaGreatQG1
import Derived.WalkKit
import Derived.ProofKit
import Derived.OpenShut
open Go.ChangeShapes Go.WideShapes Go.ChangeAt Go.RowKit
set_option linter.unusedVariables false
set_option linter.unusedSimpArgs false
set_option maxRecDepth 100000
set_option maxHeartbeats 32000000
namespace Go.Proofs.YtcjgepkdpkhljaaGreat
namespace Wide
open Plain
theorem zh{p:Prop}(h:p):Hid p:=h
theorem zu{p:Prop}(h:Hid p):p:=h
end Wide
end Go.Proofs.YtcjgepkdpkhljaaGreat
