/- Texts of one proof. -/
import Derived.Test.YtlbgfdpcgpijhaaGreatQB1
import Derived.Lib.ConvBytes
open Go.ChangeShapes Go.WideShapes Go.ChangeAt Go.RowKit
set_option linter.unusedVariables false
set_option linter.unusedSimpArgs false
set_option maxRecDepth 100000
set_option maxHeartbeats 32000000
namespace Go.Proofs.YtlbgfdpcgpijhaaGreat
namespace Conv15
open SBytes
theorem of_bytes(w:World)(g c:Nat)(xs:List Int)(h:ByteH.At w g xs):(convert 196 9 (.slice (some ⟨g,0,none⟩) xs.length c)).run Tryz.prog w= .ok (.string (strOfNums xs)) w:=
 run_convert_bytes_arg w 196 5 Tryz.underlying196 Tryz.underlying5 g 0 xs.length c xs rfl (fun i hi=>by rw[Nat.zero_add];exact h i hi) 9 Tryz.underlying9
end Conv15
end Go.Proofs.YtlbgfdpcgpijhaaGreat
