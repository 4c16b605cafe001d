/- Disks: the specification's DiskCut. -/
import Derived.Test.YtejbbhjhinkcdaaSCom14
import Derived.Test.YtejbbhjhinkcdaaSPut14
import Derived.Deep.RegionHeld3
namespace Go.Proofs.Ytejbbhjhinkcdaa.SCut14
open Go.ChangeShapes Go.WideShapes Go.ChangeAt Go.RowKit Fil14 DiskH14 DkH14 SDk14 SOk14 SRd14 App14 SLess14 SCopy14 SRef14 SCom14 SPut14
open DkH14 (row_step)
set_option linter.unusedVariables false
set_option linter.unusedSimpArgs false
/-- What DiskCut answers. -/
def cutD (room : Int) (ps : List TF) (nm n : Int) : (Int × List TF) × Int := if (atD room ps nm).2 = 0 then (if 0 ≤ n ∧ n ≤ (bytesAt ps (atD room ps nm).1.toNat).size then ((room, putF ps (nm, (bytesAt ps (atD room ps nm).1.toNat).extract 0 n.toNat, ByteArray.empty)), 0) else (refD 2 room ps, 2)) else (refD (atD room ps nm).2 room ps, (atD room ps nm).2)
end Go.Proofs.Ytejbbhjhinkcdaa.SCut14
