/- Disks: the specification's DiskCrash. -/
import Derived.Test.YtejbbhjhinkcdaaSCom14
import Derived.Test.YtejbbhjhinkcdaaSPut14
import Derived.Deep.RegionHeld3
namespace Go.Proofs.Ytejbbhjhinkcdaa.SCrash14
open Go.ChangeShapes Go.WideShapes Go.ChangeAt Go.RowKit Fil14 OpensF14 DiskH14 DkH14 SDk14 SOk14 SRd14 App14 SLess14 SCopy14 SRef14 SCom14 SPut14
open DkH14 (row_step)
set_option linter.unusedVariables false
set_option linter.unusedSimpArgs false

/-- What is left of a file behind a crash. -/
def crashF (keep : Int) (p : TF) : TF := (p.1, p.2.1 ++ p.2.2.extract 0 (min (max keep 0) p.2.2.size).toNat, ByteArray.empty)
/-- What DiskCrash answers. -/
noncomputable def crashD (room : Int) (ps : List TF) (keep : Int) : Int × List TF := @ite _ (OkD room ps) (Classical.propDecidable _) (room, ps.map (crashF keep)) (0, [])

end Go.Proofs.Ytejbbhjhinkcdaa.SCrash14
