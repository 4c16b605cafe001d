/- Lists of files: the laws' own copies and equality. Conditions: lists of at most 2^20 files. -/
import Derived.Test.YtejbbhjhinkcdaaDiskH14
import Derived.Deep.RegionHeld3
namespace Go.Proofs.Ytejbbhjhinkcdaa.HelpF14
open Go.ChangeShapes Go.WideShapes Go.ChangeAt Go.RowKit Fil14
set_option linter.unusedVariables false
set_option linter.unusedSimpArgs false
theorem info2 : (Try.prog.info? 32).map (fun i => (i.zero, i.size, i.bytes)) = some (some (.agg #[.int .i64 0, .string ByteArray.empty, .string ByteArray.empty]), 3, 40) := by kernel_rfl
end Go.Proofs.Ytejbbhjhinkcdaa.HelpF14
