/- Marks on lists of files. Conditions: lists of at most 2^20 files. -/
import Derived.Test.YtejbbhjhinkcdaaMarkF14
namespace Go.Proofs.Ytejbbhjhinkcdaa.MarkFS14
open Go.ChangeShapes Go.WideShapes Go.ChangeAt Go.RowKit Fil14 MarkF14
set_option linter.unusedVariables false
set_option linter.unusedSimpArgs false
/-- The marks of n files. -/
def marks (s : Int) (n : Nat) : List TF := (List.range n).map fun (i : Nat) => (s + 3 * (i : Int), mt (s + 3 * (i : Int) + 1), mt (s + 3 * (i : Int) + 2))
end Go.Proofs.Ytejbbhjhinkcdaa.MarkFS14
