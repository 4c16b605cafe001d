/- The laws' own texts that are marks, and marks on lists of files. -/
import Derived.Test.YtejbbhjhinkcdaaHelpF14
import Derived.Laws.BytesArg
import Derived.Laws.Concat
namespace Go.Proofs.Ytejbbhjhinkcdaa.MarkF14
open Go.ChangeShapes Go.WideShapes Go.ChangeAt Go.RowKit Fil14
set_option linter.unusedVariables false
set_option linter.unusedSimpArgs false

/-- The digits of a number ahead of a text. -/
def dg (k : Nat) (s : ByteArray) : ByteArray := if 0 < k then dg (k / 10) (strOfNums [48 + (k : Int) % 10] ++ s) else s
termination_by k
decreasing_by omega
/-- The text that marks. -/
def mt (k : Int) : ByteArray := ⟨#[109]⟩ ++ dg k.toNat ⟨#[]⟩
theorem dg_more {k : Nat} {s : ByteArray} (h : 0 < k) : dg k s = dg (k / 10) (strOfNums [48 + (k : Int) % 10] ++ s) := by rw [dg, if_pos h]
theorem dg_last {k : Nat} {s : ByteArray} (h : ¬ 0 < k) : dg k s = s := by rw [dg, if_neg h]

end Go.Proofs.Ytejbbhjhinkcdaa.MarkF14
