/- Bytes: the specification's Check. -/
import Derived.Test.YtejbbhjhinkcdaaRows
import Derived.WalkKit
import Derived.ProofKit
import Derived.OpenShut
import Derived.Below
import Derived.BigQuiet
namespace Go.Proofs.Ytejbbhjhinkcdaa.SBytes
open Go.ChangeShapes Go.WideShapes Go.ChangeAt Go.RowKit
set_option linter.unusedVariables false
set_option linter.unusedSimpArgs false
theorem hide {p : Prop} (h : p) : Hid p := h
theorem unhide {p : Prop} (h : Hid p) : p := h
/-- The bytes of a list: block g from its head on. -/
def AtB (w : World) (g : Nat) (xs : List Int) : Prop := ∀ i, i < xs.length → w.cell? ⟨g, i, none⟩ = some (.int .u8 (xs.getD i 0)) ∧ 0 ≤ xs.getD i 0 ∧ xs.getD i 0 ≤ 255
theorem AtB.below {w w' : World} {g B : Nat} {xs : List Int} (h : AtB w g xs) (k : Below B w w') (hg : g < B) : AtB w' g xs := fun i hi => ⟨(k.cell (p := ⟨g, i, none⟩) hg).trans (h i hi).1, (h i hi).2⟩
end Go.Proofs.Ytejbbhjhinkcdaa.SBytes
