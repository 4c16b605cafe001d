/- Disks: the laws' own sizes, copies and equality. -/
import Derived.Test.YtejbbhjhinkcdaaFil14
import Derived.Deep.Slices
import Derived.Deep.Strs
import Derived.ChangeSlices
namespace Go.Proofs.Ytejbbhjhinkcdaa.DiskH14
open Go.ChangeShapes Go.WideShapes Go.ChangeAt Go.RowKit Fil14
set_option linter.unusedVariables false
set_option linter.unusedSimpArgs false
theorem one_more (w : World) (o : Obj) : Below w.heap.size w (w.alloc o) := (Below.refl _ _).alloc (Nat.le_refl _) _
/-- How many bytes files hold together. -/
def sumZ : List TF → Nat
  | [] => 0
  | p :: r => p.2.1.size + p.2.2.size + sumZ r
theorem sumZ_append (ps qs : List TF) : sumZ (ps ++ qs) = sumZ ps + sumZ qs := by
  induction ps with
  | nil => simp [sumZ]
  | cons p r ih => simp only [List.cons_append, sumZ, ih]; omega
theorem sumZ_next {ps : List TF} {k : Nat} (h : k < ps.length) : sumZ (ps.take (k + 1)) = sumZ (ps.take k) + ((elF ps k).2.1.size + (elF ps k).2.2.size) := by
  rw [List.take_succ_eq_append_getElem h, sumZ_append]
  simp [sumZ, List.getD, h]
end Go.Proofs.Ytejbbhjhinkcdaa.DiskH14
