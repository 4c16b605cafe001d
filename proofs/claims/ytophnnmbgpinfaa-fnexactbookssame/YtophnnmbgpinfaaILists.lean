/- The books in a new block. -/
import Derived.Test.YtophnnmbgpinfaaBMem
namespace Go.Proofs.Ytophnnmbgpinfaa.ILists
open Go.ChangeShapes Go.WideShapes Go.ChangeAt Go.RowKit BMem Bks
set_option linter.unusedVariables false
set_option linter.unusedSimpArgs false

/-- The books in a new block. -/
theorem boxed (w : World) (x : Bx) (e : TypeId) : Cl (w.alloc (.cells #[.slice (some ⟨x.ga, 0, none⟩) x.b.ac.length x.ca, .slice (some ⟨x.gi, 0, none⟩) x.b.ic.length x.ci, .slice (some ⟨x.gb, 0, none⟩) x.b.bs.length x.cb, .slice (some ⟨x.gl, 0, none⟩) x.b.ls.length x.cl, .slice (some ⟨x.gt, 0, none⟩) x.b.ts.length x.ct, .int .i64 x.b.lot] e)) w.heap.size x := ⟨by simp, by simp, by simp, by simp, by simp, by simp⟩

end Go.Proofs.Ytophnnmbgpinfaa.ILists
