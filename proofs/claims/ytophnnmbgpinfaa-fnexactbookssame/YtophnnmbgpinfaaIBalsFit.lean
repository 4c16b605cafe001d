/- Books in their box, from world to world. -/
import Derived.Test.YtophnnmbgpinfaaILists
namespace Go.Proofs.Ytophnnmbgpinfaa.IBalsFit
open Go.ChangeShapes Go.WideShapes Go.ChangeAt Go.RowKit BMem Bks ILists
set_option linter.unusedVariables false
set_option linter.unusedSimpArgs false

/-- What a call leaves of books in a block, and of a struct of three numbers in another one. -/
structure St (w W : World) (x : Bx) : Prop where
  r : Rd W x
  c : Cl W w.heap.size x
  b : Below w.heap.size w W
  s : w.heap.size < W.heap.size

theorem St.step {w W W' : World} {x : Bx} (h : St w W x) (k : Below W.heap.size W W') : St w W' x :=
  ⟨h.r.below k, h.c.below k h.s, h.b.trans (k.mono (Nat.le_of_lt h.s)), Nat.lt_of_lt_of_le h.s k.size⟩

theorem St.start {w : World} {x : Bx} (h : Rd w x) (e : TypeId) : St w (w.alloc (.cells #[.slice (some ⟨x.ga, 0, none⟩) x.b.ac.length x.ca, .slice (some ⟨x.gi, 0, none⟩) x.b.ic.length x.ci, .slice (some ⟨x.gb, 0, none⟩) x.b.bs.length x.cb, .slice (some ⟨x.gl, 0, none⟩) x.b.ls.length x.cl, .slice (some ⟨x.gt, 0, none⟩) x.b.ts.length x.ct, .int .i64 x.b.lot] e)) x :=
  ⟨h.alloc _, boxed w x e, (Below.refl w.heap.size w).alloc (Nat.le_refl _) _, by simp⟩

theorem one_more (w : World) (o : Obj) : Below w.heap.size w (w.alloc o) := (Below.refl _ _).alloc (Nat.le_refl _) _

theorem below_of_drew {w w' : World} (h : Below w.drew.heap.size w.drew w') : Below w.heap.size w w' := ⟨h.os, h.tape, h.output, h.size, h.block⟩

end Go.Proofs.Ytophnnmbgpinfaa.IBalsFit
