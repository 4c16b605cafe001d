/- A pair that came in, in its own block, through all that a law does: the block stays as it was. -/
import Derived.Test.YtkbdlgbfgpoeiaaPairs
namespace Go.Proofs.Ytkbdlgbfgpoeiaa.Arg
open Go.ChangeShapes Go.WideShapes Go.ChangeAt Go.RowKit Pairs
set_option linter.unusedVariables false

/-- Below w nothing has turned, and behind it lies the pair. -/
structure Arg (w u : World) (x y : Int) : Prop where
  bel : Below w.heap.size w u
  sz : w.heap.size < u.heap.size
  c0 : u.cell? ⟨w.heap.size, 0, none⟩ = some (.int .i64 x)
  c1 : u.cell? ⟨w.heap.size, 1, none⟩ = some (.int .i64 y)

theorem Arg.start (w : World) (x y : Int) (e : TypeId) : Arg w (w.alloc (.cells #[.int .i64 x, .int .i64 y] e)) x y :=
  ⟨(Below.refl _ _).alloc (Nat.le_refl _) _, by simp, by simp, by simp⟩

theorem Arg.next {w u u' : World} {x y : Int} (h : Arg w u x y) (k : Below u.heap.size u u') : Arg w u' x y :=
  ⟨Pairs.next h.bel k, Nat.lt_of_lt_of_le h.sz k.size, (k.cell (p := ⟨w.heap.size, 0, none⟩) h.sz).trans h.c0, (k.cell (p := ⟨w.heap.size, 1, none⟩) h.sz).trans h.c1⟩

theorem Arg.drew {w u : World} {x y : Int} (h : Arg w u x y) : Arg w u.drew x y := ⟨h.bel.drew, h.sz, h.c0, h.c1⟩
theorem Arg.drewN {w u : World} {x y : Int} (h : Arg w u x y) (m : Nat) : Arg w (u.drewN m) x y := ⟨below_drewN h.bel m, h.sz, h.c0, h.c1⟩

theorem Arg.grown {w u u' : World} {x y : Int} {g : Nat} (h : Arg w u x y) (k : u.grownBy u' (some g)) (hg : w.heap.size < g) : Arg w u' x y := by
  have e : u'.heap[w.heap.size]? = u.heap[w.heap.size]? := k.block _ h.sz (by simp; omega)
  exact ⟨h.bel.grown k (Nat.le_of_lt h.sz) (by simp; omega), Nat.lt_of_lt_of_le h.sz k.size, (World.cell?_of_block (w := u) (a := ⟨w.heap.size, 0, none⟩) e).trans h.c0, (World.cell?_of_block (w := u) (a := ⟨w.heap.size, 1, none⟩) e).trans h.c1⟩

end Go.Proofs.Ytkbdlgbfgpoeiaa.Arg
