/- Books in memory: five lists and a number, as a value, as the cells of a block, and as memory of the call's own. -/
import Derived.Test.YtophnnmbgpinfaaPairs
import Derived.Test.YtophnnmbgpinfaaTriples
import Derived.Test.YtophnnmbgpinfaaTup5
import Derived.Test.YtophnnmbgpinfaaTup8
import Derived.Test.YtophnnmbgpinfaaBks
namespace Go.Proofs.Ytophnnmbgpinfaa.BMem
open Go.ChangeShapes Go.WideShapes Go.ChangeAt Go.RowKit
open Bks (Bk)
set_option linter.unusedVariables false
set_option linter.unusedSimpArgs false

theorem hide {p : Prop} (h : p) : Hid p := h
theorem unhide {p : Prop} (h : Hid p) : p := h
theorem next {a b c : World} (h : Below a.heap.size a b) (k : Below b.heap.size b c) : Below a.heap.size a c := h.trans (k.mono h.size)

/-- Books and where their lists lie: each from the head of a block on. -/
structure Bx where
  ga : Nat
  ca : Nat
  gi : Nat
  ci : Nat
  gb : Nat
  cb : Nat
  gl : Nat
  cl : Nat
  gt : Nat
  ct : Nat
  b : Bk

/-- What is read of books in a world. -/
structure Rd (w : World) (x : Bx) : Prop where
  la : x.ga < w.heap.size
  ra : Pairs.At w x.ga x.b.ac
  na : x.b.ac.length ≤ 1048576
  li : x.gi < w.heap.size
  ri : Pairs.At w x.gi x.b.ic
  ni : x.b.ic.length ≤ 1048576
  lb : x.gb < w.heap.size
  rb : Triples.At3 w x.gb x.b.bs
  nb : x.b.bs.length ≤ 1048576
  ll : x.gl < w.heap.size
  rl : Tup5.At5 w x.gl x.b.ls
  nl : x.b.ls.length ≤ 1048576
  hc : x.b.ls.length ≤ x.cl
  hm : x.cl ≤ 9223372036854775807
  lt : x.gt < w.heap.size
  rt : Tup8.At8 w x.gt x.b.ts
  nt : x.b.ts.length ≤ 1048576

theorem Rd.below {w w' : World} {x : Bx} (h : Rd w x) (k : Below w.heap.size w w') : Rd w' x :=
  ⟨Nat.lt_of_lt_of_le h.la k.size, h.ra.below k h.la, h.na, Nat.lt_of_lt_of_le h.li k.size, h.ri.below k h.li, h.ni, Nat.lt_of_lt_of_le h.lb k.size, h.rb.below k h.lb, h.nb, Nat.lt_of_lt_of_le h.ll k.size, h.rl.below k h.ll, h.nl, h.hc, h.hm, Nat.lt_of_lt_of_le h.lt k.size, h.rt.below k h.lt, h.nt⟩

theorem Rd.alloc {w : World} {x : Bx} (h : Rd w x) (o : Obj) : Rd (w.alloc o) x := h.below ((Below.refl _ _).alloc (Nat.le_refl _) o)

/-- Books of the call's own, from block number base on. -/
structure Ow (w : World) (base : Nat) (x : Bx) : Prop where
  oa : Pairs.Own 69 w base x.ga x.b.ac.length x.ca x.b.ac
  oi : Pairs.Own 70 w base x.gi x.b.ic.length x.ci x.b.ic
  ob : Triples.Own3 72 w base x.gb x.b.bs.length x.cb x.b.bs
  ol : Tup5.Own5 74 w base x.gl x.b.ls.length x.cl x.b.ls
  ot : Tup8.Own8 76 w base x.gt x.b.ts.length x.ct x.b.ts

/-- Lists of at most 2^20 elements. -/
def Small (b : Bk) : Prop := b.ac.length ≤ 1048576 ∧ b.ic.length ≤ 1048576 ∧ b.bs.length ≤ 1048576 ∧ b.ls.length ≤ 1048576 ∧ b.ts.length ≤ 1048576

theorem own_cap {e : TypeId} {w : World} {base g n cap : Nat} {ps : List Tup5.T5} (h : Tup5.Own5 e w base g n cap ps) : n ≤ cap ∧ cap ≤ 9223372036854775807 := by
  rcases h.2 with ⟨h1, _⟩ | ⟨g', c, cur, h1, h2, h3, h4, h5, _⟩
  · simp at h1
  · obtain ⟨_, e⟩ : g = g' ∧ cap = c := by simpa using h1
    subst e
    exact ⟨h4, by unfold maxLen at h5; omega⟩

theorem Ow.rd {w : World} {base : Nat} {x : Bx} (h : Ow w base x) (s : Small x.b) : Rd w x :=
  ⟨h.oa.lt.2, h.oa.at, s.1, h.oi.lt.2, h.oi.at, s.2.1, h.ob.lt.2, h.ob.at, s.2.2.1, h.ol.lt.2, h.ol.at, s.2.2.2.1, (own_cap h.ol).1, (own_cap h.ol).2, h.ot.lt.2, h.ot.at, s.2.2.2.2⟩

theorem Ow.below {w w' : World} {base B : Nat} {x : Bx} (h : Ow w base x) (k : Below B w w') (hB : w.heap.size ≤ B) : Ow w' base x :=
  ⟨h.oa.below k (by have := h.oa.lt; omega), h.oi.below k (by have := h.oi.lt; omega), h.ob.below k (by have := h.ob.lt; omega), h.ol.below k (by have := h.ol.lt; omega), h.ot.below k (by have := h.ot.lt; omega)⟩

theorem Ow.rebase {w : World} {base base' : Nat} {x : Bx} (h : Ow w base x) (hb : base' ≤ base) : Ow w base' x :=
  ⟨h.oa.rebase (by have := h.oa.lt; omega), h.oi.rebase (by have := h.oi.lt; omega), h.ob.rebase (by have := h.ob.lt; omega), h.ol.rebase (by have := h.ol.lt; omega), h.ot.rebase (by have := h.ot.lt; omega)⟩

/-- What a store, or a growth of one row, leaves of books that lie elsewhere. -/
theorem Ow.kept {w w' : World} {base : Nat} {row : Option Nat} {x : Bx} (h : Ow w base x) (k : w.grownBy w' row) (hne : ∀ g, row = some g → g < base) : Ow w' base x :=
  ⟨h.oa.kept k (fun e => by have := h.oa.lt; have := hne _ e.symm; omega), h.oi.kept k (fun e => by have := h.oi.lt; have := hne _ e.symm; omega), h.ob.kept k (fun e => by have := h.ob.lt; have := hne _ e.symm; omega), h.ol.kept k (fun e => by have := h.ol.lt; have := hne _ e.symm; omega), h.ot.kept k (fun e => by have := h.ot.lt; have := hne _ e.symm; omega)⟩

/-- The cells of books in a block. -/
structure Cl (w : World) (g : Nat) (x : Bx) : Prop where
  c0 : w.cell? ⟨g, 0, none⟩ = some (.slice (some ⟨x.ga, 0, none⟩) x.b.ac.length x.ca)
  c1 : w.cell? ⟨g, 1, none⟩ = some (.slice (some ⟨x.gi, 0, none⟩) x.b.ic.length x.ci)
  c2 : w.cell? ⟨g, 2, none⟩ = some (.slice (some ⟨x.gb, 0, none⟩) x.b.bs.length x.cb)
  c3 : w.cell? ⟨g, 3, none⟩ = some (.slice (some ⟨x.gl, 0, none⟩) x.b.ls.length x.cl)
  c4 : w.cell? ⟨g, 4, none⟩ = some (.slice (some ⟨x.gt, 0, none⟩) x.b.ts.length x.ct)
  c5 : w.cell? ⟨g, 5, none⟩ = some (.int .i64 x.b.lot)

theorem Cl.below {w w' : World} {B g : Nat} {x : Bx} (h : Cl w g x) (k : Below B w w') (hg : g < B) : Cl w' g x :=
  ⟨(k.cell (p := ⟨g, 0, none⟩) hg).trans h.c0, (k.cell (p := ⟨g, 1, none⟩) hg).trans h.c1, (k.cell (p := ⟨g, 2, none⟩) hg).trans h.c2, (k.cell (p := ⟨g, 3, none⟩) hg).trans h.c3, (k.cell (p := ⟨g, 4, none⟩) hg).trans h.c4, (k.cell (p := ⟨g, 5, none⟩) hg).trans h.c5⟩

/-- A variable of books: a block of six cells of the call's own. -/
def Box (w : World) (base g : Nat) (v0 v1 v2 v3 v4 v5 : Value) : Prop := w.ownsRow base 48 6 (.slice (some ⟨g, 0, none⟩) 1 1) 1 [v0, v1, v2, v3, v4, v5]

theorem Box.made {w : World} {base g : Nat} (v0 v1 v2 v3 v4 v5 : Value) (hb : base ≤ w.heap.size) (hg : g = w.heap.size) : Box (w.alloc (.cells #[v0, v1, v2, v3, v4, v5] 48)) base g v0 v1 v2 v3 v4 v5 := by
  subst hg
  exact ⟨rfl, .inr ⟨w.heap.size, 1, #[v0, v1, v2, v3, v4, v5], rfl, hb, heap_alloc_new w _, Nat.le_refl _, by unfold maxLen; omega, rfl, rfl⟩⟩

section
variable {w w' : World} {base base' g : Nat} {v0 v1 v2 v3 v4 v5 : Value}

theorem Box.lt (h : Box w base g v0 v1 v2 v3 v4 v5) : base ≤ g ∧ g < w.heap.size := World.ownsRow.lt h g rfl
theorem Box.free (h : Box w base g v0 v1 v2 v3 v4 v5) (i : Nat) : w.frozen? ⟨g, i, none⟩ = false := World.ownsRow.frozenAt h i
theorem Box.c0 (h : Box w base g v0 v1 v2 v3 v4 v5) : w.cell? ⟨g, 0, none⟩ = some v0 := (World.ownsRow.cellAt h 0 (by omega)).trans rfl
theorem Box.c1 (h : Box w base g v0 v1 v2 v3 v4 v5) : w.cell? ⟨g, 1, none⟩ = some v1 := (World.ownsRow.cellAt h 1 (by omega)).trans rfl
theorem Box.c2 (h : Box w base g v0 v1 v2 v3 v4 v5) : w.cell? ⟨g, 2, none⟩ = some v2 := (World.ownsRow.cellAt h 2 (by omega)).trans rfl
theorem Box.c3 (h : Box w base g v0 v1 v2 v3 v4 v5) : w.cell? ⟨g, 3, none⟩ = some v3 := (World.ownsRow.cellAt h 3 (by omega)).trans rfl
theorem Box.c4 (h : Box w base g v0 v1 v2 v3 v4 v5) : w.cell? ⟨g, 4, none⟩ = some v4 := (World.ownsRow.cellAt h 4 (by omega)).trans rfl
theorem Box.c5 (h : Box w base g v0 v1 v2 v3 v4 v5) : w.cell? ⟨g, 5, none⟩ = some v5 := (World.ownsRow.cellAt h 5 (by omega)).trans rfl
theorem Box.set0 (h : Box w base g v0 v1 v2 v3 v4 v5) (u : Value) : Box (w.setCell ⟨g, 0, none⟩ u) base g u v1 v2 v3 v4 v5 ∧ w.grownBy (w.setCell ⟨g, 0, none⟩ u) (some g) := World.ownsRow.stored h 0 u
theorem Box.set1 (h : Box w base g v0 v1 v2 v3 v4 v5) (u : Value) : Box (w.setCell ⟨g, 1, none⟩ u) base g v0 u v2 v3 v4 v5 ∧ w.grownBy (w.setCell ⟨g, 1, none⟩ u) (some g) := World.ownsRow.stored h 1 u
theorem Box.set2 (h : Box w base g v0 v1 v2 v3 v4 v5) (u : Value) : Box (w.setCell ⟨g, 2, none⟩ u) base g v0 v1 u v3 v4 v5 ∧ w.grownBy (w.setCell ⟨g, 2, none⟩ u) (some g) := World.ownsRow.stored h 2 u
theorem Box.set3 (h : Box w base g v0 v1 v2 v3 v4 v5) (u : Value) : Box (w.setCell ⟨g, 3, none⟩ u) base g v0 v1 v2 u v4 v5 ∧ w.grownBy (w.setCell ⟨g, 3, none⟩ u) (some g) := World.ownsRow.stored h 3 u
theorem Box.set4 (h : Box w base g v0 v1 v2 v3 v4 v5) (u : Value) : Box (w.setCell ⟨g, 4, none⟩ u) base g v0 v1 v2 v3 u v5 ∧ w.grownBy (w.setCell ⟨g, 4, none⟩ u) (some g) := World.ownsRow.stored h 4 u
theorem Box.set5 (h : Box w base g v0 v1 v2 v3 v4 v5) (u : Value) : Box (w.setCell ⟨g, 5, none⟩ u) base g v0 v1 v2 v3 v4 u ∧ w.grownBy (w.setCell ⟨g, 5, none⟩ u) (some g) := World.ownsRow.stored h 5 u
theorem Box.kept {row : Option Nat} (h : Box w base g v0 v1 v2 v3 v4 v5) (k : w.grownBy w' row) (hne : some g ≠ row) : Box w' base g v0 v1 v2 v3 v4 v5 := World.ownsRow.kept h k (Or.inr hne)
theorem Box.rebase (h : Box w base g v0 v1 v2 v3 v4 v5) (hb : base' ≤ base) : Box w base' g v0 v1 v2 v3 v4 v5 := by
  refine ⟨h.1, ?_⟩
  rcases h.2 with ⟨h1, _⟩ | ⟨g', c, cur, h1, h2, h3⟩
  · simp at h1
  · exact .inr ⟨g', c, cur, h1, Nat.le_trans hb h2, h3⟩
theorem Box.below {B : Nat} (h : Box w base g v0 v1 v2 v3 v4 v5) (k : Below B w w') (hg : g < B) : Box w' base g v0 v1 v2 v3 v4 v5 := by
  refine ⟨h.1, ?_⟩
  rcases h.2 with ⟨h1, _⟩ | ⟨g', c, cur, h1, h2, h3, h4⟩
  · simp at h1
  · have e : g = g' := by simp at h1; exact h1.1
    subst e
    exact .inr ⟨g, c, cur, h1, h2, (k.block g hg).trans h3, h4⟩
end

end Go.Proofs.Ytophnnmbgpinfaa.BMem
