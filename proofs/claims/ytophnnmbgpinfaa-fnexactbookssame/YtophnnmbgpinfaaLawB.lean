/- What the laws on books carry from call to call. -/
import Derived.Test.YtophnnmbgpinfaaOpensB
namespace Go.Proofs.Ytophnnmbgpinfaa.LawB
open Go.ChangeShapes Go.WideShapes Go.ChangeAt Go.RowKit BMem Bks BHelp BkEq
open IBalsFit (one_more)
set_option linter.unusedVariables false
set_option linter.unusedSimpArgs false

/-- The argument, in its box. -/
structure LB (w W : World) (y : Ix) : Prop where
  r : RdI W y
  c : ClI W w.heap.size y
  b : Below w.heap.size w W
  s : w.heap.size < W.heap.size

theorem LB.start {w : World} {y : Ix} (h : RdI w y) (e : TypeId) : LB w (w.alloc (.cells #[.slice y.aa y.b.ac.length y.ca, .slice y.ai y.b.ic.length y.ci, .slice y.ab y.b.bs.length y.cb, .slice y.al y.b.ls.length y.cl, .slice y.ats y.b.ts.length y.ct, .int .i64 y.b.lot] e)) y :=
  ⟨h.below (one_more _ _), boxedI w y e, one_more _ _, by simp⟩
theorem LB.step {w W W' : World} {y : Ix} (h : LB w W y) (k : Below W.heap.size W W') : LB w W' y :=
  ⟨h.r.below k, h.c.below k h.s, h.b.trans (k.mono (Nat.le_of_lt h.s)), Nat.lt_of_lt_of_le h.s k.size⟩
/-- Behind marks on books that were made later. -/
theorem LB.turn {w W W' : World} {y : Ix} {x : Bx} (H : RdI w y) (h : LB w W y) (k : Turn x W W') (lo : Lo x (w.heap.size + 1)) : LB w W' y := by
  have kb := k.below (B := w.heap.size + 1) h.s lo
  have b := h.b.trans (kb.mono (by omega))
  exact ⟨H.below b, h.c.below kb (by omega), b, Nat.lt_of_lt_of_le h.s k.size⟩

theorem rdI_drew {w : World} {y : Ix} (h : RdI w y) : RdI w.drew y := ⟨h.ra, h.ri, h.rb, h.rl, h.rt⟩
theorem rd_drew {w : World} {x : Bx} (h : Rd w x) : Rd w.drew x := ⟨h.la, h.ra, h.na, h.li, h.ri, h.ni, h.lb, h.rb, h.nb, h.ll, h.rl, h.nl, h.hc, h.hm, h.lt, h.rt, h.nt⟩

theorem Lo.mono {x : Bx} {N M : Nat} (h : Lo x N) (hm : M ≤ N) : Lo x M := by
  unfold Lo at *
  omega
theorem Up.mono {x : Bx} {N M : Nat} (h : Up x N) (hm : N ≤ M) : Up x M := by
  unfold Up at *
  omega

/-- A variable that holds books, and nothing of it turns. -/
structure Bv (W : World) (g : Nat) (x : Bx) : Prop where
  c : Cl W g x
  l : g < W.heap.size
theorem Bv.step {W W' : World} {g : Nat} {x : Bx} (h : Bv W g x) (k : Below W.heap.size W W') : Bv W' g x := ⟨h.c.below k h.l, Nat.lt_of_lt_of_le h.l k.size⟩
theorem Bv.turn {W W' : World} {g : Nat} {x z : Bx} (h : Bv W g x) (k : Turn z W W') (ne : (∃ N, g < N ∧ Lo z N) ∨ ∃ N, N ≤ g ∧ Up z N) : Bv W' g x := by
  have e : W'.heap[g]? = W.heap[g]? := by
    refine k.block g h.l ?_ ?_ ?_ ?_ ?_
    all_goals
      rcases ne with ⟨N, a, b⟩ | ⟨N, a, b⟩
      · unfold Lo at b; omega
      · unfold Up at b; omega
  have cc : ∀ i, W'.cell? ⟨g, i, none⟩ = W.cell? ⟨g, i, none⟩ := fun i => World.cell?_of_block (w := W) (w' := W') (a := ⟨g, i, none⟩) e
  exact ⟨⟨(cc 0).trans h.c.c0, (cc 1).trans h.c.c1, (cc 2).trans h.c.c2, (cc 3).trans h.c.c3, (cc 4).trans h.c.c4, (cc 5).trans h.c.c5⟩, Nat.lt_of_lt_of_le h.l k.size⟩
theorem Bv.made {w : World} {x : Bx} (e : TypeId) {g : Nat} (hg : g = w.heap.size) : Bv (w.alloc (.cells #[.slice (some ⟨x.ga, 0, none⟩) x.b.ac.length x.ca, .slice (some ⟨x.gi, 0, none⟩) x.b.ic.length x.ci, .slice (some ⟨x.gb, 0, none⟩) x.b.bs.length x.cb, .slice (some ⟨x.gl, 0, none⟩) x.b.ls.length x.cl, .slice (some ⟨x.gt, 0, none⟩) x.b.ts.length x.ct, .int .i64 x.b.lot] e)) g x := by
  subst hg
  exact ⟨ILists.boxed w x e, by simp⟩

/-- The twelve cells of the argument and of a variable. -/
theorem cells12 {w W : World} {y : Ix} {g : Nat} {x : Bx} (h : ClI W w.heap.size y) (k : Cl W g x) : W.cell? ⟨w.heap.size, 0, none⟩ = some (.slice y.aa y.b.ac.length y.ca) ∧ W.cell? ⟨w.heap.size, 1, none⟩ = some (.slice y.ai y.b.ic.length y.ci) ∧ W.cell? ⟨w.heap.size, 2, none⟩ = some (.slice y.ab y.b.bs.length y.cb) ∧ W.cell? ⟨w.heap.size, 3, none⟩ = some (.slice y.al y.b.ls.length y.cl) ∧ W.cell? ⟨w.heap.size, 4, none⟩ = some (.slice y.ats y.b.ts.length y.ct) ∧ W.cell? ⟨w.heap.size, 5, none⟩ = some (.int .i64 y.b.lot) ∧ W.cell? ⟨g, 0, none⟩ = some (.slice (some ⟨x.ga, 0, none⟩) x.b.ac.length x.ca) ∧ W.cell? ⟨g, 1, none⟩ = some (.slice (some ⟨x.gi, 0, none⟩) x.b.ic.length x.ci) ∧ W.cell? ⟨g, 2, none⟩ = some (.slice (some ⟨x.gb, 0, none⟩) x.b.bs.length x.cb) ∧ W.cell? ⟨g, 3, none⟩ = some (.slice (some ⟨x.gl, 0, none⟩) x.b.ls.length x.cl) ∧ W.cell? ⟨g, 4, none⟩ = some (.slice (some ⟨x.gt, 0, none⟩) x.b.ts.length x.ct) ∧ W.cell? ⟨g, 5, none⟩ = some (.int .i64 x.b.lot) :=
  ⟨h.c0, h.c1, h.c2, h.c3, h.c4, h.c5, k.c0, k.c1, k.c2, k.c3, k.c4, k.c5⟩

end Go.Proofs.Ytophnnmbgpinfaa.LawB
