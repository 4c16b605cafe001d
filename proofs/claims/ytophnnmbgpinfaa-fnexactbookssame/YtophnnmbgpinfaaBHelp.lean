/- The laws' own helpers on books: copies, sizes, equality, marks. -/
import Derived.Test.YtophnnmbgpinfaaILists
import Derived.Test.YtophnnmbgpinfaaIBalsFit
import Derived.Test.YtophnnmbgpinfaaAccountMark
import Derived.Test.YtophnnmbgpinfaaInstrMark
import Derived.Test.YtophnnmbgpinfaaBalHeld
import Derived.Test.YtophnnmbgpinfaaLotHeld
import Derived.Test.YtophnnmbgpinfaaTradeHeld
namespace Go.Proofs.Ytophnnmbgpinfaa.BHelp
open Go.ChangeShapes Go.WideShapes Go.ChangeAt Go.RowKit BMem Bks ILists
open IBalsFit (St one_more)
set_option linter.unusedVariables false
set_option linter.unusedSimpArgs false

/-- Books that came in. -/
structure Ix where
  aa : Option Addr
  ca : Nat
  ai : Option Addr
  ci : Nat
  ab : Option Addr
  cb : Nat
  al : Option Addr
  cl : Nat
  ats : Option Addr
  ct : Nat
  b : Bk

/-- What is read of them. -/
structure RdI (w : World) (y : Ix) : Prop where
  ra : Pairs.Reads w y.aa y.b.ac
  ri : Pairs.Reads w y.ai y.b.ic
  rb : Triples.Reads3 w y.ab y.b.bs
  rl : Tup5.Reads5 w y.al y.b.ls
  rt : Tup8.Reads8 w y.ats y.b.ts

theorem RdI.below {w w' : World} {y : Ix} (h : RdI w y) (k : Below w.heap.size w w') : RdI w' y :=
  ⟨h.ra.below k, h.ri.below k, h.rb.below k, h.rl.below k, h.rt.below k⟩

/-- The cells of books that came in, in a block. -/
structure ClI (w : World) (g : Nat) (y : Ix) : Prop where
  c0 : w.cell? ⟨g, 0, none⟩ = some (.slice y.aa y.b.ac.length y.ca)
  c1 : w.cell? ⟨g, 1, none⟩ = some (.slice y.ai y.b.ic.length y.ci)
  c2 : w.cell? ⟨g, 2, none⟩ = some (.slice y.ab y.b.bs.length y.cb)
  c3 : w.cell? ⟨g, 3, none⟩ = some (.slice y.al y.b.ls.length y.cl)
  c4 : w.cell? ⟨g, 4, none⟩ = some (.slice y.ats y.b.ts.length y.ct)
  c5 : w.cell? ⟨g, 5, none⟩ = some (.int .i64 y.b.lot)

theorem ClI.below {w w' : World} {B g : Nat} {y : Ix} (h : ClI w g y) (k : Below B w w') (hg : g < B) : ClI w' g y :=
  ⟨(k.cell (p := ⟨g, 0, none⟩) hg).trans h.c0, (k.cell (p := ⟨g, 1, none⟩) hg).trans h.c1, (k.cell (p := ⟨g, 2, none⟩) hg).trans h.c2, (k.cell (p := ⟨g, 3, none⟩) hg).trans h.c3, (k.cell (p := ⟨g, 4, none⟩) hg).trans h.c4, (k.cell (p := ⟨g, 5, none⟩) hg).trans h.c5⟩

theorem boxedI (w : World) (y : Ix) (e : TypeId) : ClI (w.alloc (.cells #[.slice y.aa y.b.ac.length y.ca, .slice y.ai y.b.ic.length y.ci, .slice y.ab y.b.bs.length y.cb, .slice y.al y.b.ls.length y.cl, .slice y.ats y.b.ts.length y.ct, .int .i64 y.b.lot] e)) w.heap.size y := ⟨by simp, by simp, by simp, by simp, by simp, by simp⟩

/-- What is there of a list of the call's own depends on its block alone. -/
theorem row_block {w w' : World} {base : Nat} {e : TypeId} {size : Nat} {g n cap : Nat} {xs : List Value} (h : w.ownsRow base e size (.slice (some ⟨g, 0, none⟩) n cap) n xs) (hb : w'.heap[g]? = w.heap[g]?) : w'.ownsRow base e size (.slice (some ⟨g, 0, none⟩) n cap) n xs := by
  refine ⟨h.1, ?_⟩
  rcases h.2 with ⟨h1, _⟩ | ⟨g', c, cur, h1, h2, h3, h4⟩
  · simp at h1
  · obtain ⟨e, _⟩ : g = g' ∧ cap = c := by simpa using h1
    subst e
    exact .inr ⟨g, c, cur, h1, h2, hb.trans h3, h4⟩

/-- Lists of different types lie in different blocks. -/
theorem row_apart {w : World} {base base' : Nat} {e e' : TypeId} {size size' : Nat} {g g' n n' cap cap' : Nat} {xs xs' : List Value} (h : w.ownsRow base e size (.slice (some ⟨g, 0, none⟩) n cap) n xs) (k : w.ownsRow base' e' size' (.slice (some ⟨g', 0, none⟩) n' cap') n' xs') (ne : e ≠ e') : g ≠ g' := by
  intro eg
  subst eg
  rcases h.2 with ⟨h1, _⟩ | ⟨a, c, cur, h1, h2, h3, _⟩
  · simp at h1
  · rcases k.2 with ⟨k1, _⟩ | ⟨a', c', cur', k1, k2, k3, _⟩
    · simp at k1
    · obtain ⟨e1, _⟩ : g = a ∧ cap = c := by simpa using h1
      obtain ⟨e2, _⟩ : g = a' ∧ cap' = c' := by simpa using k1
      subst e1
      rw [← e2] at k3
      rw [h3] at k3
      simp at k3
      exact ne k3.2

/-- All lists lie below a block number; from one on. -/
def Up (x : Bx) (N : Nat) : Prop := x.ga < N ∧ x.gi < N ∧ x.gb < N ∧ x.gl < N ∧ x.gt < N
def Lo (x : Bx) (N : Nat) : Prop := N ≤ x.ga ∧ N ≤ x.gi ∧ N ≤ x.gb ∧ N ≤ x.gl ∧ N ≤ x.gt
theorem ow_up {w : World} {base : Nat} {x : Bx} (h : Ow w base x) : Up x w.heap.size := ⟨h.oa.lt.2, h.oi.lt.2, h.ob.lt.2, h.ol.lt.2, h.ot.lt.2⟩
theorem ow_lo {w : World} {base : Nat} {x : Bx} (h : Ow w base x) : Lo x base := ⟨h.oa.lt.1, h.oi.lt.1, h.ob.lt.1, h.ol.lt.1, h.ot.lt.1⟩

/-- Nothing but the lists of x has turned. -/
structure Turn (x : Bx) (w w' : World) : Prop where
  os : w'.os = w.os
  tape : w'.tape = w.tape
  output : w'.output = w.output
  size : w.heap.size ≤ w'.heap.size
  block : ∀ k, k < w.heap.size → k ≠ x.ga → k ≠ x.gi → k ≠ x.gb → k ≠ x.gl → k ≠ x.gt → w'.heap[k]? = w.heap[k]?

theorem Turn.refl (x : Bx) (w : World) : Turn x w w := ⟨rfl, rfl, rfl, Nat.le_refl _, fun _ _ _ _ _ _ _ => rfl⟩
theorem Turn.grown {x : Bx} {w u v : World} {g : Nat} (h : Turn x w u) (k : u.grownBy v (some g)) (hg : g = x.ga ∨ g = x.gi ∨ g = x.gb ∨ g = x.gl ∨ g = x.gt) : Turn x w v :=
  ⟨k.os.trans h.os, k.tape.trans h.tape, k.output.trans h.output, Nat.le_trans h.size k.size, fun j hj a b c d e => (k.block j (Nat.lt_of_lt_of_le hj h.size) (fun q => by injection q with q; omega)).trans (h.block j hj a b c d e)⟩
theorem Turn.alloc {x : Bx} {w u : World} (h : Turn x w u) (o : Obj) : Turn x w (u.alloc o) :=
  ⟨h.os, h.tape, h.output, by have := h.size; simp; omega, fun j hj a b c d e => (Below.heap_alloc u o j (Nat.lt_of_lt_of_le hj h.size)).trans (h.block j hj a b c d e)⟩
theorem Turn.below {x : Bx} {w u : World} {B : Nat} (h : Turn x w u) (hB : B ≤ w.heap.size) (lo : Lo x B) : Below B w u :=
  ⟨h.os, h.tape, h.output, h.size, fun k hk => h.block k (by omega) (by have := lo.1; omega) (by have := lo.2.1; omega) (by have := lo.2.2.1; omega) (by have := lo.2.2.2.1; omega) (by have := lo.2.2.2.2; omega)⟩

/-- Books that lie apart from those that turned are as they were. -/
theorem Turn.ow {x y : Bx} {w u : World} {base : Nat} (h : Turn x w u) (k : Ow w base y) (ap : (∃ N, Up x N ∧ Lo y N) ∨ ∃ N, Lo x N ∧ Up y N) : Ow u base y := by
  have hu := ow_up k
  have all : ∀ g, (g = y.ga ∨ g = y.gi ∨ g = y.gb ∨ g = y.gl ∨ g = y.gt) → u.heap[g]? = w.heap[g]? := by
    intro g hg
    refine h.block g ?_ ?_ ?_ ?_ ?_ ?_
    · unfold Up at hu; omega
    all_goals
      rcases ap with ⟨N, a, b⟩ | ⟨N, a, b⟩
      · unfold Up at a; unfold Lo at b; omega
      · unfold Lo at a; unfold Up at b; omega
  exact ⟨row_block k.oa (all _ (by simp)), row_block k.oi (all _ (by simp)), row_block k.ob (all _ (by simp)), row_block k.ol (all _ (by simp)), row_block k.ot (all _ (by simp))⟩

/-- On the way to a copy: what came in, the copy so far, and the answer's variable. -/
structure TB (w W : World) (y : Ix) (v0 v1 v2 v3 v4 v5 : Value) : Prop where
  b : Below w.heap.size w W
  ci : ClI W w.heap.size y
  o : Box W w.heap.size (w.heap.size + 1 + 1) v0 v1 v2 v3 v4 v5
  r : Box W w.heap.size (w.heap.size + 1) (.slice none 0 0) (.slice none 0 0) (.slice none 0 0) (.slice none 0 0) (.slice none 0 0) (.int .i64 0)

section
variable {w W W' : World} {y : Ix} {v0 v1 v2 v3 v4 v5 : Value}
theorem TB.call (h : TB w W y v0 v1 v2 v3 v4 v5) (k : Below W.heap.size W W') : TB w W' y v0 v1 v2 v3 v4 v5 := by
  have l := h.o.lt
  exact ⟨h.b.trans (k.mono h.b.size), h.ci.below k (by omega), h.o.below k (by omega), h.r.below k (by omega)⟩
theorem TB.set0 (h : TB w W y v0 v1 v2 v3 v4 v5) (u : Value) : TB w (W.setCell ⟨w.heap.size + 1 + 1, 0, none⟩ u) y u v1 v2 v3 v4 v5 := by
  obtain ⟨b, g⟩ := h.o.set0 u
  have n0 : some w.heap.size ≠ some (w.heap.size + 1 + 1) := fun e => by injection e; omega
  exact ⟨h.b.setCell (by simp; omega) u, ⟨g.cell h.ci.c0 n0, g.cell h.ci.c1 n0, g.cell h.ci.c2 n0, g.cell h.ci.c3 n0, g.cell h.ci.c4 n0, g.cell h.ci.c5 n0⟩, b, h.r.kept g (fun e => by injection e; omega)⟩
theorem TB.set1 (h : TB w W y v0 v1 v2 v3 v4 v5) (u : Value) : TB w (W.setCell ⟨w.heap.size + 1 + 1, 1, none⟩ u) y v0 u v2 v3 v4 v5 := by
  obtain ⟨b, g⟩ := h.o.set1 u
  have n0 : some w.heap.size ≠ some (w.heap.size + 1 + 1) := fun e => by injection e; omega
  exact ⟨h.b.setCell (by simp; omega) u, ⟨g.cell h.ci.c0 n0, g.cell h.ci.c1 n0, g.cell h.ci.c2 n0, g.cell h.ci.c3 n0, g.cell h.ci.c4 n0, g.cell h.ci.c5 n0⟩, b, h.r.kept g (fun e => by injection e; omega)⟩
theorem TB.set2 (h : TB w W y v0 v1 v2 v3 v4 v5) (u : Value) : TB w (W.setCell ⟨w.heap.size + 1 + 1, 2, none⟩ u) y v0 v1 u v3 v4 v5 := by
  obtain ⟨b, g⟩ := h.o.set2 u
  have n0 : some w.heap.size ≠ some (w.heap.size + 1 + 1) := fun e => by injection e; omega
  exact ⟨h.b.setCell (by simp; omega) u, ⟨g.cell h.ci.c0 n0, g.cell h.ci.c1 n0, g.cell h.ci.c2 n0, g.cell h.ci.c3 n0, g.cell h.ci.c4 n0, g.cell h.ci.c5 n0⟩, b, h.r.kept g (fun e => by injection e; omega)⟩
theorem TB.set3 (h : TB w W y v0 v1 v2 v3 v4 v5) (u : Value) : TB w (W.setCell ⟨w.heap.size + 1 + 1, 3, none⟩ u) y v0 v1 v2 u v4 v5 := by
  obtain ⟨b, g⟩ := h.o.set3 u
  have n0 : some w.heap.size ≠ some (w.heap.size + 1 + 1) := fun e => by injection e; omega
  exact ⟨h.b.setCell (by simp; omega) u, ⟨g.cell h.ci.c0 n0, g.cell h.ci.c1 n0, g.cell h.ci.c2 n0, g.cell h.ci.c3 n0, g.cell h.ci.c4 n0, g.cell h.ci.c5 n0⟩, b, h.r.kept g (fun e => by injection e; omega)⟩
theorem TB.set4 (h : TB w W y v0 v1 v2 v3 v4 v5) (u : Value) : TB w (W.setCell ⟨w.heap.size + 1 + 1, 4, none⟩ u) y v0 v1 v2 v3 u v5 := by
  obtain ⟨b, g⟩ := h.o.set4 u
  have n0 : some w.heap.size ≠ some (w.heap.size + 1 + 1) := fun e => by injection e; omega
  exact ⟨h.b.setCell (by simp; omega) u, ⟨g.cell h.ci.c0 n0, g.cell h.ci.c1 n0, g.cell h.ci.c2 n0, g.cell h.ci.c3 n0, g.cell h.ci.c4 n0, g.cell h.ci.c5 n0⟩, b, h.r.kept g (fun e => by injection e; omega)⟩
theorem TB.set5 (h : TB w W y v0 v1 v2 v3 v4 v5) (u : Value) : TB w (W.setCell ⟨w.heap.size + 1 + 1, 5, none⟩ u) y v0 v1 v2 v3 v4 u := by
  obtain ⟨b, g⟩ := h.o.set5 u
  have n0 : some w.heap.size ≠ some (w.heap.size + 1 + 1) := fun e => by injection e; omega
  exact ⟨h.b.setCell (by simp; omega) u, ⟨g.cell h.ci.c0 n0, g.cell h.ci.c1 n0, g.cell h.ci.c2 n0, g.cell h.ci.c3 n0, g.cell h.ci.c4 n0, g.cell h.ci.c5 n0⟩, b, h.r.kept g (fun e => by injection e; omega)⟩
end

/-- A list from block number base on, behind a store below it. -/
theorem row_store {w : World} {base : Nat} {e : TypeId} {size : Nat} {g n cap : Nat} {xs : List Value} (h : w.ownsRow base e size (.slice (some ⟨g, 0, none⟩) n cap) n xs) {a : Addr} (ha : a.block < base) (u : Value) : (w.setCell a u).ownsRow base e size (.slice (some ⟨g, 0, none⟩) n cap) n xs := ownsRow_setCell_below h ha u

/-- A copy of a list, its block a letter. -/
theorem toAccount (w : World) (a : Option Addr) (len cap : Nat) (ps : List (Int × Int)) (hl : ps.length = len) (h20 : len ≤ 1048576) (hr : Pairs.Reads w a ps) :
    Calls Try.prog 30 #[.slice a len cap] w fun e w' => ∃ g, e = .returned (.slice (some ⟨g, 0, none⟩) len len) ∧ Pairs.Own 69 w' w.heap.size g len len ps ∧ Below w.heap.size w w' :=
  (AccountHelp.toS w a len cap ps hl h20 hr).mono fun e w' ⟨h1, h2, h3⟩ => ⟨_, h1, h2, h3⟩
theorem toInstr (w : World) (a : Option Addr) (len cap : Nat) (ps : List (Int × Int)) (hl : ps.length = len) (h20 : len ≤ 1048576) (hr : Pairs.Reads w a ps) :
    Calls Try.prog 31 #[.slice a len cap] w fun e w' => ∃ g, e = .returned (.slice (some ⟨g, 0, none⟩) len len) ∧ Pairs.Own 70 w' w.heap.size g len len ps ∧ Below w.heap.size w w' :=
  (InstrHelp.toS w a len cap ps hl h20 hr).mono fun e w' ⟨h1, h2, h3⟩ => ⟨_, h1, h2, h3⟩
theorem toBal (w : World) (a : Option Addr) (len cap : Nat) (ps : List Bals.T3) (hl : ps.length = len) (h20 : len ≤ 1048576) (hr : Triples.Reads3 w a ps) :
    Calls Try.prog 32 #[.slice a len cap] w fun e w' => ∃ g, e = .returned (.slice (some ⟨g, 0, none⟩) len len) ∧ Triples.Own3 72 w' w.heap.size g len len ps ∧ Below w.heap.size w w' :=
  (BalHelp.toS w a len cap ps hl h20 hr).mono fun e w' ⟨h1, h2, h3⟩ => ⟨_, h1, h2, h3⟩
theorem toLot (w : World) (a : Option Addr) (len cap : Nat) (ps : List Tup5.T5) (hl : ps.length = len) (h20 : len ≤ 1048576) (hr : Tup5.Reads5 w a ps) :
    Calls Try.prog 33 #[.slice a len cap] w fun e w' => ∃ g, e = .returned (.slice (some ⟨g, 0, none⟩) len len) ∧ Tup5.Own5 74 w' w.heap.size g len len ps ∧ Below w.heap.size w w' :=
  (LotHelp.toS w a len cap ps hl h20 hr).mono fun e w' ⟨h1, h2, h3⟩ => ⟨_, h1, h2, h3⟩
theorem toTrade (w : World) (a : Option Addr) (len cap : Nat) (ps : List Tup8.T8) (hl : ps.length = len) (h20 : len ≤ 1048576) (hr : Tup8.Reads8 w a ps) :
    Calls Try.prog 34 #[.slice a len cap] w fun e w' => ∃ g, e = .returned (.slice (some ⟨g, 0, none⟩) len len) ∧ Tup8.Own8 76 w' w.heap.size g len len ps ∧ Below w.heap.size w w' :=
  (TradeHelp.toS w a len cap ps hl h20 hr).mono fun e w' ⟨h1, h2, h3⟩ => ⟨_, h1, h2, h3⟩

set_option maxRecDepth 100000 in
set_option maxHeartbeats 4000000 in
theorem toB (w : World) (y : Ix) (h : RdI w y) (hs : Small y.b) :
    Calls Try.prog 15 #[.agg #[.slice y.aa y.b.ac.length y.ca, .slice y.ai y.b.ic.length y.ci, .slice y.ab y.b.bs.length y.cb, .slice y.al y.b.ls.length y.cl, .slice y.ats y.b.ts.length y.ct, .int .i64 y.b.lot]] w fun e w' => ∃ x : Bx, x.b = y.b ∧ e = .returned (.agg #[.slice (some ⟨x.ga, 0, none⟩) x.b.ac.length x.ca, .slice (some ⟨x.gi, 0, none⟩) x.b.ic.length x.ci, .slice (some ⟨x.gb, 0, none⟩) x.b.bs.length x.cb, .slice (some ⟨x.gl, 0, none⟩) x.b.ls.length x.cl, .slice (some ⟨x.gt, 0, none⟩) x.b.ts.length x.ct, .int .i64 x.b.lot]) ∧ Ow w' w.heap.size x ∧ Below w.heap.size w w' := by
  obtain ⟨na, ni, nb, nl, nt⟩ := hs
  have H := hide h
  have T0 := hide (show TB w (((w.alloc (.cells #[.slice y.aa y.b.ac.length y.ca, .slice y.ai y.b.ic.length y.ci, .slice y.ab y.b.bs.length y.cb, .slice y.al y.b.ls.length y.cl, .slice y.ats y.b.ts.length y.ct, .int .i64 y.b.lot] 39)).alloc (.cells #[.slice none 0 0, .slice none 0 0, .slice none 0 0, .slice none 0 0, .slice none 0 0, .int .i64 0] 48)).alloc (.cells #[.slice none 0 0, .slice none 0 0, .slice none 0 0, .slice none 0 0, .slice none 0 0, .int .i64 0] 48)) y (.slice none 0 0) (.slice none 0 0) (.slice none 0 0) (.slice none 0 0) (.slice none 0 0) (.int .i64 0) from by
    have b2 : Below (w.alloc (.cells #[.slice y.aa y.b.ac.length y.ca, .slice y.ai y.b.ic.length y.ci, .slice y.ab y.b.bs.length y.cb, .slice y.al y.b.ls.length y.cl, .slice y.ats y.b.ts.length y.ct, .int .i64 y.b.lot] 39)).heap.size (w.alloc (.cells #[.slice y.aa y.b.ac.length y.ca, .slice y.ai y.b.ic.length y.ci, .slice y.ab y.b.bs.length y.cb, .slice y.al y.b.ls.length y.cl, .slice y.ats y.b.ts.length y.ct, .int .i64 y.b.lot] 39)) (((w.alloc (.cells #[.slice y.aa y.b.ac.length y.ca, .slice y.ai y.b.ic.length y.ci, .slice y.ab y.b.bs.length y.cb, .slice y.al y.b.ls.length y.cl, .slice y.ats y.b.ts.length y.ct, .int .i64 y.b.lot] 39)).alloc (.cells #[.slice none 0 0, .slice none 0 0, .slice none 0 0, .slice none 0 0, .slice none 0 0, .int .i64 0] 48)).alloc (.cells #[.slice none 0 0, .slice none 0 0, .slice none 0 0, .slice none 0 0, .slice none 0 0, .int .i64 0] 48)) := ((Below.refl _ _).alloc (Nat.le_refl _) _).alloc (by simp) _
    exact ⟨((Below.refl w.heap.size w).alloc (Nat.le_refl _) _).trans (b2.mono (by simp)), (boxedI w y 39).below b2 (by simp), Box.made _ _ _ _ _ _ (by simp; omega) (by simp), (Box.made (w := w.alloc (.cells #[.slice y.aa y.b.ac.length y.ca, .slice y.ai y.b.ic.length y.ci, .slice y.ab y.b.bs.length y.cb, .slice y.al y.b.ls.length y.cl, .slice y.ats y.b.ts.length y.ct, .int .i64 y.b.lot] 39)) (g := w.heap.size + 1) _ _ _ _ _ _ (by simp) (by simp)).below (one_more _ _) (by simp)⟩)
  clear h
  go_enter Try.func15, Try.ntmps15
  go_wp2_with fail
  have U0 := T0
  refine (toAccount _ y.aa _ y.ca y.b.ac rfl na ((unhide H).below (unhide U0).b).ra).mono ?_
  rintro e w1 ⟨g0, rfl, o, bb⟩
  have T1 := hide ((unhide U0).call bb)
  have O0 := hide (show Pairs.Own 69 w1 (w.heap.size + 3) g0 y.b.ac.length y.b.ac.length y.b.ac from o.rebase (by have := (unhide U0).o.lt; have := o.lt; omega))
  clear bb o
  have c0 := (unhide T1).o.c0
  have d0 := (unhide T1).o.free 0
  have e1 := (unhide T1).ci.c1
  go_wp2_with fail
  have U1 := hide ((unhide T1).set0 (.slice (some ⟨g0, 0, none⟩) y.b.ac.length y.b.ac.length))
  replace O0 := hide (row_store (unhide O0) (a := ⟨w.heap.size + 1 + 1, 0, none⟩) (by simp) (.slice (some ⟨g0, 0, none⟩) y.b.ac.length y.b.ac.length))
  refine (toInstr _ y.ai _ y.ci y.b.ic rfl ni ((unhide H).below (unhide U1).b).ri).mono ?_
  rintro e w2 ⟨g1, rfl, o, bb⟩
  have T2 := hide ((unhide U1).call bb)
  have O1 := hide (show Pairs.Own 70 w2 (w.heap.size + 3) g1 y.b.ic.length y.b.ic.length y.b.ic from o.rebase (by have := (unhide U1).o.lt; have := o.lt; omega))
  replace O0 := hide (show Pairs.Own 69 w2 (w.heap.size + 3) g0 y.b.ac.length y.b.ac.length y.b.ac from Pairs.Own.below (unhide O0) bb (by have := World.ownsRow.lt (unhide O0) g0 rfl; omega))
  clear bb o
  have c1 := (unhide T2).o.c1
  have d1 := (unhide T2).o.free 1
  have e2 := (unhide T2).ci.c2
  go_wp2_with fail
  have U2 := hide ((unhide T2).set1 (.slice (some ⟨g1, 0, none⟩) y.b.ic.length y.b.ic.length))
  replace O0 := hide (row_store (unhide O0) (a := ⟨w.heap.size + 1 + 1, 1, none⟩) (by simp) (.slice (some ⟨g1, 0, none⟩) y.b.ic.length y.b.ic.length))
  replace O1 := hide (row_store (unhide O1) (a := ⟨w.heap.size + 1 + 1, 1, none⟩) (by simp) (.slice (some ⟨g1, 0, none⟩) y.b.ic.length y.b.ic.length))
  refine (toBal _ y.ab _ y.cb y.b.bs rfl nb ((unhide H).below (unhide U2).b).rb).mono ?_
  rintro e w3 ⟨g2, rfl, o, bb⟩
  have T3 := hide ((unhide U2).call bb)
  have O2 := hide (show Triples.Own3 72 w3 (w.heap.size + 3) g2 y.b.bs.length y.b.bs.length y.b.bs from o.rebase (by have := (unhide U2).o.lt; have := o.lt; omega))
  replace O0 := hide (show Pairs.Own 69 w3 (w.heap.size + 3) g0 y.b.ac.length y.b.ac.length y.b.ac from Pairs.Own.below (unhide O0) bb (by have := World.ownsRow.lt (unhide O0) g0 rfl; omega))
  replace O1 := hide (show Pairs.Own 70 w3 (w.heap.size + 3) g1 y.b.ic.length y.b.ic.length y.b.ic from Pairs.Own.below (unhide O1) bb (by have := World.ownsRow.lt (unhide O1) g1 rfl; omega))
  clear bb o
  have c2 := (unhide T3).o.c2
  have d2 := (unhide T3).o.free 2
  have e3 := (unhide T3).ci.c3
  go_wp2_with fail
  have U3 := hide ((unhide T3).set2 (.slice (some ⟨g2, 0, none⟩) y.b.bs.length y.b.bs.length))
  replace O0 := hide (row_store (unhide O0) (a := ⟨w.heap.size + 1 + 1, 2, none⟩) (by simp) (.slice (some ⟨g2, 0, none⟩) y.b.bs.length y.b.bs.length))
  replace O1 := hide (row_store (unhide O1) (a := ⟨w.heap.size + 1 + 1, 2, none⟩) (by simp) (.slice (some ⟨g2, 0, none⟩) y.b.bs.length y.b.bs.length))
  replace O2 := hide (row_store (unhide O2) (a := ⟨w.heap.size + 1 + 1, 2, none⟩) (by simp) (.slice (some ⟨g2, 0, none⟩) y.b.bs.length y.b.bs.length))
  refine (toLot _ y.al _ y.cl y.b.ls rfl nl ((unhide H).below (unhide U3).b).rl).mono ?_
  rintro e w4 ⟨g3, rfl, o, bb⟩
  have T4 := hide ((unhide U3).call bb)
  have O3 := hide (show Tup5.Own5 74 w4 (w.heap.size + 3) g3 y.b.ls.length y.b.ls.length y.b.ls from o.rebase (by have := (unhide U3).o.lt; have := o.lt; omega))
  replace O0 := hide (show Pairs.Own 69 w4 (w.heap.size + 3) g0 y.b.ac.length y.b.ac.length y.b.ac from Pairs.Own.below (unhide O0) bb (by have := World.ownsRow.lt (unhide O0) g0 rfl; omega))
  replace O1 := hide (show Pairs.Own 70 w4 (w.heap.size + 3) g1 y.b.ic.length y.b.ic.length y.b.ic from Pairs.Own.below (unhide O1) bb (by have := World.ownsRow.lt (unhide O1) g1 rfl; omega))
  replace O2 := hide (show Triples.Own3 72 w4 (w.heap.size + 3) g2 y.b.bs.length y.b.bs.length y.b.bs from Triples.Own3.below (unhide O2) bb (by have := World.ownsRow.lt (unhide O2) g2 rfl; omega))
  clear bb o
  have c3 := (unhide T4).o.c3
  have d3 := (unhide T4).o.free 3
  have e4 := (unhide T4).ci.c4
  go_wp2_with fail
  have U4 := hide ((unhide T4).set3 (.slice (some ⟨g3, 0, none⟩) y.b.ls.length y.b.ls.length))
  replace O0 := hide (row_store (unhide O0) (a := ⟨w.heap.size + 1 + 1, 3, none⟩) (by simp) (.slice (some ⟨g3, 0, none⟩) y.b.ls.length y.b.ls.length))
  replace O1 := hide (row_store (unhide O1) (a := ⟨w.heap.size + 1 + 1, 3, none⟩) (by simp) (.slice (some ⟨g3, 0, none⟩) y.b.ls.length y.b.ls.length))
  replace O2 := hide (row_store (unhide O2) (a := ⟨w.heap.size + 1 + 1, 3, none⟩) (by simp) (.slice (some ⟨g3, 0, none⟩) y.b.ls.length y.b.ls.length))
  replace O3 := hide (row_store (unhide O3) (a := ⟨w.heap.size + 1 + 1, 3, none⟩) (by simp) (.slice (some ⟨g3, 0, none⟩) y.b.ls.length y.b.ls.length))
  refine (toTrade _ y.ats _ y.ct y.b.ts rfl nt ((unhide H).below (unhide U4).b).rt).mono ?_
  rintro e w5 ⟨g4, rfl, o, bb⟩
  have T5 := hide ((unhide U4).call bb)
  have O4 := hide (show Tup8.Own8 76 w5 (w.heap.size + 3) g4 y.b.ts.length y.b.ts.length y.b.ts from o.rebase (by have := (unhide U4).o.lt; have := o.lt; omega))
  replace O0 := hide (show Pairs.Own 69 w5 (w.heap.size + 3) g0 y.b.ac.length y.b.ac.length y.b.ac from Pairs.Own.below (unhide O0) bb (by have := World.ownsRow.lt (unhide O0) g0 rfl; omega))
  replace O1 := hide (show Pairs.Own 70 w5 (w.heap.size + 3) g1 y.b.ic.length y.b.ic.length y.b.ic from Pairs.Own.below (unhide O1) bb (by have := World.ownsRow.lt (unhide O1) g1 rfl; omega))
  replace O2 := hide (show Triples.Own3 72 w5 (w.heap.size + 3) g2 y.b.bs.length y.b.bs.length y.b.bs from Triples.Own3.below (unhide O2) bb (by have := World.ownsRow.lt (unhide O2) g2 rfl; omega))
  replace O3 := hide (show Tup5.Own5 74 w5 (w.heap.size + 3) g3 y.b.ls.length y.b.ls.length y.b.ls from Tup5.Own5.below (unhide O3) bb (by have := World.ownsRow.lt (unhide O3) g3 rfl; omega))
  clear bb o
  have c4 := (unhide T5).o.c4
  have d4 := (unhide T5).o.free 4
  clear c0 c1 c2 c3 d0 d1 d2 d3 e1 e2 e3 e4
  have e5 := (unhide T5).ci.c5
  have c0 := (unhide T5).o.c0
  have c1 := (unhide T5).o.c1
  have c2 := (unhide T5).o.c2
  have c3 := (unhide T5).o.c3
  have c5 := (unhide T5).o.c5
  have d5 := (unhide T5).o.free 5
  have r0 := (unhide T5).r.c0
  have f0 := (unhide T5).r.free 0
  have r1 := (unhide T5).r.c1
  have f1 := (unhide T5).r.free 1
  have r2 := (unhide T5).r.c2
  have f2 := (unhide T5).r.free 2
  have r3 := (unhide T5).r.c3
  have f3 := (unhide T5).r.free 3
  have r4 := (unhide T5).r.c4
  have f4 := (unhide T5).r.free 4
  have r5 := (unhide T5).r.c5
  have f5 := (unhide T5).r.free 5
  have B5 := hide (unhide T5).b
  go_wp2
  refine bodyPost_ret (v := .agg #[.slice (some ⟨g0, 0, none⟩) y.b.ac.length y.b.ac.length, .slice (some ⟨g1, 0, none⟩) y.b.ic.length y.b.ic.length, .slice (some ⟨g2, 0, none⟩) y.b.bs.length y.b.bs.length, .slice (some ⟨g3, 0, none⟩) y.b.ls.length y.b.ls.length, .slice (some ⟨g4, 0, none⟩) y.b.ts.length y.b.ts.length, .int .i64 y.b.lot]) (by simp [results, Try.results15, go_sem, r0, r1, r2, r3, r4, r5]) rfl ⟨⟨g0, y.b.ac.length, g1, y.b.ic.length, g2, y.b.bs.length, g3, y.b.ls.length, g4, y.b.ts.length, y.b⟩, rfl, rfl, ?_, ?_⟩
  · exact Ow.rebase (base := w.heap.size + 3) ⟨(row_store (row_store (row_store (row_store (row_store (row_store (row_store (row_store (unhide O0) (a := ⟨w.heap.size + 1 + 1, 4, none⟩) (by simp) _) (a := ⟨w.heap.size + 1 + 1, 5, none⟩) (by simp) _) (a := ⟨w.heap.size + 1, 0, none⟩) (by simp) _) (a := ⟨w.heap.size + 1, 1, none⟩) (by simp) _) (a := ⟨w.heap.size + 1, 2, none⟩) (by simp) _) (a := ⟨w.heap.size + 1, 3, none⟩) (by simp) _) (a := ⟨w.heap.size + 1, 4, none⟩) (by simp) _) (a := ⟨w.heap.size + 1, 5, none⟩) (by simp) _), (row_store (row_store (row_store (row_store (row_store (row_store (row_store (row_store (unhide O1) (a := ⟨w.heap.size + 1 + 1, 4, none⟩) (by simp) _) (a := ⟨w.heap.size + 1 + 1, 5, none⟩) (by simp) _) (a := ⟨w.heap.size + 1, 0, none⟩) (by simp) _) (a := ⟨w.heap.size + 1, 1, none⟩) (by simp) _) (a := ⟨w.heap.size + 1, 2, none⟩) (by simp) _) (a := ⟨w.heap.size + 1, 3, none⟩) (by simp) _) (a := ⟨w.heap.size + 1, 4, none⟩) (by simp) _) (a := ⟨w.heap.size + 1, 5, none⟩) (by simp) _), (row_store (row_store (row_store (row_store (row_store (row_store (row_store (row_store (unhide O2) (a := ⟨w.heap.size + 1 + 1, 4, none⟩) (by simp) _) (a := ⟨w.heap.size + 1 + 1, 5, none⟩) (by simp) _) (a := ⟨w.heap.size + 1, 0, none⟩) (by simp) _) (a := ⟨w.heap.size + 1, 1, none⟩) (by simp) _) (a := ⟨w.heap.size + 1, 2, none⟩) (by simp) _) (a := ⟨w.heap.size + 1, 3, none⟩) (by simp) _) (a := ⟨w.heap.size + 1, 4, none⟩) (by simp) _) (a := ⟨w.heap.size + 1, 5, none⟩) (by simp) _), (row_store (row_store (row_store (row_store (row_store (row_store (row_store (row_store (unhide O3) (a := ⟨w.heap.size + 1 + 1, 4, none⟩) (by simp) _) (a := ⟨w.heap.size + 1 + 1, 5, none⟩) (by simp) _) (a := ⟨w.heap.size + 1, 0, none⟩) (by simp) _) (a := ⟨w.heap.size + 1, 1, none⟩) (by simp) _) (a := ⟨w.heap.size + 1, 2, none⟩) (by simp) _) (a := ⟨w.heap.size + 1, 3, none⟩) (by simp) _) (a := ⟨w.heap.size + 1, 4, none⟩) (by simp) _) (a := ⟨w.heap.size + 1, 5, none⟩) (by simp) _), (row_store (row_store (row_store (row_store (row_store (row_store (row_store (row_store (unhide O4) (a := ⟨w.heap.size + 1 + 1, 4, none⟩) (by simp) _) (a := ⟨w.heap.size + 1 + 1, 5, none⟩) (by simp) _) (a := ⟨w.heap.size + 1, 0, none⟩) (by simp) _) (a := ⟨w.heap.size + 1, 1, none⟩) (by simp) _) (a := ⟨w.heap.size + 1, 2, none⟩) (by simp) _) (a := ⟨w.heap.size + 1, 3, none⟩) (by simp) _) (a := ⟨w.heap.size + 1, 4, none⟩) (by simp) _) (a := ⟨w.heap.size + 1, 5, none⟩) (by simp) _)⟩ (by omega)
  · exact (((((((((unhide B5).setCell (p := ⟨w.heap.size + 1 + 1, 4, none⟩) (by simp; omega) _).setCell (p := ⟨w.heap.size + 1 + 1, 5, none⟩) (by simp; omega) _).setCell (p := ⟨w.heap.size + 1, 0, none⟩) (by simp) _).setCell (p := ⟨w.heap.size + 1, 1, none⟩) (by simp) _).setCell (p := ⟨w.heap.size + 1, 2, none⟩) (by simp) _).setCell (p := ⟨w.heap.size + 1, 3, none⟩) (by simp) _).setCell (p := ⟨w.heap.size + 1, 4, none⟩) (by simp) _).setCell (p := ⟨w.heap.size + 1, 5, none⟩) (by simp) _)

end Go.Proofs.Ytophnnmbgpinfaa.BHelp
