/- Books that came in, off the reading of an argument. -/
import Derived.Test.YtophnnmbgpinfaaBkEq
import Derived.Test.YtophnnmbgpinfaaOpens
import Derived.Test.YtophnnmbgpinfaaOpens3
import Derived.Test.YtophnnmbgpinfaaOpens5
import Derived.Test.YtophnnmbgpinfaaOpens8
import Derived.Deep.Slices
namespace Go.Proofs.Ytophnnmbgpinfaa.OpensB
open Go.ChangeShapes Go.WideShapes Go.ChangeAt Go.RowKit BMem Bks BHelp BkEq
set_option linter.unusedVariables false
set_option linter.unusedSimpArgs false

theorem slice_cell {H : Type} {enc : TypeId × Value → H} {P : Program} {w : World} {base : Nat} {spare : Nat → Bool} {held : Bool} {t e : TypeId} {fuel : Nat} {v : Value} {x : DataW H × List MemPlace}
    (ht : P.underlying t = some (.slice e)) (h : DataW.trod enc P w base spare held fuel t [v] = some x) : ∃ a len cap, v = .slice a len cap := by
  rcases Deep.open_slice ht h with ⟨hcs, _⟩ | ⟨b, l, c, m, n, D, Pl, hcs, _⟩
  · simp at hcs
    exact ⟨_, _, _, hcs⟩
  · simp at hcs
    exact ⟨_, _, _, hcs⟩

theorem struct_cells {H : Type} {enc : TypeId × Value → H} {P : Program} {w : World} {base : Nat} {spare : Nat → Bool} {held : Bool} {e : TypeId} {f0 f1 f2 f3 f4 f5 : Field} {fuel : Nat} {cs : List Value} {x : DataW H × List MemPlace}
    (he : P.underlying e = some (.struct #[f0, f1, f2, f3, f4, f5])) (hc : (P.cellsOf e == 6 && P.cellsOf f0.type == 1 && P.cellsOf f1.type == 1 && P.cellsOf f2.type == 1 && P.cellsOf f3.type == 1 && P.cellsOf f4.type == 1 && P.cellsOf f5.type == 1 && f0.offset == 0 && f1.offset == 1 && f2.offset == 2 && f3.offset == 3 && f4.offset == 4 && f5.offset == 5) = true)
    (h : DataW.trod enc P w base spare held fuel e cs = some x) : ∃ v0 v1 v2 v3 v4 v5 k x0 x1 x2 x3 x4 x5, cs = [v0, v1, v2, v3, v4, v5] ∧ DataW.trod enc P w base spare held k f0.type [v0] = some x0 ∧ DataW.trod enc P w base spare held k f1.type [v1] = some x1 ∧ DataW.trod enc P w base spare held k f2.type [v2] = some x2 ∧ DataW.trod enc P w base spare held k f3.type [v3] = some x3 ∧ DataW.trod enc P w base spare held k f4.type [v4] = some x4 ∧ DataW.trod enc P w base spare held k f5.type [v5] = some x5 := by
  simp at hc
  obtain ⟨⟨⟨⟨⟨⟨⟨⟨⟨⟨⟨⟨ce, k0⟩, k1⟩, k2⟩, k3⟩, k4⟩, k5⟩, o0⟩, o1⟩, o2⟩, o3⟩, o4⟩, o5⟩ := hc
  obtain ⟨xs, k, _, _, hl, hlen, hf⟩ := DataW.trod_struct he h
  rw [ce] at hl
  match xs, hlen, cs, hl with
  | [y0, y1, y2, y3, y4, y5], _, [v0, v1, v2, v3, v4, v5], _ =>
    have g0 := hf 0 f0 rfl
    have g1 := hf 1 f1 rfl
    have g2 := hf 2 f2 rfl
    have g3 := hf 3 f3 rfl
    have g4 := hf 4 f4 rfl
    have g5 := hf 5 f5 rfl
    simp [o0, k0] at g0
    simp [o1, k1] at g1
    simp [o2, k2] at g2
    simp [o3, k3] at g3
    simp [o4, k4] at g4
    simp [o5, k5] at g5
    exact ⟨v0, v1, v2, v3, v4, v5, k, _, _, _, _, _, _, rfl, g0, g1, g2, g3, g4, g5⟩

set_option maxRecDepth 100000 in
theorem open_books {H : Type} {enc : TypeId × Value → H} {w : World} {base b0' : Nat} {spare : Nat → Bool} {held : Bool} {r : Reach} {v : Value} {d : DataW H} {p : List MemPlace}
    (hv : Value.okWide Try.prog w r b0' 39 v) (h : DataW.Trod enc Try.prog w base spare held 39 v d p) : ∃ y : Ix, v = .agg #[.slice y.aa y.b.ac.length y.ca, .slice y.ai y.b.ic.length y.ci, .slice y.ab y.b.bs.length y.cb, .slice y.al y.b.ls.length y.cl, .slice y.ats y.b.ts.length y.ct, .int .i64 y.b.lot] ∧ RdI w y ∧ Fits y.b := by
  obtain ⟨cs, rfl, _⟩ := okWide_struct Try.underlying39 hv
  obtain ⟨fuel, hf⟩ := h
  obtain ⟨v0, v1, v2, v3, v4, v5, k, x0, x1, x2, x3, x4, x5, e, g0, g1, g2, g3, g4, g5⟩ := struct_cells (cs := cs.toList) Try.underlying39 (by kernel_rfl) (by simpa [Value.cells] using hf)
  obtain ⟨a0, l0, c0, rfl⟩ := slice_cell Try.underlying33 g0
  obtain ⟨a1, l1, c1, rfl⟩ := slice_cell Try.underlying34 g1
  obtain ⟨a2, l2, c2, rfl⟩ := slice_cell Try.underlying35 g2
  obtain ⟨a3, l3, c3, rfl⟩ := slice_cell Try.underlying36 g3
  obtain ⟨a4, l4, c4, rfl⟩ := slice_cell Try.underlying37 g4
  obtain ⟨z, q, _⟩ := DataW.trod_int Try.underlying3 g5
  simp at q
  subst q
  obtain ⟨p0, rfl, m0, r0⟩ := Opens.open_pairs Try.underlying33 Try.underlying121 (by kernel_rfl) Try.underlying3 (a := a0) (len := l0) (cap := c0) g0
  obtain ⟨p1, rfl, m1, r1⟩ := Opens.open_pairs Try.underlying34 Try.underlying123 (by kernel_rfl) Try.underlying3 (a := a1) (len := l1) (cap := c1) g1
  obtain ⟨p2, rfl, m2, r2⟩ := Opens3.open_triples Try.underlying35 Try.underlying125 (by kernel_rfl) Try.underlying3 (a := a2) (len := l2) (cap := c2) g2
  obtain ⟨p3, rfl, m3, r3⟩ := Opens5.open_rows Try.underlying36 Try.underlying127 (by kernel_rfl) Try.underlying3 (a := a3) (len := l3) (cap := c3) g3
  obtain ⟨p4, rfl, m4, r4⟩ := Opens8.open_rows Try.underlying37 Try.underlying129 (by kernel_rfl) Try.underlying3 (a := a4) (len := l4) (cap := c4) g4
  exact ⟨⟨a0, c0, a1, c1, a2, c2, a3, c3, a4, c4, ⟨p0, p1, p2, p3, p4, z⟩⟩, congrArg Value.agg (Array.ext' e), ⟨r0, r1, r2, r3, r4⟩, ⟨m0, m1, m2, m3, m4⟩⟩

end Go.Proofs.Ytophnnmbgpinfaa.OpensB
