/- The laws' own sizes, equality and marks on books. -/
import Derived.Test.YtophnnmbgpinfaaBHelp
namespace Go.Proofs.Ytophnnmbgpinfaa.BkEq
open Go.ChangeShapes Go.WideShapes Go.ChangeAt Go.RowKit BMem Bks ILists BHelp
open IBalsFit (St one_more)
set_option linter.unusedVariables false
set_option linter.unusedSimpArgs false

/-- Lengths that an int holds. -/
def Fits (b : Bk) : Prop := b.ac.length ≤ 9223372036854775807 ∧ b.ic.length ≤ 9223372036854775807 ∧ b.bs.length ≤ 9223372036854775807 ∧ b.ls.length ≤ 9223372036854775807 ∧ b.ts.length ≤ 9223372036854775807

set_option maxRecDepth 100000 in
set_option maxHeartbeats 2000000 in
theorem szB (w : World) (y : Ix) (hf : Fits y.b) :
    Calls Try.prog 13 #[.agg #[.slice y.aa y.b.ac.length y.ca, .slice y.ai y.b.ic.length y.ci, .slice y.ab y.b.bs.length y.cb, .slice y.al y.b.ls.length y.cl, .slice y.ats y.b.ts.length y.ct, .int .i64 y.b.lot], .int .i64 1048576] w fun e w' => ∃ r, e = .returned (.int .i64 r) ∧ (r = -1 ∨ (0 ≤ r ∧ Small y.b)) ∧ Below w.heap.size w w' := by
  obtain ⟨fa, fi, fb, fl, ft⟩ := hf
  have B0 := hide ((Below.refl w.heap.size w).alloc (Nat.le_refl _) (.cells #[.slice y.aa y.b.ac.length y.ca, .slice y.ai y.b.ic.length y.ci, .slice y.ab y.b.bs.length y.cb, .slice y.al y.b.ls.length y.cl, .slice y.ats y.b.ts.length y.ct, .int .i64 y.b.lot] 39))
  go_enter Try.func13, Try.ntmps13
  go_wp2_with fail
  by_cases q0 : (y.b.ac.length : Int) ≤ 1048576
  rotate_left
  · refine (AccountMark.sz_no _ _ _ 1048576 _ q0 (by omega) (by omega) fa).mono ?_
    rintro e u ⟨rfl, rfl⟩
    go_wp2
    go_ret
    exact ⟨-1, rfl, .inl rfl, unhide B0⟩
  refine (AccountMark.sz_yes _ _ _ 1048576 _ q0 (by omega)).mono ?_
  rintro e u0 ⟨rfl, rfl⟩
  obtain ⟨m0, hm0⟩ : ∃ m : Int, Hid (m = 1048576 - (y.b.ac.length : Int)) := ⟨_, rfl⟩
  rw [← unhide hm0]
  have M0 : 0 ≤ m0 ∧ m0 ≤ 1048576 := by have := unhide hm0; omega
  have Q0 := hide q0
  clear q0
  go_wp2_with fail
  by_cases q1 : (y.b.ic.length : Int) ≤ m0
  rotate_left
  · refine (InstrMark.sz_no _ _ _ m0 _ q1 (by omega) (by omega) fi).mono ?_
    rintro e u ⟨rfl, rfl⟩
    go_wp2
    go_ret
    exact ⟨-1, rfl, .inl rfl, unhide B0⟩
  refine (InstrMark.sz_yes _ _ _ m0 _ q1 (by omega)).mono ?_
  rintro e u1 ⟨rfl, rfl⟩
  obtain ⟨m1, hm1⟩ : ∃ m : Int, Hid (m = m0 - (y.b.ic.length : Int)) := ⟨_, rfl⟩
  rw [← unhide hm1]
  have M1 : 0 ≤ m1 ∧ m1 ≤ 1048576 := by have := unhide hm1; omega
  have Q1 := hide q1
  clear q1
  go_wp2_with fail
  by_cases q2 : (y.b.bs.length : Int) ≤ m1
  rotate_left
  · refine (BalHelp.sz_no _ _ _ m1 _ q2 (by omega) (by omega) fb).mono ?_
    rintro e u ⟨rfl, rfl⟩
    go_wp2
    go_ret
    exact ⟨-1, rfl, .inl rfl, unhide B0⟩
  refine (BalHelp.sz_yes _ _ _ m1 _ q2 (by omega)).mono ?_
  rintro e u2 ⟨rfl, rfl⟩
  obtain ⟨m2, hm2⟩ : ∃ m : Int, Hid (m = m1 - (y.b.bs.length : Int)) := ⟨_, rfl⟩
  rw [← unhide hm2]
  have M2 : 0 ≤ m2 ∧ m2 ≤ 1048576 := by have := unhide hm2; omega
  have Q2 := hide q2
  clear q2
  go_wp2_with fail
  by_cases q3 : (y.b.ls.length : Int) ≤ m2
  rotate_left
  · refine (LotHelp.sz_no _ _ _ m2 _ q3 (by omega) (by omega) fl).mono ?_
    rintro e u ⟨rfl, rfl⟩
    go_wp2
    go_ret
    exact ⟨-1, rfl, .inl rfl, unhide B0⟩
  refine (LotHelp.sz_yes _ _ _ m2 _ q3 (by omega)).mono ?_
  rintro e u3 ⟨rfl, rfl⟩
  obtain ⟨m3, hm3⟩ : ∃ m : Int, Hid (m = m2 - (y.b.ls.length : Int)) := ⟨_, rfl⟩
  rw [← unhide hm3]
  have M3 : 0 ≤ m3 ∧ m3 ≤ 1048576 := by have := unhide hm3; omega
  have Q3 := hide q3
  clear q3
  go_wp2_with fail
  by_cases q4 : (y.b.ts.length : Int) ≤ m3
  rotate_left
  · refine (TradeHelp.sz_no _ _ _ m3 _ q4 (by omega) (by omega) ft).mono ?_
    rintro e u ⟨rfl, rfl⟩
    go_wp2
    go_ret
    exact ⟨-1, rfl, .inl rfl, unhide B0⟩
  refine (TradeHelp.sz_yes _ _ _ m3 _ q4 (by omega)).mono ?_
  rintro e u4 ⟨rfl, rfl⟩
  obtain ⟨m4, hm4⟩ : ∃ m : Int, Hid (m = m3 - (y.b.ts.length : Int)) := ⟨_, rfl⟩
  rw [← unhide hm4]
  have M4 : 0 ≤ m4 ∧ m4 ≤ 1048576 := by have := unhide hm4; omega
  have Q4 := hide q4
  clear q4
  have SM := hide (show Small y.b from by
    have a0 := unhide Q0
    have a1 := unhide Q1
    have a2 := unhide Q2
    have a3 := unhide Q3
    have a4 := unhide Q4
    exact ⟨by omega, by omega, by omega, by omega, by omega⟩)
  go_wp2
  go_ret
  exact ⟨m4, rfl, .inr ⟨M4.1, unhide SM⟩, unhide B0⟩

/-- The two boxes of what is compared. -/
structure Two (w W : World) (x y : Bx) : Prop where
  rx : Rd W x
  ry : Rd W y
  cx : Cl W w.heap.size x
  cy : Cl W (w.heap.size + 1) y
  b : Below w.heap.size w W
  s : w.heap.size + 1 < W.heap.size

theorem Two.step {w W W' : World} {x y : Bx} (h : Two w W x y) (k : Below W.heap.size W W') : Two w W' x y :=
  ⟨h.rx.below k, h.ry.below k, h.cx.below k (by have := h.s; omega), h.cy.below k h.s, h.b.trans (k.mono h.b.size), Nat.lt_of_lt_of_le h.s k.size⟩

theorem Two.start {w : World} {x y : Bx} (hx : Rd w x) (hy : Rd w y) (e : TypeId) : Two w ((w.alloc (.cells #[.slice (some ⟨x.ga, 0, none⟩) x.b.ac.length x.ca, .slice (some ⟨x.gi, 0, none⟩) x.b.ic.length x.ci, .slice (some ⟨x.gb, 0, none⟩) x.b.bs.length x.cb, .slice (some ⟨x.gl, 0, none⟩) x.b.ls.length x.cl, .slice (some ⟨x.gt, 0, none⟩) x.b.ts.length x.ct, .int .i64 x.b.lot] e)).alloc (.cells #[.slice (some ⟨y.ga, 0, none⟩) y.b.ac.length y.ca, .slice (some ⟨y.gi, 0, none⟩) y.b.ic.length y.ci, .slice (some ⟨y.gb, 0, none⟩) y.b.bs.length y.cb, .slice (some ⟨y.gl, 0, none⟩) y.b.ls.length y.cl, .slice (some ⟨y.gt, 0, none⟩) y.b.ts.length y.ct, .int .i64 y.b.lot] e)) x y := by
  have c := boxed (w.alloc (.cells #[.slice (some ⟨x.ga, 0, none⟩) x.b.ac.length x.ca, .slice (some ⟨x.gi, 0, none⟩) x.b.ic.length x.ci, .slice (some ⟨x.gb, 0, none⟩) x.b.bs.length x.cb, .slice (some ⟨x.gl, 0, none⟩) x.b.ls.length x.cl, .slice (some ⟨x.gt, 0, none⟩) x.b.ts.length x.ct, .int .i64 x.b.lot] e)) y e
  have c' : Cl ((w.alloc (.cells #[.slice (some ⟨x.ga, 0, none⟩) x.b.ac.length x.ca, .slice (some ⟨x.gi, 0, none⟩) x.b.ic.length x.ci, .slice (some ⟨x.gb, 0, none⟩) x.b.bs.length x.cb, .slice (some ⟨x.gl, 0, none⟩) x.b.ls.length x.cl, .slice (some ⟨x.gt, 0, none⟩) x.b.ts.length x.ct, .int .i64 x.b.lot] e)).alloc (.cells #[.slice (some ⟨y.ga, 0, none⟩) y.b.ac.length y.ca, .slice (some ⟨y.gi, 0, none⟩) y.b.ic.length y.ci, .slice (some ⟨y.gb, 0, none⟩) y.b.bs.length y.cb, .slice (some ⟨y.gl, 0, none⟩) y.b.ls.length y.cl, .slice (some ⟨y.gt, 0, none⟩) y.b.ts.length y.ct, .int .i64 y.b.lot] e)) (w.heap.size + 1) y := by simpa using c
  exact ⟨(hx.alloc _).alloc _, (hy.alloc _).alloc _, (boxed w x e).below (one_more _ _) (by simp), c', ((Below.refl w.heap.size w).alloc (Nat.le_refl _) _).alloc (by simp) _, by simp⟩

set_option maxRecDepth 100000 in
set_option maxHeartbeats 2000000 in
theorem eqB (w : World) (x y : Bx) (hb : y.b = x.b) (hx : Rd w x) (hy : Rd w y) :
    Calls Try.prog 17 #[.agg #[.slice (some ⟨x.ga, 0, none⟩) x.b.ac.length x.ca, .slice (some ⟨x.gi, 0, none⟩) x.b.ic.length x.ci, .slice (some ⟨x.gb, 0, none⟩) x.b.bs.length x.cb, .slice (some ⟨x.gl, 0, none⟩) x.b.ls.length x.cl, .slice (some ⟨x.gt, 0, none⟩) x.b.ts.length x.ct, .int .i64 x.b.lot], .agg #[.slice (some ⟨y.ga, 0, none⟩) y.b.ac.length y.ca, .slice (some ⟨y.gi, 0, none⟩) y.b.ic.length y.ci, .slice (some ⟨y.gb, 0, none⟩) y.b.bs.length y.cb, .slice (some ⟨y.gl, 0, none⟩) y.b.ls.length y.cl, .slice (some ⟨y.gt, 0, none⟩) y.b.ts.length y.ct, .int .i64 y.b.lot]] w fun e w' => e = .returned (.bool true) ∧ Below w.heap.size w w' := by
  obtain ⟨ga, ca, gi, ci, gb, cb, gl, cl, gt, ct, b⟩ := y
  obtain rfl : b = x.b := hb
  have T0 := hide (Two.start hx hy 48)
  have na := hx.na
  have ni := hx.ni
  have nb := hx.nb
  have nl := hx.nl
  have nt := hx.nt
  clear hx hy
  go_enter Try.func17, Try.ntmps17
  go_wp2_with fail
  refine (AccountHelp.eqS _ x.ga ga _ x.ca ca x.b.ac rfl na (unhide T0).rx.la (unhide T0).ry.la (unhide T0).rx.ra (unhide T0).ry.ra).mono ?_
  rintro e w1 ⟨rfl, bb⟩
  have T1 := hide ((unhide T0).step bb)
  clear bb
  have p1 := (unhide T1).cx.c1
  have r1 := (unhide T1).cy.c1
  go_wp2_with fail
  refine (InstrHelp.eqS _ x.gi gi _ x.ci ci x.b.ic rfl ni (unhide T1).rx.li (unhide T1).ry.li (unhide T1).rx.ri (unhide T1).ry.ri).mono ?_
  rintro e w2 ⟨rfl, bb⟩
  have T2 := hide ((unhide T1).step bb)
  clear bb
  have p2 := (unhide T2).cx.c2
  have r2 := (unhide T2).cy.c2
  go_wp2_with fail
  refine (BalHelp.eqS _ x.gb gb _ x.cb cb x.b.bs rfl nb (unhide T2).rx.lb (unhide T2).ry.lb (unhide T2).rx.rb (unhide T2).ry.rb).mono ?_
  rintro e w3 ⟨rfl, bb⟩
  have T3 := hide ((unhide T2).step bb)
  clear bb
  have p3 := (unhide T3).cx.c3
  have r3 := (unhide T3).cy.c3
  go_wp2_with fail
  refine (LotHelp.eqS _ x.gl gl _ x.cl cl x.b.ls rfl nl (unhide T3).rx.ll (unhide T3).ry.ll (unhide T3).rx.rl (unhide T3).ry.rl).mono ?_
  rintro e w4 ⟨rfl, bb⟩
  have T4 := hide ((unhide T3).step bb)
  clear bb
  have p4 := (unhide T4).cx.c4
  have r4 := (unhide T4).cy.c4
  go_wp2_with fail
  refine (TradeHelp.eqS _ x.gt gt _ x.ct ct x.b.ts rfl nt (unhide T4).rx.lt (unhide T4).ry.lt (unhide T4).rx.rt (unhide T4).ry.rt).mono ?_
  rintro e w5 ⟨rfl, bb⟩
  have T5 := hide ((unhide T4).step bb)
  clear bb
  have p5 := (unhide T5).cx.c5
  have r5 := (unhide T5).cy.c5
  go_wp2
  go_ret
  exact ⟨rfl, (unhide T5).b⟩

/-- Books that bear marks. -/
def e1 (b : Bk) : Int := 1 + 2 * (b.ac.length : Int)
def e2 (b : Bk) : Int := e1 b + 2 * (b.ic.length : Int)
def e3 (b : Bk) : Int := e2 b + 3 * (b.bs.length : Int)
def e4 (b : Bk) : Int := e3 b + 5 * (b.ls.length : Int)
def e5 (b : Bk) : Int := e4 b + 8 * (b.ts.length : Int)

theorem e_bd {b : Bk} (h : Small b) : (1 ≤ e1 b ∧ e1 b ≤ 100000000) ∧ (1 ≤ e2 b ∧ e2 b ≤ 100000000) ∧ (1 ≤ e3 b ∧ e3 b ≤ 100000000) ∧ (1 ≤ e4 b ∧ e4 b ≤ 100000000) ∧ (1 ≤ e5 b ∧ e5 b ≤ 100000000) := by
  obtain ⟨h1, h2, h3, h4, h5⟩ := h
  unfold e5 e4 e3 e2 e1
  omega

structure OwM (w : World) (base : Nat) (x : Bx) : Prop where
  oa : Pairs.Own 69 w base x.ga x.b.ac.length x.ca (AccountMark.marks 1 x.b.ac.length)
  oi : Pairs.Own 70 w base x.gi x.b.ic.length x.ci (InstrMark.marks (e1 x.b) x.b.ic.length)
  ob : Triples.Own3 72 w base x.gb x.b.bs.length x.cb (BalHelp.marks (e2 x.b) x.b.bs.length)
  ol : Tup5.Own5 74 w base x.gl x.b.ls.length x.cl (LotHelp.marks (e3 x.b) x.b.ls.length)
  ot : Tup8.Own8 76 w base x.gt x.b.ts.length x.ct (TradeHelp.marks (e4 x.b) x.b.ts.length)

theorem OwM.below {w w' : World} {base : Nat} {x : Bx} (h : OwM w base x) (k : Below w.heap.size w w') : OwM w' base x :=
  ⟨h.oa.below k h.oa.lt.2, h.oi.below k h.oi.lt.2, h.ob.below k h.ob.lt.2, h.ol.below k h.ol.lt.2, h.ot.below k h.ot.lt.2⟩

end Go.Proofs.Ytophnnmbgpinfaa.BkEq
