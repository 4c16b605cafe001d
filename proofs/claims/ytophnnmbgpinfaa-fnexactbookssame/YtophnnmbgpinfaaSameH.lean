/- Two books that came in, in their boxes; how much they hold, counted down from any number. -/
import Derived.Test.YtophnnmbgpinfaaLawB
namespace Go.Proofs.Ytophnnmbgpinfaa.SameH
open Go.ChangeShapes Go.WideShapes Go.ChangeAt Go.RowKit BMem Bks ILists BHelp BkEq
open IBalsFit (St one_more)
set_option linter.unusedVariables false
set_option linter.unusedSimpArgs false

set_option maxRecDepth 100000 in
set_option maxHeartbeats 2000000 in
theorem szM (w : World) (y : Ix) (mm : Int) (hm : 0 ≤ mm ∧ mm ≤ 1048576) (hf : Fits y.b) :
    Calls Try.prog 13 #[.agg #[.slice y.aa y.b.ac.length y.ca, .slice y.ai y.b.ic.length y.ci, .slice y.ab y.b.bs.length y.cb, .slice y.al y.b.ls.length y.cl, .slice y.ats y.b.ts.length y.ct, .int .i64 y.b.lot], .int .i64 mm] w fun e w' => ∃ r, e = .returned (.int .i64 r) ∧ (r = -1 ∨ ((0 ≤ r ∧ r ≤ 1048576) ∧ Small y.b)) ∧ Below w.heap.size w w' := by
  obtain ⟨fa, fi, fb, fl, ft⟩ := hf
  have B0 := hide ((Below.refl w.heap.size w).alloc (Nat.le_refl _) (.cells #[.slice y.aa y.b.ac.length y.ca, .slice y.ai y.b.ic.length y.ci, .slice y.ab y.b.bs.length y.cb, .slice y.al y.b.ls.length y.cl, .slice y.ats y.b.ts.length y.ct, .int .i64 y.b.lot] 39))
  go_enter Try.func13, Try.ntmps13
  go_wp2_with fail
  by_cases q0 : (y.b.ac.length : Int) ≤ mm
  rotate_left
  · refine (AccountMark.sz_no _ _ _ mm _ q0 (by omega) (by omega) fa).mono ?_
    rintro e u ⟨rfl, rfl⟩
    go_wp2
    go_ret
    exact ⟨-1, rfl, .inl rfl, unhide B0⟩
  refine (AccountMark.sz_yes _ _ _ mm _ q0 (by omega)).mono ?_
  rintro e u0 ⟨rfl, rfl⟩
  obtain ⟨m0, hm0⟩ : ∃ m : Int, Hid (m = mm - (y.b.ac.length : Int)) := ⟨_, rfl⟩
  rw [← unhide hm0]
  have M0 : 0 ≤ m0 ∧ m0 ≤ 1048576 := by have := unhide hm0; omega
  have Q0 := hide q0
  clear q0
  go_wp2_with fail
  by_cases q1 : (y.b.ic.length : Int) ≤ m0
  rotate_left
  · refine (InstrMark.sz_no _ _ _ m0 _ q1 (by omega) (by omega) fi).mono ?_
    rintro e u ⟨rfl, rfl⟩
    go_wp2
    go_ret
    exact ⟨-1, rfl, .inl rfl, unhide B0⟩
  refine (InstrMark.sz_yes _ _ _ m0 _ q1 (by omega)).mono ?_
  rintro e u1 ⟨rfl, rfl⟩
  obtain ⟨m1, hm1⟩ : ∃ m : Int, Hid (m = m0 - (y.b.ic.length : Int)) := ⟨_, rfl⟩
  rw [← unhide hm1]
  have M1 : 0 ≤ m1 ∧ m1 ≤ 1048576 := by have := unhide hm1; omega
  have Q1 := hide q1
  clear q1
  go_wp2_with fail
  by_cases q2 : (y.b.bs.length : Int) ≤ m1
  rotate_left
  · refine (BalHelp.sz_no _ _ _ m1 _ q2 (by omega) (by omega) fb).mono ?_
    rintro e u ⟨rfl, rfl⟩
    go_wp2
    go_ret
    exact ⟨-1, rfl, .inl rfl, unhide B0⟩
  refine (BalHelp.sz_yes _ _ _ m1 _ q2 (by omega)).mono ?_
  rintro e u2 ⟨rfl, rfl⟩
  obtain ⟨m2, hm2⟩ : ∃ m : Int, Hid (m = m1 - (y.b.bs.length : Int)) := ⟨_, rfl⟩
  rw [← unhide hm2]
  have M2 : 0 ≤ m2 ∧ m2 ≤ 1048576 := by have := unhide hm2; omega
  have Q2 := hide q2
  clear q2
  go_wp2_with fail
  by_cases q3 : (y.b.ls.length : Int) ≤ m2
  rotate_left
  · refine (LotHelp.sz_no _ _ _ m2 _ q3 (by omega) (by omega) fl).mono ?_
    rintro e u ⟨rfl, rfl⟩
    go_wp2
    go_ret
    exact ⟨-1, rfl, .inl rfl, unhide B0⟩
  refine (LotHelp.sz_yes _ _ _ m2 _ q3 (by omega)).mono ?_
  rintro e u3 ⟨rfl, rfl⟩
  obtain ⟨m3, hm3⟩ : ∃ m : Int, Hid (m = m2 - (y.b.ls.length : Int)) := ⟨_, rfl⟩
  rw [← unhide hm3]
  have M3 : 0 ≤ m3 ∧ m3 ≤ 1048576 := by have := unhide hm3; omega
  have Q3 := hide q3
  clear q3
  go_wp2_with fail
  by_cases q4 : (y.b.ts.length : Int) ≤ m3
  rotate_left
  · refine (TradeHelp.sz_no _ _ _ m3 _ q4 (by omega) (by omega) ft).mono ?_
    rintro e u ⟨rfl, rfl⟩
    go_wp2
    go_ret
    exact ⟨-1, rfl, .inl rfl, unhide B0⟩
  refine (TradeHelp.sz_yes _ _ _ m3 _ q4 (by omega)).mono ?_
  rintro e u4 ⟨rfl, rfl⟩
  obtain ⟨m4, hm4⟩ : ∃ m : Int, Hid (m = m3 - (y.b.ts.length : Int)) := ⟨_, rfl⟩
  rw [← unhide hm4]
  have M4 : 0 ≤ m4 ∧ m4 ≤ 1048576 := by have := unhide hm4; omega
  have Q4 := hide q4
  clear q4
  have SM := hide (show Small y.b from by
    have a0 := unhide Q0
    have a1 := unhide Q1
    have a2 := unhide Q2
    have a3 := unhide Q3
    have a4 := unhide Q4
    exact ⟨by omega, by omega, by omega, by omega, by omega⟩)
  go_wp2
  go_ret
  exact ⟨m4, rfl, .inr ⟨M4, unhide SM⟩, unhide B0⟩

/-- Two arguments, in their boxes. -/
structure L2 (w W : World) (y0 y1 : Ix) : Prop where
  r0 : RdI W y0
  r1 : RdI W y1
  c0 : ClI W w.heap.size y0
  c1 : ClI W (w.heap.size + 1) y1
  b : Below w.heap.size w W
  s : w.heap.size + 1 < W.heap.size

theorem L2.start {w : World} {y0 y1 : Ix} (h0 : RdI w y0) (h1 : RdI w y1) (e : TypeId) : L2 w ((w.alloc (.cells #[.slice y0.aa y0.b.ac.length y0.ca, .slice y0.ai y0.b.ic.length y0.ci, .slice y0.ab y0.b.bs.length y0.cb, .slice y0.al y0.b.ls.length y0.cl, .slice y0.ats y0.b.ts.length y0.ct, .int .i64 y0.b.lot] e)).alloc (.cells #[.slice y1.aa y1.b.ac.length y1.ca, .slice y1.ai y1.b.ic.length y1.ci, .slice y1.ab y1.b.bs.length y1.cb, .slice y1.al y1.b.ls.length y1.cl, .slice y1.ats y1.b.ts.length y1.ct, .int .i64 y1.b.lot] e)) y0 y1 := by
  have s := one_more (w.alloc (.cells #[.slice y0.aa y0.b.ac.length y0.ca, .slice y0.ai y0.b.ic.length y0.ci, .slice y0.ab y0.b.bs.length y0.cb, .slice y0.al y0.b.ls.length y0.cl, .slice y0.ats y0.b.ts.length y0.ct, .int .i64 y0.b.lot] e)) (.cells #[.slice y1.aa y1.b.ac.length y1.ca, .slice y1.ai y1.b.ic.length y1.ci, .slice y1.ab y1.b.bs.length y1.cb, .slice y1.al y1.b.ls.length y1.cl, .slice y1.ats y1.b.ts.length y1.ct, .int .i64 y1.b.lot] e)
  have c := boxedI (w.alloc (.cells #[.slice y0.aa y0.b.ac.length y0.ca, .slice y0.ai y0.b.ic.length y0.ci, .slice y0.ab y0.b.bs.length y0.cb, .slice y0.al y0.b.ls.length y0.cl, .slice y0.ats y0.b.ts.length y0.ct, .int .i64 y0.b.lot] e)) y1 e
  rw [show (w.alloc (.cells #[.slice y0.aa y0.b.ac.length y0.ca, .slice y0.ai y0.b.ic.length y0.ci, .slice y0.ab y0.b.bs.length y0.cb, .slice y0.al y0.b.ls.length y0.cl, .slice y0.ats y0.b.ts.length y0.ct, .int .i64 y0.b.lot] e)).heap.size = w.heap.size + 1 by simp] at c
  exact ⟨(h0.below (one_more _ _)).below s, (h1.below (one_more _ _)).below s, (boxedI w y0 e).below s (by simp), c, next (one_more _ _) s, by simp⟩

theorem L2.step {w W W' : World} {y0 y1 : Ix} (h : L2 w W y0 y1) (k : Below W.heap.size W W') : L2 w W' y0 y1 :=
  ⟨h.r0.below k, h.r1.below k, h.c0.below k (Nat.lt_of_succ_lt h.s), h.c1.below k h.s, h.b.trans (k.mono (Nat.le_of_lt (Nat.lt_of_succ_lt h.s))), Nat.lt_of_lt_of_le h.s k.size⟩

end Go.Proofs.Ytophnnmbgpinfaa.SameH
