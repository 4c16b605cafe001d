/- At all books and numbers the program's BookFx answers as its model, writes into no argument, and its answer owns its memory. No condition. -/
import Derived.Test.YtnmeiiaipacplaaGreatRows
import Derived.Test.YtnmeiiaipacplaaGreatUG1
import Derived.Test.YtnmeiiaipacplaaGreatUG2
import Derived.Test.YtnmeiiaipacplaaGreatUG3
import Derived.Test.YtnmeiiaipacplaaGreatUG4
import Derived.Test.YtnmeiiaipacplaaGreatUG5
import Derived.Test.YtnmeiiaipacplaaGreatUG6
import Derived.Test.YtnmeiiaipacplaaGreatUG7
import Derived.Test.YtnmeiiaipacplaaGreatUG8
import Derived.Test.YtnmeiiaipacplaaGreatUG9
import Derived.Test.YtnmeiiaipacplaaGreatUG10
import Derived.ShutString
import Derived.ChangeOld
import Derived.Below
namespace Go.Proofs.YtnmeiiaipacplaaGreat.fnExactBookFx
open Go.ChangeShapes Go.WideShapes Go.ChangeAt Go.RowKit
open Go.ChangeMaps (open_string shut_string)
set_option linter.unusedVariables false
set_option linter.unusedSimpArgs false

theorem own : ownKnob Tryz.prog.godebug = none := by kernel_rfl
theorem laidOut : laidOutB Tryz.prog = true := by kernel_rfl

open BMem Bks BHelp BkEq LawB LawQ Ans
open BZero (eqB0 markB0 heldB0)
open Lots (Says says_of NoOk)
open IBalsFit (one_more)
open ILotsFit (below_of_drew)

theorem is_small {b b' : Bk} {x y f t am n d g c : Int} (h : Corp.IsFx b x y f t am n d b' g c) (s : Small b) : Small b' := by
  rcases h with ⟨_, rfl, _⟩ | ⟨_, _, rfl, _⟩ | ⟨_, _, q, r, ok, _, ⟨_, rfl, _⟩ | ⟨_, b1, c1, hp, ⟨_, rfl, _⟩ | ⟨_, rfl, _⟩⟩⟩
  · exact s
  · exact s
  · exact s
  · exact s
  · exact SIssue.posted_small hp s


set_option maxRecDepth 100000 in
set_option maxHeartbeats 8000000 in
theorem walk (y0 : BHelp.Ix) (a1 : Int) (a2 : Int) (a3 : Int) (a4 : Int) (a5 : Int) (a6 : Int) (a7 : Int) (w : World) (r0 : BHelp.RdI w y0) (f0 : BkEq.Fits y0.b) (w1 : (Lit.int .i64 a1).wf = true) (w2 : (Lit.int .i64 a2).wf = true) (w3 : (Lit.int .i64 a3).wf = true) (w4 : (Lit.int .i64 a4).wf = true) (w5 : (Lit.int .i64 a5).wf = true) (w6 : (Lit.int .i64 a6).wf = true) (w7 : (Lit.int .i64 a7).wf = true) :
    Calls Tryz.prog 3 #[.agg #[.slice y0.aa y0.b.ac.length y0.ca, .slice y0.ai y0.b.ic.length y0.ci, .slice y0.ab y0.b.bs.length y0.cb, .slice y0.al y0.b.ls.length y0.cl, .slice y0.ats y0.b.ts.length y0.ct, .int .i64 y0.b.lot], .int .i64 a1, .int .i64 a2, .int .i64 a3, .int .i64 a4, .int .i64 a5, .int .i64 a6, .int .i64 a7] w fun e w' => e = .returned (.bool true) ∧ Below w.heap.size w w' := by
  have H := hide r0
  have L0 := hide (LB.start r0 28)
  clear r0
  go_enter Tryz.func3, Tryz.ntmps3
  go_wp2_with fail
  refine (szB _ y0 f0).mono ?_
  rintro e u0 ⟨r, rfl, hr, bb⟩
  have L1 := hide ((unhide L0).step bb)
  clear bb L0
  rcases hr with rfl | ⟨r1, sm⟩
  · go_wp2
    go_ret
    exact ⟨rfl, (unhide L1).b⟩
  have SM := hide sm
  have rn : ¬ r < 0 := by omega
  clear sm r1
  obtain ⟨c0, c1, c2, c3, c4, c5⟩ := (unhide L1).c
  go_wp2_with fail
  refine (toB _ y0 (unhide L1).r (unhide SM)).mono ?_
  rintro e u1 ⟨z0, hz0, rfl, oz0, bb⟩
  have L2 := hide ((unhide L1).step bb)
  have RZ := hide (oz0.rd (by rw [hz0]; exact unhide SM))
  have HZ := hide hz0
  clear bb oz0 hz0 L1
  go_wp2_with fail
  refine (SFx.sFx _ z0 a1 a2 a3 a4 a5 a6 a7 (unhide RZ)).mono ?_
  rintro e u2 (⟨N, rfl, bb⟩ | ⟨T, z, t, c, hP, rfl, oz, bb⟩)
  · rw [unhide HZ] at N
    have L3 := hide (((unhide L2).step bb).step (one_more u2 (.cells #[.slice none 0 0, .slice none 0 0, .slice none 0 0, .slice none 0 0, .slice none 0 0, .int .i64 0] 36)))
    have hn : w.heap.size < u2.heap.size := Nat.lt_of_lt_of_le (unhide L2).s bb.size
    have Z3 := hide (Zv.made u2 36)
    have NN := hide N
    clear bb N L2 RZ HZ c0 c1 c2 c3 c4 c5
    obtain ⟨c0, c1, c2, c3, c4, c5⟩ := (unhide L3).c
    go_wp2_with fail
    refine (toB _ y0 (unhide L3).r (unhide SM)).mono ?_
    rintro e u3 ⟨x, hx, rfl, ox, bb⟩
    have X4 := hide (show ZX w (u3.alloc (.cells #[.slice (some ⟨x.ga, 0, none⟩) x.b.ac.length x.ca, .slice (some ⟨x.gi, 0, none⟩) x.b.ic.length x.ci, .slice (some ⟨x.gb, 0, none⟩) x.b.bs.length x.cb, .slice (some ⟨x.gl, 0, none⟩) x.b.ls.length x.cl, .slice (some ⟨x.gt, 0, none⟩) x.b.ts.length x.ct, .int .i64 x.b.lot] 36)) y0 x u2.heap.size u3.heap.size from ⟨((unhide L3).step bb).step (one_more _ _), ((unhide Z3).step bb).step (one_more _ _), Bv.made 36 rfl, ow_alloc (by simpa using ox) _, ow_up ox, hn⟩)
    have HX := hide hx
    clear bb ox hx L3 Z3 hn c0 c1 c2 c3 c4 c5
    go_wp2_with fail
    refine (FxTellI.iTell _ x a1 a2 a3 a4 a5 a6 a7 ((unhide X4).ox.rd (by rw [unhide HX]; exact unhide SM))).mono ?_
    rintro e u4 (⟨N, rfl, bb⟩ | ⟨T, g, t', c', hP, rfl, og, bb⟩)
    rotate_left
    · rw [unhide HX] at T
      exact absurd T (unhide NN)
    have X5 := hide (((unhide X4).step bb).step (one_more u4 (.cells #[.slice none 0 0, .slice none 0 0, .slice none 0 0, .slice none 0 0, .slice none 0 0, .int .i64 0] 36)))
    have G5 := hide (Zv.made u4 36)
    have hg : u3.heap.size ≤ u4.heap.size := by have := bb.size; simp at this; omega
    clear bb N X4
    obtain ⟨c0, c1, c2, c3, c4, c5, cl⟩ := (unhide X5).zz
    go_wp2_with fail
    refine (eqB0 _).mono ?_
    rintro e u5 ⟨rfl, bb⟩
    have X6 := hide ((unhide X5).step bb)
    have G6 := hide ((unhide G5).step bb)
    clear bb X5 G5 c0 c1 c2 c3 c4 c5 cl
    go_wp2_with fail
    have K4 := cells12 (unhide X6).l.c (unhide X6).bx.c
    go_region_held3 (fun w' => w'.cell? ⟨w.heap.size, 0, none⟩ = some (.slice y0.aa y0.b.ac.length y0.ca) ∧ w'.cell? ⟨w.heap.size, 1, none⟩ = some (.slice y0.ai y0.b.ic.length y0.ci) ∧ w'.cell? ⟨w.heap.size, 2, none⟩ = some (.slice y0.ab y0.b.bs.length y0.cb) ∧ w'.cell? ⟨w.heap.size, 3, none⟩ = some (.slice y0.al y0.b.ls.length y0.cl) ∧ w'.cell? ⟨w.heap.size, 4, none⟩ = some (.slice y0.ats y0.b.ts.length y0.ct) ∧ w'.cell? ⟨w.heap.size, 5, none⟩ = some (.int .i64 y0.b.lot) ∧ w'.cell? ⟨u3.heap.size, 0, none⟩ = some (.slice (some ⟨x.ga, 0, none⟩) x.b.ac.length x.ca) ∧ w'.cell? ⟨u3.heap.size, 1, none⟩ = some (.slice (some ⟨x.gi, 0, none⟩) x.b.ic.length x.ci) ∧ w'.cell? ⟨u3.heap.size, 2, none⟩ = some (.slice (some ⟨x.gb, 0, none⟩) x.b.bs.length x.cb) ∧ w'.cell? ⟨u3.heap.size, 3, none⟩ = some (.slice (some ⟨x.gl, 0, none⟩) x.b.ls.length x.cl) ∧ w'.cell? ⟨u3.heap.size, 4, none⟩ = some (.slice (some ⟨x.gt, 0, none⟩) x.b.ts.length x.ct) ∧ w'.cell? ⟨u3.heap.size, 5, none⟩ = some (.int .i64 x.b.lot)) (first | exact K4 | exact K5 | exact K6)
      (first | (go_at_call 9; refine (toB u5.drew y0 (rdI_drew (unhide X6).l.r) (unhide SM)).mono ?_; rintro e u6 ⟨q, hqb, rfl, oq, bb⟩; have bW : Below u5.heap.size u5 u6 := below_of_drew bb; have X7 := hide ((unhide X6).step bW); have G7 := hide ((unhide G6).step bW); have K5 := cells12 (unhide X7).l.c (unhide X7).bx.c; have HQ := hide hqb; have OQ := hide oq; clear hqb oq bb bW) | (go_at_call 11; refine (eqB u6 x q (by rw [unhide HQ, unhide HX]) ((unhide X7).ox.rd (by rw [unhide HX]; exact unhide SM)) ((unhide OQ).rd (by rw [unhide HQ]; exact unhide SM))).mono ?_; rintro e u7 ⟨rfl, bb6⟩; have X8 := hide ((unhide X7).step bb6); have G8 := hide ((unhide G7).step bb6); have K6 := cells12 (unhide X8).l.c (unhide X8).bx.c; clear bb6))
    clear K4 K5 K6
    have EX := (e_bd (b := x.b) (by rw [unhide HX]; exact unhide SM)).2.2.2.2
    obtain ⟨ex, hex⟩ : ∃ ex, Hid (e5 x.b = ex) := ⟨_, rfl⟩
    have ex0 : decide (ex < 0) = false := decide_eq_false (by rw [← unhide hex]; omega)
    clear EX
    obtain ⟨c0, c1, c2, c3, c4, c5⟩ := (unhide X8).bx.c
    go_wp2_with fail
    refine (markB _ _ x (unhide X8).ox (by rw [unhide HX]; exact unhide SM)).mono ?_
    rintro e u8 ⟨rfl, _, tn⟩
    rw [unhide hex]
    have Y9 := hide ((unhide X8).turn (unhide H) (unhide G8) hg tn)
    clear tn X6 X7 X8 G6 G7 G8 c0 c1 c2 c3 c4 c5
    obtain ⟨c0, c1, c2, c3, c4, c5, cl⟩ := (unhide Y9).zz
    obtain ⟨d0, d1, d2, d3, d4, d5, dl⟩ := (unhide Y9).zg
    go_wp2_with fail
    refine (eqB0 _).mono ?_
    rintro e u9 ⟨rfl, bb⟩
    have Y10 := hide ((unhide Y9).step bb)
    clear bb Y9 c0 c1 c2 c3 c4 c5 cl d0 d1 d2 d3 d4 d5 dl
    obtain ⟨d0, d1, d2, d3, d4, d5, dl⟩ := (unhide Y10).zg
    go_wp2_with fail
    refine (markB0 _).mono ?_
    rintro e u10 ⟨rfl, bb⟩
    have Y11 := hide ((unhide Y10).step bb)
    clear bb Y10 d0 d1 d2 d3 d4 d5 dl
    obtain ⟨d0, d1, d2, d3, d4, d5, dl⟩ := (unhide Y11).zg
    go_wp2_with fail
    refine (heldB0 _).mono ?_
    rintro e u11 ⟨rfl, bb⟩
    have Y12 := hide ((unhide Y11).step bb)
    clear bb Y11 d0 d1 d2 d3 d4 d5 dl
    obtain ⟨c0, c1, c2, c3, c4, c5⟩ := (unhide Y12).l.c
    go_wp2_with fail
    refine (toB _ y0 (unhide Y12).l.r (unhide SM)).mono ?_
    rintro e u12 ⟨v, hv, rfl, ov, bb⟩
    have Y13 := hide ((unhide Y12).step bb)
    have OV := hide ov
    have HV := hide hv
    clear bb ov hv Y12 c0 c1 c2 c3 c4 c5
    go_wp2_with fail
    refine (FxTellI.iTell _ v a1 a2 a3 a4 a5 a6 a7 ((unhide OV).rd (by rw [unhide HV]; exact unhide SM))).mono ?_
    rintro e u13 (⟨N, rfl, bb⟩ | ⟨T, h, t2', c2', hP, rfl, oh, bb⟩)
    rotate_left
    · rw [unhide HV] at T
      exact absurd T (unhide NN)
    have Y14 := hide (((unhide Y13).step bb).step (one_more u13 (.cells #[.slice none 0 0, .slice none 0 0, .slice none 0 0, .slice none 0 0, .slice none 0 0, .int .i64 0] 36)))
    clear bb N Y13
    obtain ⟨c0, c1, c2, c3, c4, c5, cl⟩ := (unhide Y14).zz
    go_wp2_with fail
    refine (eqB0 _).mono ?_
    rintro e u14 ⟨rfl, bb⟩
    have Y15 := hide ((unhide Y14).step bb)
    clear bb Y14 c0 c1 c2 c3 c4 c5 cl
    obtain ⟨d0, d1, d2, d3, d4, d5, dl⟩ := (unhide Y15).zg
    go_wp2_with fail
    refine (heldB0 _).mono ?_
    rintro e u15 ⟨rfl, bb⟩
    have Y16 := hide ((unhide Y15).step bb)
    clear bb Y15 d0 d1 d2 d3 d4 d5 dl
    go_wp2
    go_ret
    exact ⟨rfl, (unhide Y16).l.b⟩
  rw [unhide HZ] at T hP
  have L3 := hide ((unhide L2).step bb)
  have Q3 := hide (show QZ w (u2.alloc (.cells #[.slice (some ⟨z.ga, 0, none⟩) z.b.ac.length z.ca, .slice (some ⟨z.gi, 0, none⟩) z.b.ic.length z.ci, .slice (some ⟨z.gb, 0, none⟩) z.b.bs.length z.cb, .slice (some ⟨z.gl, 0, none⟩) z.b.ls.length z.cl, .slice (some ⟨z.gt, 0, none⟩) z.b.ts.length z.ct, .int .i64 z.b.lot] 36)) y0 z u2.heap.size from ⟨(unhide L3).step (one_more _ _), Bv.made 36 rfl, ow_alloc (oz.rebase (unhide L2).s) _, ow_up oz, (unhide L3).s⟩)
  have PZ := hide hP
  have TT := hide T
  have SZ := hide (is_small hP (unhide SM))
  clear bb oz hP T L2 RZ HZ c0 c1 c2 c3 c4 c5 L3
  obtain ⟨c0, c1, c2, c3, c4, c5⟩ := (unhide Q3).l.c
  go_wp2_with fail
  refine (toB _ y0 (unhide Q3).l.r (unhide SM)).mono ?_
  rintro e u3 ⟨x, hx, rfl, ox, bb⟩
  have Q4 := hide (show QX w (u3.alloc (.cells #[.slice (some ⟨x.ga, 0, none⟩) x.b.ac.length x.ca, .slice (some ⟨x.gi, 0, none⟩) x.b.ic.length x.ci, .slice (some ⟨x.gb, 0, none⟩) x.b.bs.length x.cb, .slice (some ⟨x.gl, 0, none⟩) x.b.ls.length x.cl, .slice (some ⟨x.gt, 0, none⟩) x.b.ts.length x.ct, .int .i64 x.b.lot] 36)) y0 z x u2.heap.size u3.heap.size from ⟨((unhide Q3).step bb).step (one_more _ _), Bv.made 36 rfl, ow_alloc (by simpa using ox) _, ow_up ox, by have := bb.size; simp at this; omega⟩)
  have HX := hide hx
  clear bb ox hx Q3 c0 c1 c2 c3 c4 c5
  go_wp2_with fail
  refine (FxTellI.iTell _ x a1 a2 a3 a4 a5 a6 a7 ((unhide Q4).ox.rd (by rw [unhide HX]; exact unhide SM))).mono ?_
  rintro e u4 (⟨N, rfl, bb⟩ | ⟨T, g, t', c', hP, rfl, og, bb⟩)
  · exact absurd (by rw [unhide HX]; exact unhide TT) N
  rw [unhide HX] at hP
  obtain ⟨hgz, rfl, rfl⟩ := hP.same (unhide PZ)
  have Q5 := hide (show QG w (u4.alloc (.cells #[.slice (some ⟨g.ga, 0, none⟩) g.b.ac.length g.ca, .slice (some ⟨g.gi, 0, none⟩) g.b.ic.length g.ci, .slice (some ⟨g.gb, 0, none⟩) g.b.bs.length g.cb, .slice (some ⟨g.gl, 0, none⟩) g.b.ls.length g.cl, .slice (some ⟨g.gt, 0, none⟩) g.b.ts.length g.ct, .int .i64 g.b.lot] 36)) y0 z x g u2.heap.size u3.heap.size u4.heap.size from ⟨((unhide Q4).step bb).step (one_more _ _), Bv.made 36 rfl, ow_alloc (by simpa using og) _, ow_up og, by have := bb.size; simp at this; omega⟩)
  have GZ := hide hgz
  have SG := hide (show Small g.b from by rw [hgz]; exact unhide SZ)
  clear bb og hgz hP T Q4
  obtain ⟨c0, c1, c2, c3, c4, c5⟩ := (unhide Q5).q.q.bz.c
  have hq : (c' != c') = false := by simp
  have hq2 : (t' != t') = false := by simp
  go_wp2_with fail
  refine (eqB _ g z (unhide GZ).symm ((unhide Q5).og.rd (unhide SG)) ((unhide Q5).q.q.oz.rd (unhide SZ))).mono ?_
  rintro e u5 ⟨rfl, bb⟩
  have Q6 := hide ((unhide Q5).step bb)
  clear bb Q5 c0 c1 c2 c3 c4 c5
  go_wp2_with fail
  have K4 := cells12 (unhide Q6).q.q.l.c (unhide Q6).q.bx.c
  clear hq hq2
  go_region_held3 (fun w' => w'.cell? ⟨w.heap.size, 0, none⟩ = some (.slice y0.aa y0.b.ac.length y0.ca) ∧ w'.cell? ⟨w.heap.size, 1, none⟩ = some (.slice y0.ai y0.b.ic.length y0.ci) ∧ w'.cell? ⟨w.heap.size, 2, none⟩ = some (.slice y0.ab y0.b.bs.length y0.cb) ∧ w'.cell? ⟨w.heap.size, 3, none⟩ = some (.slice y0.al y0.b.ls.length y0.cl) ∧ w'.cell? ⟨w.heap.size, 4, none⟩ = some (.slice y0.ats y0.b.ts.length y0.ct) ∧ w'.cell? ⟨w.heap.size, 5, none⟩ = some (.int .i64 y0.b.lot) ∧ w'.cell? ⟨u3.heap.size, 0, none⟩ = some (.slice (some ⟨x.ga, 0, none⟩) x.b.ac.length x.ca) ∧ w'.cell? ⟨u3.heap.size, 1, none⟩ = some (.slice (some ⟨x.gi, 0, none⟩) x.b.ic.length x.ci) ∧ w'.cell? ⟨u3.heap.size, 2, none⟩ = some (.slice (some ⟨x.gb, 0, none⟩) x.b.bs.length x.cb) ∧ w'.cell? ⟨u3.heap.size, 3, none⟩ = some (.slice (some ⟨x.gl, 0, none⟩) x.b.ls.length x.cl) ∧ w'.cell? ⟨u3.heap.size, 4, none⟩ = some (.slice (some ⟨x.gt, 0, none⟩) x.b.ts.length x.ct) ∧ w'.cell? ⟨u3.heap.size, 5, none⟩ = some (.int .i64 x.b.lot)) (first | exact K4 | exact K5 | exact K6)
    (first | (go_at_call 9; refine (toB u5.drew y0 (rdI_drew (unhide Q6).q.q.l.r) (unhide SM)).mono ?_; rintro e u6 ⟨q, hqb, rfl, oq, bb⟩; have bW : Below u5.heap.size u5 u6 := below_of_drew bb; have Q7 := hide ((unhide Q6).step bW); have K5 := cells12 (unhide Q7).q.q.l.c (unhide Q7).q.bx.c; have HQ := hide hqb; have OQ := hide oq; clear hqb oq bb bW) | (go_at_call 11; refine (eqB u6 x q (by rw [unhide HQ, unhide HX]) ((unhide Q7).q.ox.rd (by rw [unhide HX]; exact unhide SM)) ((unhide OQ).rd (by rw [unhide HQ]; exact unhide SM))).mono ?_; rintro e u7 ⟨rfl, bb6⟩; have Q8 := hide ((unhide Q7).step bb6); have K6 := cells12 (unhide Q8).q.q.l.c (unhide Q8).q.bx.c; clear bb6))
  clear K4 K5 K6
  have EX := (e_bd (b := x.b) (by rw [unhide HX]; exact unhide SM)).2.2.2.2
  have EG := (e_bd (unhide SG)).2.2.2.2
  obtain ⟨ex, hex⟩ : ∃ ex, Hid (e5 x.b = ex) := ⟨_, rfl⟩
  obtain ⟨eg, heg⟩ : ∃ eg, Hid (e5 g.b = eg) := ⟨_, rfl⟩
  have ex0 : decide (ex < 0) = false := decide_eq_false (by rw [← unhide hex]; omega)
  have eg0 : decide (eg < 0) = false := decide_eq_false (by rw [← unhide heg]; omega)
  clear EX EG
  obtain ⟨c0, c1, c2, c3, c4, c5⟩ := (unhide Q8).q.bx.c
  go_wp2_with fail
  refine (markB _ _ x (unhide Q8).q.ox (by rw [unhide HX]; exact unhide SM)).mono ?_
  rintro e u8 ⟨rfl, _, tn⟩
  rw [unhide hex]
  have Q9 := hide ((unhide Q8).turn (unhide H) tn)
  clear tn Q6 Q7 Q8 c0 c1 c2 c3 c4 c5
  obtain ⟨c0, c1, c2, c3, c4, c5⟩ := (unhide Q9).q.bz.c
  obtain ⟨d0, d1, d2, d3, d4, d5⟩ := (unhide Q9).bg.c
  have hq : (c' != c') = false := by simp
  have hq2 : (t' != t') = false := by simp
  go_wp2_with fail
  refine (eqB _ g z (unhide GZ).symm ((unhide Q9).og.rd (unhide SG)) ((unhide Q9).q.oz.rd (unhide SZ))).mono ?_
  rintro e u9 ⟨rfl, bb⟩
  have Q10 := hide ((unhide Q9).step bb)
  clear bb Q9 c0 c1 c2 c3 c4 c5 d0 d1 d2 d3 d4 d5
  obtain ⟨d0, d1, d2, d3, d4, d5⟩ := (unhide Q10).bg.c
  go_wp2_with fail
  refine (markB _ _ g (unhide Q10).og (unhide SG)).mono ?_
  rintro e u10 ⟨rfl, om, tn⟩
  rw [unhide heg]
  have Q11 := hide ((unhide Q10).turn (unhide H) tn om)
  clear tn om Q10 d0 d1 d2 d3 d4 d5
  obtain ⟨d0, d1, d2, d3, d4, d5⟩ := (unhide Q11).bg.c
  go_wp2_with fail
  refine (heldB _ _ g (unhide Q11).og (unhide SG)).mono ?_
  rintro e u11 ⟨rfl, bb⟩
  rw [unhide heg]
  have Q12 := hide ((unhide Q11).step bb)
  clear bb Q11 d0 d1 d2 d3 d4 d5
  have he : (eg != eg) = false := by simp
  obtain ⟨c0, c1, c2, c3, c4, c5⟩ := (unhide Q12).q.l.c
  go_wp2_with fail
  refine (toB _ y0 (unhide Q12).q.l.r (unhide SM)).mono ?_
  rintro e u12 ⟨v, hv, rfl, ov, bb⟩
  have Q13 := hide ((unhide Q12).step bb)
  have OV := hide ov
  have HV := hide hv
  clear bb ov hv Q12 c0 c1 c2 c3 c4 c5
  go_wp2_with fail
  refine (FxTellI.iTell _ v a1 a2 a3 a4 a5 a6 a7 ((unhide OV).rd (by rw [unhide HV]; exact unhide SM))).mono ?_
  rintro e u13 (⟨N, rfl, bb⟩ | ⟨T, h, t2', c2', hP, rfl, oh, bb⟩)
  · exact absurd (by rw [unhide HV]; exact unhide TT) N
  rw [unhide HV] at hP
  obtain ⟨hhz, rfl, rfl⟩ := hP.same (unhide PZ)
  have Q14 := hide (((unhide Q13).step bb).step (one_more u13 (.cells #[.slice (some ⟨h.ga, 0, none⟩) h.b.ac.length h.ca, .slice (some ⟨h.gi, 0, none⟩) h.b.ic.length h.ci, .slice (some ⟨h.gb, 0, none⟩) h.b.bs.length h.cb, .slice (some ⟨h.gl, 0, none⟩) h.b.ls.length h.cl, .slice (some ⟨h.gt, 0, none⟩) h.b.ts.length h.ct, .int .i64 h.b.lot] 36)))
  have BH := hide (Bv.made (w := u13) (x := h) 36 rfl)
  have OH := hide (ow_alloc oh (.cells #[.slice (some ⟨h.ga, 0, none⟩) h.b.ac.length h.ca, .slice (some ⟨h.gi, 0, none⟩) h.b.ic.length h.ci, .slice (some ⟨h.gb, 0, none⟩) h.b.bs.length h.cb, .slice (some ⟨h.gl, 0, none⟩) h.b.ls.length h.cl, .slice (some ⟨h.gt, 0, none⟩) h.b.ts.length h.ct, .int .i64 h.b.lot] 36))
  have HZ' := hide hhz
  have SH := hide (show Small h.b from by rw [hhz]; exact unhide SZ)
  clear bb oh hhz hP T Q13
  obtain ⟨c0, c1, c2, c3, c4, c5⟩ := (unhide Q14).q.bz.c
  go_wp2_with fail
  refine (eqB _ h z (unhide HZ').symm ((unhide OH).rd (unhide SH)) ((unhide Q14).q.oz.rd (unhide SZ))).mono ?_
  rintro e u14 ⟨rfl, bb⟩
  have Q15 := hide ((unhide Q14).step bb)
  clear bb Q14 c0 c1 c2 c3 c4 c5
  obtain ⟨d0, d1, d2, d3, d4, d5⟩ := (unhide Q15).bg.c
  go_wp2_with fail
  refine (heldB _ _ g (unhide Q15).og (unhide SG)).mono ?_
  rintro e u15 ⟨rfl, bb⟩
  rw [unhide heg]
  have Q16 := hide ((unhide Q15).step bb)
  clear bb Q15 d0 d1 d2 d3 d4 d5
  go_wp2
  go_ret
  exact ⟨rfl, (unhide Q16).q.l.b⟩

set_option maxRecDepth 100000 in
theorem lifted (os : Os) (started : os.Started) (H : Type) (enc : TypeId × Value → H) :
    ReturnsInHanded {} Tryz.checked os 3 .any (Rows.fnExactBookFxSpec.pre6 enc Tryz.prog Tryz.f3 Rows.fnExactBookFxRow.domain false) (Rows.fnExactBookFxSpec.post enc Tryz.prog Tryz.f3 false true false false) := by
  refine returnsInHanded_of_change (C := Tryz.checked) own started (by kernel_rfl) Tryz.func3
    (ChangeSpec.witness6 (enc := enc) (C := Tryz.checked) false ⟨#[], #[.agg #[.slice none 0 0, .slice none 0 0, .slice none 0 0, .slice none 0 0, .slice none 0 0, .int .i64 0], .int .i64 0, .int .i64 0, .int .i64 0, .int .i64 0, .int .i64 0, .int .i64 0, .int .i64 0], []⟩ 8 (by kernel_rfl) (by kernel_rfl) (by kernel_rfl) (by kernel_rfl)) ?_
  intro W base args ds gs before hval0 hW hcnd _
  have hval : ∀ (j : Nat) t v, Tryz.f3.params[j]? = some t → args[j]? = some v → Value.okWide Tryz.prog W .any base t v := hval0
  have hW' := hW
  obtain ⟨p, q, hA0, hV, rfl, hfz, hnd⟩ := hW
  have hA : DataW.TrodAll enc Tryz.prog W 0 (fun _ => true) true Tryz.f3.params.toList args.toList ds p := hA0
  rw [Tryz.params3] at hA hval
  obtain ⟨v0, vs0, d0, ds0, p0, q0, hargs, rfl, rfl, h0, r0⟩ := trodAll_cons hA
  obtain ⟨v1, vs1, d1, ds1, p1, q1, rfl, rfl, rfl, h1, r1⟩ := trodAll_cons r0
  obtain ⟨v2, vs2, d2, ds2, p2, q2, rfl, rfl, rfl, h2, r2⟩ := trodAll_cons r1
  obtain ⟨v3, vs3, d3, ds3, p3, q3, rfl, rfl, rfl, h3, r3⟩ := trodAll_cons r2
  obtain ⟨v4, vs4, d4, ds4, p4, q4, rfl, rfl, rfl, h4, r4⟩ := trodAll_cons r3
  obtain ⟨v5, vs5, d5, ds5, p5, q5, rfl, rfl, rfl, h5, r5⟩ := trodAll_cons r4
  obtain ⟨v6, vs6, d6, ds6, p6, q6, rfl, rfl, rfl, h6, r6⟩ := trodAll_cons r5
  obtain ⟨v7, vs7, d7, ds7, p7, q7, rfl, rfl, rfl, h7, r7⟩ := trodAll_cons r6
  obtain ⟨rfl, rfl, rfl⟩ := trodAll_nil r7
  obtain rfl : args = #[v0, v1, v2, v3, v4, v5, v6, v7] := by cases args; simp_all
  obtain ⟨rfl, rfl⟩ := trodVars_none hV
  have k0 := h0
  have lt0 : ∀ x ∈ p0, x.block < W.heap.size := by obtain ⟨m, hm⟩ := k0; exact DataW.trod_lt m _ _ _ hm
  obtain ⟨y0, rfl, rk0, f0⟩ := OpensB.open_books (hval 0 28 v0 rfl rfl) h0
  obtain ⟨a1, rfl, rfl, rfl, w1⟩ := open_int Tryz.underlying3 (hval 1 3 v1 rfl rfl) h1
  obtain ⟨a2, rfl, rfl, rfl, w2⟩ := open_int Tryz.underlying3 (hval 2 3 v2 rfl rfl) h2
  obtain ⟨a3, rfl, rfl, rfl, w3⟩ := open_int Tryz.underlying3 (hval 3 3 v3 rfl rfl) h3
  obtain ⟨a4, rfl, rfl, rfl, w4⟩ := open_int Tryz.underlying3 (hval 4 3 v4 rfl rfl) h4
  obtain ⟨a5, rfl, rfl, rfl, w5⟩ := open_int Tryz.underlying3 (hval 5 3 v5 rfl rfl) h5
  obtain ⟨a6, rfl, rfl, rfl, w6⟩ := open_int Tryz.underlying3 (hval 6 3 v6 rfl rfl) h6
  obtain ⟨a7, rfl, rfl, rfl, w7⟩ := open_int Tryz.underlying3 (hval 7 3 v7 rfl rfl) h7
  clear hA0 hval0
  refine (walk y0 a1 a2 a3 a4 a5 a6 a7 W rk0 f0 w1 w2 w3 w4 w5 w6 w7).mono fun e W' ⟨he, bel⟩ => ?_
  subst he
  exact ⟨_, rfl, _, _, _, [], _, [], hW', trodAll_mk1 (shut_bool Tryz.underlying4 _), (trodAll_cons_mk (Below.trod laidOut (by kernel_rfl) (of_decide_eq_true (by kernel_rfl)) k0 bel lt0) (trodAll_cons_mk (shut_int Tryz.underlying3 w1) (trodAll_cons_mk (shut_int Tryz.underlying3 w2) (trodAll_cons_mk (shut_int Tryz.underlying3 w3) (trodAll_cons_mk (shut_int Tryz.underlying3 w4) (trodAll_cons_mk (shut_int Tryz.underlying3 w5) (trodAll_cons_mk (shut_int Tryz.underlying3 w6) (trodAll_cons_mk (shut_int Tryz.underlying3 w7) trodAll_mk0)))))))), rfl, bel.frame _, fun h => by cases h⟩

theorem over : Rows.fnExactBookFxRow.holds Tryz.pinned (OpenSpec.ofChange Rows.fnExactBookFxSpec) :=
  OpenClaim.holds_of_wide 3 Tryz.f3 rfl rfl rfl rfl rfl rfl rfl ⟨rfl, rfl, rfl, rfl, rfl⟩ rfl rfl rfl rfl rfl (by kernel_rfl) Tryz.func3 (by kernel_rfl)
    (of_decide_eq_true (by kernel_rfl)) (by unfold Func.isWrapper; first | (rw [if_pos (by decide +kernel)]; kernel_rfl) | (rw [if_neg (by decide +kernel)]; exact ⟨rfl, rfl⟩))
    (fun os started H enc _ => lifted os started H enc)

/-- The statement. -/
theorem proved : Rows.FnExactBookFxSaid := over
#print axioms proved
end Go.Proofs.YtnmeiiaipacplaaGreat.fnExactBookFx
