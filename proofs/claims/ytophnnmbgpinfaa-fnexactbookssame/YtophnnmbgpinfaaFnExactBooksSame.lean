/- At any two books the program's BooksSame answers as its model, and writes into no argument. No condition. -/
import Derived.Test.YtophnnmbgpinfaaRows
import Derived.Test.YtophnnmbgpinfaaPairs
import Derived.Test.YtophnnmbgpinfaaBals
import Derived.Test.YtophnnmbgpinfaaTriples
import Derived.Test.YtophnnmbgpinfaaTup5
import Derived.Test.YtophnnmbgpinfaaTup8
import Derived.Test.YtophnnmbgpinfaaChart
import Derived.Test.YtophnnmbgpinfaaLots
import Derived.Test.YtophnnmbgpinfaaTakes
import Derived.Test.YtophnnmbgpinfaaBks
import Derived.Test.YtophnnmbgpinfaaBMem
import Derived.Test.YtophnnmbgpinfaaILists
import Derived.Test.YtophnnmbgpinfaaIBalsFit
import Derived.Test.YtophnnmbgpinfaaAccountHelp
import Derived.Test.YtophnnmbgpinfaaAccountMark
import Derived.Test.YtophnnmbgpinfaaInstrHelp
import Derived.Test.YtophnnmbgpinfaaInstrMark
import Derived.Test.YtophnnmbgpinfaaBalHelp
import Derived.Test.YtophnnmbgpinfaaBalHeld
import Derived.Test.YtophnnmbgpinfaaLotHelp
import Derived.Test.YtophnnmbgpinfaaLotHeld
import Derived.Test.YtophnnmbgpinfaaTradeHelp
import Derived.Test.YtophnnmbgpinfaaTradeHeld
import Derived.Test.YtophnnmbgpinfaaBHelp
import Derived.Test.YtophnnmbgpinfaaBkEq
import Derived.Test.YtophnnmbgpinfaaOpens
import Derived.Test.YtophnnmbgpinfaaOpens3
import Derived.Test.YtophnnmbgpinfaaOpens5
import Derived.Test.YtophnnmbgpinfaaOpens8
import Derived.Test.YtophnnmbgpinfaaOpensB
import Derived.Test.YtophnnmbgpinfaaLawB
import Derived.Test.YtophnnmbgpinfaaSameH
import Derived.Test.YtophnnmbgpinfaaQuieter
import Derived.Test.YtophnnmbgpinfaaSSame
import Derived.Test.YtophnnmbgpinfaaSameI
import Derived.ShutString
import Derived.ChangeOld
import Derived.Below
namespace Go.Proofs.Ytophnnmbgpinfaa.fnExactBooksSame
open Go.ChangeShapes Go.WideShapes Go.ChangeAt Go.RowKit
open Go.ChangeMaps (open_string shut_string)
set_option linter.unusedVariables false
set_option linter.unusedSimpArgs false

theorem own : ownKnob Try.prog.godebug = none := by kernel_rfl
theorem laidOut : laidOutB Try.prog = true := by kernel_rfl

open BMem Bks BHelp BkEq LawB SameH
open Lots (Says says_of)
open IBalsFit (one_more below_of_drew)


set_option maxRecDepth 100000 in
set_option maxHeartbeats 8000000 in
theorem walk (y0 : BHelp.Ix) (y1 : BHelp.Ix) (w : World) (r0 : BHelp.RdI w y0) (f0 : BkEq.Fits y0.b) (r1 : BHelp.RdI w y1) (f1 : BkEq.Fits y1.b) :
    Calls Try.prog 5 #[.agg #[.slice y0.aa y0.b.ac.length y0.ca, .slice y0.ai y0.b.ic.length y0.ci, .slice y0.ab y0.b.bs.length y0.cb, .slice y0.al y0.b.ls.length y0.cl, .slice y0.ats y0.b.ts.length y0.ct, .int .i64 y0.b.lot], .agg #[.slice y1.aa y1.b.ac.length y1.ca, .slice y1.ai y1.b.ic.length y1.ci, .slice y1.ab y1.b.bs.length y1.cb, .slice y1.al y1.b.ls.length y1.cl, .slice y1.ats y1.b.ts.length y1.ct, .int .i64 y1.b.lot]] w fun e w' => e = .returned (.bool true) ∧ Below w.heap.size w w' := by
  obtain ⟨ok, OK⟩ := says_of (y0.b = y1.b)
  have HO := hide OK
  have L0 := hide (L2.start r0 r1 39)
  clear r0 r1 OK
  go_enter Try.func5, Try.ntmps5
  go_wp2_with fail
  refine (szM _ y0 1048576 (by omega) f0).mono ?_
  rintro e u0 ⟨r, rfl, hr, bb⟩
  have L1 := hide ((unhide L0).step bb)
  clear bb L0
  rcases hr with rfl | ⟨r1, sm⟩
  · go_wp2
    go_ret
    exact ⟨rfl, (unhide L1).b⟩
  have SM := hide sm
  have rn : ¬ r < 0 := by omega
  clear sm
  obtain ⟨c0, c1, c2, c3, c4, c5⟩ := (unhide L1).c0
  obtain ⟨g0, g1, g2, g3, g4, g5⟩ := (unhide L1).c1
  go_wp2_with fail
  refine (szM _ y1 r r1 f1).mono ?_
  rintro e u1 ⟨r', rfl, hr, bb⟩
  have L2' := hide ((unhide L1).step bb)
  clear bb L1 c0 c1 c2 c3 c4 c5 g0 g1 g2 g3 g4 g5 rn
  rcases hr with rfl | ⟨r2, sm⟩
  · go_wp2
    go_ret
    exact ⟨rfl, (unhide L2').b⟩
  have SN := hide sm
  have rn : ¬ r' < 0 := by omega
  clear sm r1 r2
  go_wp2_with fail
  have K4 : u1.cell? ⟨w.heap.size, 0, none⟩ = some (.slice y0.aa y0.b.ac.length y0.ca) ∧ u1.cell? ⟨w.heap.size, 1, none⟩ = some (.slice y0.ai y0.b.ic.length y0.ci) ∧ u1.cell? ⟨w.heap.size, 2, none⟩ = some (.slice y0.ab y0.b.bs.length y0.cb) ∧ u1.cell? ⟨w.heap.size, 3, none⟩ = some (.slice y0.al y0.b.ls.length y0.cl) ∧ u1.cell? ⟨w.heap.size, 4, none⟩ = some (.slice y0.ats y0.b.ts.length y0.ct) ∧ u1.cell? ⟨w.heap.size, 5, none⟩ = some (.int .i64 y0.b.lot) ∧ u1.cell? ⟨w.heap.size + 1, 0, none⟩ = some (.slice y1.aa y1.b.ac.length y1.ca) ∧ u1.cell? ⟨w.heap.size + 1, 1, none⟩ = some (.slice y1.ai y1.b.ic.length y1.ci) ∧ u1.cell? ⟨w.heap.size + 1, 2, none⟩ = some (.slice y1.ab y1.b.bs.length y1.cb) ∧ u1.cell? ⟨w.heap.size + 1, 3, none⟩ = some (.slice y1.al y1.b.ls.length y1.cl) ∧ u1.cell? ⟨w.heap.size + 1, 4, none⟩ = some (.slice y1.ats y1.b.ts.length y1.ct) ∧ u1.cell? ⟨w.heap.size + 1, 5, none⟩ = some (.int .i64 y1.b.lot) := ⟨(unhide L2').c0.c0, (unhide L2').c0.c1, (unhide L2').c0.c2, (unhide L2').c0.c3, (unhide L2').c0.c4, (unhide L2').c0.c5, (unhide L2').c1.c0, (unhide L2').c1.c1, (unhide L2').c1.c2, (unhide L2').c1.c3, (unhide L2').c1.c4, (unhide L2').c1.c5⟩
  go_region_held3 (fun w' => w'.cell? ⟨w.heap.size, 0, none⟩ = some (.slice y0.aa y0.b.ac.length y0.ca) ∧ w'.cell? ⟨w.heap.size, 1, none⟩ = some (.slice y0.ai y0.b.ic.length y0.ci) ∧ w'.cell? ⟨w.heap.size, 2, none⟩ = some (.slice y0.ab y0.b.bs.length y0.cb) ∧ w'.cell? ⟨w.heap.size, 3, none⟩ = some (.slice y0.al y0.b.ls.length y0.cl) ∧ w'.cell? ⟨w.heap.size, 4, none⟩ = some (.slice y0.ats y0.b.ts.length y0.ct) ∧ w'.cell? ⟨w.heap.size, 5, none⟩ = some (.int .i64 y0.b.lot) ∧ w'.cell? ⟨w.heap.size + 1, 0, none⟩ = some (.slice y1.aa y1.b.ac.length y1.ca) ∧ w'.cell? ⟨w.heap.size + 1, 1, none⟩ = some (.slice y1.ai y1.b.ic.length y1.ci) ∧ w'.cell? ⟨w.heap.size + 1, 2, none⟩ = some (.slice y1.ab y1.b.bs.length y1.cb) ∧ w'.cell? ⟨w.heap.size + 1, 3, none⟩ = some (.slice y1.al y1.b.ls.length y1.cl) ∧ w'.cell? ⟨w.heap.size + 1, 4, none⟩ = some (.slice y1.ats y1.b.ts.length y1.ct) ∧ w'.cell? ⟨w.heap.size + 1, 5, none⟩ = some (.int .i64 y1.b.lot)) (first | exact K4 | exact K5 | exact K6 | exact K7)
    (first | (go_at_call 14; refine (SSame.sSame v1 z0 z1 ok (unhide R0) (unhide R1) (by rw [unhide HZ0, unhide HZ1]; exact unhide HO)).mono ?_; rintro e v2 ⟨rfl, bb⟩; have L5 := hide ((unhide L4).step bb); have K7 : v2.cell? ⟨w.heap.size, 0, none⟩ = some (.slice y0.aa y0.b.ac.length y0.ca) ∧ v2.cell? ⟨w.heap.size, 1, none⟩ = some (.slice y0.ai y0.b.ic.length y0.ci) ∧ v2.cell? ⟨w.heap.size, 2, none⟩ = some (.slice y0.ab y0.b.bs.length y0.cb) ∧ v2.cell? ⟨w.heap.size, 3, none⟩ = some (.slice y0.al y0.b.ls.length y0.cl) ∧ v2.cell? ⟨w.heap.size, 4, none⟩ = some (.slice y0.ats y0.b.ts.length y0.ct) ∧ v2.cell? ⟨w.heap.size, 5, none⟩ = some (.int .i64 y0.b.lot) ∧ v2.cell? ⟨w.heap.size + 1, 0, none⟩ = some (.slice y1.aa y1.b.ac.length y1.ca) ∧ v2.cell? ⟨w.heap.size + 1, 1, none⟩ = some (.slice y1.ai y1.b.ic.length y1.ci) ∧ v2.cell? ⟨w.heap.size + 1, 2, none⟩ = some (.slice y1.ab y1.b.bs.length y1.cb) ∧ v2.cell? ⟨w.heap.size + 1, 3, none⟩ = some (.slice y1.al y1.b.ls.length y1.cl) ∧ v2.cell? ⟨w.heap.size + 1, 4, none⟩ = some (.slice y1.ats y1.b.ts.length y1.ct) ∧ v2.cell? ⟨w.heap.size + 1, 5, none⟩ = some (.int .i64 y1.b.lot) := ⟨(unhide L5).c0.c0, (unhide L5).c0.c1, (unhide L5).c0.c2, (unhide L5).c0.c3, (unhide L5).c0.c4, (unhide L5).c0.c5, (unhide L5).c1.c0, (unhide L5).c1.c1, (unhide L5).c1.c2, (unhide L5).c1.c3, (unhide L5).c1.c4, (unhide L5).c1.c5⟩; clear bb) | (go_at_call 15; refine (toB v0 y1 (unhide L3).r1 (unhide SN)).mono ?_; rintro e v1 ⟨z1, hz1, rfl, oz, bb⟩; have L4 := hide ((unhide L3).step bb); have R1 := hide (oz.rd (by rw [hz1]; exact unhide SN)); have R0 := hide ((unhide R00).below bb); have HZ1 := hide hz1; have K6 : v1.cell? ⟨w.heap.size, 0, none⟩ = some (.slice y0.aa y0.b.ac.length y0.ca) ∧ v1.cell? ⟨w.heap.size, 1, none⟩ = some (.slice y0.ai y0.b.ic.length y0.ci) ∧ v1.cell? ⟨w.heap.size, 2, none⟩ = some (.slice y0.ab y0.b.bs.length y0.cb) ∧ v1.cell? ⟨w.heap.size, 3, none⟩ = some (.slice y0.al y0.b.ls.length y0.cl) ∧ v1.cell? ⟨w.heap.size, 4, none⟩ = some (.slice y0.ats y0.b.ts.length y0.ct) ∧ v1.cell? ⟨w.heap.size, 5, none⟩ = some (.int .i64 y0.b.lot) ∧ v1.cell? ⟨w.heap.size + 1, 0, none⟩ = some (.slice y1.aa y1.b.ac.length y1.ca) ∧ v1.cell? ⟨w.heap.size + 1, 1, none⟩ = some (.slice y1.ai y1.b.ic.length y1.ci) ∧ v1.cell? ⟨w.heap.size + 1, 2, none⟩ = some (.slice y1.ab y1.b.bs.length y1.cb) ∧ v1.cell? ⟨w.heap.size + 1, 3, none⟩ = some (.slice y1.al y1.b.ls.length y1.cl) ∧ v1.cell? ⟨w.heap.size + 1, 4, none⟩ = some (.slice y1.ats y1.b.ts.length y1.ct) ∧ v1.cell? ⟨w.heap.size + 1, 5, none⟩ = some (.int .i64 y1.b.lot) := ⟨(unhide L4).c0.c0, (unhide L4).c0.c1, (unhide L4).c0.c2, (unhide L4).c0.c3, (unhide L4).c0.c4, (unhide L4).c0.c5, (unhide L4).c1.c0, (unhide L4).c1.c1, (unhide L4).c1.c2, (unhide L4).c1.c3, (unhide L4).c1.c4, (unhide L4).c1.c5⟩; clear bb oz hz1) | (go_at_call 15; refine (toB u1.drew y0 (rdI_drew (unhide L2').r0) (unhide SM)).mono ?_; rintro e v0 ⟨z0, hz0, rfl, oz, bb⟩; have bW : Below u1.heap.size u1 v0 := below_of_drew bb; have L3 := hide ((unhide L2').step bW); have R00 := hide (oz.rd (by rw [hz0]; exact unhide SM)); have HZ0 := hide hz0; have K5 : v0.cell? ⟨w.heap.size, 0, none⟩ = some (.slice y0.aa y0.b.ac.length y0.ca) ∧ v0.cell? ⟨w.heap.size, 1, none⟩ = some (.slice y0.ai y0.b.ic.length y0.ci) ∧ v0.cell? ⟨w.heap.size, 2, none⟩ = some (.slice y0.ab y0.b.bs.length y0.cb) ∧ v0.cell? ⟨w.heap.size, 3, none⟩ = some (.slice y0.al y0.b.ls.length y0.cl) ∧ v0.cell? ⟨w.heap.size, 4, none⟩ = some (.slice y0.ats y0.b.ts.length y0.ct) ∧ v0.cell? ⟨w.heap.size, 5, none⟩ = some (.int .i64 y0.b.lot) ∧ v0.cell? ⟨w.heap.size + 1, 0, none⟩ = some (.slice y1.aa y1.b.ac.length y1.ca) ∧ v0.cell? ⟨w.heap.size + 1, 1, none⟩ = some (.slice y1.ai y1.b.ic.length y1.ci) ∧ v0.cell? ⟨w.heap.size + 1, 2, none⟩ = some (.slice y1.ab y1.b.bs.length y1.cb) ∧ v0.cell? ⟨w.heap.size + 1, 3, none⟩ = some (.slice y1.al y1.b.ls.length y1.cl) ∧ v0.cell? ⟨w.heap.size + 1, 4, none⟩ = some (.slice y1.ats y1.b.ts.length y1.ct) ∧ v0.cell? ⟨w.heap.size + 1, 5, none⟩ = some (.int .i64 y1.b.lot) := ⟨(unhide L3).c0.c0, (unhide L3).c0.c1, (unhide L3).c0.c2, (unhide L3).c0.c3, (unhide L3).c0.c4, (unhide L3).c0.c5, (unhide L3).c1.c0, (unhide L3).c1.c1, (unhide L3).c1.c2, (unhide L3).c1.c3, (unhide L3).c1.c4, (unhide L3).c1.c5⟩; clear bb bW oz hz0))
  clear K4 K5 K6 K7 R0 R1 R00 L2' L3 L4
  obtain ⟨c0, c1, c2, c3, c4, c5⟩ := (unhide L5).c0
  obtain ⟨g0, g1, g2, g3, g4, g5⟩ := (unhide L5).c1
  go_wp2_with fail
  refine (toB _ y0 (unhide L5).r0 (unhide SM)).mono ?_
  rintro e u3 ⟨x0, hx0, rfl, ox, bb⟩
  have L6 := hide (((unhide L5).step bb).step (one_more u3 (.cells #[.slice (some ⟨x0.ga, 0, none⟩) x0.b.ac.length x0.ca, .slice (some ⟨x0.gi, 0, none⟩) x0.b.ic.length x0.ci, .slice (some ⟨x0.gb, 0, none⟩) x0.b.bs.length x0.cb, .slice (some ⟨x0.gl, 0, none⟩) x0.b.ls.length x0.cl, .slice (some ⟨x0.gt, 0, none⟩) x0.b.ts.length x0.ct, .int .i64 x0.b.lot] 48)))
  have RX := hide ((ox.rd (by rw [hx0]; exact unhide SM)).alloc (.cells #[.slice (some ⟨x0.ga, 0, none⟩) x0.b.ac.length x0.ca, .slice (some ⟨x0.gi, 0, none⟩) x0.b.ic.length x0.ci, .slice (some ⟨x0.gb, 0, none⟩) x0.b.bs.length x0.cb, .slice (some ⟨x0.gl, 0, none⟩) x0.b.ls.length x0.cl, .slice (some ⟨x0.gt, 0, none⟩) x0.b.ts.length x0.ct, .int .i64 x0.b.lot] 48))
  have VX := hide (Bv.made (w := u3) (x := x0) 48 rfl)
  have HX := hide hx0
  clear bb ox hx0 L5 c0 c1 c2 c3 c4 c5 g0 g1 g2 g3 g4 g5
  obtain ⟨c0, c1, c2, c3, c4, c5⟩ := (unhide L6).c0
  obtain ⟨g0, g1, g2, g3, g4, g5⟩ := (unhide L6).c1
  go_wp2_with fail
  refine (toB _ y1 (unhide L6).r1 (unhide SN)).mono ?_
  rintro e u4 ⟨x1, hx1, rfl, ox, bb⟩
  have b2 := next bb (one_more u4 (.cells #[.slice (some ⟨x1.ga, 0, none⟩) x1.b.ac.length x1.ca, .slice (some ⟨x1.gi, 0, none⟩) x1.b.ic.length x1.ci, .slice (some ⟨x1.gb, 0, none⟩) x1.b.bs.length x1.cb, .slice (some ⟨x1.gl, 0, none⟩) x1.b.ls.length x1.cl, .slice (some ⟨x1.gt, 0, none⟩) x1.b.ts.length x1.ct, .int .i64 x1.b.lot] 48))
  have L7 := hide ((unhide L6).step b2)
  have RX7 := hide ((unhide RX).below b2)
  have VX7 := hide ((unhide VX).step b2)
  have RY := hide ((ox.rd (by rw [hx1]; exact unhide SN)).alloc (.cells #[.slice (some ⟨x1.ga, 0, none⟩) x1.b.ac.length x1.ca, .slice (some ⟨x1.gi, 0, none⟩) x1.b.ic.length x1.ci, .slice (some ⟨x1.gb, 0, none⟩) x1.b.bs.length x1.cb, .slice (some ⟨x1.gl, 0, none⟩) x1.b.ls.length x1.cl, .slice (some ⟨x1.gt, 0, none⟩) x1.b.ts.length x1.ct, .int .i64 x1.b.lot] 48))
  have VY := hide (Bv.made (w := u4) (x := x1) 48 rfl)
  have HY := hide hx1
  clear bb b2 ox hx1 L6 RX VX c0 c1 c2 c3 c4 c5 g0 g1 g2 g3 g4 g5
  obtain ⟨c0, c1, c2, c3, c4, c5⟩ := (unhide VX7).c
  have s7 := (unhide VX7).l
  go_wp2_with fail
  refine (SameI.iSame _ x0 x1 ok (unhide RX7) (unhide RY) (by rw [unhide HX, unhide HY]; exact unhide HO)).mono ?_
  rintro e u5 ⟨rfl, bb⟩
  have L8 := hide ((unhide L7).step bb)
  have RX8 := hide ((unhide RX7).below bb)
  have RY8 := hide ((unhide RY).below bb)
  have VX8 := hide ((unhide VX7).step bb)
  have VY8 := hide ((unhide VY).step bb)
  clear bb L7 RX7 RY VX7 VY c0 c1 c2 c3 c4 c5 s7
  have hq : (ok != ok) = false := by simp
  have l8 := (unhide L8).s
  have v8 := (unhide VX8).l
  have v9 := (unhide VY8).l
  go_wp2_with fail
  clear hq
  have K4 : u5.cell? ⟨w.heap.size, 0, none⟩ = some (.slice y0.aa y0.b.ac.length y0.ca) ∧ u5.cell? ⟨w.heap.size, 1, none⟩ = some (.slice y0.ai y0.b.ic.length y0.ci) ∧ u5.cell? ⟨w.heap.size, 2, none⟩ = some (.slice y0.ab y0.b.bs.length y0.cb) ∧ u5.cell? ⟨w.heap.size, 3, none⟩ = some (.slice y0.al y0.b.ls.length y0.cl) ∧ u5.cell? ⟨w.heap.size, 4, none⟩ = some (.slice y0.ats y0.b.ts.length y0.ct) ∧ u5.cell? ⟨w.heap.size, 5, none⟩ = some (.int .i64 y0.b.lot) ∧ u5.cell? ⟨u3.heap.size, 0, none⟩ = some (.slice (some ⟨x0.ga, 0, none⟩) x0.b.ac.length x0.ca) ∧ u5.cell? ⟨u3.heap.size, 1, none⟩ = some (.slice (some ⟨x0.gi, 0, none⟩) x0.b.ic.length x0.ci) ∧ u5.cell? ⟨u3.heap.size, 2, none⟩ = some (.slice (some ⟨x0.gb, 0, none⟩) x0.b.bs.length x0.cb) ∧ u5.cell? ⟨u3.heap.size, 3, none⟩ = some (.slice (some ⟨x0.gl, 0, none⟩) x0.b.ls.length x0.cl) ∧ u5.cell? ⟨u3.heap.size, 4, none⟩ = some (.slice (some ⟨x0.gt, 0, none⟩) x0.b.ts.length x0.ct) ∧ u5.cell? ⟨u3.heap.size, 5, none⟩ = some (.int .i64 x0.b.lot) := ⟨(unhide L8).c0.c0, (unhide L8).c0.c1, (unhide L8).c0.c2, (unhide L8).c0.c3, (unhide L8).c0.c4, (unhide L8).c0.c5, (unhide VX8).c.c0, (unhide VX8).c.c1, (unhide VX8).c.c2, (unhide VX8).c.c3, (unhide VX8).c.c4, (unhide VX8).c.c5⟩
  go_region_held3 (fun w' => w'.cell? ⟨w.heap.size, 0, none⟩ = some (.slice y0.aa y0.b.ac.length y0.ca) ∧ w'.cell? ⟨w.heap.size, 1, none⟩ = some (.slice y0.ai y0.b.ic.length y0.ci) ∧ w'.cell? ⟨w.heap.size, 2, none⟩ = some (.slice y0.ab y0.b.bs.length y0.cb) ∧ w'.cell? ⟨w.heap.size, 3, none⟩ = some (.slice y0.al y0.b.ls.length y0.cl) ∧ w'.cell? ⟨w.heap.size, 4, none⟩ = some (.slice y0.ats y0.b.ts.length y0.ct) ∧ w'.cell? ⟨w.heap.size, 5, none⟩ = some (.int .i64 y0.b.lot) ∧ w'.cell? ⟨u3.heap.size, 0, none⟩ = some (.slice (some ⟨x0.ga, 0, none⟩) x0.b.ac.length x0.ca) ∧ w'.cell? ⟨u3.heap.size, 1, none⟩ = some (.slice (some ⟨x0.gi, 0, none⟩) x0.b.ic.length x0.ci) ∧ w'.cell? ⟨u3.heap.size, 2, none⟩ = some (.slice (some ⟨x0.gb, 0, none⟩) x0.b.bs.length x0.cb) ∧ w'.cell? ⟨u3.heap.size, 3, none⟩ = some (.slice (some ⟨x0.gl, 0, none⟩) x0.b.ls.length x0.cl) ∧ w'.cell? ⟨u3.heap.size, 4, none⟩ = some (.slice (some ⟨x0.gt, 0, none⟩) x0.b.ts.length x0.ct) ∧ w'.cell? ⟨u3.heap.size, 5, none⟩ = some (.int .i64 x0.b.lot)) (first | exact K4 | exact K5 | exact K6)
    (first | (go_at_call 15; refine (toB u5.drew y0 (rdI_drew (unhide L8).r0) (unhide SM)).mono ?_; rintro e p1 ⟨q1, hqb, rfl, oq, bb⟩; have bW : Below u5.heap.size u5 p1 := below_of_drew bb; have L1a := hide ((unhide L8).step bW); have VX8a := hide ((unhide VX8).step bW); have RX8a := hide ((unhide RX8).below bW); have K5 : p1.cell? ⟨w.heap.size, 0, none⟩ = some (.slice y0.aa y0.b.ac.length y0.ca) ∧ p1.cell? ⟨w.heap.size, 1, none⟩ = some (.slice y0.ai y0.b.ic.length y0.ci) ∧ p1.cell? ⟨w.heap.size, 2, none⟩ = some (.slice y0.ab y0.b.bs.length y0.cb) ∧ p1.cell? ⟨w.heap.size, 3, none⟩ = some (.slice y0.al y0.b.ls.length y0.cl) ∧ p1.cell? ⟨w.heap.size, 4, none⟩ = some (.slice y0.ats y0.b.ts.length y0.ct) ∧ p1.cell? ⟨w.heap.size, 5, none⟩ = some (.int .i64 y0.b.lot) ∧ p1.cell? ⟨u3.heap.size, 0, none⟩ = some (.slice (some ⟨x0.ga, 0, none⟩) x0.b.ac.length x0.ca) ∧ p1.cell? ⟨u3.heap.size, 1, none⟩ = some (.slice (some ⟨x0.gi, 0, none⟩) x0.b.ic.length x0.ci) ∧ p1.cell? ⟨u3.heap.size, 2, none⟩ = some (.slice (some ⟨x0.gb, 0, none⟩) x0.b.bs.length x0.cb) ∧ p1.cell? ⟨u3.heap.size, 3, none⟩ = some (.slice (some ⟨x0.gl, 0, none⟩) x0.b.ls.length x0.cl) ∧ p1.cell? ⟨u3.heap.size, 4, none⟩ = some (.slice (some ⟨x0.gt, 0, none⟩) x0.b.ts.length x0.ct) ∧ p1.cell? ⟨u3.heap.size, 5, none⟩ = some (.int .i64 x0.b.lot) := ⟨(unhide L1a).c0.c0, (unhide L1a).c0.c1, (unhide L1a).c0.c2, (unhide L1a).c0.c3, (unhide L1a).c0.c4, (unhide L1a).c0.c5, (unhide VX8a).c.c0, (unhide VX8a).c.c1, (unhide VX8a).c.c2, (unhide VX8a).c.c3, (unhide VX8a).c.c4, (unhide VX8a).c.c5⟩; have HQ := hide hqb; have OQ := hide oq; have RY8a := hide ((unhide RY8).below bW); have VY8a := hide ((unhide VY8).step bW); clear hqb oq bb bW) | (go_at_call 17; refine (eqB p1 x0 q1 (by rw [unhide HQ, unhide HX]) (unhide RX8a) ((unhide OQ).rd (by rw [unhide HQ]; exact unhide SM))).mono ?_; rintro e o1 ⟨rfl, bb6⟩; have L1b := hide ((unhide L1a).step bb6); have VX8b := hide ((unhide VX8a).step bb6); have K6 : o1.cell? ⟨w.heap.size, 0, none⟩ = some (.slice y0.aa y0.b.ac.length y0.ca) ∧ o1.cell? ⟨w.heap.size, 1, none⟩ = some (.slice y0.ai y0.b.ic.length y0.ci) ∧ o1.cell? ⟨w.heap.size, 2, none⟩ = some (.slice y0.ab y0.b.bs.length y0.cb) ∧ o1.cell? ⟨w.heap.size, 3, none⟩ = some (.slice y0.al y0.b.ls.length y0.cl) ∧ o1.cell? ⟨w.heap.size, 4, none⟩ = some (.slice y0.ats y0.b.ts.length y0.ct) ∧ o1.cell? ⟨w.heap.size, 5, none⟩ = some (.int .i64 y0.b.lot) ∧ o1.cell? ⟨u3.heap.size, 0, none⟩ = some (.slice (some ⟨x0.ga, 0, none⟩) x0.b.ac.length x0.ca) ∧ o1.cell? ⟨u3.heap.size, 1, none⟩ = some (.slice (some ⟨x0.gi, 0, none⟩) x0.b.ic.length x0.ci) ∧ o1.cell? ⟨u3.heap.size, 2, none⟩ = some (.slice (some ⟨x0.gb, 0, none⟩) x0.b.bs.length x0.cb) ∧ o1.cell? ⟨u3.heap.size, 3, none⟩ = some (.slice (some ⟨x0.gl, 0, none⟩) x0.b.ls.length x0.cl) ∧ o1.cell? ⟨u3.heap.size, 4, none⟩ = some (.slice (some ⟨x0.gt, 0, none⟩) x0.b.ts.length x0.ct) ∧ o1.cell? ⟨u3.heap.size, 5, none⟩ = some (.int .i64 x0.b.lot) := ⟨(unhide L1b).c0.c0, (unhide L1b).c0.c1, (unhide L1b).c0.c2, (unhide L1b).c0.c3, (unhide L1b).c0.c4, (unhide L1b).c0.c5, (unhide VX8b).c.c0, (unhide VX8b).c.c1, (unhide VX8b).c.c2, (unhide VX8b).c.c3, (unhide VX8b).c.c4, (unhide VX8b).c.c5⟩; have RY8b := hide ((unhide RY8a).below bb6); have VY8b := hide ((unhide VY8a).step bb6); clear bb6))
  clear K4 K5 K6 HQ OQ
  have v11 := (unhide VY8b).l
  have l11 := (unhide L1b).s
  go_wp2_with fail
  have K4 : o1.cell? ⟨w.heap.size + 1, 0, none⟩ = some (.slice y1.aa y1.b.ac.length y1.ca) ∧ o1.cell? ⟨w.heap.size + 1, 1, none⟩ = some (.slice y1.ai y1.b.ic.length y1.ci) ∧ o1.cell? ⟨w.heap.size + 1, 2, none⟩ = some (.slice y1.ab y1.b.bs.length y1.cb) ∧ o1.cell? ⟨w.heap.size + 1, 3, none⟩ = some (.slice y1.al y1.b.ls.length y1.cl) ∧ o1.cell? ⟨w.heap.size + 1, 4, none⟩ = some (.slice y1.ats y1.b.ts.length y1.ct) ∧ o1.cell? ⟨w.heap.size + 1, 5, none⟩ = some (.int .i64 y1.b.lot) ∧ o1.cell? ⟨u4.heap.size, 0, none⟩ = some (.slice (some ⟨x1.ga, 0, none⟩) x1.b.ac.length x1.ca) ∧ o1.cell? ⟨u4.heap.size, 1, none⟩ = some (.slice (some ⟨x1.gi, 0, none⟩) x1.b.ic.length x1.ci) ∧ o1.cell? ⟨u4.heap.size, 2, none⟩ = some (.slice (some ⟨x1.gb, 0, none⟩) x1.b.bs.length x1.cb) ∧ o1.cell? ⟨u4.heap.size, 3, none⟩ = some (.slice (some ⟨x1.gl, 0, none⟩) x1.b.ls.length x1.cl) ∧ o1.cell? ⟨u4.heap.size, 4, none⟩ = some (.slice (some ⟨x1.gt, 0, none⟩) x1.b.ts.length x1.ct) ∧ o1.cell? ⟨u4.heap.size, 5, none⟩ = some (.int .i64 x1.b.lot) := ⟨(unhide L1b).c1.c0, (unhide L1b).c1.c1, (unhide L1b).c1.c2, (unhide L1b).c1.c3, (unhide L1b).c1.c4, (unhide L1b).c1.c5, (unhide VY8b).c.c0, (unhide VY8b).c.c1, (unhide VY8b).c.c2, (unhide VY8b).c.c3, (unhide VY8b).c.c4, (unhide VY8b).c.c5⟩
  go_region_held3 (fun w' => w'.cell? ⟨w.heap.size + 1, 0, none⟩ = some (.slice y1.aa y1.b.ac.length y1.ca) ∧ w'.cell? ⟨w.heap.size + 1, 1, none⟩ = some (.slice y1.ai y1.b.ic.length y1.ci) ∧ w'.cell? ⟨w.heap.size + 1, 2, none⟩ = some (.slice y1.ab y1.b.bs.length y1.cb) ∧ w'.cell? ⟨w.heap.size + 1, 3, none⟩ = some (.slice y1.al y1.b.ls.length y1.cl) ∧ w'.cell? ⟨w.heap.size + 1, 4, none⟩ = some (.slice y1.ats y1.b.ts.length y1.ct) ∧ w'.cell? ⟨w.heap.size + 1, 5, none⟩ = some (.int .i64 y1.b.lot) ∧ w'.cell? ⟨u4.heap.size, 0, none⟩ = some (.slice (some ⟨x1.ga, 0, none⟩) x1.b.ac.length x1.ca) ∧ w'.cell? ⟨u4.heap.size, 1, none⟩ = some (.slice (some ⟨x1.gi, 0, none⟩) x1.b.ic.length x1.ci) ∧ w'.cell? ⟨u4.heap.size, 2, none⟩ = some (.slice (some ⟨x1.gb, 0, none⟩) x1.b.bs.length x1.cb) ∧ w'.cell? ⟨u4.heap.size, 3, none⟩ = some (.slice (some ⟨x1.gl, 0, none⟩) x1.b.ls.length x1.cl) ∧ w'.cell? ⟨u4.heap.size, 4, none⟩ = some (.slice (some ⟨x1.gt, 0, none⟩) x1.b.ts.length x1.ct) ∧ w'.cell? ⟨u4.heap.size, 5, none⟩ = some (.int .i64 x1.b.lot)) (first | exact K4 | exact K5 | exact K6)
    (first | (go_at_call 15; refine (toB o1.drew y1 (rdI_drew (unhide L1b).r1) (unhide SN)).mono ?_; rintro e p2 ⟨q2, hqb, rfl, oq, bb⟩; have bW : Below o1.heap.size o1 p2 := below_of_drew bb; have L2a := hide ((unhide L1b).step bW); have VY8ba := hide ((unhide VY8b).step bW); have RY8ba := hide ((unhide RY8b).below bW); have K5 : p2.cell? ⟨w.heap.size + 1, 0, none⟩ = some (.slice y1.aa y1.b.ac.length y1.ca) ∧ p2.cell? ⟨w.heap.size + 1, 1, none⟩ = some (.slice y1.ai y1.b.ic.length y1.ci) ∧ p2.cell? ⟨w.heap.size + 1, 2, none⟩ = some (.slice y1.ab y1.b.bs.length y1.cb) ∧ p2.cell? ⟨w.heap.size + 1, 3, none⟩ = some (.slice y1.al y1.b.ls.length y1.cl) ∧ p2.cell? ⟨w.heap.size + 1, 4, none⟩ = some (.slice y1.ats y1.b.ts.length y1.ct) ∧ p2.cell? ⟨w.heap.size + 1, 5, none⟩ = some (.int .i64 y1.b.lot) ∧ p2.cell? ⟨u4.heap.size, 0, none⟩ = some (.slice (some ⟨x1.ga, 0, none⟩) x1.b.ac.length x1.ca) ∧ p2.cell? ⟨u4.heap.size, 1, none⟩ = some (.slice (some ⟨x1.gi, 0, none⟩) x1.b.ic.length x1.ci) ∧ p2.cell? ⟨u4.heap.size, 2, none⟩ = some (.slice (some ⟨x1.gb, 0, none⟩) x1.b.bs.length x1.cb) ∧ p2.cell? ⟨u4.heap.size, 3, none⟩ = some (.slice (some ⟨x1.gl, 0, none⟩) x1.b.ls.length x1.cl) ∧ p2.cell? ⟨u4.heap.size, 4, none⟩ = some (.slice (some ⟨x1.gt, 0, none⟩) x1.b.ts.length x1.ct) ∧ p2.cell? ⟨u4.heap.size, 5, none⟩ = some (.int .i64 x1.b.lot) := ⟨(unhide L2a).c1.c0, (unhide L2a).c1.c1, (unhide L2a).c1.c2, (unhide L2a).c1.c3, (unhide L2a).c1.c4, (unhide L2a).c1.c5, (unhide VY8ba).c.c0, (unhide VY8ba).c.c1, (unhide VY8ba).c.c2, (unhide VY8ba).c.c3, (unhide VY8ba).c.c4, (unhide VY8ba).c.c5⟩; have HQ := hide hqb; have OQ := hide oq; clear hqb oq bb bW) | (go_at_call 17; refine (eqB p2 x1 q2 (by rw [unhide HQ, unhide HY]) (unhide RY8ba) ((unhide OQ).rd (by rw [unhide HQ]; exact unhide SN))).mono ?_; rintro e o2 ⟨rfl, bb6⟩; have L2b := hide ((unhide L2a).step bb6); have VY8bb := hide ((unhide VY8ba).step bb6); have K6 : o2.cell? ⟨w.heap.size + 1, 0, none⟩ = some (.slice y1.aa y1.b.ac.length y1.ca) ∧ o2.cell? ⟨w.heap.size + 1, 1, none⟩ = some (.slice y1.ai y1.b.ic.length y1.ci) ∧ o2.cell? ⟨w.heap.size + 1, 2, none⟩ = some (.slice y1.ab y1.b.bs.length y1.cb) ∧ o2.cell? ⟨w.heap.size + 1, 3, none⟩ = some (.slice y1.al y1.b.ls.length y1.cl) ∧ o2.cell? ⟨w.heap.size + 1, 4, none⟩ = some (.slice y1.ats y1.b.ts.length y1.ct) ∧ o2.cell? ⟨w.heap.size + 1, 5, none⟩ = some (.int .i64 y1.b.lot) ∧ o2.cell? ⟨u4.heap.size, 0, none⟩ = some (.slice (some ⟨x1.ga, 0, none⟩) x1.b.ac.length x1.ca) ∧ o2.cell? ⟨u4.heap.size, 1, none⟩ = some (.slice (some ⟨x1.gi, 0, none⟩) x1.b.ic.length x1.ci) ∧ o2.cell? ⟨u4.heap.size, 2, none⟩ = some (.slice (some ⟨x1.gb, 0, none⟩) x1.b.bs.length x1.cb) ∧ o2.cell? ⟨u4.heap.size, 3, none⟩ = some (.slice (some ⟨x1.gl, 0, none⟩) x1.b.ls.length x1.cl) ∧ o2.cell? ⟨u4.heap.size, 4, none⟩ = some (.slice (some ⟨x1.gt, 0, none⟩) x1.b.ts.length x1.ct) ∧ o2.cell? ⟨u4.heap.size, 5, none⟩ = some (.int .i64 x1.b.lot) := ⟨(unhide L2b).c1.c0, (unhide L2b).c1.c1, (unhide L2b).c1.c2, (unhide L2b).c1.c3, (unhide L2b).c1.c4, (unhide L2b).c1.c5, (unhide VY8bb).c.c0, (unhide VY8bb).c.c1, (unhide VY8bb).c.c2, (unhide VY8bb).c.c3, (unhide VY8bb).c.c4, (unhide VY8bb).c.c5⟩; clear bb6))
  clear K4 K5 K6 HQ OQ
  go_wp2
  go_ret
  exact ⟨rfl, (unhide L2b).b⟩

set_option maxRecDepth 100000 in
theorem lifted (os : Os) (started : os.Started) (H : Type) (enc : TypeId × Value → H) :
    ReturnsInHanded {} Try.checked os 5 .any (Rows.fnExactBooksSameSpec.pre6 enc Try.prog Try.f5 Rows.fnExactBooksSameRow.domain false) (Rows.fnExactBooksSameSpec.post enc Try.prog Try.f5 false true false false) := by
  refine returnsInHanded_of_change (C := Try.checked) own started (by kernel_rfl) Try.func5
    (ChangeSpec.witness6 (enc := enc) (C := Try.checked) false ⟨#[], #[.agg #[.slice none 0 0, .slice none 0 0, .slice none 0 0, .slice none 0 0, .slice none 0 0, .int .i64 0], .agg #[.slice none 0 0, .slice none 0 0, .slice none 0 0, .slice none 0 0, .slice none 0 0, .int .i64 0]], []⟩ 8 (by kernel_rfl) (by kernel_rfl) (by kernel_rfl) (by kernel_rfl)) ?_
  intro W base args ds gs before hval0 hW hcnd _
  have hval : ∀ (j : Nat) t v, Try.f5.params[j]? = some t → args[j]? = some v → Value.okWide Try.prog W .any base t v := hval0
  have hW' := hW
  obtain ⟨p, q, hA0, hV, rfl, hfz, hnd⟩ := hW
  have hA : DataW.TrodAll enc Try.prog W 0 (fun _ => true) true Try.f5.params.toList args.toList ds p := hA0
  rw [Try.params5] at hA hval
  obtain ⟨v0, vs0, d0, ds0, p0, q0, hargs, rfl, rfl, h0, r0⟩ := trodAll_cons hA
  obtain ⟨v1, vs1, d1, ds1, p1, q1, rfl, rfl, rfl, h1, r1⟩ := trodAll_cons r0
  obtain ⟨rfl, rfl, rfl⟩ := trodAll_nil r1
  obtain rfl : args = #[v0, v1] := by cases args; simp_all
  obtain ⟨rfl, rfl⟩ := trodVars_none hV
  have k0 := h0
  have lt0 : ∀ x ∈ p0, x.block < W.heap.size := by obtain ⟨m, hm⟩ := k0; exact DataW.trod_lt m _ _ _ hm
  obtain ⟨y0, rfl, rk0, f0⟩ := OpensB.open_books (hval 0 39 v0 rfl rfl) h0
  have k1 := h1
  have lt1 : ∀ x ∈ p1, x.block < W.heap.size := by obtain ⟨m, hm⟩ := k1; exact DataW.trod_lt m _ _ _ hm
  obtain ⟨y1, rfl, rk1, f1⟩ := OpensB.open_books (hval 1 39 v1 rfl rfl) h1
  clear hA0 hval0
  refine (walk y0 y1 W rk0 f0 rk1 f1).mono fun e W' ⟨he, bel⟩ => ?_
  subst he
  exact ⟨_, rfl, _, _, _, [], _, [], hW', trodAll_mk1 (shut_bool Try.underlying4 _), (trodAll_cons_mk (Below.trod laidOut (by kernel_rfl) (of_decide_eq_true (by kernel_rfl)) k0 bel lt0) (trodAll_cons_mk (Below.trod laidOut (by kernel_rfl) (of_decide_eq_true (by kernel_rfl)) k1 bel lt1) trodAll_mk0)), rfl, bel.frame _, fun h => by cases h⟩

theorem over : Rows.fnExactBooksSameRow.holds Try.pinned (OpenSpec.ofChange Rows.fnExactBooksSameSpec) :=
  OpenClaim.holds_of_wide 5 Try.f5 rfl rfl rfl rfl rfl rfl rfl ⟨rfl, rfl, rfl, rfl, rfl⟩ rfl rfl rfl rfl rfl (by kernel_rfl) Try.func5 (by kernel_rfl)
    (of_decide_eq_true (by kernel_rfl)) (by unfold Func.isWrapper; first | (rw [if_pos (by decide +kernel)]; kernel_rfl) | (rw [if_neg (by decide +kernel)]; exact ⟨rfl, rfl⟩))
    (fun os started H enc _ => lifted os started H enc)

/-- The statement. -/
theorem proved : Rows.FnExactBooksSameSaid := over
#print axioms proved
end Go.Proofs.Ytophnnmbgpinfaa.fnExactBooksSame
