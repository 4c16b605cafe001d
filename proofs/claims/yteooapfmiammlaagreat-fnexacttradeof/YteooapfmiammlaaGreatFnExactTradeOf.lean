/- At all books and numbers the program's TradeOf answers as its model, and writes into no argument. No condition. -/
import Derived.Test.YteooapfmiammlaaGreatRows
import Derived.Test.YteooapfmiammlaaGreatFA1
import Derived.Test.YteooapfmiammlaaGreatFA2
import Derived.Test.YteooapfmiammlaaGreatFL3
import Derived.Test.YteooapfmiammlaaGreatFL4
import Derived.Test.YteooapfmiammlaaGreatFL5
import Derived.Test.YteooapfmiammlaaGreatFL6
import Derived.Test.YteooapfmiammlaaGreatFL7
import Derived.Test.YteooapfmiammlaaGreatFL8
import Derived.ShutString
import Derived.ChangeOld
import Derived.Below
namespace Go.Proofs.YteooapfmiammlaaGreat.fnExactTradeOf
open Go.ChangeShapes Go.WideShapes Go.ChangeAt Go.RowKit
open Go.ChangeMaps (open_string shut_string)
set_option linter.unusedVariables false
set_option linter.unusedSimpArgs false

theorem own : ownKnob Tryz.prog.godebug = none := by kernel_rfl
theorem laidOut : laidOutB Tryz.prog = true := by kernel_rfl

open BMem Bks BHelp BkEq LawB
open Lots (Says says_of)
open Trd (ToldT)
open TBox (Box8)
open IBalsFit (one_more)
open ILotsFit (below_of_drew)


set_option maxRecDepth 100000 in
set_option maxHeartbeats 8000000 in
theorem walk (y0 : BHelp.Ix) (a1 : Int) (w : World) (r0 : BHelp.RdI w y0) (f0 : BkEq.Fits y0.b) (w1 : (Lit.int .i64 a1).wf = true) :
    Calls Tryz.prog 3 #[.agg #[.slice y0.aa y0.b.ac.length y0.ca, .slice y0.ai y0.b.ic.length y0.ci, .slice y0.ab y0.b.bs.length y0.cb, .slice y0.al y0.b.ls.length y0.cl, .slice y0.ats y0.b.ts.length y0.ct, .int .i64 y0.b.lot], .int .i64 a1] w fun e w' => e = .returned (.bool true) ∧ Below w.heap.size w w' := by
  have L0 := hide (LB.start r0 28)
  clear r0
  go_enter Tryz.func3, Tryz.ntmps3
  go_wp2_with fail
  refine (szB _ y0 f0).mono ?_
  rintro e u0 ⟨r, rfl, hr, bb⟩
  have L1 := hide ((unhide L0).step bb)
  clear bb L0
  rcases hr with rfl | ⟨r1, sm⟩
  · go_wp2
    go_ret
    exact ⟨rfl, (unhide L1).b⟩
  have SM := hide sm
  have rn : ¬ r < 0 := by omega
  clear sm r1
  obtain ⟨c0, c1, c2, c3, c4, c5⟩ := (unhide L1).c
  go_wp2_with fail
  refine (toB _ y0 (unhide L1).r (unhide SM)).mono ?_
  rintro e u1 ⟨z, hz, rfl, oz, bb⟩
  have L2 := hide ((unhide L1).step bb)
  have RZ := hide (oz.rd (by rw [hz]; exact unhide SM))
  have HZ := hide hz
  clear bb oz hz L1
  go_wp2_with fail
  refine (STell.sTradeOf _ z a1 (unhide RZ)).mono ?_
  rintro e u2 ⟨p, ok, hP, rfl, bb⟩
  rw [unhide HZ] at hP
  have PP := hide hP
  obtain ⟨p0, p1, p2, p3, p4, p5, p6, p7⟩ := p
  have L3 := hide (((unhide L2).step bb).step (one_more u2 (.cells #[.int .i64 p0, .int .i64 p1, .int .i64 p2, .int .i64 p3, .int .i64 p4, .int .i64 p5, .int .i64 p6, .int .i64 p7] 31)))
  have W3 := hide (Box8.made (w := u2) (base := 0) (g := u2.heap.size) (p0, p1, p2, p3, p4, p5, p6, p7) (Nat.zero_le _) rfl)
  have n2 := ((unhide L2).step bb).s
  clear bb L2 RZ c0 c1 c2 c3 c4 c5 hP
  obtain ⟨c0, c1, c2, c3, c4, c5⟩ := (unhide L3).c
  go_wp2_with fail
  refine (toB _ y0 (unhide L3).r (unhide SM)).mono ?_
  rintro e u3 ⟨x, hx, rfl, ox, bb⟩
  have L4 := hide (((unhide L3).step bb).step (one_more u3 (.cells #[.slice (some ⟨x.ga, 0, none⟩) x.b.ac.length x.ca, .slice (some ⟨x.gi, 0, none⟩) x.b.ic.length x.ci, .slice (some ⟨x.gb, 0, none⟩) x.b.bs.length x.cb, .slice (some ⟨x.gl, 0, none⟩) x.b.ls.length x.cl, .slice (some ⟨x.gt, 0, none⟩) x.b.ts.length x.ct, .int .i64 x.b.lot] 40)))
  have RX := hide ((ox.rd (by rw [hx]; exact unhide SM)).alloc (.cells #[.slice (some ⟨x.ga, 0, none⟩) x.b.ac.length x.ca, .slice (some ⟨x.gi, 0, none⟩) x.b.ic.length x.ci, .slice (some ⟨x.gb, 0, none⟩) x.b.bs.length x.cb, .slice (some ⟨x.gl, 0, none⟩) x.b.ls.length x.cl, .slice (some ⟨x.gt, 0, none⟩) x.b.ts.length x.ct, .int .i64 x.b.lot] 40))
  have VX := hide (Bv.made (w := u3) (x := x) 40 rfl)
  have W4 := hide ((Box8.below (unhide W3) bb (unhide W3).lt.2).alloc (.cells #[.slice (some ⟨x.ga, 0, none⟩) x.b.ac.length x.ca, .slice (some ⟨x.gi, 0, none⟩) x.b.ic.length x.ci, .slice (some ⟨x.gb, 0, none⟩) x.b.bs.length x.cb, .slice (some ⟨x.gl, 0, none⟩) x.b.ls.length x.cl, .slice (some ⟨x.gt, 0, none⟩) x.b.ts.length x.ct, .int .i64 x.b.lot] 40))
  have HX := hide hx
  clear bb ox hx L3 W3
  go_wp2_with fail
  refine (TradeOfI.iTradeOf _ x a1 (unhide RX)).mono ?_
  rintro e u4 ⟨q, ok', hQ, rfl, bb⟩
  rw [unhide HX] at hQ
  obtain ⟨rfl, rfl⟩ := hQ.same (unhide PP)
  have L5 := hide (((unhide L4).step bb).step (one_more u4 (.cells #[.int .i64 p0, .int .i64 p1, .int .i64 p2, .int .i64 p3, .int .i64 p4, .int .i64 p5, .int .i64 p6, .int .i64 p7] 31)))
  have RX5 := hide (((unhide RX).below bb).alloc (.cells #[.int .i64 p0, .int .i64 p1, .int .i64 p2, .int .i64 p3, .int .i64 p4, .int .i64 p5, .int .i64 p6, .int .i64 p7] 31))
  have VX5 := hide (((unhide VX).step bb).step (one_more u4 (.cells #[.int .i64 p0, .int .i64 p1, .int .i64 p2, .int .i64 p3, .int .i64 p4, .int .i64 p5, .int .i64 p6, .int .i64 p7] 31)))
  have W5 := hide ((Box8.below (unhide W4) bb (unhide W4).lt.2).alloc (.cells #[.int .i64 p0, .int .i64 p1, .int .i64 p2, .int .i64 p3, .int .i64 p4, .int .i64 p5, .int .i64 p6, .int .i64 p7] 31))
  have G5 := hide (Box8.made (w := u4) (base := 0) (g := u4.heap.size) (p0, p1, p2, p3, p4, p5, p6, p7) (Nat.zero_le _) rfl)
  have l4 := (Box8.below (unhide W4) bb (unhide W4).lt.2).lt.2
  have ne : u2.heap.size ≠ u4.heap.size := by omega
  clear bb hQ L4 RX VX W4 c0 c1 c2 c3 c4 c5
  have h0 := (unhide W5).c0
  have h1 := (unhide W5).c1
  have h2 := (unhide W5).c2
  have h3 := (unhide W5).c3
  have h4 := (unhide W5).c4
  have h5 := (unhide W5).c5
  have h6 := (unhide W5).c6
  have h7 := (unhide W5).c7
  go_wp2_with fail
  refine (TradeHelp.eq1 _ p0 p1 p2 p3 p4 p5 p6 p7).mono ?_
  rintro e u5 ⟨rfl, hu5⟩
  have b5 : Below (u4.alloc (.cells #[.int .i64 p0, .int .i64 p1, .int .i64 p2, .int .i64 p3, .int .i64 p4, .int .i64 p5, .int .i64 p6, .int .i64 p7] 31)).heap.size (u4.alloc (.cells #[.int .i64 p0, .int .i64 p1, .int .i64 p2, .int .i64 p3, .int .i64 p4, .int .i64 p5, .int .i64 p6, .int .i64 p7] 31)) u5 := by
    rw [hu5]
    exact ((Below.refl _ _).alloc (Nat.le_refl _) _).alloc (by simp) _
  have L5 := hide ((unhide L5).step b5)
  have RX5 := hide ((unhide RX5).below b5)
  have VX5 := hide ((unhide VX5).step b5)
  clear hu5 b5 h0 h1 h2 h3 h4 h5 h6 h7 W5 G5 ne l4
  have hq : (ok' != ok') = false := by simp
  have l5 := (unhide L5).s
  have v5 := (unhide VX5).l
  go_wp2_with fail
  have K4 := cells12 (unhide L5).c (unhide VX5).c
  clear hq
  go_region_held3 (fun w' => w'.cell? ⟨w.heap.size, 0, none⟩ = some (.slice y0.aa y0.b.ac.length y0.ca) ∧ w'.cell? ⟨w.heap.size, 1, none⟩ = some (.slice y0.ai y0.b.ic.length y0.ci) ∧ w'.cell? ⟨w.heap.size, 2, none⟩ = some (.slice y0.ab y0.b.bs.length y0.cb) ∧ w'.cell? ⟨w.heap.size, 3, none⟩ = some (.slice y0.al y0.b.ls.length y0.cl) ∧ w'.cell? ⟨w.heap.size, 4, none⟩ = some (.slice y0.ats y0.b.ts.length y0.ct) ∧ w'.cell? ⟨w.heap.size, 5, none⟩ = some (.int .i64 y0.b.lot) ∧ w'.cell? ⟨u3.heap.size, 0, none⟩ = some (.slice (some ⟨x.ga, 0, none⟩) x.b.ac.length x.ca) ∧ w'.cell? ⟨u3.heap.size, 1, none⟩ = some (.slice (some ⟨x.gi, 0, none⟩) x.b.ic.length x.ci) ∧ w'.cell? ⟨u3.heap.size, 2, none⟩ = some (.slice (some ⟨x.gb, 0, none⟩) x.b.bs.length x.cb) ∧ w'.cell? ⟨u3.heap.size, 3, none⟩ = some (.slice (some ⟨x.gl, 0, none⟩) x.b.ls.length x.cl) ∧ w'.cell? ⟨u3.heap.size, 4, none⟩ = some (.slice (some ⟨x.gt, 0, none⟩) x.b.ts.length x.ct) ∧ w'.cell? ⟨u3.heap.size, 5, none⟩ = some (.int .i64 x.b.lot)) (first | exact K4 | exact K5 | exact K6)
    (first | (go_at_call 10; refine (toB u5.drew y0 (rdI_drew (unhide L5).r) (unhide SM)).mono ?_; rintro e u6 ⟨q, hqb, rfl, oq, bb⟩; have bW : Below u5.heap.size u5 u6 := below_of_drew bb; have L6 := hide ((unhide L5).step bW); have VX6 := hide ((unhide VX5).step bW); have RX6 := hide ((unhide RX5).below bW); have K5 := cells12 (unhide L6).c (unhide VX6).c; have HQ := hide hqb; have OQ := hide oq; clear hqb oq bb bW) | (go_at_call 13; refine (eqB u6 x q (by rw [unhide HQ, unhide HX]) (unhide RX6) ((unhide OQ).rd (by rw [unhide HQ]; exact unhide SM))).mono ?_; rintro e u7 ⟨rfl, bb6⟩; have L7 := hide ((unhide L6).step bb6); have VX7 := hide ((unhide VX6).step bb6); have K6 := cells12 (unhide L7).c (unhide VX7).c; clear bb6))
  clear K4 K5 K6
  go_wp2
  go_ret
  exact ⟨rfl, (unhide L7).b⟩

set_option maxRecDepth 100000 in
theorem lifted (os : Os) (started : os.Started) (H : Type) (enc : TypeId × Value → H) :
    ReturnsInHanded {} Tryz.checked os 3 .any (Rows.fnExactTradeOfSpec.pre6 enc Tryz.prog Tryz.f3 Rows.fnExactTradeOfRow.domain false) (Rows.fnExactTradeOfSpec.post enc Tryz.prog Tryz.f3 false true false false) := by
  refine returnsInHanded_of_change (C := Tryz.checked) own started (by kernel_rfl) Tryz.func3
    (ChangeSpec.witness6 (enc := enc) (C := Tryz.checked) false ⟨#[], #[.agg #[.slice none 0 0, .slice none 0 0, .slice none 0 0, .slice none 0 0, .slice none 0 0, .int .i64 0], .int .i64 0], []⟩ 8 (by kernel_rfl) (by kernel_rfl) (by kernel_rfl) (by kernel_rfl)) ?_
  intro W base args ds gs before hval0 hW hcnd _
  have hval : ∀ (j : Nat) t v, Tryz.f3.params[j]? = some t → args[j]? = some v → Value.okWide Tryz.prog W .any base t v := hval0
  have hW' := hW
  obtain ⟨p, q, hA0, hV, rfl, hfz, hnd⟩ := hW
  have hA : DataW.TrodAll enc Tryz.prog W 0 (fun _ => true) true Tryz.f3.params.toList args.toList ds p := hA0
  rw [Tryz.params3] at hA hval
  obtain ⟨v0, vs0, d0, ds0, p0, q0, hargs, rfl, rfl, h0, r0⟩ := trodAll_cons hA
  obtain ⟨v1, vs1, d1, ds1, p1, q1, rfl, rfl, rfl, h1, r1⟩ := trodAll_cons r0
  obtain ⟨rfl, rfl, rfl⟩ := trodAll_nil r1
  obtain rfl : args = #[v0, v1] := by cases args; simp_all
  obtain ⟨rfl, rfl⟩ := trodVars_none hV
  have k0 := h0
  have lt0 : ∀ x ∈ p0, x.block < W.heap.size := by obtain ⟨m, hm⟩ := k0; exact DataW.trod_lt m _ _ _ hm
  obtain ⟨y0, rfl, rk0, f0⟩ := OpensB.open_books (hval 0 28 v0 rfl rfl) h0
  obtain ⟨a1, rfl, rfl, rfl, w1⟩ := open_int Tryz.underlying3 (hval 1 3 v1 rfl rfl) h1
  clear hA0 hval0
  refine (walk y0 a1 W rk0 f0 w1).mono fun e W' ⟨he, bel⟩ => ?_
  subst he
  exact ⟨_, rfl, _, _, _, [], _, [], hW', trodAll_mk1 (shut_bool Tryz.underlying4 _), (trodAll_cons_mk (Below.trod laidOut (by kernel_rfl) (of_decide_eq_true (by kernel_rfl)) k0 bel lt0) (trodAll_cons_mk (shut_int Tryz.underlying3 w1) trodAll_mk0)), rfl, bel.frame _, fun h => by cases h⟩

theorem over : Rows.fnExactTradeOfRow.holds Tryz.pinned (OpenSpec.ofChange Rows.fnExactTradeOfSpec) :=
  OpenClaim.holds_of_wide 3 Tryz.f3 rfl rfl rfl rfl rfl rfl rfl ⟨rfl, rfl, rfl, rfl, rfl⟩ rfl rfl rfl rfl rfl (by kernel_rfl) Tryz.func3 (by kernel_rfl)
    (of_decide_eq_true (by kernel_rfl)) (by unfold Func.isWrapper; first | (rw [if_pos (by decide +kernel)]; kernel_rfl) | (rw [if_neg (by decide +kernel)]; exact ⟨rfl, rfl⟩))
    (fun os started H enc _ => lifted os started H enc)

/-- The statement. -/
theorem proved : Rows.FnExactTradeOfSaid := over
#print axioms proved
end Go.Proofs.YteooapfmiammlaaGreat.fnExactTradeOf
