/- At all books and numbers the program's TradesOpen answers as its model, writes into no argument, and its answer owns its memory. No condition. -/
import Derived.Test.YteooapfmiammlaaGreatRows
import Derived.Test.YteooapfmiammlaaGreatFA1
import Derived.Test.YteooapfmiammlaaGreatFA2
import Derived.Test.YteooapfmiammlaaGreatFL3
import Derived.Test.YteooapfmiammlaaGreatFL4
import Derived.Test.YteooapfmiammlaaGreatFL5
import Derived.Test.YteooapfmiammlaaGreatFL6
import Derived.Test.YteooapfmiammlaaGreatFL7
import Derived.Test.YteooapfmiammlaaGreatFL8
import Derived.ShutString
import Derived.ChangeOld
import Derived.Below
namespace Go.Proofs.YteooapfmiammlaaGreat.fnExactTradesOpen
open Go.ChangeShapes Go.WideShapes Go.ChangeAt Go.RowKit
open Go.ChangeMaps (open_string shut_string)
set_option linter.unusedVariables false
set_option linter.unusedSimpArgs false

theorem own : ownKnob Tryz.prog.godebug = none := by kernel_rfl
theorem laidOut : laidOutB Tryz.prog = true := by kernel_rfl

open BMem Bks BHelp BkEq LawB LawT
open Lots (Says says_of)
open IBalsFit (one_more)
open ILotsFit (below_of_drew)
open STell (IsOpens)


set_option maxRecDepth 100000 in
set_option maxHeartbeats 8000000 in
theorem walk (y0 : BHelp.Ix) (a1 : Int) (a2 : Int) (w : World) (r0 : BHelp.RdI w y0) (f0 : BkEq.Fits y0.b) (w1 : (Lit.int .i64 a1).wf = true) (w2 : (Lit.int .i64 a2).wf = true) :
    Calls Tryz.prog 7 #[.agg #[.slice y0.aa y0.b.ac.length y0.ca, .slice y0.ai y0.b.ic.length y0.ci, .slice y0.ab y0.b.bs.length y0.cb, .slice y0.al y0.b.ls.length y0.cl, .slice y0.ats y0.b.ts.length y0.ct, .int .i64 y0.b.lot], .int .i64 a1, .int .i64 a2] w fun e w' => e = .returned (.bool true) ∧ Below w.heap.size w w' := by
  have H := hide r0
  have L0 := hide (LB.start r0 28)
  clear r0
  go_enter Tryz.func7, Tryz.ntmps7
  go_wp2_with fail
  refine (szB _ y0 f0).mono ?_
  rintro e u0 ⟨r, rfl, hr, bb⟩
  have L1 := hide ((unhide L0).step bb)
  clear bb L0
  rcases hr with rfl | ⟨r1, sm⟩
  · go_wp2
    go_ret
    exact ⟨rfl, (unhide L1).b⟩
  have SM := hide sm
  have rn : ¬ r < 0 := by omega
  clear sm r1
  obtain ⟨c0, c1, c2, c3, c4, c5⟩ := (unhide L1).c
  go_wp2_with fail
  refine (toB _ y0 (unhide L1).r (unhide SM)).mono ?_
  rintro e u1 ⟨z, hz, rfl, oz, bb⟩
  have L2 := hide ((unhide L1).step bb)
  have RZ := hide (oz.rd (by rw [hz]; exact unhide SM))
  have HZ := hide hz
  clear bb oz hz L1
  go_wp2_with fail
  refine (STell.sTradesOpen _ z a1 a2 (unhide RZ)).mono ?_
  rintro e u2 ⟨xs, gz, cz, hP, xl, rfl, oz, bb⟩
  rw [unhide HZ] at hP xl
  have PP := hide hP
  have n20 : xs.length ≤ 1048576 := Nat.le_trans xl (unhide SM).2.2.2.2
  have L3 := hide ((unhide L2).step bb)
  have gz1 := (unhide L2).s
  have gz2 := oz.lt
  have OZ := hide (oz.rebase (base' := w.heap.size + 1) (by omega))
  clear bb L2 RZ c0 c1 c2 c3 c4 c5 hP xl oz
  obtain ⟨c0, c1, c2, c3, c4, c5⟩ := (unhide L3).c
  go_wp2_with fail
  refine (toB _ y0 (unhide L3).r (unhide SM)).mono ?_
  rintro e u3 ⟨x, hx, rfl, ox, bb⟩
  have L4 := hide (((unhide L3).step bb).step (one_more u3 (.cells #[.slice (some ⟨x.ga, 0, none⟩) x.b.ac.length x.ca, .slice (some ⟨x.gi, 0, none⟩) x.b.ic.length x.ci, .slice (some ⟨x.gb, 0, none⟩) x.b.bs.length x.cb, .slice (some ⟨x.gl, 0, none⟩) x.b.ls.length x.cl, .slice (some ⟨x.gt, 0, none⟩) x.b.ts.length x.ct, .int .i64 x.b.lot] 40)))
  have OX := hide (Ans.ow_alloc ox (.cells #[.slice (some ⟨x.ga, 0, none⟩) x.b.ac.length x.ca, .slice (some ⟨x.gi, 0, none⟩) x.b.ic.length x.ci, .slice (some ⟨x.gb, 0, none⟩) x.b.bs.length x.cb, .slice (some ⟨x.gl, 0, none⟩) x.b.ls.length x.cl, .slice (some ⟨x.gt, 0, none⟩) x.b.ts.length x.ct, .int .i64 x.b.lot] 40))
  have VX := hide (Bv.made (w := u3) (x := x) 40 rfl)
  have OZ4 := hide (Shorts.own_alloc ((unhide OZ).below bb (unhide OZ).lt.2) (.cells #[.slice (some ⟨x.ga, 0, none⟩) x.b.ac.length x.ca, .slice (some ⟨x.gi, 0, none⟩) x.b.ic.length x.ci, .slice (some ⟨x.gb, 0, none⟩) x.b.bs.length x.cb, .slice (some ⟨x.gl, 0, none⟩) x.b.ls.length x.cl, .slice (some ⟨x.gt, 0, none⟩) x.b.ts.length x.ct, .int .i64 x.b.lot] 40))
  have UX := hide (ow_up ox)
  have LX := hide (ow_lo ox)
  have s3 := bb.size
  have HX := hide hx
  clear bb ox hx L3 OZ
  go_wp2_with fail
  refine (TradesOpenI.iTradesOpen _ x a1 a2 ((unhide OX).rd (by rw [unhide HX]; exact unhide SM))).mono ?_
  rintro e u4 ⟨ys, gg, cg, hQ, yl, rfl, og, bb⟩
  rw [unhide HX] at hQ
  obtain rfl := hQ.same (unhide PP)
  have L5 := hide ((unhide L4).step bb)
  have VX5 := hide ((unhide VX).step bb)
  have OX5 := hide ((unhide OX).below bb (Nat.le_refl _))
  have OZ5 := hide ((unhide OZ4).below bb (unhide OZ4).lt.2)
  have OG5 := hide og
  have gg1 : u3.heap.size + 1 ≤ gg := by have := og.lt.1; simpa using this
  clear bb hQ yl og L4 OX VX OZ4 c0 c1 c2 c3 c4 c5
  go_wp2_with fail
  refine (Ints.eqIntS _ gg gz ys.length cg cz ys rfl n20 (unhide OG5).at (unhide OZ5).at).mono ?_
  rintro e u5 ⟨rfl, bb⟩
  have L5 := hide ((unhide L5).step bb)
  have VX5 := hide ((unhide VX5).step bb)
  have OX5 := hide ((unhide OX5).below bb (Nat.le_refl _))
  have OZ5 := hide ((unhide OZ5).below bb (unhide OZ5).lt.2)
  have OG5 := hide ((unhide OG5).below bb (unhide OG5).lt.2)
  have RX5 := hide ((unhide OX5).rd (by rw [unhide HX]; exact unhide SM))
  clear bb
  have l5 := (unhide L5).s
  have v5 := (unhide VX5).l
  go_wp2_with fail
  have K4 := cells12 (unhide L5).c (unhide VX5).c
  go_region_held3 (fun w' => w'.cell? ⟨w.heap.size, 0, none⟩ = some (.slice y0.aa y0.b.ac.length y0.ca) ∧ w'.cell? ⟨w.heap.size, 1, none⟩ = some (.slice y0.ai y0.b.ic.length y0.ci) ∧ w'.cell? ⟨w.heap.size, 2, none⟩ = some (.slice y0.ab y0.b.bs.length y0.cb) ∧ w'.cell? ⟨w.heap.size, 3, none⟩ = some (.slice y0.al y0.b.ls.length y0.cl) ∧ w'.cell? ⟨w.heap.size, 4, none⟩ = some (.slice y0.ats y0.b.ts.length y0.ct) ∧ w'.cell? ⟨w.heap.size, 5, none⟩ = some (.int .i64 y0.b.lot) ∧ w'.cell? ⟨u3.heap.size, 0, none⟩ = some (.slice (some ⟨x.ga, 0, none⟩) x.b.ac.length x.ca) ∧ w'.cell? ⟨u3.heap.size, 1, none⟩ = some (.slice (some ⟨x.gi, 0, none⟩) x.b.ic.length x.ci) ∧ w'.cell? ⟨u3.heap.size, 2, none⟩ = some (.slice (some ⟨x.gb, 0, none⟩) x.b.bs.length x.cb) ∧ w'.cell? ⟨u3.heap.size, 3, none⟩ = some (.slice (some ⟨x.gl, 0, none⟩) x.b.ls.length x.cl) ∧ w'.cell? ⟨u3.heap.size, 4, none⟩ = some (.slice (some ⟨x.gt, 0, none⟩) x.b.ts.length x.ct) ∧ w'.cell? ⟨u3.heap.size, 5, none⟩ = some (.int .i64 x.b.lot)) (first | exact K4 | exact K5 | exact K6)
    (first | (go_at_call 10; refine (toB u5.drew y0 (rdI_drew (unhide L5).r) (unhide SM)).mono ?_; rintro e u6 ⟨q, hqb, rfl, oq, bb⟩; have bW : Below u5.heap.size u5 u6 := below_of_drew bb; have L6 := hide ((unhide L5).step bW); have VX6 := hide ((unhide VX5).step bW); have RX6 := hide ((unhide RX5).below bW); have OX6 := hide ((unhide OX5).below bW (Nat.le_refl _)); have OZ6 := hide ((unhide OZ5).below bW (unhide OZ5).lt.2); have OG6 := hide ((unhide OG5).below bW (unhide OG5).lt.2); have K5 := cells12 (unhide L6).c (unhide VX6).c; have HQ := hide hqb; have OQ := hide oq; clear hqb oq bb bW) | (go_at_call 13; refine (eqB u6 x q (by rw [unhide HQ, unhide HX]) (unhide RX6) ((unhide OQ).rd (by rw [unhide HQ]; exact unhide SM))).mono ?_; rintro e u7 ⟨rfl, bb6⟩; have L7 := hide ((unhide L6).step bb6); have VX7 := hide ((unhide VX6).step bb6); have OX7 := hide ((unhide OX6).below bb6 (Nat.le_refl _)); have OZ7 := hide ((unhide OZ6).below bb6 (unhide OZ6).lt.2); have OG7 := hide ((unhide OG6).below bb6 (unhide OG6).lt.2); have K6 := cells12 (unhide L7).c (unhide VX7).c; clear bb6))
  clear K4 K5 K6
  have EX := (e_bd (b := x.b) (by rw [unhide HX]; exact unhide SM)).2.2.2.2
  obtain ⟨ex, hex⟩ : ∃ ex, Hid (e5 x.b = ex) := ⟨_, rfl⟩
  have ex0 : decide (ex < 0) = false := decide_eq_false (by rw [← unhide hex]; omega)
  clear EX
  obtain ⟨c0, c1, c2, c3, c4, c5⟩ := (unhide VX7).c
  go_wp2_with fail
  refine (markB _ _ x (unhide OX7) (by rw [unhide HX]; exact unhide SM)).mono ?_
  rintro e u8 ⟨rfl, _, tn⟩
  rw [unhide hex]
  have L9 := hide (LB.turn (unhide H) (unhide L7) tn (LawB.Lo.mono (unhide LX) (by omega)))
  have OZ9 := hide (own_turn (unhide OZ7) tn (.inl ⟨u2.heap.size, gz2.2, unhide LX⟩))
  have OG9 := hide (own_turn (unhide OG7) tn (.inr ⟨u3.heap.size, by omega, unhide UX⟩))
  clear tn L5 L6 L7 VX5 VX6 VX7 RX5 RX6 OX5 OX6 OX7 OZ5 OZ6 OZ7 OG5 OG6 OG7 c0 c1 c2 c3 c4 c5
  go_wp2_with fail
  refine (Ints.eqIntS _ gg gz ys.length cg cz ys rfl n20 (unhide OG9).at (unhide OZ9).at).mono ?_
  rintro e u9 ⟨rfl, bb⟩
  have L10 := hide ((unhide L9).step bb)
  have OZ10 := hide ((unhide OZ9).below bb (unhide OZ9).lt.2)
  have OG10 := hide ((unhide OG9).below bb (unhide OG9).lt.2)
  clear bb L9 OZ9 OG9
  go_wp2_with fail
  refine (Ints.markIntS _ _ gg ys.length cg 1 ys n20 (by omega) (by omega) (unhide OG10)).mono ?_
  rintro e u10 ⟨rfl, om, gr⟩
  have L11 := hide (LB.grown (unhide H) (unhide L10) gr (by omega))
  have OZ11 := hide ((unhide OZ10).kept gr (fun e => by injection e; omega))
  have OM := hide om
  clear om gr L10 OZ10 OG10
  obtain ⟨m, hm⟩ : ∃ m, Hid ((1 : Int) + (ys.length : Int) = m) := ⟨_, rfl⟩
  have m0 : decide (m < 0) = false := decide_eq_false (by rw [← unhide hm]; omega)
  have mm : (m != m) = false := by simp
  rw [unhide hm]
  go_wp2_with fail
  refine (heldIntS _ gg ys.length cg n20 (unhide OM).at).mono ?_
  rintro e u11 ⟨rfl, rfl⟩
  rw [unhide hm]
  obtain ⟨c0, c1, c2, c3, c4, c5⟩ := (unhide L11).c
  go_wp2_with fail
  refine (toB _ y0 (unhide L11).r (unhide SM)).mono ?_
  rintro e u12 ⟨v, hv, rfl, ov, bb⟩
  have L13 := hide ((unhide L11).step bb)
  have OZ13 := hide ((unhide OZ11).below bb (unhide OZ11).lt.2)
  have OM13 := hide ((unhide OM).below bb (unhide OM).lt.2)
  have RV := hide (ov.rd (by rw [hv]; exact unhide SM))
  have HV := hide hv
  clear bb ov hv L11 OZ11 OM c0 c1 c2 c3 c4 c5
  go_wp2_with fail
  refine (TradesOpenI.iTradesOpen _ v a1 a2 (unhide RV)).mono ?_
  rintro e u13 ⟨zs, gh, ch, hQ, yl, rfl, oh, bb⟩
  rw [unhide HV] at hQ
  obtain rfl := hQ.same (unhide PP)
  have L14 := hide ((unhide L13).step bb)
  have OZ14 := hide ((unhide OZ13).below bb (unhide OZ13).lt.2)
  have OM14 := hide ((unhide OM13).below bb (unhide OM13).lt.2)
  have OH := hide oh
  clear bb oh hQ yl L13 OZ13 OM13
  go_wp2_with fail
  refine (Ints.eqIntS _ gh gz zs.length ch cz zs rfl n20 (unhide OH).at (unhide OZ14).at).mono ?_
  rintro e u14 ⟨rfl, bb⟩
  have L15 := hide ((unhide L14).step bb)
  have OM15 := hide ((unhide OM14).below bb (unhide OM14).lt.2)
  clear bb L14 OZ14 OM14 OH
  go_wp2_with fail
  refine (heldIntS _ gg zs.length cg n20 (unhide OM15).at).mono ?_
  rintro e u15 ⟨rfl, rfl⟩
  rw [unhide hm]
  go_wp2
  go_ret
  exact ⟨rfl, (unhide L15).b⟩

set_option maxRecDepth 100000 in
theorem lifted (os : Os) (started : os.Started) (H : Type) (enc : TypeId × Value → H) :
    ReturnsInHanded {} Tryz.checked os 7 .any (Rows.fnExactTradesOpenSpec.pre6 enc Tryz.prog Tryz.f7 Rows.fnExactTradesOpenRow.domain false) (Rows.fnExactTradesOpenSpec.post enc Tryz.prog Tryz.f7 false true false false) := by
  refine returnsInHanded_of_change (C := Tryz.checked) own started (by kernel_rfl) Tryz.func7
    (ChangeSpec.witness6 (enc := enc) (C := Tryz.checked) false ⟨#[], #[.agg #[.slice none 0 0, .slice none 0 0, .slice none 0 0, .slice none 0 0, .slice none 0 0, .int .i64 0], .int .i64 0, .int .i64 0], []⟩ 8 (by kernel_rfl) (by kernel_rfl) (by kernel_rfl) (by kernel_rfl)) ?_
  intro W base args ds gs before hval0 hW hcnd _
  have hval : ∀ (j : Nat) t v, Tryz.f7.params[j]? = some t → args[j]? = some v → Value.okWide Tryz.prog W .any base t v := hval0
  have hW' := hW
  obtain ⟨p, q, hA0, hV, rfl, hfz, hnd⟩ := hW
  have hA : DataW.TrodAll enc Tryz.prog W 0 (fun _ => true) true Tryz.f7.params.toList args.toList ds p := hA0
  rw [Tryz.params7] at hA hval
  obtain ⟨v0, vs0, d0, ds0, p0, q0, hargs, rfl, rfl, h0, r0⟩ := trodAll_cons hA
  obtain ⟨v1, vs1, d1, ds1, p1, q1, rfl, rfl, rfl, h1, r1⟩ := trodAll_cons r0
  obtain ⟨v2, vs2, d2, ds2, p2, q2, rfl, rfl, rfl, h2, r2⟩ := trodAll_cons r1
  obtain ⟨rfl, rfl, rfl⟩ := trodAll_nil r2
  obtain rfl : args = #[v0, v1, v2] := by cases args; simp_all
  obtain ⟨rfl, rfl⟩ := trodVars_none hV
  have k0 := h0
  have lt0 : ∀ x ∈ p0, x.block < W.heap.size := by obtain ⟨m, hm⟩ := k0; exact DataW.trod_lt m _ _ _ hm
  obtain ⟨y0, rfl, rk0, f0⟩ := OpensB.open_books (hval 0 28 v0 rfl rfl) h0
  obtain ⟨a1, rfl, rfl, rfl, w1⟩ := open_int Tryz.underlying3 (hval 1 3 v1 rfl rfl) h1
  obtain ⟨a2, rfl, rfl, rfl, w2⟩ := open_int Tryz.underlying3 (hval 2 3 v2 rfl rfl) h2
  clear hA0 hval0
  refine (walk y0 a1 a2 W rk0 f0 w1 w2).mono fun e W' ⟨he, bel⟩ => ?_
  subst he
  exact ⟨_, rfl, _, _, _, [], _, [], hW', trodAll_mk1 (shut_bool Tryz.underlying4 _), (trodAll_cons_mk (Below.trod laidOut (by kernel_rfl) (of_decide_eq_true (by kernel_rfl)) k0 bel lt0) (trodAll_cons_mk (shut_int Tryz.underlying3 w1) (trodAll_cons_mk (shut_int Tryz.underlying3 w2) trodAll_mk0))), rfl, bel.frame _, fun h => by cases h⟩

theorem over : Rows.fnExactTradesOpenRow.holds Tryz.pinned (OpenSpec.ofChange Rows.fnExactTradesOpenSpec) :=
  OpenClaim.holds_of_wide 7 Tryz.f7 rfl rfl rfl rfl rfl rfl rfl ⟨rfl, rfl, rfl, rfl, rfl⟩ rfl rfl rfl rfl rfl (by kernel_rfl) Tryz.func7 (by kernel_rfl)
    (of_decide_eq_true (by kernel_rfl)) (by unfold Func.isWrapper; first | (rw [if_pos (by decide +kernel)]; kernel_rfl) | (rw [if_neg (by decide +kernel)]; exact ⟨rfl, rfl⟩))
    (fun os started H enc _ => lifted os started H enc)

/-- The statement. -/
theorem proved : Rows.FnExactTradesOpenSaid := over
#print axioms proved
end Go.Proofs.YteooapfmiammlaaGreat.fnExactTradesOpen
