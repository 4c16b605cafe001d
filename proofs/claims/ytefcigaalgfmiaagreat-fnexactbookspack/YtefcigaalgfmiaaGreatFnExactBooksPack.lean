/- At all books the program's BooksPack answers as its model, writes into no argument, and its answer is its own. No condition. -/
import Derived.Test.YtefcigaalgfmiaaGreatRows
import Derived.Test.YtefcigaalgfmiaaGreatPG1
import Derived.Test.YtefcigaalgfmiaaGreatPG2
import Derived.Test.YtefcigaalgfmiaaGreatPG3
import Derived.Test.YtefcigaalgfmiaaGreatPG4
import Derived.ShutString
import Derived.ChangeOld
import Derived.Below
namespace Go.Proofs.YtefcigaalgfmiaaGreat.fnExactBooksPack
open Go.ChangeShapes Go.WideShapes Go.ChangeAt Go.RowKit
open Go.ChangeMaps (open_string shut_string)
set_option linter.unusedVariables false
set_option linter.unusedSimpArgs false

theorem own : ownKnob Tryz.prog.godebug = none := by kernel_rfl
theorem laidOut : laidOutB Tryz.prog = true := by kernel_rfl

open BMem Bks BHelp BkEq LawB Law13 SPack13
open Lots (Says says_of)
open IBalsFit (one_more)



set_option maxRecDepth 100000 in
set_option maxHeartbeats 8000000 in
theorem walk (y0 : BHelp.Ix) (w : World) (r0 : BHelp.RdI w y0) (f0 : BkEq.Fits y0.b) :
    Calls Tryz.prog 3 #[.agg #[.slice y0.aa y0.b.ac.length y0.ca, .slice y0.ai y0.b.ic.length y0.ci, .slice y0.ab y0.b.bs.length y0.cb, .slice y0.al y0.b.ls.length y0.cl, .slice y0.ats y0.b.ts.length y0.ct, .int .i64 y0.b.lot]] w fun e w' => e = .returned (.bool true) ∧ Below w.heap.size w w' := by
  obtain ⟨ok, OK⟩ := says_of (Ok y0.b)
  have HO := hide OK
  have H := hide r0
  have L0 := hide (LB.start r0 28)
  clear r0 OK
  go_enter Tryz.func3, Tryz.ntmps3
  go_wp2_with fail
  refine (szB _ y0 f0).mono ?_
  rintro e u0 ⟨r, rfl, hr, bb⟩
  have L1 := hide ((unhide L0).step bb)
  clear bb L0
  rcases hr with rfl | ⟨r1, sm⟩
  · go_wp2
    go_ret
    exact ⟨rfl, (unhide L1).b⟩
  have SM := hide sm
  have rn : ¬ r < 0 := by omega
  clear sm r1
  have AL := hide (pack_len y0.b)
  have SP := hide (fun u z (hz : z.b = y0.b) h => sBooksPack u z ok h (by rw [hz]; exact unhide HO))
  have IM := hide (fun u z (hz : z.b = y0.b) h => IPack13.iBooksPack u z ok h (by rw [hz]; exact unhide HO))
  obtain ⟨ws, hws⟩ : ∃ ws, Hid (packB y0.b = ws) := ⟨_, rfl⟩
  rw [unhide hws] at AL
  obtain ⟨nw, hnw⟩ : ∃ n, Hid (ws.length = n) := ⟨_, rfl⟩
  rw [unhide hnw] at AL
  obtain ⟨c0, c1, c2, c3, c4, c5⟩ := (unhide L1).c
  go_wp2_with fail
  refine (toB _ y0 (unhide L1).r (unhide SM)).mono ?_
  rintro e u1 ⟨z, hz, rfl, oz, bb⟩
  have L2 := hide ((unhide L1).step bb)
  have RZ := hide (oz.rd (by rw [hz]; exact unhide SM))
  have HZ := hide hz
  clear bb oz hz L1
  go_wp2_with fail
  refine ((unhide SP) _ z (unhide HZ) (unhide RZ)).mono ?_
  rintro e u2 ⟨g2, k2, rfl, ow, bb⟩
  rw [unhide HZ, unhide hws, unhide hnw] at ow ⊢
  have L3 := hide ((unhide L2).step bb)
  have gz1 := (unhide L2).s
  have gw := ow.lt
  have OW := hide (VOB.Ob.of ow)
  clear bb L2 RZ c0 c1 c2 c3 c4 c5 ow
  obtain ⟨c0, c1, c2, c3, c4, c5⟩ := (unhide L3).c
  go_wp2_with fail
  refine (toB _ y0 (unhide L3).r (unhide SM)).mono ?_
  rintro e u3 ⟨x, hx, rfl, ox, bb⟩
  have L4 := hide (((unhide L3).step bb).step (one_more u3 (.cells #[.slice (some ⟨x.ga, 0, none⟩) x.b.ac.length x.ca, .slice (some ⟨x.gi, 0, none⟩) x.b.ic.length x.ci, .slice (some ⟨x.gb, 0, none⟩) x.b.bs.length x.cb, .slice (some ⟨x.gl, 0, none⟩) x.b.ls.length x.cl, .slice (some ⟨x.gt, 0, none⟩) x.b.ts.length x.ct, .int .i64 x.b.lot] 39)))
  have OX := hide (ow_alloc ox (.cells #[.slice (some ⟨x.ga, 0, none⟩) x.b.ac.length x.ca, .slice (some ⟨x.gi, 0, none⟩) x.b.ic.length x.ci, .slice (some ⟨x.gb, 0, none⟩) x.b.bs.length x.cb, .slice (some ⟨x.gl, 0, none⟩) x.b.ls.length x.cl, .slice (some ⟨x.gt, 0, none⟩) x.b.ts.length x.ct, .int .i64 x.b.lot] 39))
  have VX := hide (Bv.made (w := u3) (x := x) 39 rfl)
  have OW4 := hide (((unhide OW).step bb).step (one_more u3 (.cells #[.slice (some ⟨x.ga, 0, none⟩) x.b.ac.length x.ca, .slice (some ⟨x.gi, 0, none⟩) x.b.ic.length x.ci, .slice (some ⟨x.gb, 0, none⟩) x.b.bs.length x.cb, .slice (some ⟨x.gl, 0, none⟩) x.b.ls.length x.cl, .slice (some ⟨x.gt, 0, none⟩) x.b.ts.length x.ct, .int .i64 x.b.lot] 39)))
  have UX := hide (ow_up ox)
  have LX := hide (ow_lo ox)
  have s3 := bb.size
  have HX := hide hx
  clear bb ox hx L3 OW
  go_wp2_with fail
  refine ((unhide IM) _ x (unhide HX) ((unhide OX).rd (by rw [unhide HX]; exact unhide SM))).mono ?_
  rintro e u4 ⟨a4, k4, rfl, og, bb⟩
  rw [unhide HX, unhide hws, unhide hnw] at og ⊢
  have L5' := hide ((unhide L4).step bb)
  have VX5' := hide ((unhide VX).step bb)
  have OX5' := hide ((unhide OX).below bb (Nat.le_refl _))
  have OW5' := hide ((unhide OW4).step bb)
  have OG5' := hide og
  have TG := hide (show VOB.Btw (u3.heap.size + 1) u4.heap.size a4 from og.btw.mono (by simp) (Nat.le_refl _))
  have s4 := bb.size
  clear bb og L4 OX VX OW4 c0 c1 c2 c3 c4 c5
  have ho : (ok != ok) = false := by simp
  go_wp2_with fail
  refine (VOB.eqO _ _ _ nw _ _ ws (unhide hnw) (unhide AL) (unhide OG5').rd (unhide OW5').rd).mono ?_
  rintro e u5 ⟨rfl, bb⟩
  have L5 := hide ((unhide L5').step bb)
  have VX5 := hide ((unhide VX5').step bb)
  have OX5 := hide ((unhide OX5').below bb (Nat.le_refl _))
  have OW5 := hide ((unhide OW5').step bb)
  have OG5 := hide ((unhide OG5').step bb)
  clear bb L5' VX5' OX5' OW5' OG5'
  have RX5 := hide ((unhide OX5).rd (by rw [unhide HX]; exact unhide SM))
  have l5 := (unhide L5).s
  have v5 := (unhide VX5).l
  go_wp2_with fail
  have K4 := cells12 (unhide L5).c (unhide VX5).c
  go_region_held3 (fun w' => w'.cell? ⟨w.heap.size, 0, none⟩ = some (.slice y0.aa y0.b.ac.length y0.ca) ∧ w'.cell? ⟨w.heap.size, 1, none⟩ = some (.slice y0.ai y0.b.ic.length y0.ci) ∧ w'.cell? ⟨w.heap.size, 2, none⟩ = some (.slice y0.ab y0.b.bs.length y0.cb) ∧ w'.cell? ⟨w.heap.size, 3, none⟩ = some (.slice y0.al y0.b.ls.length y0.cl) ∧ w'.cell? ⟨w.heap.size, 4, none⟩ = some (.slice y0.ats y0.b.ts.length y0.ct) ∧ w'.cell? ⟨w.heap.size, 5, none⟩ = some (.int .i64 y0.b.lot) ∧ w'.cell? ⟨u3.heap.size, 0, none⟩ = some (.slice (some ⟨x.ga, 0, none⟩) x.b.ac.length x.ca) ∧ w'.cell? ⟨u3.heap.size, 1, none⟩ = some (.slice (some ⟨x.gi, 0, none⟩) x.b.ic.length x.ci) ∧ w'.cell? ⟨u3.heap.size, 2, none⟩ = some (.slice (some ⟨x.gb, 0, none⟩) x.b.bs.length x.cb) ∧ w'.cell? ⟨u3.heap.size, 3, none⟩ = some (.slice (some ⟨x.gl, 0, none⟩) x.b.ls.length x.cl) ∧ w'.cell? ⟨u3.heap.size, 4, none⟩ = some (.slice (some ⟨x.gt, 0, none⟩) x.b.ts.length x.ct) ∧ w'.cell? ⟨u3.heap.size, 5, none⟩ = some (.int .i64 x.b.lot)) (first | exact K4 | exact K5 | exact K6)
    (first | (go_at_call 7; refine (toB u5.drew y0 (rdI_drew (unhide L5).r) (unhide SM)).mono ?_; rintro e u6 ⟨q, hqb, rfl, oq, bb⟩; have bW : Below u5.heap.size u5 u6 := below_of_drew bb; have L6 := hide ((unhide L5).step bW); have VX6 := hide ((unhide VX5).step bW); have RX6 := hide ((unhide RX5).below bW); have OX6 := hide ((unhide OX5).below bW (Nat.le_refl _)); have OW6 := hide ((unhide OW5).step bW); have OG6 := hide ((unhide OG5).step bW); have K5 := cells12 (unhide L6).c (unhide VX6).c; have HQ := hide hqb; have OQ := hide oq; clear hqb oq bb bW) | (go_at_call 10; refine (eqB u6 x q (by rw [unhide HQ, unhide HX]) (unhide RX6) ((unhide OQ).rd (by rw [unhide HQ]; exact unhide SM))).mono ?_; rintro e u7 ⟨rfl, bb6⟩; have L7 := hide ((unhide L6).step bb6); have VX7 := hide ((unhide VX6).step bb6); have OX7 := hide ((unhide OX6).below bb6 (Nat.le_refl _)); have OW7 := hide ((unhide OW6).step bb6); have OG7 := hide ((unhide OG6).step bb6); have K6 := cells12 (unhide L7).c (unhide VX7).c; clear bb6))
  clear K4 K5 K6
  have EX := (e_bd (b := x.b) (by rw [unhide HX]; exact unhide SM)).2.2.2.2
  obtain ⟨ex, hex⟩ : ∃ ex, Hid (e5 x.b = ex) := ⟨_, rfl⟩
  have ex0 : decide (ex < 0) = false := decide_eq_false (by rw [← unhide hex]; omega)
  clear EX
  obtain ⟨c0, c1, c2, c3, c4, c5⟩ := (unhide VX7).c
  go_wp2_with fail
  refine (markB _ _ x (unhide OX7) (by rw [unhide HX]; exact unhide SM)).mono ?_
  rintro e u8 ⟨rfl, _, tn⟩
  rw [unhide hex]
  have L9' := hide (LB.turn (unhide H) (unhide L7) tn (LawB.Lo.mono (unhide LX) (by omega)))
  have OW9' := hide (ob_turn (unhide OW7) tn (.inl ⟨u2.heap.size, fun q hq => by cases hq; exact ⟨Nat.zero_le _, gw.2⟩, unhide LX⟩))
  have OG9' := hide (ob_turn (unhide OG7) tn (.inr ⟨u3.heap.size, fun q hq => ⟨Nat.le_trans (Nat.le_succ _) ((unhide TG) q hq).1, ((unhide OG7).btw q hq).2⟩, unhide UX⟩))
  clear tn L5 L6 L7 VX5 VX6 VX7 RX5 RX6 OX5 OX6 OX7 OW5 OW6 OW7 OG5 OG6 OG7 c0 c1 c2 c3 c4 c5
  go_wp2_with fail
  refine (VOB.eqO _ _ _ nw _ _ ws (unhide hnw) (unhide AL) (unhide OG9').rd (unhide OW9').rd).mono ?_
  rintro e u9 ⟨rfl, bb⟩
  have L9 := hide ((unhide L9').step bb)
  have OW9 := hide ((unhide OW9').step bb)
  have OG9 := hide ((unhide OG9').step bb)
  clear bb L9' OW9' OG9'
  go_wp2_with fail
  refine (VOB.markO _ _ nw _ _ ws (unhide AL) (unhide OG9)).mono ?_
  rintro e u10 ⟨rfl, og, gr⟩
  have L11 := hide (Law13.LB.grown (unhide H) (unhide L9) gr (fun j hj => by have := blk_le (unhide TG) j hj; omega))
  have OW11 := hide ((unhide OW9).kept gr (fun q hq => by cases hq; exact VOB.blk_ne (unhide TG) (.inl (by show g2 < _; omega))))
  have OG11 := hide og
  clear og gr L9 OW9 OG9
  have m0 : ¬ (1 + (nw : Int) < 0) := by omega
  have m1 : ((1 + (nw : Int)) != (1 + (nw : Int))) = false := by simp
  go_wp2_with fail
  refine (VOB.heldO _ nw _ _ (unhide AL) (unhide OG11).rd).mono ?_
  rintro e u12 ⟨rfl, rfl⟩
  obtain ⟨c0, c1, c2, c3, c4, c5⟩ := (unhide L11).c
  go_wp2_with fail
  refine (toB _ y0 (unhide L11).r (unhide SM)).mono ?_
  rintro e u14 ⟨v, hv, rfl, ov, bb⟩
  have L13 := hide ((unhide L11).step bb)
  have OW13 := hide ((unhide OW11).step bb)
  have OG13 := hide ((unhide OG11).step bb)
  have RV := hide (ov.rd (by rw [hv]; exact unhide SM))
  have HV := hide hv
  clear bb ov hv L11 OW11 OG11 c0 c1 c2 c3 c4 c5
  go_wp2_with fail
  refine ((unhide IM) _ v (unhide HV) (unhide RV)).mono ?_
  rintro e u15 ⟨a15, k15, rfl, oh, bb⟩
  rw [unhide HV, unhide hws, unhide hnw] at oh ⊢
  have L14 := hide ((unhide L13).step bb)
  have OW14 := hide ((unhide OW13).step bb)
  have OG14 := hide ((unhide OG13).step bb)
  have OH := hide oh
  clear bb oh L13 OW13 OG13
  go_wp2_with fail
  refine (VOB.eqO _ _ _ nw _ _ ws (unhide hnw) (unhide AL) (unhide OH).rd (unhide OW14).rd).mono ?_
  rintro e u16 ⟨rfl, bb⟩
  have L15 := hide ((unhide L14).step bb)
  have OG15 := hide ((unhide OG14).step bb)
  clear bb L14 OG14
  go_wp2_with fail
  refine (VOB.heldO _ nw _ _ (unhide AL) (unhide OG15).rd).mono ?_
  rintro e u17 ⟨rfl, rfl⟩
  go_wp2
  go_ret
  exact ⟨rfl, (unhide L15).b⟩

set_option maxRecDepth 100000 in
theorem lifted (os : Os) (started : os.Started) (H : Type) (enc : TypeId × Value → H) :
    ReturnsInHanded {} Tryz.checked os 3 .any (Rows.fnExactBooksPackSpec.pre6 enc Tryz.prog Tryz.f3 Rows.fnExactBooksPackRow.domain false) (Rows.fnExactBooksPackSpec.post enc Tryz.prog Tryz.f3 false true false false) := by
  refine returnsInHanded_of_change (C := Tryz.checked) own started (by kernel_rfl) Tryz.func3
    (ChangeSpec.witness6 (enc := enc) (C := Tryz.checked) false ⟨#[], #[.agg #[.slice none 0 0, .slice none 0 0, .slice none 0 0, .slice none 0 0, .slice none 0 0, .int .i64 0]], []⟩ 8 (by kernel_rfl) (by kernel_rfl) (by kernel_rfl) (by kernel_rfl)) ?_
  intro W base args ds gs before hval0 hW hcnd _
  have hval : ∀ (j : Nat) t v, Tryz.f3.params[j]? = some t → args[j]? = some v → Value.okWide Tryz.prog W .any base t v := hval0
  have hW' := hW
  obtain ⟨p, q, hA0, hV, rfl, hfz, hnd⟩ := hW
  have hA : DataW.TrodAll enc Tryz.prog W 0 (fun _ => true) true Tryz.f3.params.toList args.toList ds p := hA0
  rw [Tryz.params3] at hA hval
  obtain ⟨v0, vs0, d0, ds0, p0, q0, hargs, rfl, rfl, h0, r0⟩ := trodAll_cons hA
  obtain ⟨rfl, rfl, rfl⟩ := trodAll_nil r0
  obtain rfl : args = #[v0] := by cases args; simp_all
  obtain ⟨rfl, rfl⟩ := trodVars_none hV
  have k0 := h0
  have lt0 : ∀ x ∈ p0, x.block < W.heap.size := by obtain ⟨m, hm⟩ := k0; exact DataW.trod_lt m _ _ _ hm
  obtain ⟨y0, rfl, rk0, f0⟩ := OpensB.open_books (hval 0 28 v0 rfl rfl) h0
  clear hA0 hval0
  refine (walk y0 W rk0 f0).mono fun e W' ⟨he, bel⟩ => ?_
  subst he
  exact ⟨_, rfl, _, _, _, [], _, [], hW', trodAll_mk1 (shut_bool Tryz.underlying4 _), (trodAll_cons_mk (Below.trod laidOut (by kernel_rfl) (of_decide_eq_true (by kernel_rfl)) k0 bel lt0) trodAll_mk0), rfl, bel.frame _, fun h => by cases h⟩

theorem over : Rows.fnExactBooksPackRow.holds Tryz.pinned (OpenSpec.ofChange Rows.fnExactBooksPackSpec) :=
  OpenClaim.holds_of_wide 3 Tryz.f3 rfl rfl rfl rfl rfl rfl rfl ⟨rfl, rfl, rfl, rfl, rfl⟩ rfl rfl rfl rfl rfl (by kernel_rfl) Tryz.func3 (by kernel_rfl)
    (of_decide_eq_true (by kernel_rfl)) (by unfold Func.isWrapper; first | (rw [if_pos (by decide +kernel)]; kernel_rfl) | (rw [if_neg (by decide +kernel)]; exact ⟨rfl, rfl⟩))
    (fun os started H enc _ => lifted os started H enc)

/-- The statement. -/
theorem proved : Rows.FnExactBooksPackSaid := over
#print axioms proved
end Go.Proofs.YtefcigaalgfmiaaGreat.fnExactBooksPack
