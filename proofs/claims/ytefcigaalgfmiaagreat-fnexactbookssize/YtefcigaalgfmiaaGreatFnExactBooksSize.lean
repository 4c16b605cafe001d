/- At all books the program's BooksSize answers as its model, and writes into no argument. No condition. -/
import Derived.Test.YtefcigaalgfmiaaGreatRows
import Derived.Test.YtefcigaalgfmiaaGreatPG1
import Derived.Test.YtefcigaalgfmiaaGreatPG2
import Derived.Test.YtefcigaalgfmiaaGreatPG3
import Derived.Test.YtefcigaalgfmiaaGreatPG4
import Derived.ShutString
import Derived.ChangeOld
import Derived.Below
namespace Go.Proofs.YtefcigaalgfmiaaGreat.fnExactBooksSize
open Go.ChangeShapes Go.WideShapes Go.ChangeAt Go.RowKit
open Go.ChangeMaps (open_string shut_string)
set_option linter.unusedVariables false
set_option linter.unusedSimpArgs false

theorem own : ownKnob Tryz.prog.godebug = none := by kernel_rfl
theorem laidOut : laidOutB Tryz.prog = true := by kernel_rfl

open BMem Bks BHelp BkEq LawB
open Lots (Says says_of)
open IBalsFit (one_more)
open ILotsFit (below_of_drew)


set_option maxRecDepth 100000 in
set_option maxHeartbeats 8000000 in
theorem walk (y0 : BHelp.Ix) (w : World) (r0 : BHelp.RdI w y0) (f0 : BkEq.Fits y0.b) :
    Calls Tryz.prog 4 #[.agg #[.slice y0.aa y0.b.ac.length y0.ca, .slice y0.ai y0.b.ic.length y0.ci, .slice y0.ab y0.b.bs.length y0.cb, .slice y0.al y0.b.ls.length y0.cl, .slice y0.ats y0.b.ts.length y0.ct, .int .i64 y0.b.lot]] w fun e w' => e = .returned (.bool true) ∧ Below w.heap.size w w' := by
  obtain ⟨ok, OK⟩ := says_of (Ok y0.b)
  have HO := hide OK
  have L0 := hide (LB.start r0 28)
  clear r0 OK
  go_enter Tryz.func4, Tryz.ntmps4
  go_wp2_with fail
  refine (szB _ y0 f0).mono ?_
  rintro e u0 ⟨r, rfl, hr, bb⟩
  have L1 := hide ((unhide L0).step bb)
  clear bb L0
  rcases hr with rfl | ⟨r1, sm⟩
  · go_wp2
    go_ret
    exact ⟨rfl, (unhide L1).b⟩
  have SM := hide sm
  have rn : ¬ r < 0 := by omega
  clear sm r1
  obtain ⟨c0, c1, c2, c3, c4, c5⟩ := (unhide L1).c
  go_wp2_with fail
  refine (toB _ y0 (unhide L1).r (unhide SM)).mono ?_
  rintro e u1 ⟨z, hz, rfl, oz, bb⟩
  have L2 := hide ((unhide L1).step bb)
  have RZ := hide (oz.rd (by rw [hz]; exact unhide SM))
  have HZ := hide hz
  clear bb oz hz L1
  go_wp2_with fail
  refine (SPack13.sBooksSize _ z ok (unhide RZ) (by rw [unhide HZ]; exact unhide HO)).mono ?_
  rintro e u2 ⟨rfl, bb⟩
  have L3 := hide ((unhide L2).step bb)
  rw [unhide HZ]
  obtain ⟨m, hm⟩ : ∃ m, Hid ((if ok = true then ((SPack13.packB y0.b).length : Int) else -1) = m) := ⟨_, rfl⟩
  rw [unhide hm]
  clear bb L2 RZ c0 c1 c2 c3 c4 c5
  obtain ⟨c0, c1, c2, c3, c4, c5⟩ := (unhide L3).c
  go_wp2_with fail
  refine (toB _ y0 (unhide L3).r (unhide SM)).mono ?_
  rintro e u3 ⟨x, hx, rfl, ox, bb⟩
  have L4 := hide (((unhide L3).step bb).step (one_more u3 (.cells #[.slice (some ⟨x.ga, 0, none⟩) x.b.ac.length x.ca, .slice (some ⟨x.gi, 0, none⟩) x.b.ic.length x.ci, .slice (some ⟨x.gb, 0, none⟩) x.b.bs.length x.cb, .slice (some ⟨x.gl, 0, none⟩) x.b.ls.length x.cl, .slice (some ⟨x.gt, 0, none⟩) x.b.ts.length x.ct, .int .i64 x.b.lot] 39)))
  have RX := hide ((ox.rd (by rw [hx]; exact unhide SM)).alloc (.cells #[.slice (some ⟨x.ga, 0, none⟩) x.b.ac.length x.ca, .slice (some ⟨x.gi, 0, none⟩) x.b.ic.length x.ci, .slice (some ⟨x.gb, 0, none⟩) x.b.bs.length x.cb, .slice (some ⟨x.gl, 0, none⟩) x.b.ls.length x.cl, .slice (some ⟨x.gt, 0, none⟩) x.b.ts.length x.ct, .int .i64 x.b.lot] 39))
  have VX := hide (Bv.made (w := u3) (x := x) 39 rfl)
  have HX := hide hx
  clear bb ox hx L3
  go_wp2_with fail
  refine (IPack13.iBooksSize _ x ok (unhide RX) (by rw [unhide HX]; exact unhide HO)).mono ?_
  rintro e u4 ⟨rfl, bb⟩
  rw [unhide HX, unhide hm]
  have L5 := hide ((unhide L4).step bb)
  have RX5 := hide ((unhide RX).below bb)
  have VX5 := hide ((unhide VX).step bb)
  clear bb L4 RX VX c0 c1 c2 c3 c4 c5
  have hq : (m != m) = false := by simp
  have l5 := (unhide L5).s
  have v5 := (unhide VX5).l
  go_wp2_with fail
  have K4 := cells12 (unhide L5).c (unhide VX5).c
  clear hq
  go_region_held3 (fun w' => w'.cell? ⟨w.heap.size, 0, none⟩ = some (.slice y0.aa y0.b.ac.length y0.ca) ∧ w'.cell? ⟨w.heap.size, 1, none⟩ = some (.slice y0.ai y0.b.ic.length y0.ci) ∧ w'.cell? ⟨w.heap.size, 2, none⟩ = some (.slice y0.ab y0.b.bs.length y0.cb) ∧ w'.cell? ⟨w.heap.size, 3, none⟩ = some (.slice y0.al y0.b.ls.length y0.cl) ∧ w'.cell? ⟨w.heap.size, 4, none⟩ = some (.slice y0.ats y0.b.ts.length y0.ct) ∧ w'.cell? ⟨w.heap.size, 5, none⟩ = some (.int .i64 y0.b.lot) ∧ w'.cell? ⟨u3.heap.size, 0, none⟩ = some (.slice (some ⟨x.ga, 0, none⟩) x.b.ac.length x.ca) ∧ w'.cell? ⟨u3.heap.size, 1, none⟩ = some (.slice (some ⟨x.gi, 0, none⟩) x.b.ic.length x.ci) ∧ w'.cell? ⟨u3.heap.size, 2, none⟩ = some (.slice (some ⟨x.gb, 0, none⟩) x.b.bs.length x.cb) ∧ w'.cell? ⟨u3.heap.size, 3, none⟩ = some (.slice (some ⟨x.gl, 0, none⟩) x.b.ls.length x.cl) ∧ w'.cell? ⟨u3.heap.size, 4, none⟩ = some (.slice (some ⟨x.gt, 0, none⟩) x.b.ts.length x.ct) ∧ w'.cell? ⟨u3.heap.size, 5, none⟩ = some (.int .i64 x.b.lot)) (first | exact K4 | exact K5 | exact K6)
    (first | (go_at_call 7; refine (toB u4.drew y0 (rdI_drew (unhide L5).r) (unhide SM)).mono ?_; rintro e u5 ⟨q, hqb, rfl, oq, bb⟩; have bW : Below u4.heap.size u4 u5 := below_of_drew bb; have L6 := hide ((unhide L5).step bW); have VX6 := hide ((unhide VX5).step bW); have RX6 := hide ((unhide RX5).below bW); have K5 := cells12 (unhide L6).c (unhide VX6).c; have HQ := hide hqb; have OQ := hide oq; clear hqb oq bb bW) | (go_at_call 10; refine (eqB u5 x q (by rw [unhide HQ, unhide HX]) (unhide RX6) ((unhide OQ).rd (by rw [unhide HQ]; exact unhide SM))).mono ?_; rintro e u6 ⟨rfl, bb6⟩; have L7 := hide ((unhide L6).step bb6); have VX7 := hide ((unhide VX6).step bb6); have K6 := cells12 (unhide L7).c (unhide VX7).c; clear bb6))
  clear K4 K5 K6
  go_wp2
  go_ret
  exact ⟨rfl, (unhide L7).b⟩

set_option maxRecDepth 100000 in
theorem lifted (os : Os) (started : os.Started) (H : Type) (enc : TypeId × Value → H) :
    ReturnsInHanded {} Tryz.checked os 4 .any (Rows.fnExactBooksSizeSpec.pre6 enc Tryz.prog Tryz.f4 Rows.fnExactBooksSizeRow.domain false) (Rows.fnExactBooksSizeSpec.post enc Tryz.prog Tryz.f4 false true false false) := by
  refine returnsInHanded_of_change (C := Tryz.checked) own started (by kernel_rfl) Tryz.func4
    (ChangeSpec.witness6 (enc := enc) (C := Tryz.checked) false ⟨#[], #[.agg #[.slice none 0 0, .slice none 0 0, .slice none 0 0, .slice none 0 0, .slice none 0 0, .int .i64 0]], []⟩ 8 (by kernel_rfl) (by kernel_rfl) (by kernel_rfl) (by kernel_rfl)) ?_
  intro W base args ds gs before hval0 hW hcnd _
  have hval : ∀ (j : Nat) t v, Tryz.f4.params[j]? = some t → args[j]? = some v → Value.okWide Tryz.prog W .any base t v := hval0
  have hW' := hW
  obtain ⟨p, q, hA0, hV, rfl, hfz, hnd⟩ := hW
  have hA : DataW.TrodAll enc Tryz.prog W 0 (fun _ => true) true Tryz.f4.params.toList args.toList ds p := hA0
  rw [Tryz.params4] at hA hval
  obtain ⟨v0, vs0, d0, ds0, p0, q0, hargs, rfl, rfl, h0, r0⟩ := trodAll_cons hA
  obtain ⟨rfl, rfl, rfl⟩ := trodAll_nil r0
  obtain rfl : args = #[v0] := by cases args; simp_all
  obtain ⟨rfl, rfl⟩ := trodVars_none hV
  have k0 := h0
  have lt0 : ∀ x ∈ p0, x.block < W.heap.size := by obtain ⟨m, hm⟩ := k0; exact DataW.trod_lt m _ _ _ hm
  obtain ⟨y0, rfl, rk0, f0⟩ := OpensB.open_books (hval 0 28 v0 rfl rfl) h0
  clear hA0 hval0
  refine (walk y0 W rk0 f0).mono fun e W' ⟨he, bel⟩ => ?_
  subst he
  exact ⟨_, rfl, _, _, _, [], _, [], hW', trodAll_mk1 (shut_bool Tryz.underlying4 _), (trodAll_cons_mk (Below.trod laidOut (by kernel_rfl) (of_decide_eq_true (by kernel_rfl)) k0 bel lt0) trodAll_mk0), rfl, bel.frame _, fun h => by cases h⟩

theorem over : Rows.fnExactBooksSizeRow.holds Tryz.pinned (OpenSpec.ofChange Rows.fnExactBooksSizeSpec) :=
  OpenClaim.holds_of_wide 4 Tryz.f4 rfl rfl rfl rfl rfl rfl rfl ⟨rfl, rfl, rfl, rfl, rfl⟩ rfl rfl rfl rfl rfl (by kernel_rfl) Tryz.func4 (by kernel_rfl)
    (of_decide_eq_true (by kernel_rfl)) (by unfold Func.isWrapper; first | (rw [if_pos (by decide +kernel)]; kernel_rfl) | (rw [if_neg (by decide +kernel)]; exact ⟨rfl, rfl⟩))
    (fun os started H enc _ => lifted os started H enc)

/-- The statement. -/
theorem proved : Rows.FnExactBooksSizeSaid := over
#print axioms proved
end Go.Proofs.YtefcigaalgfmiaaGreat.fnExactBooksSize
