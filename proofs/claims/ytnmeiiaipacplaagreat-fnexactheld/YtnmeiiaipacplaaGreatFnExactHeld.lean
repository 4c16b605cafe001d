/- At all books and numbers the program's Held answers as its model, writes into no argument, and its answer owns its memory. No condition. -/
import Derived.Test.YtnmeiiaipacplaaGreatRows
import Derived.Test.YtnmeiiaipacplaaGreatUG1
import Derived.Test.YtnmeiiaipacplaaGreatUG2
import Derived.Test.YtnmeiiaipacplaaGreatUG3
import Derived.Test.YtnmeiiaipacplaaGreatUG4
import Derived.Test.YtnmeiiaipacplaaGreatUG5
import Derived.Test.YtnmeiiaipacplaaGreatUG6
import Derived.Test.YtnmeiiaipacplaaGreatUG7
import Derived.Test.YtnmeiiaipacplaaGreatUG8
import Derived.Test.YtnmeiiaipacplaaGreatUG9
import Derived.Test.YtnmeiiaipacplaaGreatUG10
import Derived.ShutString
import Derived.ChangeOld
import Derived.Below
namespace Go.Proofs.YtnmeiiaipacplaaGreat.fnExactHeld
open Go.ChangeShapes Go.WideShapes Go.ChangeAt Go.RowKit
open Go.ChangeMaps (open_string shut_string)
set_option linter.unusedVariables false
set_option linter.unusedSimpArgs false

theorem own : ownKnob Tryz.prog.godebug = none := by kernel_rfl
theorem laidOut : laidOutB Tryz.prog = true := by kernel_rfl

open BMem Bks BHelp BkEq LawB LawT LawH SHeld
open Lots (Says says_of)
open IBalsFit (one_more)
open ILotsFit (below_of_drew)


set_option maxRecDepth 100000 in
set_option maxHeartbeats 8000000 in
theorem walk (y0 : BHelp.Ix) (a1 : Int) (w : World) (r0 : BHelp.RdI w y0) (f0 : BkEq.Fits y0.b) (w1 : (Lit.int .i64 a1).wf = true) :
    Calls Tryz.prog 4 #[.agg #[.slice y0.aa y0.b.ac.length y0.ca, .slice y0.ai y0.b.ic.length y0.ci, .slice y0.ab y0.b.bs.length y0.cb, .slice y0.al y0.b.ls.length y0.cl, .slice y0.ats y0.b.ts.length y0.ct, .int .i64 y0.b.lot], .int .i64 a1] w fun e w' => e = .returned (.bool true) ∧ Below w.heap.size w w' := by
  have H := hide r0
  have L0 := hide (LB.start r0 28)
  clear r0
  go_enter Tryz.func4, Tryz.ntmps4
  go_wp2_with fail
  refine (szB _ y0 f0).mono ?_
  rintro e u0 ⟨r, rfl, hr, bb⟩
  have L1 := hide ((unhide L0).step bb)
  clear bb L0
  rcases hr with rfl | ⟨r1, sm⟩
  · go_wp2
    go_ret
    exact ⟨rfl, (unhide L1).b⟩
  have SM := hide sm
  have rn : ¬ r < 0 := by omega
  clear sm r1
  obtain ⟨c0, c1, c2, c3, c4, c5⟩ := (unhide L1).c
  go_wp2_with fail
  refine (toB _ y0 (unhide L1).r (unhide SM)).mono ?_
  rintro e u1 ⟨z, hz, rfl, oz, bb⟩
  have L2 := hide ((unhide L1).step bb)
  have RZ := hide (oz.rd (by rw [hz]; exact unhide SM))
  have HZ := hide hz
  clear bb oz hz L1
  go_wp2_with fail
  refine (SHeld.sHeld _ z a1 (unhide RZ)).mono ?_
  rintro e u2 ⟨who, what, al, okb, zA, cA, zB, cB, hP, wl, xl, rfl, ozA, ozB, zne, bb⟩
  rw [unhide HZ] at hP xl
  have PP := hide hP
  have n20' : who.length ≤ 1048576 := Nat.le_trans xl (unhide SM).1
  have n21' : what.length ≤ 1048576 := by omega
  have L3 := hide ((unhide L2).step bb)
  have gz1 := (unhide L2).s
  have gzA := ozA.lt
  have gzB := ozB.lt
  have OZ' : Two _ _ zA who.length cA who zB what.length cB what := ⟨ozA, ozB, zne⟩
  obtain ⟨n1, hn1⟩ : ∃ n, Hid (who.length = n) := ⟨_, hide rfl⟩
  obtain ⟨n2, hn2⟩ : ∃ n, Hid (what.length = n) := ⟨_, hide rfl⟩
  have N1 := hide (show who.length = n1 from unhide hn1)
  have N2 := hide (show what.length = n2 from unhide hn2)
  have n20 : n1 ≤ 1048576 := by rw [← unhide hn1]; exact n20'
  have n21 : n2 ≤ 1048576 := by rw [← unhide hn2]; exact n21'
  have OZ := hide (show Two u2 (w.heap.size + 1) zA n1 cA who zB n2 cB what from by rw [← unhide hn1, ← unhide hn2]; exact OZ'.rebase (by omega))
  rw [unhide hn1, unhide hn2]
  clear bb L2 RZ c0 c1 c2 c3 c4 c5 hP xl ozA ozB OZ' n20' n21' wl
  obtain ⟨c0, c1, c2, c3, c4, c5⟩ := (unhide L3).c
  go_wp2_with fail
  refine (toB _ y0 (unhide L3).r (unhide SM)).mono ?_
  rintro e u3 ⟨x, hx, rfl, ox, bb⟩
  have L4 := hide (((unhide L3).step bb).step (one_more u3 (.cells #[.slice (some ⟨x.ga, 0, none⟩) x.b.ac.length x.ca, .slice (some ⟨x.gi, 0, none⟩) x.b.ic.length x.ci, .slice (some ⟨x.gb, 0, none⟩) x.b.bs.length x.cb, .slice (some ⟨x.gl, 0, none⟩) x.b.ls.length x.cl, .slice (some ⟨x.gt, 0, none⟩) x.b.ts.length x.ct, .int .i64 x.b.lot] 36)))
  have OX := hide (Ans.ow_alloc ox (.cells #[.slice (some ⟨x.ga, 0, none⟩) x.b.ac.length x.ca, .slice (some ⟨x.gi, 0, none⟩) x.b.ic.length x.ci, .slice (some ⟨x.gb, 0, none⟩) x.b.bs.length x.cb, .slice (some ⟨x.gl, 0, none⟩) x.b.ls.length x.cl, .slice (some ⟨x.gt, 0, none⟩) x.b.ts.length x.ct, .int .i64 x.b.lot] 36))
  have VX := hide (Bv.made (w := u3) (x := x) 36 rfl)
  have OZ4 := hide (((unhide OZ).below bb).alloc (.cells #[.slice (some ⟨x.ga, 0, none⟩) x.b.ac.length x.ca, .slice (some ⟨x.gi, 0, none⟩) x.b.ic.length x.ci, .slice (some ⟨x.gb, 0, none⟩) x.b.bs.length x.cb, .slice (some ⟨x.gl, 0, none⟩) x.b.ls.length x.cl, .slice (some ⟨x.gt, 0, none⟩) x.b.ts.length x.ct, .int .i64 x.b.lot] 36))
  have UX := hide (ow_up ox)
  have LX := hide (ow_lo ox)
  have s3 := bb.size
  have HX := hide hx
  clear bb ox hx L3 OZ
  go_wp2_with fail
  refine (HeldTell.iHeld _ x a1 ((unhide OX).rd (by rw [unhide HX]; exact unhide SM))).mono ?_
  rintro e u4 ⟨who', what', al', okb', gA, kA, gB, kB, hQ, _, _, rfl, ogA, ogB, gne, bb⟩
  rw [unhide HX] at hQ
  obtain ⟨rfl, rfl, rfl, rfl⟩ := hQ.same (unhide PP)
  have L5 := hide ((unhide L4).step bb)
  have VX5 := hide ((unhide VX).step bb)
  have OX5 := hide ((unhide OX).below bb (Nat.le_refl _))
  have OZ5 := hide ((unhide OZ4).below bb)
  have OG5' : Two _ _ gA _ kA who' gB _ kB what' := ⟨ogA, ogB, gne⟩
  have OG5 := hide (show Two u4 (u3.heap.size + 1) gA n1 kA who' gB n2 kB what' from by rw [← unhide hn1, ← unhide hn2]; simpa using OG5')
  have gg1 : u3.heap.size + 1 ≤ gA := (unhide OG5).a.lt.1
  have gg2 : u3.heap.size + 1 ≤ gB := (unhide OG5).b.lt.1
  rw [unhide hn1, unhide hn2]
  clear bb hQ ogA ogB OG5' L4 OX VX OZ4 c0 c1 c2 c3 c4 c5
  have ha : (al' != al') = false := by simp
  have ho : (okb' != okb') = false := by simp
  go_wp2_with fail
  refine (Ints.eqIntS _ gA zA n1 kA cA who' (unhide N1) n20 (unhide OG5).a.at (unhide OZ5).a.at).mono ?_
  rintro e u5a ⟨rfl, bb⟩
  have L5 := hide ((unhide L5).step bb)
  have VX5 := hide ((unhide VX5).step bb)
  have OX5 := hide ((unhide OX5).below bb (Nat.le_refl _))
  have OZ5 := hide ((unhide OZ5).below bb)
  have OG5 := hide ((unhide OG5).below bb)
  clear bb
  go_wp2_with fail
  refine (Ints.eqIntS _ gB zB n2 kB cB what' (unhide N2) n21 (unhide OG5).b.at (unhide OZ5).b.at).mono ?_
  rintro e u5b ⟨rfl, bb⟩
  have L5 := hide ((unhide L5).step bb)
  have VX5 := hide ((unhide VX5).step bb)
  have OX5 := hide ((unhide OX5).below bb (Nat.le_refl _))
  have OZ5 := hide ((unhide OZ5).below bb)
  have OG5 := hide ((unhide OG5).below bb)
  clear bb
  have RX5 := hide ((unhide OX5).rd (by rw [unhide HX]; exact unhide SM))
  have l5 := (unhide L5).s
  have v5 := (unhide VX5).l
  go_wp2_with fail
  have K4 := cells12 (unhide L5).c (unhide VX5).c
  go_region_held3 (fun w' => w'.cell? ⟨w.heap.size, 0, none⟩ = some (.slice y0.aa y0.b.ac.length y0.ca) ∧ w'.cell? ⟨w.heap.size, 1, none⟩ = some (.slice y0.ai y0.b.ic.length y0.ci) ∧ w'.cell? ⟨w.heap.size, 2, none⟩ = some (.slice y0.ab y0.b.bs.length y0.cb) ∧ w'.cell? ⟨w.heap.size, 3, none⟩ = some (.slice y0.al y0.b.ls.length y0.cl) ∧ w'.cell? ⟨w.heap.size, 4, none⟩ = some (.slice y0.ats y0.b.ts.length y0.ct) ∧ w'.cell? ⟨w.heap.size, 5, none⟩ = some (.int .i64 y0.b.lot) ∧ w'.cell? ⟨u3.heap.size, 0, none⟩ = some (.slice (some ⟨x.ga, 0, none⟩) x.b.ac.length x.ca) ∧ w'.cell? ⟨u3.heap.size, 1, none⟩ = some (.slice (some ⟨x.gi, 0, none⟩) x.b.ic.length x.ci) ∧ w'.cell? ⟨u3.heap.size, 2, none⟩ = some (.slice (some ⟨x.gb, 0, none⟩) x.b.bs.length x.cb) ∧ w'.cell? ⟨u3.heap.size, 3, none⟩ = some (.slice (some ⟨x.gl, 0, none⟩) x.b.ls.length x.cl) ∧ w'.cell? ⟨u3.heap.size, 4, none⟩ = some (.slice (some ⟨x.gt, 0, none⟩) x.b.ts.length x.ct) ∧ w'.cell? ⟨u3.heap.size, 5, none⟩ = some (.int .i64 x.b.lot)) (first | exact K4 | exact K5 | exact K6)
    (first | (go_at_call 9; refine (toB u5b.drew y0 (rdI_drew (unhide L5).r) (unhide SM)).mono ?_; rintro e u6 ⟨q, hqb, rfl, oq, bb⟩; have bW : Below u5b.heap.size u5b u6 := below_of_drew bb; have L6 := hide ((unhide L5).step bW); have VX6 := hide ((unhide VX5).step bW); have RX6 := hide ((unhide RX5).below bW); have OX6 := hide ((unhide OX5).below bW (Nat.le_refl _)); have OZ6 := hide ((unhide OZ5).below bW); have OG6 := hide ((unhide OG5).below bW); have K5 := cells12 (unhide L6).c (unhide VX6).c; have HQ := hide hqb; have OQ := hide oq; clear hqb oq bb bW) | (go_at_call 11; refine (eqB u6 x q (by rw [unhide HQ, unhide HX]) (unhide RX6) ((unhide OQ).rd (by rw [unhide HQ]; exact unhide SM))).mono ?_; rintro e u7 ⟨rfl, bb6⟩; have L7 := hide ((unhide L6).step bb6); have VX7 := hide ((unhide VX6).step bb6); have OX7 := hide ((unhide OX6).below bb6 (Nat.le_refl _)); have OZ7 := hide ((unhide OZ6).below bb6); have OG7 := hide ((unhide OG6).below bb6); have K6 := cells12 (unhide L7).c (unhide VX7).c; clear bb6))
  clear K4 K5 K6
  have EX := (e_bd (b := x.b) (by rw [unhide HX]; exact unhide SM)).2.2.2.2
  obtain ⟨ex, hex⟩ : ∃ ex, Hid (e5 x.b = ex) := ⟨_, rfl⟩
  have ex0 : decide (ex < 0) = false := decide_eq_false (by rw [← unhide hex]; omega)
  clear EX
  obtain ⟨c0, c1, c2, c3, c4, c5⟩ := (unhide VX7).c
  go_wp2_with fail
  refine (markB _ _ x (unhide OX7) (by rw [unhide HX]; exact unhide SM)).mono ?_
  rintro e u8 ⟨rfl, _, tn⟩
  rw [unhide hex]
  have L9 := hide (LB.turn (unhide H) (unhide L7) tn (LawB.Lo.mono (unhide LX) (by omega)))
  have OZ9 := hide ((unhide OZ7).turn tn (.inl ⟨u2.heap.size, gzA.2, gzB.2, unhide LX⟩))
  have OG9 := hide ((unhide OG7).turn tn (.inr ⟨u3.heap.size, by omega, by omega, unhide UX⟩))
  clear tn L5 L6 L7 VX5 VX6 VX7 RX5 RX6 OX5 OX6 OX7 OZ5 OZ6 OZ7 OG5 OG6 OG7 c0 c1 c2 c3 c4 c5
  go_wp2_with fail
  refine (Ints.eqIntS _ gA zA n1 kA cA who' (unhide N1) n20 (unhide OG9).a.at (unhide OZ9).a.at).mono ?_
  rintro e u9a ⟨rfl, bb⟩
  have L9 := hide ((unhide L9).step bb)
  have OZ9 := hide ((unhide OZ9).below bb)
  have OG9 := hide ((unhide OG9).below bb)
  clear bb
  go_wp2_with fail
  refine (Ints.eqIntS _ gB zB n2 kB cB what' (unhide N2) n21 (unhide OG9).b.at (unhide OZ9).b.at).mono ?_
  rintro e u9b ⟨rfl, bb⟩
  have L9 := hide ((unhide L9).step bb)
  have OZ9 := hide ((unhide OZ9).below bb)
  have OG9 := hide ((unhide OG9).below bb)
  clear bb
  go_wp2_with fail
  refine (Ints.markIntS _ _ gA n1 kA 1 who' n20 (by omega) (by omega) (unhide OG9).a).mono ?_
  rintro e u10 ⟨rfl, om, gr⟩
  have L11 := hide (LB.grown (unhide H) (unhide L9) gr (by omega))
  have OZ11 := hide ((unhide OZ9).kept gr (by omega) (by omega))
  have OM := hide om
  have OB := hide ((unhide OG9).b.kept gr (fun e => (unhide OG9).ne (by injection e with e; exact e.symm)))
  have NE := (unhide OG9).ne
  clear om gr L9 OZ9 OG9
  obtain ⟨m1, hm1⟩ : ∃ m, Hid ((1 : Int) + (n1 : Int) = m) := ⟨_, rfl⟩
  have m1a : 0 ≤ m1 := by rw [← unhide hm1]; omega
  have m1b : m1 ≤ 100000000 := by rw [← unhide hm1]; omega
  have m10 : decide (m1 < 0) = false := decide_eq_false (by omega)
  rw [unhide hm1]
  go_wp2_with fail
  refine (Ints.markIntS _ _ gB n2 kB m1 what' n21 m1a m1b (unhide OB)).mono ?_
  rintro e u11 ⟨rfl, om, gr⟩
  have L12 := hide (LB.grown (unhide H) (unhide L11) gr (by omega))
  have OZ12 := hide ((unhide OZ11).kept gr (by omega) (by omega))
  have OM12 := hide (show Two u11 _ gA n1 kA _ gB n2 kB _ from ⟨(unhide OM).kept gr (fun e => NE (by injection e)), om, NE⟩)
  clear om gr L11 OZ11 OM OB
  obtain ⟨m, hm⟩ : ∃ m, Hid (m1 + (n2 : Int) = m) := ⟨_, rfl⟩
  have m0 : decide (m < 0) = false := decide_eq_false (by rw [← unhide hm]; omega)
  have mm : (m != m) = false := by simp
  rw [unhide hm]
  go_wp2_with fail
  refine (heldIntS2 _ gA n1 kA 1 (by omega) (by omega) n20 (unhide OM12).a.at).mono ?_
  rintro e u12 ⟨rfl, rfl⟩
  rw [unhide hm1]
  go_wp2_with fail
  refine (heldIntS2 _ gB n2 kB m1 m1a m1b n21 (unhide OM12).b.at).mono ?_
  rintro e u13 ⟨rfl, rfl⟩
  rw [unhide hm]
  obtain ⟨c0, c1, c2, c3, c4, c5⟩ := (unhide L12).c
  go_wp2_with fail
  refine (toB _ y0 (unhide L12).r (unhide SM)).mono ?_
  rintro e u14 ⟨v, hv, rfl, ov, bb⟩
  have L13 := hide ((unhide L12).step bb)
  have OZ13 := hide ((unhide OZ12).below bb)
  have OM13 := hide ((unhide OM12).below bb)
  have RV := hide (ov.rd (by rw [hv]; exact unhide SM))
  have HV := hide hv
  clear bb ov hv L12 OZ12 OM12 c0 c1 c2 c3 c4 c5
  go_wp2_with fail
  refine (HeldTell.iHeld _ v a1 (unhide RV)).mono ?_
  rintro e u15 ⟨whh, whd, ald, okd, hA, jA, hB, jB, hQ, _, _, rfl, ohA, ohB, hne, bb⟩
  rw [unhide HV] at hQ
  obtain ⟨rfl, rfl, rfl, rfl⟩ := hQ.same (unhide PP)
  have L14 := hide ((unhide L13).step bb)
  have OZ14 := hide ((unhide OZ13).below bb)
  have OM14 := hide ((unhide OM13).below bb)
  have OH' : Two _ _ hA _ jA whh hB _ jB whd := ⟨ohA, ohB, hne⟩
  have OH := hide (show Two u15 u14.heap.size hA n1 jA whh hB n2 jB whd from by rw [← unhide hn1, ← unhide hn2]; exact OH')
  rw [unhide hn1, unhide hn2]
  clear bb ohA ohB OH' hQ L13 OZ13 OM13
  go_wp2_with fail
  refine (Ints.eqIntS _ hA zA n1 jA cA whh (unhide N1) n20 (unhide OH).a.at (unhide OZ14).a.at).mono ?_
  rintro e u16a ⟨rfl, bb⟩
  have L14 := hide ((unhide L14).step bb)
  have OZ14 := hide ((unhide OZ14).below bb)
  have OM14 := hide ((unhide OM14).below bb)
  have OH := hide ((unhide OH).below bb)
  clear bb
  go_wp2_with fail
  refine (Ints.eqIntS _ hB zB n2 jB cB whd (unhide N2) n21 (unhide OH).b.at (unhide OZ14).b.at).mono ?_
  rintro e u16b ⟨rfl, bb⟩
  have L14 := hide ((unhide L14).step bb)
  have OZ14 := hide ((unhide OZ14).below bb)
  have OM14 := hide ((unhide OM14).below bb)
  have OH := hide ((unhide OH).below bb)
  clear bb
  go_wp2_with fail
  refine (heldIntS2 _ gA n1 kA 1 (by omega) (by omega) n20 (unhide OM14).a.at).mono ?_
  rintro e u17 ⟨rfl, rfl⟩
  rw [unhide hm1]
  go_wp2_with fail
  refine (heldIntS2 _ gB n2 kB m1 m1a m1b n21 (unhide OM14).b.at).mono ?_
  rintro e u18 ⟨rfl, rfl⟩
  rw [unhide hm]
  go_wp2
  go_ret
  exact ⟨rfl, (unhide L14).b⟩

set_option maxRecDepth 100000 in
theorem lifted (os : Os) (started : os.Started) (H : Type) (enc : TypeId × Value → H) :
    ReturnsInHanded {} Tryz.checked os 4 .any (Rows.fnExactHeldSpec.pre6 enc Tryz.prog Tryz.f4 Rows.fnExactHeldRow.domain false) (Rows.fnExactHeldSpec.post enc Tryz.prog Tryz.f4 false true false false) := by
  refine returnsInHanded_of_change (C := Tryz.checked) own started (by kernel_rfl) Tryz.func4
    (ChangeSpec.witness6 (enc := enc) (C := Tryz.checked) false ⟨#[], #[.agg #[.slice none 0 0, .slice none 0 0, .slice none 0 0, .slice none 0 0, .slice none 0 0, .int .i64 0], .int .i64 0], []⟩ 8 (by kernel_rfl) (by kernel_rfl) (by kernel_rfl) (by kernel_rfl)) ?_
  intro W base args ds gs before hval0 hW hcnd _
  have hval : ∀ (j : Nat) t v, Tryz.f4.params[j]? = some t → args[j]? = some v → Value.okWide Tryz.prog W .any base t v := hval0
  have hW' := hW
  obtain ⟨p, q, hA0, hV, rfl, hfz, hnd⟩ := hW
  have hA : DataW.TrodAll enc Tryz.prog W 0 (fun _ => true) true Tryz.f4.params.toList args.toList ds p := hA0
  rw [Tryz.params4] at hA hval
  obtain ⟨v0, vs0, d0, ds0, p0, q0, hargs, rfl, rfl, h0, r0⟩ := trodAll_cons hA
  obtain ⟨v1, vs1, d1, ds1, p1, q1, rfl, rfl, rfl, h1, r1⟩ := trodAll_cons r0
  obtain ⟨rfl, rfl, rfl⟩ := trodAll_nil r1
  obtain rfl : args = #[v0, v1] := by cases args; simp_all
  obtain ⟨rfl, rfl⟩ := trodVars_none hV
  have k0 := h0
  have lt0 : ∀ x ∈ p0, x.block < W.heap.size := by obtain ⟨m, hm⟩ := k0; exact DataW.trod_lt m _ _ _ hm
  obtain ⟨y0, rfl, rk0, f0⟩ := OpensB.open_books (hval 0 28 v0 rfl rfl) h0
  obtain ⟨a1, rfl, rfl, rfl, w1⟩ := open_int Tryz.underlying3 (hval 1 3 v1 rfl rfl) h1
  clear hA0 hval0
  refine (walk y0 a1 W rk0 f0 w1).mono fun e W' ⟨he, bel⟩ => ?_
  subst he
  exact ⟨_, rfl, _, _, _, [], _, [], hW', trodAll_mk1 (shut_bool Tryz.underlying4 _), (trodAll_cons_mk (Below.trod laidOut (by kernel_rfl) (of_decide_eq_true (by kernel_rfl)) k0 bel lt0) (trodAll_cons_mk (shut_int Tryz.underlying3 w1) trodAll_mk0)), rfl, bel.frame _, fun h => by cases h⟩

theorem over : Rows.fnExactHeldRow.holds Tryz.pinned (OpenSpec.ofChange Rows.fnExactHeldSpec) :=
  OpenClaim.holds_of_wide 4 Tryz.f4 rfl rfl rfl rfl rfl rfl rfl ⟨rfl, rfl, rfl, rfl, rfl⟩ rfl rfl rfl rfl rfl (by kernel_rfl) Tryz.func4 (by kernel_rfl)
    (of_decide_eq_true (by kernel_rfl)) (by unfold Func.isWrapper; first | (rw [if_pos (by decide +kernel)]; kernel_rfl) | (rw [if_neg (by decide +kernel)]; exact ⟨rfl, rfl⟩))
    (fun os started H enc _ => lifted os started H enc)

/-- The statement. -/
theorem proved : Rows.FnExactHeldSaid := over
#print axioms proved
end Go.Proofs.YtnmeiiaipacplaaGreat.fnExactHeld
