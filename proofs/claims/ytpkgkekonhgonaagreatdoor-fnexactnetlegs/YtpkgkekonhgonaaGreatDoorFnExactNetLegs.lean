/- At all books and numbers the program's NetLegs answers as its model, writes into no argument, and its answer owns its memory. Condition (the card ties it to the program's text): the errors at package level that it names hold, when the call begins, what their own initialisers lay in them. -/
import Derived.Test.YtpkgkekonhgonaaGreatDoorRows
import Derived.Test.YtpkgkekonhgonaaGreatDoorNA1
import Derived.Test.YtpkgkekonhgonaaGreatDoorNA2
import Derived.Test.YtpkgkekonhgonaaGreatDoorNL3
import Derived.Test.YtpkgkekonhgonaaGreatDoorNL4
import Derived.Test.YtpkgkekonhgonaaGreatDoorNL5
import Derived.Test.YtpkgkekonhgonaaGreatDoorNL6
import Derived.Test.YtpkgkekonhgonaaGreatDoorNL7
import Derived.Test.YtpkgkekonhgonaaGreatDoorNN8
import Derived.Test.YtpkgkekonhgonaaGreatDoorCards
import Derived.Test.YtpkgkekonhgonaaGreatDoorTie
import Derived.ShutString
import Derived.ChangeOld
import Derived.Below
namespace Go.Proofs.YtpkgkekonhgonaaGreatDoor.fnExactNetLegs
open Go.ChangeShapes Go.WideShapes Go.ChangeAt Go.RowKit
open Go.ChangeMaps (open_string shut_string)
set_option linter.unusedVariables false
set_option linter.unusedSimpArgs false

theorem own : ownKnob Tryz.prog.godebug = none := by kernel_rfl
theorem laidOut : laidOutB Tryz.prog = true := by kernel_rfl

open BMem Bks BHelp BkEq LawB LawT LawN Net
open Lots (Says says_of)
open IBalsFit (one_more)
open ILotsFit (below_of_drew)
open Triples (Own3)


set_option maxRecDepth 100000 in
set_option maxHeartbeats 8000000 in
theorem walk (y0 : BHelp.Ix) (a1 : Option Addr) (len1 cap1 : Nat) (z1 : List Int) (w : World) (r0 : BHelp.RdI w y0) (f0 : BkEq.Fits y0.b) (w1 : Ints.IsRow .i64 w a1 len1 cap1 z1) (N : Nat) (ad : Nat → Addr) (E : Errs.Errs w 4 N ad) (hN : N ≤ w.heap.size) :
    Calls Tryz.prog 3 #[.agg #[.slice y0.aa y0.b.ac.length y0.ca, .slice y0.ai y0.b.ic.length y0.ci, .slice y0.ab y0.b.bs.length y0.cb, .slice y0.al y0.b.ls.length y0.cl, .slice y0.ats y0.b.ts.length y0.ct, .int .i64 y0.b.lot], .slice a1 len1 cap1] w fun e w' => e = .returned (.bool true) ∧ Below w.heap.size w w' := by
  have H := hide r0
  have HE := hide E
  clear E
  have L0 := hide (LB.start r0 28)
  obtain ⟨xs, hl, hR⟩ : ∃ xs : List Int, xs.length = len1 ∧ Ints.Reads w a1 xs := ⟨_, Ints.row_reads w1⟩
  have gm := Ints.row_max w1
  have RN := hide hR
  clear r0 w1 hR
  subst hl
  by_cases big : xs.length ≤ 1048576
  rotate_left
  · have gb : decide ((xs.length : Int) > 1048576) = true := decide_eq_true (by omega)
    clear big
    go_enter Tryz.func3, Tryz.ntmps3
    go_wp2
    go_ret
    exact ⟨rfl, (unhide L0).b⟩
  have gb : decide ((xs.length : Int) > 1048576) = false := decide_eq_false (by omega)
  go_enter Tryz.func3, Tryz.ntmps3
  go_wp2_with fail
  refine (szB _ y0 f0).mono ?_
  rintro e u0 ⟨r, rfl, hr, bb⟩
  have L1 := hide ((unhide L0).step bb)
  clear bb L0
  rcases hr with rfl | ⟨r1, sm⟩
  · go_wp2
    go_ret
    exact ⟨rfl, (unhide L1).b⟩
  have SM := hide sm
  have rn : ¬ r < 0 := by omega
  clear sm r1
  obtain ⟨c0, c1, c2, c3, c4, c5⟩ := (unhide L1).c
  go_wp2_with fail
  refine (toB _ y0 (unhide L1).r (unhide SM)).mono ?_
  rintro e u1 ⟨z, hz, rfl, oz, bb⟩
  have L2 := hide ((unhide L1).step bb)
  have OZ0 := hide oz
  have HZ := hide hz
  clear bb oz hz L1
  go_wp2_with fail
  refine (Ints.toIntS _ a1 xs.length cap1 xs rfl big ((unhide RN).below (unhide L2).b)).mono ?_
  rintro e v1 ⟨rfl, on, bb⟩
  have L2 := hide ((unhide L2).step bb)
  have RZ := hide (((unhide OZ0).below bb (Nat.le_refl _)).rd (by rw [unhide HZ]; exact unhide SM))
  have ON := hide on
  clear bb on OZ0
  go_wp2_with fail
  refine (SNetL.sNetLegs _ z u1.heap.size xs.length xs (unhide RZ) big (Nat.le_refl _) gm (unhide ON).lt.2 (unhide ON).at).mono ?_
  rintro e u2 ⟨qs, ok, gz, cz, hP, q120, rfl, oz, bb⟩
  rw [unhide HZ] at hP
  have PP := hide hP
  have n20 : qs.length ≤ 1048576 := by omega
  have L3 := hide ((unhide L2).step bb)
  have gz1 := (unhide L2).s
  have gz2 := oz.lt
  have OZ := hide (oz.rebase (base' := w.heap.size + 1) (by omega))
  clear bb L2 RZ c0 c1 c2 c3 c4 c5 hP oz ON
  obtain ⟨c0, c1, c2, c3, c4, c5⟩ := (unhide L3).c
  go_wp2_with fail
  refine (toB _ y0 (unhide L3).r (unhide SM)).mono ?_
  rintro e u3 ⟨x, hx, rfl, ox, bb⟩
  have L4 := hide (((unhide L3).step bb).step (one_more u3 (.cells #[.slice (some ⟨x.ga, 0, none⟩) x.b.ac.length x.ca, .slice (some ⟨x.gi, 0, none⟩) x.b.ic.length x.ci, .slice (some ⟨x.gb, 0, none⟩) x.b.bs.length x.cb, .slice (some ⟨x.gl, 0, none⟩) x.b.ls.length x.cl, .slice (some ⟨x.gt, 0, none⟩) x.b.ts.length x.ct, .int .i64 x.b.lot] 40)))
  have OX := hide (Ans.ow_alloc ox (.cells #[.slice (some ⟨x.ga, 0, none⟩) x.b.ac.length x.ca, .slice (some ⟨x.gi, 0, none⟩) x.b.ic.length x.ci, .slice (some ⟨x.gb, 0, none⟩) x.b.bs.length x.cb, .slice (some ⟨x.gl, 0, none⟩) x.b.ls.length x.cl, .slice (some ⟨x.gt, 0, none⟩) x.b.ts.length x.ct, .int .i64 x.b.lot] 40))
  have VX := hide (Bv.made (w := u3) (x := x) 40 rfl)
  have OZ4 := hide (Triples.Own3.alloc ((unhide OZ).below bb (unhide OZ).lt.2) (.cells #[.slice (some ⟨x.ga, 0, none⟩) x.b.ac.length x.ca, .slice (some ⟨x.gi, 0, none⟩) x.b.ic.length x.ci, .slice (some ⟨x.gb, 0, none⟩) x.b.bs.length x.cb, .slice (some ⟨x.gl, 0, none⟩) x.b.ls.length x.cl, .slice (some ⟨x.gt, 0, none⟩) x.b.ts.length x.ct, .int .i64 x.b.lot] 40))
  have UX := hide (ow_up ox)
  have LX := hide (ow_lo ox)
  have s3 := bb.size
  have HX := hide hx
  clear bb ox hx L3 OZ
  go_wp2_with fail
  have s4 : (u3.alloc (.cells #[.slice (some ⟨x.ga, 0, none⟩) x.b.ac.length x.ca, .slice (some ⟨x.gi, 0, none⟩) x.b.ic.length x.ci, .slice (some ⟨x.gb, 0, none⟩) x.b.bs.length x.cb, .slice (some ⟨x.gl, 0, none⟩) x.b.ls.length x.cl, .slice (some ⟨x.gt, 0, none⟩) x.b.ts.length x.ct, .int .i64 x.b.lot] 40)).heap.size = u3.heap.size + 1 := by simp
  have S4 := hide s4
  clear s4
  refine (Ints.toIntS _ a1 xs.length cap1 xs rfl big ((unhide RN).below (unhide L4).b)).mono ?_
  rintro e v4 ⟨rfl, on, bb⟩
  have L4 := hide ((unhide L4).step bb)
  have VX := hide ((unhide VX).step bb)
  have OX := hide ((unhide OX).below bb (Nat.le_refl _))
  have OZ4 := hide ((unhide OZ4).below bb (unhide OZ4).lt.2)
  have OX1 := hide on
  obtain ⟨gN, hgN⟩ : ∃ gN, Hid ((u3.alloc (.cells #[.slice (some ⟨x.ga, 0, none⟩) x.b.ac.length x.ca, .slice (some ⟨x.gi, 0, none⟩) x.b.ic.length x.ci, .slice (some ⟨x.gb, 0, none⟩) x.b.bs.length x.cb, .slice (some ⟨x.gl, 0, none⟩) x.b.ls.length x.cl, .slice (some ⟨x.gt, 0, none⟩) x.b.ts.length x.ct, .int .i64 x.b.lot] 40)).heap.size = gN) := ⟨_, rfl⟩
  have gN1 : u3.heap.size + 1 = gN := (unhide S4).symm.trans (unhide hgN)
  have GN := hide gN1
  rw [unhide hgN] at OX1
  rw [unhide hgN]
  clear bb on gN1
  have RX4 := hide ((unhide OX).rd (by rw [unhide HX]; exact unhide SM))
  have gN2 : u3.heap.size < gN := by have := unhide GN; omega
  clear GN hgN S4 c0 c1 c2 c3 c4 c5
  obtain ⟨c0, c1, c2, c3, c4, c5⟩ := (unhide VX).c
  go_wp2_with fail
  refine (NetLegsI.iNetLegs _ x gN xs.length N xs ad (unhide RX4) (Nat.le_refl _) gm (unhide OX1).lt.2 (unhide OX1).at ((unhide HE).below (unhide L4).b hN) (by have := (unhide L4).b.size; omega)).mono ?_
  rintro e u4 ⟨ys, ok', gg, cg, hQ, _, rfl, og, bb⟩
  rw [unhide HX] at hQ
  obtain ⟨rfl, rfl⟩ := hQ.same (unhide PP)
  have L5 := hide ((unhide L4).step bb)
  have VX5 := hide ((unhide VX).step bb)
  have OX5 := hide ((unhide OX).below bb (Nat.le_refl _))
  have OZ5 := hide ((unhide OZ4).below bb (unhide OZ4).lt.2)
  have gg1 : gN < gg := by have := og.lt.1; have := (unhide OX1).lt.2; omega
  have OX1 := hide ((unhide OX1).below bb (unhide OX1).lt.2)
  have OG5 := hide og
  clear bb hQ og L4 OX VX OZ4 RX4 c0 c1 c2 c3 c4 c5
  have hq : (ok' != ok') = false := by simp
  go_wp2_with fail
  refine (LegHelp.eqS _ gg gz ys.length cg cz ys rfl n20 (unhide OG5).lt.2 (unhide OZ5).lt.2 (unhide OG5).at (unhide OZ5).at).mono ?_
  rintro e u5 ⟨rfl, bb⟩
  have L5 := hide ((unhide L5).step bb)
  have VX5 := hide ((unhide VX5).step bb)
  have OX5 := hide ((unhide OX5).below bb (Nat.le_refl _))
  have OZ5 := hide ((unhide OZ5).below bb (unhide OZ5).lt.2)
  have OG5 := hide ((unhide OG5).below bb (unhide OG5).lt.2)
  have OX1 := hide ((unhide OX1).below bb (unhide OX1).lt.2)
  have RX5 := hide ((unhide OX5).rd (by rw [unhide HX]; exact unhide SM))
  clear bb
  have l5 := (unhide L5).s
  have v5 := (unhide VX5).l
  go_wp2_with fail
  have K4 := cells12 (unhide L5).c (unhide VX5).c
  clear hq
  go_region_held3 (fun w' => w'.cell? ⟨w.heap.size, 0, none⟩ = some (.slice y0.aa y0.b.ac.length y0.ca) ∧ w'.cell? ⟨w.heap.size, 1, none⟩ = some (.slice y0.ai y0.b.ic.length y0.ci) ∧ w'.cell? ⟨w.heap.size, 2, none⟩ = some (.slice y0.ab y0.b.bs.length y0.cb) ∧ w'.cell? ⟨w.heap.size, 3, none⟩ = some (.slice y0.al y0.b.ls.length y0.cl) ∧ w'.cell? ⟨w.heap.size, 4, none⟩ = some (.slice y0.ats y0.b.ts.length y0.ct) ∧ w'.cell? ⟨w.heap.size, 5, none⟩ = some (.int .i64 y0.b.lot) ∧ w'.cell? ⟨u3.heap.size, 0, none⟩ = some (.slice (some ⟨x.ga, 0, none⟩) x.b.ac.length x.ca) ∧ w'.cell? ⟨u3.heap.size, 1, none⟩ = some (.slice (some ⟨x.gi, 0, none⟩) x.b.ic.length x.ci) ∧ w'.cell? ⟨u3.heap.size, 2, none⟩ = some (.slice (some ⟨x.gb, 0, none⟩) x.b.bs.length x.cb) ∧ w'.cell? ⟨u3.heap.size, 3, none⟩ = some (.slice (some ⟨x.gl, 0, none⟩) x.b.ls.length x.cl) ∧ w'.cell? ⟨u3.heap.size, 4, none⟩ = some (.slice (some ⟨x.gt, 0, none⟩) x.b.ts.length x.ct) ∧ w'.cell? ⟨u3.heap.size, 5, none⟩ = some (.int .i64 x.b.lot)) (first | exact K4 | exact K5 | exact K6)
    (first | (go_at_call 7; refine (toB u5.drew y0 (rdI_drew (unhide L5).r) (unhide SM)).mono ?_; rintro e u6 ⟨q, hqb, rfl, oq, bb⟩; have bW : Below u5.heap.size u5 u6 := below_of_drew bb; have L6 := hide ((unhide L5).step bW); have VX6 := hide ((unhide VX5).step bW); have RX6 := hide ((unhide RX5).below bW); have OX6 := hide ((unhide OX5).below bW (Nat.le_refl _)); have OZ6 := hide ((unhide OZ5).below bW (unhide OZ5).lt.2); have OG6 := hide ((unhide OG5).below bW (unhide OG5).lt.2); have OX1_6 := hide ((unhide OX1).below bW (unhide OX1).lt.2); have K5 := cells12 (unhide L6).c (unhide VX6).c; have HQ := hide hqb; have OQ := hide oq; clear hqb oq bb bW) | (go_at_call 11; refine (eqB u6 x q (by rw [unhide HQ, unhide HX]) (unhide RX6) ((unhide OQ).rd (by rw [unhide HQ]; exact unhide SM))).mono ?_; rintro e u7 ⟨rfl, bb6⟩; have L7 := hide ((unhide L6).step bb6); have VX7 := hide ((unhide VX6).step bb6); have OX7 := hide ((unhide OX6).below bb6 (Nat.le_refl _)); have OZ7 := hide ((unhide OZ6).below bb6 (unhide OZ6).lt.2); have OG7 := hide ((unhide OG6).below bb6 (unhide OG6).lt.2); have OX1_7 := hide ((unhide OX1_6).below bb6 (unhide OX1_6).lt.2); have K6 := cells12 (unhide L7).c (unhide VX7).c; clear bb6))
  clear K4 K5 K6
  go_wp2_with fail
  refine (Ints.toIntS _ a1 xs.length cap1 xs rfl big ((unhide RN).below (unhide L7).b)).mono ?_
  rintro e v7 ⟨rfl, on, bb⟩
  have L8 := hide ((unhide L7).step bb)
  have VX8 := hide ((unhide VX7).step bb)
  have OX8 := hide ((unhide OX7).below bb (Nat.le_refl _))
  have OZ8 := hide ((unhide OZ7).below bb (unhide OZ7).lt.2)
  have OG8 := hide ((unhide OG7).below bb (unhide OG7).lt.2)
  have OX1_8 := hide ((unhide OX1_7).below bb (unhide OX1_7).lt.2)
  have ON := hide on
  clear bb on L5 L6 L7 VX5 VX6 VX7 RX5 RX6 OX5 OX6 OX7 OZ5 OZ6 OZ7 OG5 OG6 OG7 OX1 OX1_6 OX1_7
  go_wp2_with fail
  refine (Ints.eqIntS _ gN _ xs.length xs.length xs.length xs rfl big (unhide OX1_8).at (unhide ON).at).mono ?_
  rintro e v8 ⟨rfl, bb⟩
  have L8 := hide ((unhide L8).step bb)
  have VX8 := hide ((unhide VX8).step bb)
  have OX8 := hide ((unhide OX8).below bb (Nat.le_refl _))
  have OZ8 := hide ((unhide OZ8).below bb (unhide OZ8).lt.2)
  have OG8 := hide ((unhide OG8).below bb (unhide OG8).lt.2)
  have OX1_8 := hide ((unhide OX1_8).below bb (unhide OX1_8).lt.2)
  clear bb ON
  have EX := (e_bd (b := x.b) (by rw [unhide HX]; exact unhide SM)).2.2.2.2
  obtain ⟨ex, hex⟩ : ∃ ex, Hid (e5 x.b = ex) := ⟨_, rfl⟩
  rw [unhide hex] at EX
  obtain ⟨c0, c1, c2, c3, c4, c5⟩ := (unhide VX8).c
  go_wp2_with fail
  refine (markB _ _ x (unhide OX8) (by rw [unhide HX]; exact unhide SM)).mono ?_
  rintro e u8 ⟨rfl, _, tn⟩
  rw [unhide hex]
  have L9 := hide (LB.turn (unhide H) (unhide L8) tn (LawB.Lo.mono (unhide LX) (by omega)))
  have OZ9 := hide (own3_turn (unhide OZ8) tn (.inl ⟨u2.heap.size, gz2.2, unhide LX⟩))
  have OG9 := hide (own3_turn (unhide OG8) tn (.inr ⟨u3.heap.size, by omega, unhide UX⟩))
  have ON9 := hide (own_turn (unhide OX1_8) tn (.inr ⟨u3.heap.size, by omega, unhide UX⟩))
  clear tn L8 VX8 OX8 OZ8 OG8 OX1_8 c0 c1 c2 c3 c4 c5
  go_wp2_with fail
  refine (Ints.markIntS _ _ gN xs.length xs.length ex xs big (by omega) EX.2 (unhide ON9)).mono ?_
  rintro e u9 ⟨rfl, _, gr⟩
  have L10 := hide (LB.grown (unhide H) (unhide L9) gr (by omega))
  have OZ10 := hide ((unhide OZ9).kept gr (fun e => by injection e; omega))
  have OG10 := hide ((unhide OG9).kept gr (fun e => by injection e; omega))
  clear gr L9 OZ9 OG9 ON9
  obtain ⟨ek, hek⟩ : ∃ ek, Hid (ex + (xs.length : Int) = ek) := ⟨_, rfl⟩
  have ek0 : decide (ek < 0) = false := decide_eq_false (by rw [← unhide hek]; omega)
  rw [unhide hek]
  clear EX hek hex
  have hq : (ok' != ok') = false := by simp
  go_wp2_with fail
  refine (LegHelp.eqS _ gg gz ys.length cg cz ys rfl n20 (unhide OG10).lt.2 (unhide OZ10).lt.2 (unhide OG10).at (unhide OZ10).at).mono ?_
  rintro e u10 ⟨rfl, bb⟩
  have L10 := hide ((unhide L10).step bb)
  have OZ10 := hide ((unhide OZ10).below bb (unhide OZ10).lt.2)
  have OG10 := hide ((unhide OG10).below bb (unhide OG10).lt.2)
  clear bb
  go_wp2_with fail
  refine (LegHelp.markS _ _ gg ys.length cg 1 ys n20 (by omega) (by omega) (unhide OG10)).mono ?_
  rintro e u11 ⟨rfl, om, gr⟩
  have L11 := hide (LB.grown (unhide H) (unhide L10) gr (by omega))
  have OZ11 := hide ((unhide OZ10).kept gr (fun e => by injection e; omega))
  have OM := hide om
  clear om gr L10 OZ10 OG10
  obtain ⟨m, hm⟩ : ∃ m, Hid ((1 : Int) + 3 * (ys.length : Int) = m) := ⟨_, rfl⟩
  have m0 : decide (m < 0) = false := decide_eq_false (by rw [← unhide hm]; omega)
  have mm : (m != m) = false := by simp
  rw [unhide hm]
  go_wp2_with fail
  refine (LegHeld.heldS _ gg ys.length cg 1 n20 (by omega) (by omega) (unhide OM).at).mono ?_
  rintro e u12 ⟨rfl, rfl⟩
  rw [unhide hm]
  obtain ⟨c0, c1, c2, c3, c4, c5⟩ := (unhide L11).c
  go_wp2_with fail
  refine (toB _ y0 (unhide L11).r (unhide SM)).mono ?_
  rintro e u13 ⟨v, hv, rfl, ov, bb⟩
  have L13 := hide ((unhide L11).step bb)
  have OZ13 := hide ((unhide OZ11).below bb (unhide OZ11).lt.2)
  have OM13 := hide ((unhide OM).below bb (unhide OM).lt.2)
  have OV := hide ov
  have HV := hide hv
  clear bb ov hv L11 OZ11 OM c0 c1 c2 c3 c4 c5
  go_wp2_with fail
  refine (Ints.toIntS _ a1 xs.length cap1 xs rfl big ((unhide RN).below (unhide L13).b)).mono ?_
  rintro e v13 ⟨rfl, on, bb⟩
  have L13 := hide ((unhide L13).step bb)
  have OZ13 := hide ((unhide OZ13).below bb (unhide OZ13).lt.2)
  have OM13 := hide ((unhide OM13).below bb (unhide OM13).lt.2)
  have RV := hide (((unhide OV).below bb (Nat.le_refl _)).rd (by rw [unhide HV]; exact unhide SM))
  have ON := hide on
  clear bb on OV
  go_wp2_with fail
  refine (NetLegsI.iNetLegs _ v _ xs.length N xs ad (unhide RV) (Nat.le_refl _) gm (unhide ON).lt.2 (unhide ON).at ((unhide HE).below (unhide L13).b hN) (by have := (unhide L13).b.size; omega)).mono ?_
  rintro e u14 ⟨zs, ok2, gh, ch, hQ, _, rfl, oh, bb⟩
  rw [unhide HV] at hQ
  obtain ⟨rfl, rfl⟩ := hQ.same (unhide PP)
  have L14 := hide ((unhide L13).step bb)
  have OZ14 := hide ((unhide OZ13).below bb (unhide OZ13).lt.2)
  have OM14 := hide ((unhide OM13).below bb (unhide OM13).lt.2)
  have OH := hide oh
  clear bb oh hQ L13 OZ13 OM13 ON RV
  go_wp2_with fail
  refine (LegHelp.eqS _ gh gz zs.length ch cz zs rfl n20 (unhide OH).lt.2 (unhide OZ14).lt.2 (unhide OH).at (unhide OZ14).at).mono ?_
  rintro e u15 ⟨rfl, bb⟩
  have L15 := hide ((unhide L14).step bb)
  have OM15 := hide ((unhide OM14).below bb (unhide OM14).lt.2)
  clear bb L14 OZ14 OM14 OH
  go_wp2_with fail
  refine (LegHeld.heldS _ gg zs.length cg 1 n20 (by omega) (by omega) (unhide OM15).at).mono ?_
  rintro e u16 ⟨rfl, rfl⟩
  rw [unhide hm]
  go_wp2
  go_ret
  exact ⟨rfl, (unhide L15).b⟩

theorem cons {W : World} {x : String × DataW Unit} {l : List (String × DataW Unit)} {al : List Addr} (h : LaidE.Fits W (x :: l) al) : ∃ a r, al = a :: r ∧ (W.var? Tryz.prog x.1 = some #[.iface 290 (.pointer (some a))] ∧ ∃ c t, W.heap[a.block]? = some (.cells c t (0, 0))) ∧ LaidE.Fits W l r := by
  cases al with
  | nil => exact h.elim
  | cons a r => exact ⟨a, r, rfl, h.1, h.2⟩
theorem named : LaidE.Named Rows.fnExactNetLegsRow.laid := by
  intro x hx
  rcases List.mem_cons.1 hx with rfl | hx
  · exact ⟨⟨1, by kernel_rfl, by kernel_rfl⟩, _, rfl⟩
  rcases List.mem_cons.1 hx with rfl | hx
  · exact ⟨⟨2, by kernel_rfl, by kernel_rfl⟩, _, rfl⟩
  rcases List.mem_cons.1 hx with rfl | hx
  · exact ⟨⟨0, by kernel_rfl, by kernel_rfl⟩, _, rfl⟩
  rcases List.mem_cons.1 hx with rfl | hx
  · exact ⟨⟨3, by kernel_rfl, by kernel_rfl⟩, _, rfl⟩
  · cases hx
theorem errs {W : World} (h : laidMetH Tryz.prog Rows.fnExactNetLegsRow.laid W) : ∃ a0 a1 a2 a3 a4, Errs.Errs W 4 W.heap.size (LaidE.at5 a0 a1 a2 a3 a4) ∧ LaidE.Holds W Rows.fnExactNetLegsSpec.vars [0, 1, 2, 3] [.iface 290 (.pointer (some a0)), .iface 290 (.pointer (some a1)), .iface 290 (.pointer (some a2)), .iface 290 (.pointer (some a3))] := by
  obtain ⟨al, hf, nd⟩ := LaidE.fits_laid named h
  obtain ⟨a1, r, rfl, ⟨v1, o1⟩, hf⟩ := cons hf
  obtain ⟨a2, r, rfl, ⟨v2, o2⟩, hf⟩ := cons hf
  obtain ⟨a0, r, rfl, ⟨v0, o0⟩, hf⟩ := cons hf
  obtain ⟨a3, r, rfl, ⟨v3, o3⟩, hf⟩ := cons hf
  obtain rfl : r = [] := by cases r with | nil => rfl | cons => exact hf.elim
  have vars : LaidE.Holds W Rows.fnExactNetLegsSpec.vars [0, 1, 2, 3] [.iface 290 (.pointer (some a0)), .iface 290 (.pointer (some a1)), .iface 290 (.pointer (some a2)), .iface 290 (.pointer (some a3))] := ⟨⟨by kernel_rfl, by kernel_rfl, v0, trivial⟩, ⟨by kernel_rfl, by kernel_rfl, v1, trivial⟩, ⟨by kernel_rfl, by kernel_rfl, v2, trivial⟩, ⟨by kernel_rfl, by kernel_rfl, v3, trivial⟩, trivial⟩
  refine ⟨a0, a1, a2, a3, a3, ⟨fun k hk => ?_, fun k hk => ?_, fun j k hj hk h => ?_, fun k hk => ?_⟩, vars⟩
  · rcases (show k = 0 ∨ k = 1 ∨ k = 2 ∨ k = 3 by omega) with rfl | rfl | rfl | rfl
    · exact LaidE.cell_of (by kernel_rfl) v0
    · exact LaidE.cell_of (by kernel_rfl) v1
    · exact LaidE.cell_of (by kernel_rfl) v2
    · exact LaidE.cell_of (by kernel_rfl) v3
  · rcases (show k = 0 ∨ k = 1 ∨ k = 2 ∨ k = 3 by omega) with rfl | rfl | rfl | rfl
    · exact ⟨LaidE.var_lt (by kernel_rfl) v0, LaidE.row_lt o0⟩
    · exact ⟨LaidE.var_lt (by kernel_rfl) v1, LaidE.row_lt o1⟩
    · exact ⟨LaidE.var_lt (by kernel_rfl) v2, LaidE.row_lt o2⟩
    · exact ⟨LaidE.var_lt (by kernel_rfl) v3, LaidE.row_lt o3⟩
  · rcases (show j = 0 ∨ j = 1 ∨ j = 2 ∨ j = 3 by omega) with rfl | rfl | rfl | rfl <;> rcases (show k = 0 ∨ k = 1 ∨ k = 2 ∨ k = 3 by omega) with rfl | rfl | rfl | rfl <;> first | exact absurd rfl h | (intro e; have e : _ = _ := e; simp [LaidE.at5] at e; subst e; simp at nd)
  · rcases (show k = 0 ∨ k = 1 ∨ k = 2 ∨ k = 3 by omega) with rfl | rfl | rfl | rfl
    · exact o0
    · exact o1
    · exact o2
    · exact o3

set_option maxRecDepth 100000 in
theorem contract (H : Type) (enc : TypeId × Value → H) (W : World) (base : Nat) (args : Array Value) (ds gs : List (DataW H)) (before : List MemPlace)
    (hval0 : ∀ (j : Nat) t v, Tryz.f3.params[j]? = some t → args[j]? = some v → Value.okWide Tryz.prog W .any base t v)
    (hW : DataW.Whole enc Tryz.prog Tryz.f3.params.toList Rows.fnExactNetLegsSpec.vars false W args.toList ds gs before) (hL : laidMetH Tryz.prog Rows.fnExactNetLegsRow.laid W) :
    Calls Tryz.prog 3 args W fun e W' => ∃ v, e = .returned v ∧ Rows.fnExactNetLegsSpec.post enc Tryz.prog Tryz.f3 false true false false W args v W' := by
  have hval : ∀ (j : Nat) t v, Tryz.f3.params[j]? = some t → args[j]? = some v → Value.okWide Tryz.prog W .any base t v := hval0
  have hW' := hW
  obtain ⟨p, q, hA0, hV, rfl, hfz, hnd⟩ := hW
  have hA : DataW.TrodAll enc Tryz.prog W 0 (fun _ => true) true Tryz.f3.params.toList args.toList ds p := hA0
  rw [Tryz.params3] at hA hval
  obtain ⟨v0, vs0, d0, ds0, p0, q0, hargs, rfl, rfl, h0, r0⟩ := trodAll_cons hA
  obtain ⟨v1, vs1, d1, ds1, p1, q1, rfl, rfl, rfl, h1, r1⟩ := trodAll_cons r0
  obtain ⟨rfl, rfl, rfl⟩ := trodAll_nil r1
  obtain rfl : args = #[v0, v1] := by cases args; simp_all
  obtain ⟨a0, a1, a2, a3, a4, HE, HH⟩ := errs hL
  obtain ⟨rfl, rfl⟩ := hV.unique (HH.read enc _)
  have k0 := h0
  have lt0 : ∀ x ∈ p0, x.block < W.heap.size := by obtain ⟨m, hm⟩ := k0; exact DataW.trod_lt m _ _ _ hm
  obtain ⟨y0, rfl, rk0, f0⟩ := OpensB.open_books (hval 0 28 v0 rfl rfl) h0
  obtain ⟨a1, len1, cap1, rfl⟩ := okWide_slice Tryz.underlying29 (hval 1 29 v1 rfl rfl)
  have k1 := h1
  have lt1 : ∀ x ∈ p1, x.block < W.heap.size := by obtain ⟨m, hm⟩ := k1; exact DataW.trod_lt m _ _ _ hm
  obtain ⟨z1, w1⟩ : ∃ zs, Ints.IsRow .i64 W a1 len1 cap1 zs := by
    obtain ⟨fuel, hf⟩ := h1
    rcases open_ints Tryz.underlying29 Tryz.underlying3 (by kernel_rfl) hf with ⟨hcs, _⟩ | ⟨x, l, c, zs, hcs, _, hl, hm, hz, _, hcell, hwz⟩
    · simp [Value.cells] at hcs
      obtain ⟨rfl, rfl, rfl⟩ := hcs
      exact ⟨[], .inl ⟨rfl, rfl, rfl, rfl⟩⟩
    · simp [Value.cells] at hcs
      obtain ⟨rfl, rfl, rfl⟩ := hcs
      exact ⟨zs, .inr ⟨_, rfl, hl, hm, by simpa using hz, hcell, hwz⟩⟩
  clear hA0
  refine (walk y0 a1 len1 cap1 z1 W rk0 f0 w1 W.heap.size _ HE (Nat.le_refl _)).mono fun e W' ⟨he, bel⟩ => ?_
  subst he
  exact ⟨_, rfl, _, _, _, [], _, _, hW', trodAll_mk1 (shut_bool Tryz.underlying4 _), (trodAll_cons_mk (Below.trod laidOut (by kernel_rfl) (of_decide_eq_true (by kernel_rfl)) k0 bel lt0) (trodAll_cons_mk (Below.trod laidOut (by kernel_rfl) (of_decide_eq_true (by kernel_rfl)) k1 bel lt1) trodAll_mk0)), (HH.below bel).read enc _, bel.frame _, fun h => by cases h⟩

set_option maxRecDepth 100000 in
theorem laid_met (os : Os) : laidMet Tryz.prog Rows.fnExactNetLegsRow.laid ((let w0 := (World.holding Tryz.prog os ⟨#[.cells #[.string { data := #[116, 104, 101, 114, 101, 32, 105, 115, 32, 110, 111, 32, 115, 117, 99, 104, 32, 116, 114, 97, 100, 101] }] 314, .cells #[.string { data := #[97, 32, 116, 114, 97, 100, 101, 32, 105, 115, 32, 110, 111, 116, 32, 111, 112, 101, 110] }] 314, .cells #[.string { data := #[116, 104, 101, 114, 101, 32, 105, 115, 32, 110, 111, 32, 114, 111, 111, 109] }] 314, .cells #[.string { data := #[97, 32, 115, 117, 109, 32, 105, 115, 32, 110, 111, 32, 97, 109, 111, 117, 110, 116] }] 314], #[], []⟩); { w0 with heap := ((((w0.heap.modify 1 fun | .cells _ t z => .cells #[.iface 290 (.pointer (some ⟨10, 0, none⟩))] t z | o => o).modify 2 fun | .cells _ t z => .cells #[.iface 290 (.pointer (some ⟨11, 0, none⟩))] t z | o => o).modify 0 fun | .cells _ t z => .cells #[.iface 290 (.pointer (some ⟨12, 0, none⟩))] t z | o => o).modify 3 fun | .cells _ t z => .cells #[.iface 290 (.pointer (some ⟨13, 0, none⟩))] t z | o => o) } : World).forCall (fun _ _ => 0) ⟨#[], #[.agg #[.slice none 0 0, .slice none 0 0, .slice none 0 0, .slice none 0 0, .slice none 0 0, .int .i64 0], .slice none 0 0], []⟩).memory :=
  laidMet_of_run' 8 (by kernel_rfl) (by kernel_rfl)
set_option maxRecDepth 100000 in
theorem lifted (os : Os) (started : os.Started) (H : Type) (enc : TypeId × Value → H) (F : Stop.Interp) :
    ReturnsInHanded {} Tryz.checked os 3 .any ((OpenSpec.ofChange Rows.fnExactNetLegsSpec).preRow enc Tryz.prog Tryz.f3 Rows.fnExactNetLegsRow.domain false Rows.fnExactNetLegsRow.laid) (((OpenSpec.ofChange Rows.fnExactNetLegsSpec).at F).post enc Tryz.prog Tryz.f3 false true false false) := by
  refine returnsInHanded_of_row (C := Tryz.checked) (s := OpenSpec.ofChange Rows.fnExactNetLegsSpec) own started (by kernel_rfl) Tryz.func3
    (witness_row_at (enc := enc) (C := Tryz.checked) false (let w0 := (World.holding Tryz.prog os ⟨#[.cells #[.string { data := #[116, 104, 101, 114, 101, 32, 105, 115, 32, 110, 111, 32, 115, 117, 99, 104, 32, 116, 114, 97, 100, 101] }] 314, .cells #[.string { data := #[97, 32, 116, 114, 97, 100, 101, 32, 105, 115, 32, 110, 111, 116, 32, 111, 112, 101, 110] }] 314, .cells #[.string { data := #[116, 104, 101, 114, 101, 32, 105, 115, 32, 110, 111, 32, 114, 111, 111, 109] }] 314, .cells #[.string { data := #[97, 32, 115, 117, 109, 32, 105, 115, 32, 110, 111, 32, 97, 109, 111, 117, 110, 116] }] 314], #[], []⟩); { w0 with heap := ((((w0.heap.modify 1 fun | .cells _ t z => .cells #[.iface 290 (.pointer (some ⟨10, 0, none⟩))] t z | o => o).modify 2 fun | .cells _ t z => .cells #[.iface 290 (.pointer (some ⟨11, 0, none⟩))] t z | o => o).modify 0 fun | .cells _ t z => .cells #[.iface 290 (.pointer (some ⟨12, 0, none⟩))] t z | o => o).modify 3 fun | .cells _ t z => .cells #[.iface 290 (.pointer (some ⟨13, 0, none⟩))] t z | o => o) } : World) #[.agg #[.slice none 0 0, .slice none 0 0, .slice none 0 0, .slice none 0 0, .slice none 0 0, .int .i64 0], .slice none 0 0] rfl (by kernel_rfl) (by kernel_rfl) (by kernel_rfl)
      (OpenSpec.preRow_of_B rfl 8 (by kernel_rfl) (by kernel_rfl) (laid_met os))) ?_
  intro W base args ds gs before hval hW _ _ _ hL _ _
  exact contract H enc W base args ds gs before hval hW hL

theorem said : Rows.FnExactNetLegsSaid :=
  OpenClaim.holds_of_cond 3 Tryz.f3 rfl rfl rfl rfl rfl rfl rfl ⟨rfl, rfl, rfl, rfl, rfl⟩ rfl rfl rfl rfl rfl (by kernel_rfl) Tryz.func3 (by kernel_rfl)
    (of_decide_eq_true (by kernel_rfl)) (by unfold Func.isWrapper; first | (rw [if_pos (by decide +kernel)]; kernel_rfl) | (rw [if_neg (by decide +kernel)]; exact ⟨rfl, rfl⟩))
    (fun os started H enc _ F => by rw [OpenClaim.pre_eq_preRow]; exact lifted os started H enc F)

theorem plain (f : FuncId) (fn : Func) (hf : Tryz.pinned.checked.prog.funcNamed Rows.fnExactNetLegsRow.func = some f) (hfn : Tryz.pinned.checked.prog.funcs[f]? = some fn) :
    true = Tryz.pinned.checked.prog.looks [] ∧ ∀ (j : Nat) t, fn.params[j]? = some t → Tryz.pinned.checked.prog.wantsStandIn t = false := by
  obtain rfl : f = 3 := Option.some.inj ((show Tryz.prog.funcNamed Rows.fnExactNetLegsRow.func = some 3 by kernel_rfl).symm.trans hf) |>.symm
  obtain rfl : fn = Tryz.f3 := (Option.some.inj (Tryz.func3.symm.trans hfn)).symm
  refine ⟨by kernel_rfl, fun j t ht => ?_⟩
  have al : (Tryz.f3.params.all fun t => Tryz.prog.wantsStandIn t == false) = true := by kernel_rfl
  have q := Array.all_eq_true'.1 al t (Array.mem_of_getElem? ht)
  have q : Tryz.prog.wantsStandIn t = false := by simpa using q
  exact q

/-- The statement: the card. -/
theorem proved : Rows.FnExactNetLegsCardSaid :=
  Claim7.holds_tied_plain_at .later [] _ _ _ _ said (fun _ h => by cases h) (by kernel_rfl) (fun _ h => by cases h) fnExactNetLegs_row_tie rfl ⟨rfl, rfl⟩ (by kernel_rfl) rfl plain (by kernel_rfl)
#print axioms proved
end Go.Proofs.YtpkgkekonhgonaaGreatDoor.fnExactNetLegs
