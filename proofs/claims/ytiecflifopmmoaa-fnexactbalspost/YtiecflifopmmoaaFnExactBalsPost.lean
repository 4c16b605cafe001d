/- At every list of balances, of legs and of short accounts the program's BalsPost answers as its model, writes into no argument, and its answer owns its memory. No condition. -/
import Derived.Test.YtiecflifopmmoaaRows
import Derived.Test.YtiecflifopmmoaaTriples
import Derived.Test.YtiecflifopmmoaaOpens3
import Derived.Test.YtiecflifopmmoaaBalHelp
import Derived.Test.YtiecflifopmmoaaLegHelp
import Derived.Test.YtiecflifopmmoaaInts
import Derived.Test.YtiecflifopmmoaaSOk3
import Derived.Test.YtiecflifopmmoaaIOk3
import Derived.Test.YtiecflifopmmoaaTab
import Derived.Test.YtiecflifopmmoaaLook
import Derived.Test.YtiecflifopmmoaaSPut3
import Derived.Test.YtiecflifopmmoaaOut
import Derived.Test.YtiecflifopmmoaaPut
import Derived.Test.YtiecflifopmmoaaLegs
import Derived.Test.YtiecflifopmmoaaPost
import Derived.Test.YtiecflifopmmoaaPost2
import Derived.Test.YtiecflifopmmoaaSPost
import Derived.ShutString
import Derived.ChangeOld
import Derived.Below
namespace Go.Proofs.Ytiecflifopmmoaa.fnExactBalsPost
open Go.ChangeShapes Go.WideShapes Go.ChangeAt Go.RowKit
open Go.ChangeMaps (open_string shut_string)
set_option linter.unusedVariables false
set_option linter.unusedSimpArgs false

theorem own : ownKnob Try.prog.godebug = none := by kernel_rfl
theorem laidOut : laidOutB Try.prog = true := by kernel_rfl

open Bals Triples Opens3 SOk3 IOk3 Tab Look SPut3 Out Put Legs Post Post2 SPost


set_option maxRecDepth 100000 in
set_option maxHeartbeats 8000000 in
theorem walk (a0 : Option Addr) (len0 cap0 : Nat) (z0 : List Bals.T3) (a1 : Option Addr) (len1 cap1 : Nat) (z1 : List Bals.T3) (a2 : Option Addr) (len2 cap2 : Nat) (z2 : List Int) (w : World) (l0 : z0.length = len0) (g0 : len0 ≤ 9223372036854775807) (w0 : Triples.Reads3 w a0 z0) (l1 : z1.length = len1) (g1 : len1 ≤ 9223372036854775807) (w1 : Triples.Reads3 w a1 z1) (w2 : Ints.IsRow .i64 w a2 len2 cap2 z2) :
    Calls Try.prog 8 #[.slice a0 len0 cap0, .slice a1 len1 cap1, .slice a2 len2 cap2] w fun e w' => e = .returned (.bool true) ∧ Below w.heap.size w w' := by
  by_cases t2 : (len2 : Int) ≤ 1048576
  · by_cases t0 : (len0 : Int) ≤ 1048576
    · by_cases t1 : (len1 : Int) ≤ 1048576 - (len0 : Int)
      · have HR0 := hide w0
        have HR1 := hide w1
        obtain ⟨l2, r2⟩ := Ints.row_reads w2
        have HR2 := hide r2
        have T0 : len0 ≤ 1048576 := by omega
        have T1 : len1 ≤ 1048576 := by omega
        have T2 : len2 ≤ 1048576 := by omega
        have n2 : ¬ (1048576 : Int) < (len2 : Int) := by omega
        clear w0 w1 w2 r2
        generalize z2.take len2 = xs at *
        go_enter Try.func8, Try.ntmps8
        go_wp2_with fail
        refine (BalHelp.sz_yes a0 len0 cap0 _ _ t0 (by omega)).mono ?_
        rintro e u ⟨rfl, rfl⟩
        have f0 : ¬ (1048576 : Int) - (len0 : Int) < 0 := by omega
        go_wp2_with fail
        refine (LegHelp.sz_yes a1 len1 cap1 _ _ t1 (by omega)).mono ?_
        rintro e u0 ⟨rfl, rfl⟩
        have f1 : ¬ (1048576 : Int) - (len0 : Int) - (len1 : Int) < 0 := by omega
        have HB := hide (Below.refl u0.heap.size u0)
        go_wp2_with fail
        refine (BalHelp.toS _ a0 len0 cap0 z0 l0 T0 ((unhide HR0).below (unhide HB))).mono ?_
        rintro e u1 ⟨rfl, o1, b1⟩
        have HB := hide (next (unhide HB) b1)
        clear b1
        have eOSA : u0.heap.size ≤ u0.heap.size := o1.lt.1
        have OSA := hide o1
        clear o1
        have dOSA2 : u0.heap.size < u1.heap.size := (unhide OSA).lt.2
        go_wp2_with fail
        refine (LegHelp.toS _ a1 len1 cap1 z1 l1 T1 ((unhide HR1).below (unhide HB))).mono ?_
        rintro e u2 ⟨rfl, o2, b2⟩
        have OSA := hide ((unhide OSA).below b2 (unhide OSA).lt.2)
        have HB := hide (next (unhide HB) b2)
        clear b2
        have eOSL : u1.heap.size ≤ u1.heap.size := o2.lt.1
        have OSL := hide o2
        clear o2
        have dOSA3 : u0.heap.size < u2.heap.size := (unhide OSA).lt.2
        have dOSL3 : u1.heap.size < u2.heap.size := (unhide OSL).lt.2
        go_wp2_with fail
        refine (Ints.toIntS _ a2 len2 cap2 xs l2 T2 ((unhide HR2).below (unhide HB))).mono ?_
        rintro e u3 ⟨rfl, o3, b3⟩
        have OSA := hide ((unhide OSA).below b3 (unhide OSA).lt.2)
        have OSL := hide ((unhide OSL).below b3 (unhide OSL).lt.2)
        have HB := hide (next (unhide HB) b3)
        clear b3
        have eOSI : u2.heap.size ≤ u2.heap.size := o3.lt.1
        have OSI := hide o3
        clear o3
        have dOSA4 : u0.heap.size < u3.heap.size := (unhide OSA).lt.2
        have dOSL4 : u1.heap.size < u3.heap.size := (unhide OSL).lt.2
        have dOSI4 : u2.heap.size < u3.heap.size := (unhide OSI).lt.2
        go_wp2_with fail
        refine (sBalsPost _ _ len0 len0 _ len1 len1 _ len2 len2 z0 z1 xs l0 l1 l2 T0 T1 T2 (unhide OSA).lt.2 (unhide OSL).lt.2 (unhide OSI).lt.2 (unhide OSA).at (unhide OSL).at (unhide OSI).at).mono ?_
        rintro e u4 ⟨qs, cd, gW, cW, hp, rfl, oW, b4⟩
        have OSA := hide ((unhide OSA).below b4 (unhide OSA).lt.2)
        have OSL := hide ((unhide OSL).below b4 (unhide OSL).lt.2)
        have OSI := hide ((unhide OSI).below b4 (unhide OSI).lt.2)
        have HB := hide (next (unhide HB) b4)
        clear b4
        have eOW : u3.heap.size ≤ gW := oW.lt.1
        have OW := hide oW
        clear oW
        have HP := hide hp
        have qn := hp.len
        clear hp
        clear OSA
        clear OSL
        clear OSI
        have dOW5 : gW < u4.heap.size := (unhide OW).lt.2
        go_wp2_with fail
        refine (BalHelp.toS _ a0 len0 cap0 z0 l0 T0 ((unhide HR0).below (unhide HB))).mono ?_
        rintro e u5 ⟨rfl, o5, b5⟩
        have OW := hide ((unhide OW).below b5 (unhide OW).lt.2)
        have HB := hide (next (unhide HB) b5)
        clear b5
        have eOXA : u4.heap.size ≤ u4.heap.size := o5.lt.1
        have OXA := hide o5
        clear o5
        have dOW6 : gW < u5.heap.size := (unhide OW).lt.2
        have dOXA6 : u4.heap.size < u5.heap.size := (unhide OXA).lt.2
        go_wp2_with fail
        refine (LegHelp.toS _ a1 len1 cap1 z1 l1 T1 ((unhide HR1).below (unhide HB))).mono ?_
        rintro e u6 ⟨rfl, o6, b6⟩
        have OW := hide ((unhide OW).below b6 (unhide OW).lt.2)
        have OXA := hide ((unhide OXA).below b6 (unhide OXA).lt.2)
        have HB := hide (next (unhide HB) b6)
        clear b6
        have eOXL : u5.heap.size ≤ u5.heap.size := o6.lt.1
        have OXL := hide o6
        clear o6
        have dOW7 : gW < u6.heap.size := (unhide OW).lt.2
        have dOXA7 : u4.heap.size < u6.heap.size := (unhide OXA).lt.2
        have dOXL7 : u5.heap.size < u6.heap.size := (unhide OXL).lt.2
        go_wp2_with fail
        refine (Ints.toIntS _ a2 len2 cap2 xs l2 T2 ((unhide HR2).below (unhide HB))).mono ?_
        rintro e u7 ⟨rfl, o7, b7⟩
        have OW := hide ((unhide OW).below b7 (unhide OW).lt.2)
        have OXA := hide ((unhide OXA).below b7 (unhide OXA).lt.2)
        have OXL := hide ((unhide OXL).below b7 (unhide OXL).lt.2)
        have HB := hide (next (unhide HB) b7)
        clear b7
        have eOXI : u6.heap.size ≤ u6.heap.size := o7.lt.1
        have OXI := hide o7
        clear o7
        have dOW8 : gW < u7.heap.size := (unhide OW).lt.2
        have dOXA8 : u4.heap.size < u7.heap.size := (unhide OXA).lt.2
        have dOXL8 : u5.heap.size < u7.heap.size := (unhide OXL).lt.2
        have dOXI8 : u6.heap.size < u7.heap.size := (unhide OXI).lt.2
        go_wp2_with fail
        refine (iBalsPost _ _ len0 len0 _ len1 len1 _ len2 len2 z0 z1 xs l0 l1 l2 T0 T1 T2 (unhide OXA).lt.2 (unhide OXL).lt.2 (unhide OXI).lt.2 (unhide OXA).at (unhide OXL).at (unhide OXI).at).mono ?_
        rintro e u8 ⟨qs', cd', gG, cG, hp, rfl, oG, b8⟩
        obtain ⟨rfl, rfl⟩ := (unhide HP).same hp
        clear hp
        have OW := hide ((unhide OW).below b8 (unhide OW).lt.2)
        have OXA := hide ((unhide OXA).below b8 (unhide OXA).lt.2)
        have OXL := hide ((unhide OXL).below b8 (unhide OXL).lt.2)
        have OXI := hide ((unhide OXI).below b8 (unhide OXI).lt.2)
        have HB := hide (next (unhide HB) b8)
        clear b8
        have eOG : u7.heap.size ≤ gG := oG.lt.1
        have OG := hide oG
        clear oG
        go_wp2_with fail
        refine (BalHelp.eqS _ gG gW qs.length cG cW qs rfl (by omega) (unhide OG).lt.2 (unhide OW).lt.2 (unhide OG).at (unhide OW).at).mono ?_
        rintro e u9 ⟨rfl, b9⟩
        have OW := hide ((unhide OW).below b9 (unhide OW).lt.2)
        have OXA := hide ((unhide OXA).below b9 (unhide OXA).lt.2)
        have OXL := hide ((unhide OXL).below b9 (unhide OXL).lt.2)
        have OXI := hide ((unhide OXI).below b9 (unhide OXI).lt.2)
        have OG := hide ((unhide OG).below b9 (unhide OG).lt.2)
        have HB := hide (next (unhide HB) b9)
        clear b9
        have dOW10 : gW < u9.heap.size := (unhide OW).lt.2
        have dOXA10 : u4.heap.size < u9.heap.size := (unhide OXA).lt.2
        have dOXL10 : u5.heap.size < u9.heap.size := (unhide OXL).lt.2
        have dOXI10 : u6.heap.size < u9.heap.size := (unhide OXI).lt.2
        have dOG10 : gG < u9.heap.size := (unhide OG).lt.2
        go_wp2_with fail
        refine (BalHelp.toS _ a0 len0 cap0 z0 l0 T0 ((unhide HR0).below (unhide HB))).mono ?_
        rintro e u10 ⟨rfl, o10, b10⟩
        have OW := hide ((unhide OW).below b10 (unhide OW).lt.2)
        have OXA := hide ((unhide OXA).below b10 (unhide OXA).lt.2)
        have OXL := hide ((unhide OXL).below b10 (unhide OXL).lt.2)
        have OXI := hide ((unhide OXI).below b10 (unhide OXI).lt.2)
        have OG := hide ((unhide OG).below b10 (unhide OG).lt.2)
        have HB := hide (next (unhide HB) b10)
        clear b10
        have eOYA : u9.heap.size ≤ u9.heap.size := o10.lt.1
        have OYA := hide o10
        clear o10
        go_wp2_with fail
        refine (BalHelp.eqS _ _ _ len0 len0 len0 z0 l0 T0 (unhide OXA).lt.2 (unhide OYA).lt.2 (unhide OXA).at (unhide OYA).at).mono ?_
        rintro e u11 ⟨rfl, b11⟩
        have OW := hide ((unhide OW).below b11 (unhide OW).lt.2)
        have OXA := hide ((unhide OXA).below b11 (unhide OXA).lt.2)
        have OXL := hide ((unhide OXL).below b11 (unhide OXL).lt.2)
        have OXI := hide ((unhide OXI).below b11 (unhide OXI).lt.2)
        have OG := hide ((unhide OG).below b11 (unhide OG).lt.2)
        have OYA := hide ((unhide OYA).below b11 (unhide OYA).lt.2)
        have HB := hide (next (unhide HB) b11)
        clear b11
        clear OYA
        have dOW12 : gW < u11.heap.size := (unhide OW).lt.2
        have dOXA12 : u4.heap.size < u11.heap.size := (unhide OXA).lt.2
        have dOXL12 : u5.heap.size < u11.heap.size := (unhide OXL).lt.2
        have dOXI12 : u6.heap.size < u11.heap.size := (unhide OXI).lt.2
        have dOG12 : gG < u11.heap.size := (unhide OG).lt.2
        go_wp2_with fail
        refine (LegHelp.toS _ a1 len1 cap1 z1 l1 T1 ((unhide HR1).below (unhide HB))).mono ?_
        rintro e u12 ⟨rfl, o12, b12⟩
        have OW := hide ((unhide OW).below b12 (unhide OW).lt.2)
        have OXA := hide ((unhide OXA).below b12 (unhide OXA).lt.2)
        have OXL := hide ((unhide OXL).below b12 (unhide OXL).lt.2)
        have OXI := hide ((unhide OXI).below b12 (unhide OXI).lt.2)
        have OG := hide ((unhide OG).below b12 (unhide OG).lt.2)
        have HB := hide (next (unhide HB) b12)
        clear b12
        have eOYL : u11.heap.size ≤ u11.heap.size := o12.lt.1
        have OYL := hide o12
        clear o12
        go_wp2_with fail
        refine (LegHelp.eqS _ _ _ len1 len1 len1 z1 l1 T1 (unhide OXL).lt.2 (unhide OYL).lt.2 (unhide OXL).at (unhide OYL).at).mono ?_
        rintro e u13 ⟨rfl, b13⟩
        have OW := hide ((unhide OW).below b13 (unhide OW).lt.2)
        have OXA := hide ((unhide OXA).below b13 (unhide OXA).lt.2)
        have OXL := hide ((unhide OXL).below b13 (unhide OXL).lt.2)
        have OXI := hide ((unhide OXI).below b13 (unhide OXI).lt.2)
        have OG := hide ((unhide OG).below b13 (unhide OG).lt.2)
        have OYL := hide ((unhide OYL).below b13 (unhide OYL).lt.2)
        have HB := hide (next (unhide HB) b13)
        clear b13
        clear OYL
        have dOW14 : gW < u13.heap.size := (unhide OW).lt.2
        have dOXA14 : u4.heap.size < u13.heap.size := (unhide OXA).lt.2
        have dOXL14 : u5.heap.size < u13.heap.size := (unhide OXL).lt.2
        have dOXI14 : u6.heap.size < u13.heap.size := (unhide OXI).lt.2
        have dOG14 : gG < u13.heap.size := (unhide OG).lt.2
        go_wp2_with fail
        refine (Ints.toIntS _ a2 len2 cap2 xs l2 T2 ((unhide HR2).below (unhide HB))).mono ?_
        rintro e u14 ⟨rfl, o14, b14⟩
        have OW := hide ((unhide OW).below b14 (unhide OW).lt.2)
        have OXA := hide ((unhide OXA).below b14 (unhide OXA).lt.2)
        have OXL := hide ((unhide OXL).below b14 (unhide OXL).lt.2)
        have OXI := hide ((unhide OXI).below b14 (unhide OXI).lt.2)
        have OG := hide ((unhide OG).below b14 (unhide OG).lt.2)
        have HB := hide (next (unhide HB) b14)
        clear b14
        have eOYI : u13.heap.size ≤ u13.heap.size := o14.lt.1
        have OYI := hide o14
        clear o14
        go_wp2_with fail
        refine (Ints.eqIntS _ _ _ len2 len2 len2 xs l2 T2 (unhide OXI).at (unhide OYI).at).mono ?_
        rintro e u15 ⟨rfl, b15⟩
        have OW := hide ((unhide OW).below b15 (unhide OW).lt.2)
        have OXA := hide ((unhide OXA).below b15 (unhide OXA).lt.2)
        have OXL := hide ((unhide OXL).below b15 (unhide OXL).lt.2)
        have OXI := hide ((unhide OXI).below b15 (unhide OXI).lt.2)
        have OG := hide ((unhide OG).below b15 (unhide OG).lt.2)
        have OYI := hide ((unhide OYI).below b15 (unhide OYI).lt.2)
        have HB := hide (next (unhide HB) b15)
        clear b15
        clear OYI
        go_wp2_with fail
        refine (BalHelp.markS _ _ _ len0 len0 1 z0 T0 (by omega) (by omega) (unhide OXA)).mono ?_
        rintro e u16 ⟨rfl, nX, b16⟩
        have OW := hide ((unhide OW).kept b16 (by simp; omega))
        have OXL := hide ((unhide OXL).kept b16 (by simp; omega))
        have OXI := hide ((unhide OXI).kept b16 (by simp; omega))
        have OG := hide ((unhide OG).kept b16 (by simp; omega))
        have HB := hide ((unhide HB).grown b16 (unhide HB).size (fun j hj => by cases hj; omega))
        have OXA := hide nX
        clear b16 nX
        clear OXA
        go_wp2_with fail
        refine (LegHelp.markS _ _ _ len1 len1 (1 + 3 * (len0 : Int)) z1 T1 (by omega) (by omega) (unhide OXL)).mono ?_
        rintro e u17 ⟨rfl, nX, b17⟩
        have OW := hide ((unhide OW).kept b17 (by simp; omega))
        have OXI := hide ((unhide OXI).kept b17 (by simp; omega))
        have OG := hide ((unhide OG).kept b17 (by simp; omega))
        have HB := hide ((unhide HB).grown b17 (unhide HB).size (fun j hj => by cases hj; omega))
        have OXL := hide nX
        clear b17 nX
        clear OXL
        go_wp2_with fail
        refine (Ints.markIntS _ _ _ len2 len2 (1 + 3 * (len0 : Int) + 3 * (len1 : Int)) xs T2 (by omega) (by omega) (unhide OXI)).mono ?_
        rintro e u18 ⟨rfl, nX, b18⟩
        have OW := hide ((unhide OW).kept b18 (by simp; omega))
        have OG := hide ((unhide OG).kept b18 (by simp; omega))
        have HB := hide ((unhide HB).grown b18 (unhide HB).size (fun j hj => by cases hj; omega))
        have OXI := hide nX
        clear b18 nX
        clear OXI
        have k0 : ¬ (1 + 3 * (len0 : Int) + 3 * (len1 : Int) + (len2 : Int)) < 0 := by omega
        go_wp2_with fail
        refine (BalHelp.eqS _ gG gW qs.length cG cW qs rfl (by omega) (unhide OG).lt.2 (unhide OW).lt.2 (unhide OG).at (unhide OW).at).mono ?_
        rintro e u19 ⟨rfl, b19⟩
        have OW := hide ((unhide OW).below b19 (unhide OW).lt.2)
        have OG := hide ((unhide OG).below b19 (unhide OG).lt.2)
        have HB := hide (next (unhide HB) b19)
        clear b19
        go_wp2_with fail
        refine (BalHelp.markS _ _ gG qs.length cG 1 qs (by omega) (by omega) (by omega) (unhide OG)).mono ?_
        rintro e u20 ⟨rfl, nG, b20⟩
        have OW := hide ((unhide OW).kept b20 (by simp; omega))
        have HB := hide ((unhide HB).grown b20 (unhide HB).size (fun j hj => by cases hj; omega))
        have OG := hide nG
        clear b20 nG
        go_wp2_with fail
        refine (BalHelp.heldS _ gG qs.length cG (by omega) (unhide OG).at).mono ?_
        rintro e u21 ⟨rfl, rfl⟩
        have k1 : ¬ (1 + 3 * (qs.length : Int)) < 0 := by omega
        have dOW22 : gW < u21.heap.size := (unhide OW).lt.2
        have dOG22 : gG < u21.heap.size := (unhide OG).lt.2
        go_wp2_with fail
        refine (BalHelp.toS _ a0 len0 cap0 z0 l0 T0 ((unhide HR0).below (unhide HB))).mono ?_
        rintro e u22 ⟨rfl, o22, b22⟩
        have OW := hide ((unhide OW).below b22 (unhide OW).lt.2)
        have OG := hide ((unhide OG).below b22 (unhide OG).lt.2)
        have HB := hide (next (unhide HB) b22)
        clear b22
        have eOZA : u21.heap.size ≤ u21.heap.size := o22.lt.1
        have OZA := hide o22
        clear o22
        have dOW23 : gW < u22.heap.size := (unhide OW).lt.2
        have dOG23 : gG < u22.heap.size := (unhide OG).lt.2
        have dOZA23 : u21.heap.size < u22.heap.size := (unhide OZA).lt.2
        go_wp2_with fail
        refine (LegHelp.toS _ a1 len1 cap1 z1 l1 T1 ((unhide HR1).below (unhide HB))).mono ?_
        rintro e u23 ⟨rfl, o23, b23⟩
        have OW := hide ((unhide OW).below b23 (unhide OW).lt.2)
        have OG := hide ((unhide OG).below b23 (unhide OG).lt.2)
        have OZA := hide ((unhide OZA).below b23 (unhide OZA).lt.2)
        have HB := hide (next (unhide HB) b23)
        clear b23
        have eOZL : u22.heap.size ≤ u22.heap.size := o23.lt.1
        have OZL := hide o23
        clear o23
        have dOW24 : gW < u23.heap.size := (unhide OW).lt.2
        have dOG24 : gG < u23.heap.size := (unhide OG).lt.2
        have dOZA24 : u21.heap.size < u23.heap.size := (unhide OZA).lt.2
        have dOZL24 : u22.heap.size < u23.heap.size := (unhide OZL).lt.2
        go_wp2_with fail
        refine (Ints.toIntS _ a2 len2 cap2 xs l2 T2 ((unhide HR2).below (unhide HB))).mono ?_
        rintro e u24 ⟨rfl, o24, b24⟩
        have OW := hide ((unhide OW).below b24 (unhide OW).lt.2)
        have OG := hide ((unhide OG).below b24 (unhide OG).lt.2)
        have OZA := hide ((unhide OZA).below b24 (unhide OZA).lt.2)
        have OZL := hide ((unhide OZL).below b24 (unhide OZL).lt.2)
        have HB := hide (next (unhide HB) b24)
        clear b24
        have eOZI : u23.heap.size ≤ u23.heap.size := o24.lt.1
        have OZI := hide o24
        clear o24
        have dOW25 : gW < u24.heap.size := (unhide OW).lt.2
        have dOG25 : gG < u24.heap.size := (unhide OG).lt.2
        have dOZA25 : u21.heap.size < u24.heap.size := (unhide OZA).lt.2
        have dOZL25 : u22.heap.size < u24.heap.size := (unhide OZL).lt.2
        have dOZI25 : u23.heap.size < u24.heap.size := (unhide OZI).lt.2
        go_wp2_with fail
        refine (iBalsPost _ _ len0 len0 _ len1 len1 _ len2 len2 z0 z1 xs l0 l1 l2 T0 T1 T2 (unhide OZA).lt.2 (unhide OZL).lt.2 (unhide OZI).lt.2 (unhide OZA).at (unhide OZL).at (unhide OZI).at).mono ?_
        rintro e u25 ⟨qs', cd', gH, cH, hp, rfl, oH, b25⟩
        obtain ⟨rfl, rfl⟩ := (unhide HP).same hp
        clear hp
        have OW := hide ((unhide OW).below b25 (unhide OW).lt.2)
        have OG := hide ((unhide OG).below b25 (unhide OG).lt.2)
        have OZA := hide ((unhide OZA).below b25 (unhide OZA).lt.2)
        have OZL := hide ((unhide OZL).below b25 (unhide OZL).lt.2)
        have OZI := hide ((unhide OZI).below b25 (unhide OZI).lt.2)
        have HB := hide (next (unhide HB) b25)
        clear b25
        have eOH : u24.heap.size ≤ gH := oH.lt.1
        have OH := hide oH
        clear oH
        clear OZA
        clear OZL
        clear OZI
        go_wp2_with fail
        refine (BalHelp.eqS _ gH gW qs.length cH cW qs rfl (by omega) (unhide OH).lt.2 (unhide OW).lt.2 (unhide OH).at (unhide OW).at).mono ?_
        rintro e u26 ⟨rfl, b26⟩
        have OW := hide ((unhide OW).below b26 (unhide OW).lt.2)
        have OG := hide ((unhide OG).below b26 (unhide OG).lt.2)
        have OH := hide ((unhide OH).below b26 (unhide OH).lt.2)
        have HB := hide (next (unhide HB) b26)
        clear b26
        go_wp2_with fail
        refine (BalHelp.heldS _ gG qs.length cG (by omega) (unhide OG).at).mono ?_
        rintro e u27 ⟨rfl, rfl⟩
        go_wp2
        go_ret
        exact ⟨rfl, unhide HB⟩
      · have n2 : ¬ (1048576 : Int) < (len2 : Int) := by omega
        clear w0 w1 w2 l0 l1
        go_enter Try.func8, Try.ntmps8
        go_wp2_with fail
        refine (BalHelp.sz_yes a0 len0 cap0 _ _ t0 (by omega)).mono ?_
        rintro e u ⟨rfl, rfl⟩
        have f0 : ¬ (1048576 : Int) - (len0 : Int) < 0 := by omega
        go_wp2_with fail
        refine (LegHelp.sz_no a1 len1 cap1 _ _ (by omega) (by omega) (by omega) g1).mono ?_
        rintro e u0 ⟨rfl, rfl⟩
        go_wp2
        go_ret
        exact ⟨rfl, Below.refl _ _⟩
    · have n2 : ¬ (1048576 : Int) < (len2 : Int) := by omega
      clear w0 w1 w2 l0 l1
      go_enter Try.func8, Try.ntmps8
      go_wp2_with fail
      refine (BalHelp.sz_no a0 len0 cap0 _ _ (by omega) (by omega) (by omega) g0).mono ?_
      rintro e u0 ⟨rfl, rfl⟩
      go_wp2
      go_ret
      exact ⟨rfl, Below.refl _ _⟩
  · have n2 : (1048576 : Int) < (len2 : Int) := by omega
    clear w0 w1 w2 l0 l1
    go_enter Try.func8, Try.ntmps8
    go_wp2
    go_ret
    exact ⟨rfl, Below.refl _ _⟩

set_option maxRecDepth 100000 in
theorem lifted (os : Os) (started : os.Started) (H : Type) (enc : TypeId × Value → H) :
    ReturnsInHanded {} Try.checked os 8 .any (Rows.fnExactBalsPostSpec.pre6 enc Try.prog Try.f8 Rows.fnExactBalsPostRow.domain false) (Rows.fnExactBalsPostSpec.post enc Try.prog Try.f8 false true false false) := by
  refine returnsInHanded_of_change (C := Try.checked) own started (by kernel_rfl) Try.func8
    (ChangeSpec.witness6 (enc := enc) (C := Try.checked) false ⟨#[], #[.slice none 0 0, .slice none 0 0, .slice none 0 0], []⟩ 8 (by kernel_rfl) (by kernel_rfl) (by kernel_rfl) (by kernel_rfl)) ?_
  intro W base args ds gs before hval0 hW hcnd _
  have hval : ∀ (j : Nat) t v, Try.f8.params[j]? = some t → args[j]? = some v → Value.okWide Try.prog W .any base t v := hval0
  have hW' := hW
  obtain ⟨p, q, hA0, hV, rfl, hfz, hnd⟩ := hW
  have hA : DataW.TrodAll enc Try.prog W 0 (fun _ => true) true Try.f8.params.toList args.toList ds p := hA0
  rw [Try.params8] at hA hval
  obtain ⟨v0, vs0, d0, ds0, p0, q0, hargs, rfl, rfl, h0, r0⟩ := trodAll_cons hA
  obtain ⟨v1, vs1, d1, ds1, p1, q1, rfl, rfl, rfl, h1, r1⟩ := trodAll_cons r0
  obtain ⟨v2, vs2, d2, ds2, p2, q2, rfl, rfl, rfl, h2, r2⟩ := trodAll_cons r1
  obtain ⟨rfl, rfl, rfl⟩ := trodAll_nil r2
  obtain rfl : args = #[v0, v1, v2] := by cases args; simp_all
  obtain ⟨rfl, rfl⟩ := trodVars_none hV
  obtain ⟨a0, len0, cap0, rfl⟩ := okWide_slice Try.underlying22 (hval 0 22 v0 rfl rfl)
  have k0 := h0
  have lt0 : ∀ x ∈ p0, x.block < W.heap.size := by obtain ⟨m, hm⟩ := k0; exact DataW.trod_lt m _ _ _ hm
  obtain ⟨z0, l0, g0, w0⟩ : ∃ zs : List Bals.T3, zs.length = len0 ∧ len0 ≤ 9223372036854775807 ∧ Triples.Reads3 W a0 zs := by
    obtain ⟨fuel, hf⟩ := h0
    exact Opens3.open_triples Try.underlying22 Try.underlying58 (by kernel_rfl) Try.underlying3 hf
  obtain ⟨a1, len1, cap1, rfl⟩ := okWide_slice Try.underlying38 (hval 1 38 v1 rfl rfl)
  have k1 := h1
  have lt1 : ∀ x ∈ p1, x.block < W.heap.size := by obtain ⟨m, hm⟩ := k1; exact DataW.trod_lt m _ _ _ hm
  obtain ⟨z1, l1, g1, w1⟩ : ∃ zs : List Bals.T3, zs.length = len1 ∧ len1 ≤ 9223372036854775807 ∧ Triples.Reads3 W a1 zs := by
    obtain ⟨fuel, hf⟩ := h1
    exact Opens3.open_triples Try.underlying38 Try.underlying73 (by kernel_rfl) Try.underlying3 hf
  obtain ⟨a2, len2, cap2, rfl⟩ := okWide_slice Try.underlying45 (hval 2 45 v2 rfl rfl)
  have k2 := h2
  have lt2 : ∀ x ∈ p2, x.block < W.heap.size := by obtain ⟨m, hm⟩ := k2; exact DataW.trod_lt m _ _ _ hm
  obtain ⟨z2, w2⟩ : ∃ zs, Ints.IsRow .i64 W a2 len2 cap2 zs := by
    obtain ⟨fuel, hf⟩ := h2
    rcases open_ints Try.underlying45 Try.underlying3 (by kernel_rfl) hf with ⟨hcs, _⟩ | ⟨x, l, c, zs, hcs, _, hl, hm, hz, _, hcell, hwz⟩
    · simp [Value.cells] at hcs
      obtain ⟨rfl, rfl, rfl⟩ := hcs
      exact ⟨[], .inl ⟨rfl, rfl, rfl, rfl⟩⟩
    · simp [Value.cells] at hcs
      obtain ⟨rfl, rfl, rfl⟩ := hcs
      exact ⟨zs, .inr ⟨_, rfl, hl, hm, by simpa using hz, hcell, hwz⟩⟩
  clear hA0 hval0
  refine (walk a0 len0 cap0 z0 a1 len1 cap1 z1 a2 len2 cap2 z2 W l0 g0 w0 l1 g1 w1 w2).mono fun e W' ⟨he, bel⟩ => ?_
  subst he
  exact ⟨_, rfl, _, _, _, [], _, [], hW', trodAll_mk1 (shut_bool Try.underlying4 _), (trodAll_cons_mk (Below.trod laidOut (by kernel_rfl) (of_decide_eq_true (by kernel_rfl)) k0 bel lt0) (trodAll_cons_mk (Below.trod laidOut (by kernel_rfl) (of_decide_eq_true (by kernel_rfl)) k1 bel lt1) (trodAll_cons_mk (Below.trod laidOut (by kernel_rfl) (of_decide_eq_true (by kernel_rfl)) k2 bel lt2) trodAll_mk0))), rfl, bel.frame _, fun h => by cases h⟩

theorem over : Rows.fnExactBalsPostRow.holds Try.pinned (OpenSpec.ofChange Rows.fnExactBalsPostSpec) :=
  OpenClaim.holds_of_wide 8 Try.f8 rfl rfl rfl rfl rfl rfl rfl ⟨rfl, rfl, rfl, rfl, rfl⟩ rfl rfl rfl rfl rfl (by kernel_rfl) Try.func8 (by kernel_rfl)
    (of_decide_eq_true (by kernel_rfl)) (by unfold Func.isWrapper; first | (rw [if_pos (by decide +kernel)]; kernel_rfl) | (rw [if_neg (by decide +kernel)]; exact ⟨rfl, rfl⟩))
    (fun os started H enc _ => lifted os started H enc)

/-- The statement. -/
theorem proved : Rows.FnExactBalsPostSaid := over
#print axioms proved
end Go.Proofs.Ytiecflifopmmoaa.fnExactBalsPost
