/- At every list of lots, account, instrument and number of pieces the program's LotsScale answers as its model, writes into no argument, and its answer owns its memory. No condition. -/
import Derived.Test.YtdnpjjbphamcmaaRows
import Derived.Test.YtdnpjjbphamcmaaTup5
import Derived.Test.YtdnpjjbphamcmaaOpens5
import Derived.Test.YtdnpjjbphamcmaaLotHelp
import Derived.Test.YtdnpjjbphamcmaaVHelp5
import Derived.Test.YtdnpjjbphamcmaaSScale
import Derived.Test.YtdnpjjbphamcmaaIScale2
import Derived.Test.YtdnpjjbphamcmaaOrderEx
import Derived.ShutString
import Derived.ChangeOld
import Derived.Below
namespace Go.Proofs.Ytdnpjjbphamcmaa.fnExactLotsScale
open Go.ChangeShapes Go.WideShapes Go.ChangeAt Go.RowKit
open Go.ChangeMaps (open_string shut_string)
set_option linter.unusedVariables false
set_option linter.unusedSimpArgs false

theorem own : ownKnob Try.prog.godebug = none := by kernel_rfl
theorem laidOut : laidOutB Try.prog = true := by kernel_rfl

open Tup5 Lots Takes Opens5 LotHelp Concat5 VHelp5 Scale SScale IScale2


set_option maxRecDepth 100000 in
set_option maxHeartbeats 8000000 in
theorem walk (a0 : Option Addr) (len0 cap0 : Nat) (z0 : List Tup5.T5) (a1 : Int) (a2 : Int) (a3 : Int) (w : World) (l0 : z0.length = len0) (g0 : len0 ≤ 9223372036854775807) (w0 : Tup5.Reads5 w a0 z0) (w1 : (Lit.int .i64 a1).wf = true) (w2 : (Lit.int .i64 a2).wf = true) (w3 : (Lit.int .i64 a3).wf = true) :
    Calls Try.prog 3 #[.slice a0 len0 cap0, .int .i64 a1, .int .i64 a2, .int .i64 a3] w fun e w' => e = .returned (.bool true) ∧ Below w.heap.size w w' := by
  by_cases t : (len0 : Int) ≤ 1048576
  · obtain ⟨ss, okS, st⟩ := OrderEx.stells_ex a3 (qtys (ownL z0 a1 a2))
    have ST := hide st
    clear st
    obtain ⟨R, HM⟩ : ∃ R, Hid (R = mergeL ((restL z0 a1 a2).length + (scaleL (ownL z0 a1 a2) ss).length) (restL z0 a1 a2) (scaleL (ownL z0 a1 a2) ss)) := ⟨_, rfl⟩
    obtain ⟨bad, BAD⟩ := says_of (¬ ScaleOk z0 a3)
    obtain ⟨short, SHORT⟩ := says_of ((ownL z0 a1 a2).length = 0 ∧ 0 < a3)
    obtain ⟨full, FULL⟩ := says_of (40 < (ownL z0 a1 a2).length)
    have ol : (scaleA z0 R bad short full).length ≤ 241 := IScale2.scaleA_len BAD (unhide HM)
    have HR := hide w0
    have T : len0 ≤ 1048576 := by omega
    clear w0 w1 w2 w3
    go_enter Try.func3, Try.ntmps3
    go_wp2_with fail
    refine (sz_yes a0 len0 cap0 _ _ t (by omega)).mono ?_
    rintro e u0 ⟨rfl, rfl⟩
    have t0 : ¬ (1048576 : Int) - (len0 : Int) < 0 := by omega
    have HB := hide (Below.refl u0.heap.size u0)
    go_wp2_with fail
    refine (toS _ a0 len0 cap0 z0 l0 T ((unhide HR).below (unhide HB))).mono ?_
    rintro e u1 ⟨rfl, o1, b1⟩
    have HB := hide (next (unhide HB) b1)
    clear b1
    have eOA : u0.heap.size ≤ u0.heap.size := o1.lt.1
    have OA := hide o1
    clear o1
    have dOA2 : u0.heap.size < u1.heap.size := (unhide OA).lt.2
    go_wp2_with fail
    refine (sScale _ _ len0 len0 z0 R ss okS a1 a2 a3 bad short full l0 T (unhide OA).lt.2 (unhide OA).at BAD SHORT FULL ST HM).mono ?_
    rintro e u2 ⟨gW, cW, rfl, oW, b2⟩
    have OA := hide ((unhide OA).below b2 (unhide OA).lt.2)
    have HB := hide (next (unhide HB) b2)
    clear b2
    have eOW : u1.heap.size ≤ gW := oW.lt.1
    have OW := hide oW
    clear oW
    clear OA
    have dOW3 : gW < u2.heap.size := (unhide OW).lt.2
    go_wp2_with fail
    refine (toS _ a0 len0 cap0 z0 l0 T ((unhide HR).below (unhide HB))).mono ?_
    rintro e u3 ⟨rfl, o3, b3⟩
    have OW := hide ((unhide OW).below b3 (unhide OW).lt.2)
    have HB := hide (next (unhide HB) b3)
    clear b3
    have eOX : u2.heap.size ≤ u2.heap.size := o3.lt.1
    have OX := hide o3
    clear o3
    have dOW4 : gW < u3.heap.size := (unhide OW).lt.2
    have dOX4 : u2.heap.size < u3.heap.size := (unhide OX).lt.2
    go_wp2_with fail
    refine (iScale _ _ len0 len0 z0 R ss okS a1 a2 a3 bad short full l0 T (Nat.le_refl _) (unhide OX).lt.2 (unhide OX).at BAD SHORT FULL ST HM).mono ?_
    rintro e u4 ⟨vG, rfl, oG, b4⟩
    have OW := hide ((unhide OW).below b4 (unhide OW).lt.2)
    have OX := hide ((unhide OX).below b4 (unhide OX).lt.2)
    have HB := hide (next (unhide HB) b4)
    clear b4
    have OG := hide oG
    clear oG
    go_wp2_with fail
    refine (eqV _ _ gW cW vG (scaleA z0 R bad short full) (by omega) (unhide OG) (unhide OW).lt.2 (unhide OW).at).mono ?_
    rintro e u5 ⟨rfl, b5⟩
    have OW := hide ((unhide OW).below b5 (unhide OW).lt.2)
    have OX := hide ((unhide OX).below b5 (unhide OX).lt.2)
    have OG := hide ((unhide OG).below b5 (fun z hz => ((unhide OG).lt z hz).2))
    have HB := hide (next (unhide HB) b5)
    clear b5
    have dOW6 : gW < u5.heap.size := (unhide OW).lt.2
    have dOX6 : u2.heap.size < u5.heap.size := (unhide OX).lt.2
    have dOG6 : ∀ z, vG.ownBlock = some z → z < u5.heap.size := fun z hz => ((unhide OG).lt z hz).2
    go_wp2_with fail
    refine (toS _ a0 len0 cap0 z0 l0 T ((unhide HR).below (unhide HB))).mono ?_
    rintro e u6 ⟨rfl, o6, b6⟩
    have OW := hide ((unhide OW).below b6 (unhide OW).lt.2)
    have OX := hide ((unhide OX).below b6 (unhide OX).lt.2)
    have OG := hide ((unhide OG).below b6 (fun z hz => ((unhide OG).lt z hz).2))
    have HB := hide (next (unhide HB) b6)
    clear b6
    have eOY : u5.heap.size ≤ u5.heap.size := o6.lt.1
    have OY := hide o6
    clear o6
    go_wp2_with fail
    refine (eqS _ _ _ len0 len0 len0 z0 l0 T (unhide OX).lt.2 (unhide OY).lt.2 (unhide OX).at (unhide OY).at).mono ?_
    rintro e u7 ⟨rfl, b7⟩
    have OW := hide ((unhide OW).below b7 (unhide OW).lt.2)
    have OX := hide ((unhide OX).below b7 (unhide OX).lt.2)
    have OG := hide ((unhide OG).below b7 (fun z hz => ((unhide OG).lt z hz).2))
    have OY := hide ((unhide OY).below b7 (unhide OY).lt.2)
    have HB := hide (next (unhide HB) b7)
    clear b7
    clear OY
    go_wp2_with fail
    refine (markS _ _ _ len0 len0 1 z0 T (by omega) (by omega) (unhide OX)).mono ?_
    rintro e u8 ⟨rfl, nX, b8⟩
    have OW := hide ((unhide OW).kept b8 (by simp; omega))
    have OG := hide ((unhide OG).kept b8 (fun z hz e => by have h1 := ((unhide OG).lt z hz).1; have h2 := Option.some.inj e; omega))
    have HB := hide ((unhide HB).grown b8 (unhide HB).size (fun j hj => by cases hj; omega))
    have OX := hide nX
    clear b8 nX
    clear OX
    have k0 : ¬ (1 + 5 * (len0 : Int)) < 0 := by omega
    go_wp2_with fail
    refine (eqV _ _ gW cW vG (scaleA z0 R bad short full) (by omega) (unhide OG) (unhide OW).lt.2 (unhide OW).at).mono ?_
    rintro e u9 ⟨rfl, b9⟩
    have OW := hide ((unhide OW).below b9 (unhide OW).lt.2)
    have OG := hide ((unhide OG).below b9 (fun z hz => ((unhide OG).lt z hz).2))
    have HB := hide (next (unhide HB) b9)
    clear b9
    go_wp2_with fail
    refine (markV _ _ vG (scaleA z0 R bad short full) 1 (by omega) (by omega) (by omega) (unhide OG)).mono ?_
    rintro e u10 ⟨rfl, nG, b10⟩
    have OW := hide ((unhide OW).kept b10 (fun e => by have h1 := ((unhide OG).lt _ e.symm).1; omega))
    have HB := hide ((unhide HB).grown b10 (unhide HB).size (fun z hz => by have h1 := ((unhide OG).lt z hz).1; omega))
    have OG := hide nG
    clear b10 nG
    go_wp2_with fail
    refine (heldV _ _ (scaleA z0 R bad short full).length vG (by omega) (unhide OG)).mono ?_
    rintro e u11 ⟨rfl, rfl⟩
    have k1 : ¬ (1 + 5 * ((scaleA z0 R bad short full).length : Int)) < 0 := by omega
    have dOW12 : gW < u11.heap.size := (unhide OW).lt.2
    have dOG12 : ∀ z, vG.ownBlock = some z → z < u11.heap.size := fun z hz => ((unhide OG).lt z hz).2
    go_wp2_with fail
    refine (toS _ a0 len0 cap0 z0 l0 T ((unhide HR).below (unhide HB))).mono ?_
    rintro e u12 ⟨rfl, o12, b12⟩
    have OW := hide ((unhide OW).below b12 (unhide OW).lt.2)
    have OG := hide ((unhide OG).below b12 (fun z hz => ((unhide OG).lt z hz).2))
    have HB := hide (next (unhide HB) b12)
    clear b12
    have eOZ : u11.heap.size ≤ u11.heap.size := o12.lt.1
    have OZ := hide o12
    clear o12
    have dOW13 : gW < u12.heap.size := (unhide OW).lt.2
    have dOG13 : ∀ z, vG.ownBlock = some z → z < u12.heap.size := fun z hz => ((unhide OG).lt z hz).2
    have dOZ13 : u11.heap.size < u12.heap.size := (unhide OZ).lt.2
    go_wp2_with fail
    refine (iScale _ _ len0 len0 z0 R ss okS a1 a2 a3 bad short full l0 T (Nat.le_refl _) (unhide OZ).lt.2 (unhide OZ).at BAD SHORT FULL ST HM).mono ?_
    rintro e u13 ⟨vH, rfl, oH, b13⟩
    have OW := hide ((unhide OW).below b13 (unhide OW).lt.2)
    have OG := hide ((unhide OG).below b13 (fun z hz => ((unhide OG).lt z hz).2))
    have OZ := hide ((unhide OZ).below b13 (unhide OZ).lt.2)
    have HB := hide (next (unhide HB) b13)
    clear b13
    have OH := hide oH
    clear oH
    clear OZ
    go_wp2_with fail
    refine (eqV _ _ gW cW vH (scaleA z0 R bad short full) (by omega) (unhide OH) (unhide OW).lt.2 (unhide OW).at).mono ?_
    rintro e u14 ⟨rfl, b14⟩
    have OW := hide ((unhide OW).below b14 (unhide OW).lt.2)
    have OG := hide ((unhide OG).below b14 (fun z hz => ((unhide OG).lt z hz).2))
    have OH := hide ((unhide OH).below b14 (fun z hz => ((unhide OH).lt z hz).2))
    have HB := hide (next (unhide HB) b14)
    clear b14
    go_wp2_with fail
    refine (heldV _ _ (scaleA z0 R bad short full).length vG (by omega) (unhide OG)).mono ?_
    rintro e u15 ⟨rfl, rfl⟩
    go_wp2
    go_ret
    exact ⟨rfl, unhide HB⟩
  · clear w0 l0 w1 w2 w3
    go_enter Try.func3, Try.ntmps3
    go_wp2_with fail
    refine (sz_no a0 len0 cap0 _ _ (by omega) (by omega) (by omega) g0).mono ?_
    rintro e u0 ⟨rfl, rfl⟩
    go_wp2
    go_ret
    exact ⟨rfl, Below.refl _ _⟩

set_option maxRecDepth 100000 in
theorem lifted (os : Os) (started : os.Started) (H : Type) (enc : TypeId × Value → H) :
    ReturnsInHanded {} Try.checked os 3 .any (Rows.fnExactLotsScaleSpec.pre6 enc Try.prog Try.f3 Rows.fnExactLotsScaleRow.domain false) (Rows.fnExactLotsScaleSpec.post enc Try.prog Try.f3 false true false false) := by
  refine returnsInHanded_of_change (C := Try.checked) own started (by kernel_rfl) Try.func3
    (ChangeSpec.witness6 (enc := enc) (C := Try.checked) false ⟨#[], #[.slice none 0 0, .int .i64 0, .int .i64 0, .int .i64 0], []⟩ 8 (by kernel_rfl) (by kernel_rfl) (by kernel_rfl) (by kernel_rfl)) ?_
  intro W base args ds gs before hval0 hW hcnd _
  have hval : ∀ (j : Nat) t v, Try.f3.params[j]? = some t → args[j]? = some v → Value.okWide Try.prog W .any base t v := hval0
  have hW' := hW
  obtain ⟨p, q, hA0, hV, rfl, hfz, hnd⟩ := hW
  have hA : DataW.TrodAll enc Try.prog W 0 (fun _ => true) true Try.f3.params.toList args.toList ds p := hA0
  rw [Try.params3] at hA hval
  obtain ⟨v0, vs0, d0, ds0, p0, q0, hargs, rfl, rfl, h0, r0⟩ := trodAll_cons hA
  obtain ⟨v1, vs1, d1, ds1, p1, q1, rfl, rfl, rfl, h1, r1⟩ := trodAll_cons r0
  obtain ⟨v2, vs2, d2, ds2, p2, q2, rfl, rfl, rfl, h2, r2⟩ := trodAll_cons r1
  obtain ⟨v3, vs3, d3, ds3, p3, q3, rfl, rfl, rfl, h3, r3⟩ := trodAll_cons r2
  obtain ⟨rfl, rfl, rfl⟩ := trodAll_nil r3
  obtain rfl : args = #[v0, v1, v2, v3] := by cases args; simp_all
  obtain ⟨rfl, rfl⟩ := trodVars_none hV
  obtain ⟨a0, len0, cap0, rfl⟩ := okWide_slice Try.underlying22 (hval 0 22 v0 rfl rfl)
  have k0 := h0
  have lt0 : ∀ x ∈ p0, x.block < W.heap.size := by obtain ⟨m, hm⟩ := k0; exact DataW.trod_lt m _ _ _ hm
  obtain ⟨z0, l0, g0, w0⟩ : ∃ zs : List Tup5.T5, zs.length = len0 ∧ len0 ≤ 9223372036854775807 ∧ Tup5.Reads5 W a0 zs := by
    obtain ⟨fuel, hf⟩ := h0
    exact Opens5.open_rows Try.underlying22 Try.underlying55 (by kernel_rfl) Try.underlying3 hf
  obtain ⟨a1, rfl, rfl, rfl, w1⟩ := open_int Try.underlying3 (hval 1 3 v1 rfl rfl) h1
  obtain ⟨a2, rfl, rfl, rfl, w2⟩ := open_int Try.underlying3 (hval 2 3 v2 rfl rfl) h2
  obtain ⟨a3, rfl, rfl, rfl, w3⟩ := open_int Try.underlying3 (hval 3 3 v3 rfl rfl) h3
  clear hA0 hval0
  refine (walk a0 len0 cap0 z0 a1 a2 a3 W l0 g0 w0 w1 w2 w3).mono fun e W' ⟨he, bel⟩ => ?_
  subst he
  exact ⟨_, rfl, _, _, _, [], _, [], hW', trodAll_mk1 (shut_bool Try.underlying4 _), (trodAll_cons_mk (Below.trod laidOut (by kernel_rfl) (of_decide_eq_true (by kernel_rfl)) k0 bel lt0) (trodAll_cons_mk (shut_int Try.underlying3 w1) (trodAll_cons_mk (shut_int Try.underlying3 w2) (trodAll_cons_mk (shut_int Try.underlying3 w3) trodAll_mk0)))), rfl, bel.frame _, fun h => by cases h⟩

theorem over : Rows.fnExactLotsScaleRow.holds Try.pinned (OpenSpec.ofChange Rows.fnExactLotsScaleSpec) :=
  OpenClaim.holds_of_wide 3 Try.f3 rfl rfl rfl rfl rfl rfl rfl ⟨rfl, rfl, rfl, rfl, rfl⟩ rfl rfl rfl rfl rfl (by kernel_rfl) Try.func3 (by kernel_rfl)
    (of_decide_eq_true (by kernel_rfl)) (by unfold Func.isWrapper; first | (rw [if_pos (by decide +kernel)]; kernel_rfl) | (rw [if_neg (by decide +kernel)]; exact ⟨rfl, rfl⟩))
    (fun os started H enc _ => lifted os started H enc)

/-- The statement. -/
theorem proved : Rows.FnExactLotsScaleSaid := over
#print axioms proved
end Go.Proofs.Ytdnpjjbphamcmaa.fnExactLotsScale
