/- At every list of lots and every lot the program's LotOpen answers as its model, writes into no argument, and its answer owns its memory. No condition. -/
import Derived.Test.YteipbmeamhmbfaaRows
import Derived.Test.YteipbmeamhmbfaaTup5
import Derived.Test.YteipbmeamhmbfaaOpens5
import Derived.Test.YteipbmeamhmbfaaLotHelp
import Derived.Test.YteipbmeamhmbfaaSOk5
import Derived.Test.YteipbmeamhmbfaaIOk5
import Derived.Test.YteipbmeamhmbfaaSSplit
import Derived.Test.YteipbmeamhmbfaaSOf
import Derived.Test.YteipbmeamhmbfaaICut
import Derived.Test.YteipbmeamhmbfaaCat5
import Derived.Test.YteipbmeamhmbfaaIOf
import Derived.Test.YteipbmeamhmbfaaConcat5
import Derived.Test.YteipbmeamhmbfaaSOpen
import Derived.Test.YteipbmeamhmbfaaIOpen
import Derived.ShutString
import Derived.ChangeOld
import Derived.Below
namespace Go.Proofs.Yteipbmeamhmbfaa.fnExactLotOpen
open Go.ChangeShapes Go.WideShapes Go.ChangeAt Go.RowKit
open Go.ChangeMaps (open_string shut_string)
set_option linter.unusedVariables false
set_option linter.unusedSimpArgs false

theorem own : ownKnob Try.prog.godebug = none := by kernel_rfl
theorem laidOut : laidOutB Try.prog = true := by kernel_rfl

open Tup5 Lots Takes Opens5 LotHelp SOk5 IOk5 SOf IOf SOpen IOpen


set_option maxRecDepth 100000 in
set_option maxHeartbeats 8000000 in
theorem walk (a0 : Option Addr) (len0 cap0 : Nat) (z0 : List Tup5.T5) (x1_0 x1_1 x1_2 x1_3 x1_4 : Int) (w : World) (l0 : z0.length = len0) (g0 : len0 ≤ 9223372036854775807) (w0 : Tup5.Reads5 w a0 z0) :
    Calls Try.prog 7 #[.slice a0 len0 cap0, .agg #[.int .i64 x1_0, .int .i64 x1_1, .int .i64 x1_2, .int .i64 x1_3, .int .i64 x1_4]] w fun e w' => e = .returned (.bool true) ∧ Below w.heap.size w w' := by
  by_cases t : (len0 : Int) ≤ 1048576
  · obtain ⟨ok, OK⟩ := says_of (Right z0)
    have HR := hide w0
    have T : len0 ≤ 1048576 := by omega
    clear w0
    obtain ⟨R, HM⟩ : ∃ R, Hid (R = mergeL (len0 + 1) z0 [(x1_0, x1_1, x1_2, x1_3, x1_4)]) := ⟨_, rfl⟩
    obtain ⟨okl, OKL⟩ := says_of (One (x1_0, x1_1, x1_2, x1_3, x1_4))
    obtain ⟨okn, OKN⟩ := says_of (Right R)
    have ol : (openA z0 R ok okl okn).length ≤ 121 := open_len okl okn OK (by rw [unhide HM, merge_len _ _ _ (by simp; omega)]; rfl)
    go_enter Try.func7, Try.ntmps7
    go_wp2_with fail
    refine (sz_yes a0 len0 cap0 _ _ t (by omega)).mono ?_
    rintro e u0 ⟨rfl, hu⟩
    have t0 : ¬ (1048576 : Int) - (len0 : Int) < 0 := by omega
    have OL := hide (show Own5 34 u0 w.heap.size w.heap.size 1 1 [(x1_0, x1_1, x1_2, x1_3, x1_4)] from by rw [hu]; exact lit51 34 w w.heap.size x1_0 x1_1 x1_2 x1_3 x1_4 (Nat.le_refl _))
    have HB := hide (show Below w.heap.size w u0 from by rw [hu]; exact (Below.refl _ _).alloc (Nat.le_refl _) _)
    have eOL : w.heap.size ≤ w.heap.size := Nat.le_refl _
    clear hu
    have OL := hide (Own5.drew (unhide OL))
    go_wp2_with fail
    have HB := hide (Below.drew (unhide HB))
    obtain ⟨c0, c1, c2, c3, c4⟩ := Cmp.at0 (Own5.at (unhide OL) 0 (by simp))
    go_region_held3 (fun w' => w'.cell? ⟨w.heap.size, 0, none⟩ = some (.int .i64 x1_0) ∧ w'.cell? ⟨w.heap.size, 1, none⟩ = some (.int .i64 x1_1) ∧ w'.cell? ⟨w.heap.size, 2, none⟩ = some (.int .i64 x1_2) ∧ w'.cell? ⟨w.heap.size, 3, none⟩ = some (.int .i64 x1_3) ∧ w'.cell? ⟨w.heap.size, 4, none⟩ = some (.int .i64 x1_4)) (go_keep)
      (first | (go_at_call 11; have dOL1 : w.heap.size < u0.drew.heap.size := (unhide OL).lt.2; refine (toS _ a0 len0 cap0 z0 l0 T ((unhide HR).below (unhide HB))).mono ?_; rintro e u1 ⟨rfl, o1, b1⟩; have OL := hide ((unhide OL).below b1 (unhide OL).lt.2); have HB := hide (next (unhide HB) b1); clear b1; have eOA : u0.drew.heap.size ≤ u0.heap.size := o1.lt.1; have OA := hide o1; clear o1; obtain ⟨c0, c1, c2, c3, c4⟩ := Cmp.at0 (Own5.at (unhide OL) 0 (by simp))) | (go_at_call 23; refine (to1 _ x1_0 x1_1 x1_2 x1_3 x1_4).mono ?_; rintro e u2 ⟨rfl, b2⟩; have OL := hide ((unhide OL).below b2 (unhide OL).lt.2); have OA := hide ((unhide OA).below b2 (unhide OA).lt.2); have HB := hide (next (unhide HB) b2); clear b2; obtain ⟨c0, c1, c2, c3, c4⟩ := Cmp.at0 (Own5.at (unhide OL) 0 (by simp))) | (go_at_call 22; have dOL3 : w.heap.size < u2.heap.size := (unhide OL).lt.2; have dOA3 : u0.heap.size < u2.heap.size := (unhide OA).lt.2; refine (sOpen _ _ len0 len0 z0 R x1_0 x1_1 x1_2 x1_3 x1_4 ok okl okn HM l0 T (unhide OA).lt.2 (unhide OA).at OK OKL OKN).mono ?_; rintro e u3 ⟨gW, cW, rfl, oW, b3⟩; have OL := hide ((unhide OL).below b3 (unhide OL).lt.2); have OA := hide ((unhide OA).below b3 (unhide OA).lt.2); have HB := hide (next (unhide HB) b3); clear b3; have eOW : u2.heap.size ≤ gW := oW.lt.1; have OW := hide oW; clear oW; obtain ⟨c0, c1, c2, c3, c4⟩ := Cmp.at0 (Own5.at (unhide OL) 0 (by simp))))
    clear OA
    have dOL4 : w.heap.size < u3.heap.size := (unhide OL).lt.2
    have dOW4 : gW < u3.heap.size := (unhide OW).lt.2
    go_wp2_with fail
    refine (toS _ a0 len0 cap0 z0 l0 T ((unhide HR).below (unhide HB))).mono ?_
    rintro e u4 ⟨rfl, o4, b4⟩
    have OL := hide ((unhide OL).below b4 (unhide OL).lt.2)
    have OW := hide ((unhide OW).below b4 (unhide OW).lt.2)
    have HB := hide (next (unhide HB) b4)
    clear b4
    have eOX : u3.heap.size ≤ u3.heap.size := o4.lt.1
    have OX := hide o4
    clear o4
    obtain ⟨c0, c1, c2, c3, c4⟩ := Cmp.at0 ((unhide OL).at 0 (by simp))
    go_wp2_with fail
    refine (to1 _ x1_0 x1_1 x1_2 x1_3 x1_4).mono ?_
    rintro e u5 ⟨rfl, b5⟩
    have OL := hide ((unhide OL).below b5 (unhide OL).lt.2)
    have OW := hide ((unhide OW).below b5 (unhide OW).lt.2)
    have OX := hide ((unhide OX).below b5 (unhide OX).lt.2)
    have HB := hide (next (unhide HB) b5)
    clear b5
    clear c0 c1 c2 c3 c4
    have dOL6 : w.heap.size < u5.heap.size := (unhide OL).lt.2
    have dOW6 : gW < u5.heap.size := (unhide OW).lt.2
    have dOX6 : u3.heap.size < u5.heap.size := (unhide OX).lt.2
    go_wp2_with fail
    refine (iOpen _ _ len0 len0 z0 R x1_0 x1_1 x1_2 x1_3 x1_4 ok okl okn HM l0 T (Nat.le_refl _) T (unhide OX).lt.2 (unhide OX).at OK OKL OKN).mono ?_
    rintro e u6 ⟨gG, cG, rfl, oG, b6⟩
    have OL := hide ((unhide OL).below b6 (unhide OL).lt.2)
    have OW := hide ((unhide OW).below b6 (unhide OW).lt.2)
    have OX := hide ((unhide OX).below b6 (unhide OX).lt.2)
    have HB := hide (next (unhide HB) b6)
    clear b6
    have eOG : u5.heap.size ≤ gG := oG.lt.1
    have OG := hide oG
    clear oG
    go_wp2_with fail
    refine (eqS _ gG gW (openA z0 R ok okl okn).length cG cW (openA z0 R ok okl okn) rfl (by omega) (unhide OG).lt.2 (unhide OW).lt.2 (unhide OG).at (unhide OW).at).mono ?_
    rintro e u7 ⟨rfl, b7⟩
    have OL := hide ((unhide OL).below b7 (unhide OL).lt.2)
    have OW := hide ((unhide OW).below b7 (unhide OW).lt.2)
    have OX := hide ((unhide OX).below b7 (unhide OX).lt.2)
    have OG := hide ((unhide OG).below b7 (unhide OG).lt.2)
    have HB := hide (next (unhide HB) b7)
    clear b7
    have dOL8 : w.heap.size < u7.heap.size := (unhide OL).lt.2
    have dOW8 : gW < u7.heap.size := (unhide OW).lt.2
    have dOX8 : u3.heap.size < u7.heap.size := (unhide OX).lt.2
    have dOG8 : gG < u7.heap.size := (unhide OG).lt.2
    go_wp2_with fail
    refine (toS _ a0 len0 cap0 z0 l0 T ((unhide HR).below (unhide HB))).mono ?_
    rintro e u8 ⟨rfl, o8, b8⟩
    have OL := hide ((unhide OL).below b8 (unhide OL).lt.2)
    have OW := hide ((unhide OW).below b8 (unhide OW).lt.2)
    have OX := hide ((unhide OX).below b8 (unhide OX).lt.2)
    have OG := hide ((unhide OG).below b8 (unhide OG).lt.2)
    have HB := hide (next (unhide HB) b8)
    clear b8
    have eOY : u7.heap.size ≤ u7.heap.size := o8.lt.1
    have OY := hide o8
    clear o8
    go_wp2_with fail
    refine (eqS _ _ _ len0 len0 len0 z0 l0 T (unhide OX).lt.2 (unhide OY).lt.2 (unhide OX).at (unhide OY).at).mono ?_
    rintro e u9 ⟨rfl, b9⟩
    have OL := hide ((unhide OL).below b9 (unhide OL).lt.2)
    have OW := hide ((unhide OW).below b9 (unhide OW).lt.2)
    have OX := hide ((unhide OX).below b9 (unhide OX).lt.2)
    have OG := hide ((unhide OG).below b9 (unhide OG).lt.2)
    have OY := hide ((unhide OY).below b9 (unhide OY).lt.2)
    have HB := hide (next (unhide HB) b9)
    clear b9
    clear OY
    go_wp2_with fail
    refine (markS _ _ _ len0 len0 1 z0 T (by omega) (by omega) (unhide OX)).mono ?_
    rintro e u10 ⟨rfl, nX, b10⟩
    have OL := hide ((unhide OL).kept b10 (by simp; omega))
    have OW := hide ((unhide OW).kept b10 (by simp; omega))
    have OG := hide ((unhide OG).kept b10 (by simp; omega))
    have HB := hide ((unhide HB).grown b10 (unhide HB).size (fun j hj => by cases hj; omega))
    have OX := hide nX
    clear b10 nX
    clear OX
    have k0 : ¬ (1 + 5 * (len0 : Int)) < 0 := by omega
    go_wp2_with fail
    refine (eqS _ gG gW (openA z0 R ok okl okn).length cG cW (openA z0 R ok okl okn) rfl (by omega) (unhide OG).lt.2 (unhide OW).lt.2 (unhide OG).at (unhide OW).at).mono ?_
    rintro e u11 ⟨rfl, b11⟩
    have OL := hide ((unhide OL).below b11 (unhide OL).lt.2)
    have OW := hide ((unhide OW).below b11 (unhide OW).lt.2)
    have OG := hide ((unhide OG).below b11 (unhide OG).lt.2)
    have HB := hide (next (unhide HB) b11)
    clear b11
    go_wp2_with fail
    refine (markS _ _ gG (openA z0 R ok okl okn).length cG 1 (openA z0 R ok okl okn) (by omega) (by omega) (by omega) (unhide OG)).mono ?_
    rintro e u12 ⟨rfl, nG, b12⟩
    have OL := hide ((unhide OL).kept b12 (by simp; omega))
    have OW := hide ((unhide OW).kept b12 (by simp; omega))
    have HB := hide ((unhide HB).grown b12 (unhide HB).size (fun j hj => by cases hj; omega))
    have OG := hide nG
    clear b12 nG
    go_wp2_with fail
    refine (heldS _ gG (openA z0 R ok okl okn).length cG (by omega) (unhide OG).at).mono ?_
    rintro e u13 ⟨rfl, rfl⟩
    have k1 : ¬ (1 + 5 * ((openA z0 R ok okl okn).length : Int)) < 0 := by omega
    have OL := hide (Own5.drew (unhide OL))
    have OW := hide (Own5.drew (unhide OW))
    have OG := hide (Own5.drew (unhide OG))
    go_wp2_with fail
    have HB := hide (Below.drew (unhide HB))
    obtain ⟨c0, c1, c2, c3, c4⟩ := Cmp.at0 (Own5.at (unhide OL) 0 (by simp))
    go_region_held3 (fun w' => w'.cell? ⟨w.heap.size, 0, none⟩ = some (.int .i64 x1_0) ∧ w'.cell? ⟨w.heap.size, 1, none⟩ = some (.int .i64 x1_1) ∧ w'.cell? ⟨w.heap.size, 2, none⟩ = some (.int .i64 x1_2) ∧ w'.cell? ⟨w.heap.size, 3, none⟩ = some (.int .i64 x1_3) ∧ w'.cell? ⟨w.heap.size, 4, none⟩ = some (.int .i64 x1_4)) (go_keep)
      (first | (go_at_call 11; have dOL14 : w.heap.size < u13.drew.heap.size := (unhide OL).lt.2; have dOW14 : gW < u13.drew.heap.size := (unhide OW).lt.2; have dOG14 : gG < u13.drew.heap.size := (unhide OG).lt.2; refine (toS _ a0 len0 cap0 z0 l0 T ((unhide HR).below (unhide HB))).mono ?_; rintro e u14 ⟨rfl, o14, b14⟩; have OL := hide ((unhide OL).below b14 (unhide OL).lt.2); have OW := hide ((unhide OW).below b14 (unhide OW).lt.2); have OG := hide ((unhide OG).below b14 (unhide OG).lt.2); have HB := hide (next (unhide HB) b14); clear b14; have eOZ : u13.drew.heap.size ≤ u13.heap.size := o14.lt.1; have OZ := hide o14; clear o14; obtain ⟨c0, c1, c2, c3, c4⟩ := Cmp.at0 (Own5.at (unhide OL) 0 (by simp))) | (go_at_call 23; refine (to1 _ x1_0 x1_1 x1_2 x1_3 x1_4).mono ?_; rintro e u15 ⟨rfl, b15⟩; have OL := hide ((unhide OL).below b15 (unhide OL).lt.2); have OW := hide ((unhide OW).below b15 (unhide OW).lt.2); have OG := hide ((unhide OG).below b15 (unhide OG).lt.2); have OZ := hide ((unhide OZ).below b15 (unhide OZ).lt.2); have HB := hide (next (unhide HB) b15); clear b15; obtain ⟨c0, c1, c2, c3, c4⟩ := Cmp.at0 (Own5.at (unhide OL) 0 (by simp))) | (go_at_call 24; have dOL16 : w.heap.size < u15.heap.size := (unhide OL).lt.2; have dOW16 : gW < u15.heap.size := (unhide OW).lt.2; have dOG16 : gG < u15.heap.size := (unhide OG).lt.2; have dOZ16 : u13.heap.size < u15.heap.size := (unhide OZ).lt.2; refine (iOpen _ _ len0 len0 z0 R x1_0 x1_1 x1_2 x1_3 x1_4 ok okl okn HM l0 T (Nat.le_refl _) T (unhide OZ).lt.2 (unhide OZ).at OK OKL OKN).mono ?_; rintro e u16 ⟨gH, cH, rfl, oH, b16⟩; have OL := hide ((unhide OL).below b16 (unhide OL).lt.2); have OW := hide ((unhide OW).below b16 (unhide OW).lt.2); have OG := hide ((unhide OG).below b16 (unhide OG).lt.2); have OZ := hide ((unhide OZ).below b16 (unhide OZ).lt.2); have HB := hide (next (unhide HB) b16); clear b16; have eOH : u15.heap.size ≤ gH := oH.lt.1; have OH := hide oH; clear oH; obtain ⟨c0, c1, c2, c3, c4⟩ := Cmp.at0 (Own5.at (unhide OL) 0 (by simp))))
    clear OZ
    go_wp2_with fail
    refine (eqS _ gH gW (openA z0 R ok okl okn).length cH cW (openA z0 R ok okl okn) rfl (by omega) (unhide OH).lt.2 (unhide OW).lt.2 (unhide OH).at (unhide OW).at).mono ?_
    rintro e u17 ⟨rfl, b17⟩
    have OL := hide ((unhide OL).below b17 (unhide OL).lt.2)
    have OW := hide ((unhide OW).below b17 (unhide OW).lt.2)
    have OG := hide ((unhide OG).below b17 (unhide OG).lt.2)
    have OH := hide ((unhide OH).below b17 (unhide OH).lt.2)
    have HB := hide (next (unhide HB) b17)
    clear b17
    go_wp2_with fail
    refine (heldS _ gG (openA z0 R ok okl okn).length cG (by omega) (unhide OG).at).mono ?_
    rintro e u18 ⟨rfl, rfl⟩
    go_wp2
    go_ret
    exact ⟨rfl, unhide HB⟩
  · clear w0 l0
    go_enter Try.func7, Try.ntmps7
    go_wp2_with fail
    refine (sz_no a0 len0 cap0 _ _ (by omega) (by omega) (by omega) g0).mono ?_
    rintro e u0 ⟨rfl, rfl⟩
    go_wp2
    go_ret
    exact ⟨rfl, (Below.refl _ _).alloc (Nat.le_refl _) _⟩

set_option maxRecDepth 100000 in
theorem lifted (os : Os) (started : os.Started) (H : Type) (enc : TypeId × Value → H) :
    ReturnsInHanded {} Try.checked os 7 .any (Rows.fnExactLotOpenSpec.pre6 enc Try.prog Try.f7 Rows.fnExactLotOpenRow.domain false) (Rows.fnExactLotOpenSpec.post enc Try.prog Try.f7 false true false false) := by
  refine returnsInHanded_of_change (C := Try.checked) own started (by kernel_rfl) Try.func7
    (ChangeSpec.witness6 (enc := enc) (C := Try.checked) false ⟨#[], #[.slice none 0 0, .agg #[.int .i64 0, .int .i64 0, .int .i64 0, .int .i64 0, .int .i64 0]], []⟩ 8 (by kernel_rfl) (by kernel_rfl) (by kernel_rfl) (by kernel_rfl)) ?_
  intro W base args ds gs before hval0 hW hcnd _
  have hval : ∀ (j : Nat) t v, Try.f7.params[j]? = some t → args[j]? = some v → Value.okWide Try.prog W .any base t v := hval0
  have hW' := hW
  obtain ⟨p, q, hA0, hV, rfl, hfz, hnd⟩ := hW
  have hA : DataW.TrodAll enc Try.prog W 0 (fun _ => true) true Try.f7.params.toList args.toList ds p := hA0
  rw [Try.params7] at hA hval
  obtain ⟨v0, vs0, d0, ds0, p0, q0, hargs, rfl, rfl, h0, r0⟩ := trodAll_cons hA
  obtain ⟨v1, vs1, d1, ds1, p1, q1, rfl, rfl, rfl, h1, r1⟩ := trodAll_cons r0
  obtain ⟨rfl, rfl, rfl⟩ := trodAll_nil r1
  obtain rfl : args = #[v0, v1] := by cases args; simp_all
  obtain ⟨rfl, rfl⟩ := trodVars_none hV
  obtain ⟨a0, len0, cap0, rfl⟩ := okWide_slice Try.underlying22 (hval 0 22 v0 rfl rfl)
  have k0 := h0
  have lt0 : ∀ x ∈ p0, x.block < W.heap.size := by obtain ⟨m, hm⟩ := k0; exact DataW.trod_lt m _ _ _ hm
  obtain ⟨z0, l0, g0, w0⟩ : ∃ zs : List Tup5.T5, zs.length = len0 ∧ len0 ≤ 9223372036854775807 ∧ Tup5.Reads5 W a0 zs := by
    obtain ⟨fuel, hf⟩ := h0
    exact Opens5.open_rows Try.underlying22 Try.underlying34 (by kernel_rfl) Try.underlying3 hf
  have k1 := h1
  have lt1 : ∀ x ∈ p1, x.block < W.heap.size := by obtain ⟨m, hm⟩ := k1; exact DataW.trod_lt m _ _ _ hm
  obtain ⟨x1_0, x1_1, x1_2, x1_3, x1_4, rfl⟩ := Opens5.open_one Try.underlying34 (by kernel_rfl) Try.underlying3 (hval 1 34 v1 rfl rfl) h1
  clear hA0 hval0
  refine (walk a0 len0 cap0 z0 x1_0 x1_1 x1_2 x1_3 x1_4 W l0 g0 w0).mono fun e W' ⟨he, bel⟩ => ?_
  subst he
  exact ⟨_, rfl, _, _, _, [], _, [], hW', trodAll_mk1 (shut_bool Try.underlying4 _), (trodAll_cons_mk (Below.trod laidOut (by kernel_rfl) (of_decide_eq_true (by kernel_rfl)) k0 bel lt0) (trodAll_cons_mk (Below.trod laidOut (by kernel_rfl) (of_decide_eq_true (by kernel_rfl)) k1 bel lt1) trodAll_mk0)), rfl, bel.frame _, fun h => by cases h⟩

theorem over : Rows.fnExactLotOpenRow.holds Try.pinned (OpenSpec.ofChange Rows.fnExactLotOpenSpec) :=
  OpenClaim.holds_of_wide 7 Try.f7 rfl rfl rfl rfl rfl rfl rfl ⟨rfl, rfl, rfl, rfl, rfl⟩ rfl rfl rfl rfl rfl (by kernel_rfl) Try.func7 (by kernel_rfl)
    (of_decide_eq_true (by kernel_rfl)) (by unfold Func.isWrapper; first | (rw [if_pos (by decide +kernel)]; kernel_rfl) | (rw [if_neg (by decide +kernel)]; exact ⟨rfl, rfl⟩))
    (fun os started H enc _ => lifted os started H enc)

/-- The statement. -/
theorem proved : Rows.FnExactLotOpenSaid := over
#print axioms proved
end Go.Proofs.Yteipbmeamhmbfaa.fnExactLotOpen
