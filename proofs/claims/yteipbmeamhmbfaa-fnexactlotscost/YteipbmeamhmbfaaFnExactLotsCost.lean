/- At every list of lots, account and instrument the program's LotsCost answers as its model, and writes into no argument. No condition. -/
import Derived.Test.YteipbmeamhmbfaaRows
import Derived.Test.YteipbmeamhmbfaaTup5
import Derived.Test.YteipbmeamhmbfaaOpens5
import Derived.Test.YteipbmeamhmbfaaLotHelp
import Derived.Test.YteipbmeamhmbfaaSOk5
import Derived.Test.YteipbmeamhmbfaaIOk5
import Derived.Test.YteipbmeamhmbfaaSSplit
import Derived.Test.YteipbmeamhmbfaaSOf
import Derived.Test.YteipbmeamhmbfaaICut
import Derived.Test.YteipbmeamhmbfaaCat5
import Derived.Test.YteipbmeamhmbfaaIOf
import Derived.ShutString
import Derived.ChangeOld
import Derived.Below
namespace Go.Proofs.Yteipbmeamhmbfaa.fnExactLotsCost
open Go.ChangeShapes Go.WideShapes Go.ChangeAt Go.RowKit
open Go.ChangeMaps (open_string shut_string)
set_option linter.unusedVariables false
set_option linter.unusedSimpArgs false

theorem own : ownKnob Try.prog.godebug = none := by kernel_rfl
theorem laidOut : laidOutB Try.prog = true := by kernel_rfl

open Tup5 Lots Takes Opens5 LotHelp SOk5 IOk5 SOf IOf


set_option maxRecDepth 100000 in
set_option maxHeartbeats 8000000 in
theorem walk (a0 : Option Addr) (len0 cap0 : Nat) (z0 : List Tup5.T5) (a1 : Int) (a2 : Int) (w : World) (l0 : z0.length = len0) (g0 : len0 ≤ 9223372036854775807) (w0 : Tup5.Reads5 w a0 z0) (w1 : (Lit.int .i64 a1).wf = true) (w2 : (Lit.int .i64 a2).wf = true) :
    Calls Try.prog 6 #[.slice a0 len0 cap0, .int .i64 a1, .int .i64 a2] w fun e w' => e = .returned (.bool true) ∧ Below w.heap.size w w' := by
  by_cases t : (len0 : Int) ≤ 1048576
  · obtain ⟨ok, OK⟩ := says_of (Right z0)
    have HR := hide w0
    have T : len0 ≤ 1048576 := by omega
    clear w0 w1 w2
    go_enter Try.func6, Try.ntmps6
    go_wp2_with fail
    refine (sz_yes a0 len0 cap0 _ _ t (by omega)).mono ?_
    rintro e u0 ⟨rfl, rfl⟩
    have t0 : ¬ (1048576 : Int) - (len0 : Int) < 0 := by omega
    go_wp2_with fail
    refine (toS _ a0 len0 cap0 z0 l0 T (unhide HR)).mono ?_
    rintro e u1 ⟨rfl, o1, b1⟩
    go_wp2_with fail
    refine (sLotsCost _ _ len0 len0 z0 a1 a2 ok l0 T o1.lt.2 o1.at OK).mono ?_
    rintro e u2 ⟨rfl, b2⟩
    have b := next b1 b2
    clear o1 b1 b2
    go_wp2_with fail
    refine (toS _ a0 len0 cap0 z0 l0 T ((unhide HR).below b)).mono ?_
    rintro e u3 ⟨rfl, o3, b3⟩
    have b := next b b3
    go_wp2_with fail
    refine (iLotsCost _ _ len0 len0 z0 a1 a2 ok l0 T (Nat.le_refl _) o3.lt.2 o3.at OK).mono ?_
    rintro e u4 ⟨rfl, b4⟩
    have o3 := o3.below b4 o3.lt.2
    have b := next b b4
    go_wp2_with fail
    refine (toS _ a0 len0 cap0 z0 l0 T ((unhide HR).below b)).mono ?_
    rintro e u5 ⟨rfl, o5, b5⟩
    have o3 := o3.below b5 o3.lt.2
    have b := next b b5
    go_wp2_with fail
    refine (eqS _ _ _ len0 len0 len0 z0 l0 T o3.lt.2 o5.lt.2 o3.at o5.at).mono ?_
    rintro e u6 ⟨rfl, b6⟩
    have b := next b b6
    clear o3 o5 b3 b4 b5 b6
    go_wp2
    go_ret
    exact ⟨rfl, b⟩
  · clear w0 l0 w1 w2
    go_enter Try.func6, Try.ntmps6
    go_wp2_with fail
    refine (sz_no a0 len0 cap0 _ _ (by omega) (by omega) (by omega) g0).mono ?_
    rintro e u0 ⟨rfl, rfl⟩
    go_wp2
    go_ret
    exact ⟨rfl, Below.refl _ _⟩

set_option maxRecDepth 100000 in
theorem lifted (os : Os) (started : os.Started) (H : Type) (enc : TypeId × Value → H) :
    ReturnsInHanded {} Try.checked os 6 .any (Rows.fnExactLotsCostSpec.pre6 enc Try.prog Try.f6 Rows.fnExactLotsCostRow.domain false) (Rows.fnExactLotsCostSpec.post enc Try.prog Try.f6 false true false false) := by
  refine returnsInHanded_of_change (C := Try.checked) own started (by kernel_rfl) Try.func6
    (ChangeSpec.witness6 (enc := enc) (C := Try.checked) false ⟨#[], #[.slice none 0 0, .int .i64 0, .int .i64 0], []⟩ 8 (by kernel_rfl) (by kernel_rfl) (by kernel_rfl) (by kernel_rfl)) ?_
  intro W base args ds gs before hval0 hW hcnd _
  have hval : ∀ (j : Nat) t v, Try.f6.params[j]? = some t → args[j]? = some v → Value.okWide Try.prog W .any base t v := hval0
  have hW' := hW
  obtain ⟨p, q, hA0, hV, rfl, hfz, hnd⟩ := hW
  have hA : DataW.TrodAll enc Try.prog W 0 (fun _ => true) true Try.f6.params.toList args.toList ds p := hA0
  rw [Try.params6] at hA hval
  obtain ⟨v0, vs0, d0, ds0, p0, q0, hargs, rfl, rfl, h0, r0⟩ := trodAll_cons hA
  obtain ⟨v1, vs1, d1, ds1, p1, q1, rfl, rfl, rfl, h1, r1⟩ := trodAll_cons r0
  obtain ⟨v2, vs2, d2, ds2, p2, q2, rfl, rfl, rfl, h2, r2⟩ := trodAll_cons r1
  obtain ⟨rfl, rfl, rfl⟩ := trodAll_nil r2
  obtain rfl : args = #[v0, v1, v2] := by cases args; simp_all
  obtain ⟨rfl, rfl⟩ := trodVars_none hV
  obtain ⟨a0, len0, cap0, rfl⟩ := okWide_slice Try.underlying22 (hval 0 22 v0 rfl rfl)
  have k0 := h0
  have lt0 : ∀ x ∈ p0, x.block < W.heap.size := by obtain ⟨m, hm⟩ := k0; exact DataW.trod_lt m _ _ _ hm
  obtain ⟨z0, l0, g0, w0⟩ : ∃ zs : List Tup5.T5, zs.length = len0 ∧ len0 ≤ 9223372036854775807 ∧ Tup5.Reads5 W a0 zs := by
    obtain ⟨fuel, hf⟩ := h0
    exact Opens5.open_rows Try.underlying22 Try.underlying34 (by kernel_rfl) Try.underlying3 hf
  obtain ⟨a1, rfl, rfl, rfl, w1⟩ := open_int Try.underlying3 (hval 1 3 v1 rfl rfl) h1
  obtain ⟨a2, rfl, rfl, rfl, w2⟩ := open_int Try.underlying3 (hval 2 3 v2 rfl rfl) h2
  clear hA0 hval0
  refine (walk a0 len0 cap0 z0 a1 a2 W l0 g0 w0 w1 w2).mono fun e W' ⟨he, bel⟩ => ?_
  subst he
  exact ⟨_, rfl, _, _, _, [], _, [], hW', trodAll_mk1 (shut_bool Try.underlying4 _), (trodAll_cons_mk (Below.trod laidOut (by kernel_rfl) (of_decide_eq_true (by kernel_rfl)) k0 bel lt0) (trodAll_cons_mk (shut_int Try.underlying3 w1) (trodAll_cons_mk (shut_int Try.underlying3 w2) trodAll_mk0))), rfl, bel.frame _, fun h => by cases h⟩

theorem over : Rows.fnExactLotsCostRow.holds Try.pinned (OpenSpec.ofChange Rows.fnExactLotsCostSpec) :=
  OpenClaim.holds_of_wide 6 Try.f6 rfl rfl rfl rfl rfl rfl rfl ⟨rfl, rfl, rfl, rfl, rfl⟩ rfl rfl rfl rfl rfl (by kernel_rfl) Try.func6 (by kernel_rfl)
    (of_decide_eq_true (by kernel_rfl)) (by unfold Func.isWrapper; first | (rw [if_pos (by decide +kernel)]; kernel_rfl) | (rw [if_neg (by decide +kernel)]; exact ⟨rfl, rfl⟩))
    (fun os started H enc _ => lifted os started H enc)

/-- The statement. -/
theorem proved : Rows.FnExactLotsCostSaid := over
#print axioms proved
end Go.Proofs.Yteipbmeamhmbfaa.fnExactLotsCost
