/- At every list of trades the program's TradesOk answers as its model, and writes into no argument. No condition. -/
import Derived.Test.YtlbdfaahcmlddaaRows
import Derived.Test.YtlbdfaahcmlddaaTup8
import Derived.Test.YtlbdfaahcmlddaaOpens8
import Derived.Test.YtlbdfaahcmlddaaTradeHelp
import Derived.Test.YtlbdfaahcmlddaaChart
import Derived.Test.YtlbdfaahcmlddaaBals
import Derived.Test.YtlbdfaahcmlddaaTup5
import Derived.Test.YtlbdfaahcmlddaaLots
import Derived.Test.YtlbdfaahcmlddaaTakes
import Derived.Test.YtlbdfaahcmlddaaBks
import Derived.Test.YtlbdfaahcmlddaaBMem
import Derived.Test.YtlbdfaahcmlddaaInts
import Derived.Test.YtlbdfaahcmlddaaIRead
import Derived.Test.YtlbdfaahcmlddaaIHave
import Derived.Test.YtlbdfaahcmlddaaQuieter
import Derived.Test.YtlbdfaahcmlddaaSOk5
import Derived.Test.YtlbdfaahcmlddaaITrade
import Derived.ShutString
import Derived.ChangeOld
import Derived.Below
namespace Go.Proofs.Ytlbdfaahcmlddaa.fnExactTradesOk
open Go.ChangeShapes Go.WideShapes Go.ChangeAt Go.RowKit
open Go.ChangeMaps (open_string shut_string)
set_option linter.unusedVariables false
set_option linter.unusedSimpArgs false

theorem own : ownKnob Try.prog.godebug = none := by kernel_rfl
theorem laidOut : laidOutB Try.prog = true := by kernel_rfl

open Tup8 Opens8 TradeHelp
open Bks (TRight)
open Lots (Says says_of)
open ITrade (sOk iOk)


set_option maxRecDepth 100000 in
set_option maxHeartbeats 8000000 in
theorem walk (a0 : Option Addr) (len0 cap0 : Nat) (z0 : List Tup8.T8) (w : World) (l0 : z0.length = len0) (g0 : len0 ≤ 9223372036854775807) (w0 : Tup8.Reads8 w a0 z0) :
    Calls Try.prog 3 #[.slice a0 len0 cap0] w fun e w' => e = .returned (.bool true) ∧ Below w.heap.size w w' := by
  by_cases t : (len0 : Int) ≤ 1048576
  · obtain ⟨ok, OK⟩ := says_of (TRight z0)
    have HR := hide w0
    have T : len0 ≤ 1048576 := by omega
    clear w0
    go_enter Try.func3, Try.ntmps3
    go_wp2_with fail
    refine (sz_yes a0 len0 cap0 _ _ t (by omega)).mono ?_
    rintro e u0 ⟨rfl, rfl⟩
    have t0 : ¬ (1048576 : Int) - (len0 : Int) < 0 := by omega
    go_wp2_with fail
    refine (toS _ a0 len0 cap0 z0 l0 T (unhide HR)).mono ?_
    rintro e u1 ⟨rfl, o1, b1⟩
    go_wp2_with fail
    refine (sOk _ _ len0 len0 z0 ok l0 T o1.lt.2 o1.at OK).mono ?_
    rintro e u2 ⟨rfl, b2⟩
    have b := next b1 b2
    clear o1 b1 b2
    go_wp2_with fail
    refine (toS _ a0 len0 cap0 z0 l0 T ((unhide HR).below b)).mono ?_
    rintro e u3 ⟨rfl, o3, b3⟩
    have b := next b b3
    go_wp2_with fail
    refine (iOk _ _ len0 len0 z0 ok l0 T o3.lt.2 o3.at OK).mono ?_
    rintro e u4 ⟨rfl, b4⟩
    have o3 := o3.below b4 o3.lt.2
    have b := next b b4
    go_wp2_with fail
    refine (toS _ a0 len0 cap0 z0 l0 T ((unhide HR).below b)).mono ?_
    rintro e u5 ⟨rfl, o5, b5⟩
    have o3 := o3.below b5 o3.lt.2
    have b := next b b5
    go_wp2_with fail
    refine (eqS _ _ _ len0 len0 len0 z0 l0 T o3.lt.2 o5.lt.2 o3.at o5.at).mono ?_
    rintro e u6 ⟨rfl, b6⟩
    have b := next b b6
    clear o3 o5 b3 b4 b5 b6
    go_wp2
    go_ret
    exact ⟨rfl, b⟩
  · clear w0 l0
    go_enter Try.func3, Try.ntmps3
    go_wp2_with fail
    refine (sz_no a0 len0 cap0 _ _ (by omega) (by omega) (by omega) g0).mono ?_
    rintro e u0 ⟨rfl, rfl⟩
    go_wp2
    go_ret
    exact ⟨rfl, Below.refl _ _⟩

set_option maxRecDepth 100000 in
theorem lifted (os : Os) (started : os.Started) (H : Type) (enc : TypeId × Value → H) :
    ReturnsInHanded {} Try.checked os 3 .any (Rows.fnExactTradesOkSpec.pre6 enc Try.prog Try.f3 Rows.fnExactTradesOkRow.domain false) (Rows.fnExactTradesOkSpec.post enc Try.prog Try.f3 false true false false) := by
  refine returnsInHanded_of_change (C := Try.checked) own started (by kernel_rfl) Try.func3
    (ChangeSpec.witness6 (enc := enc) (C := Try.checked) false ⟨#[], #[.slice none 0 0], []⟩ 8 (by kernel_rfl) (by kernel_rfl) (by kernel_rfl) (by kernel_rfl)) ?_
  intro W base args ds gs before hval0 hW hcnd _
  have hval : ∀ (j : Nat) t v, Try.f3.params[j]? = some t → args[j]? = some v → Value.okWide Try.prog W .any base t v := hval0
  have hW' := hW
  obtain ⟨p, q, hA0, hV, rfl, hfz, hnd⟩ := hW
  have hA : DataW.TrodAll enc Try.prog W 0 (fun _ => true) true Try.f3.params.toList args.toList ds p := hA0
  rw [Try.params3] at hA hval
  obtain ⟨v0, vs0, d0, ds0, p0, q0, hargs, rfl, rfl, h0, r0⟩ := trodAll_cons hA
  obtain ⟨rfl, rfl, rfl⟩ := trodAll_nil r0
  obtain rfl : args = #[v0] := by cases args; simp_all
  obtain ⟨rfl, rfl⟩ := trodVars_none hV
  obtain ⟨a0, len0, cap0, rfl⟩ := okWide_slice Try.underlying22 (hval 0 22 v0 rfl rfl)
  have k0 := h0
  have lt0 : ∀ x ∈ p0, x.block < W.heap.size := by obtain ⟨m, hm⟩ := k0; exact DataW.trod_lt m _ _ _ hm
  obtain ⟨z0, l0, g0, w0⟩ : ∃ zs : List Tup8.T8, zs.length = len0 ∧ len0 ≤ 9223372036854775807 ∧ Tup8.Reads8 W a0 zs := by
    obtain ⟨fuel, hf⟩ := h0
    exact Opens8.open_rows Try.underlying22 Try.underlying35 (by kernel_rfl) Try.underlying3 hf
  clear hA0 hval0
  refine (walk a0 len0 cap0 z0 W l0 g0 w0).mono fun e W' ⟨he, bel⟩ => ?_
  subst he
  exact ⟨_, rfl, _, _, _, [], _, [], hW', trodAll_mk1 (shut_bool Try.underlying4 _), (trodAll_cons_mk (Below.trod laidOut (by kernel_rfl) (of_decide_eq_true (by kernel_rfl)) k0 bel lt0) trodAll_mk0), rfl, bel.frame _, fun h => by cases h⟩

theorem over : Rows.fnExactTradesOkRow.holds Try.pinned (OpenSpec.ofChange Rows.fnExactTradesOkSpec) :=
  OpenClaim.holds_of_wide 3 Try.f3 rfl rfl rfl rfl rfl rfl rfl ⟨rfl, rfl, rfl, rfl, rfl⟩ rfl rfl rfl rfl rfl (by kernel_rfl) Try.func3 (by kernel_rfl)
    (of_decide_eq_true (by kernel_rfl)) (by unfold Func.isWrapper; first | (rw [if_pos (by decide +kernel)]; kernel_rfl) | (rw [if_neg (by decide +kernel)]; exact ⟨rfl, rfl⟩))
    (fun os started H enc _ => lifted os started H enc)

/-- The statement. -/
theorem proved : Rows.FnExactTradesOkSaid := over
#print axioms proved
end Go.Proofs.Ytlbdfaahcmlddaa.fnExactTradesOk
