/- At any command the program's CmdOk answers as its model, and writes into no argument. No condition. -/
import Derived.Test.YtophnnmbgpinfaaRows
import Derived.Test.YtophnnmbgpinfaaInts
import Derived.Test.YtophnnmbgpinfaaTup5
import Derived.Test.YtophnnmbgpinfaaLots
import Derived.Test.YtophnnmbgpinfaaSCmd
import Derived.Test.YtophnnmbgpinfaaCmdH
import Derived.Test.YtophnnmbgpinfaaICmd10
import Derived.Test.YtophnnmbgpinfaaICall10
import Derived.ShutString
import Derived.ChangeOld
import Derived.Below
namespace Go.Proofs.Ytophnnmbgpinfaa.fnExactCmdOk
open Go.ChangeShapes Go.WideShapes Go.ChangeAt Go.RowKit
open Go.ChangeMaps (open_string shut_string)
set_option linter.unusedVariables false
set_option linter.unusedSimpArgs false

theorem own : ownKnob Try.prog.godebug = none := by kernel_rfl
theorem laidOut : laidOutB Try.prog = true := by kernel_rfl

open CmdH SCmd
open Lots (Says says_of)


set_option maxRecDepth 100000 in
set_option maxHeartbeats 8000000 in
theorem walk (n0 : Int) (a0 : Option Addr) (len0 cap0 : Nat) (z0 : List Int) (w : World) (l0 : z0.length = len0) (g0 : len0 ≤ 9223372036854775807) (w0 : Ints.Reads w a0 z0) :
    Calls Try.prog 4 #[.agg #[.int .i64 n0, .slice a0 len0 cap0]] w fun e w' => e = .returned (.bool true) ∧ Below w.heap.size w w' := by
  subst l0
  generalize hlen : z0.length = len0 at *
  obtain ⟨ok, OK⟩ := says_of (CmOk n0 z0)
  have HO := hide OK
  have HL := hide hlen
  have L0 := hide (LC.start (k := n0) (len := len0) (cap := cap0) w0 26)
  clear w0 OK hlen
  go_enter Try.func4, Try.ntmps4
  go_wp2_with fail
  refine (szC _ n0 a0 len0 cap0 g0).mono ?_
  rintro e u0 ⟨r, rfl, hr, bb⟩
  have L1 := hide ((unhide L0).step bb)
  clear bb L0
  rcases hr with rfl | ⟨r1, sm⟩
  · go_wp2
    go_ret
    exact ⟨rfl, (unhide L1).b⟩
  have rn : ¬ r < 0 := by omega
  clear r1
  obtain ⟨c0, c1⟩ := (unhide L1).c
  go_wp2_with fail
  refine (toC _ n0 a0 len0 cap0 z0 (unhide HL) sm (unhide L1).r).mono ?_
  rintro e u1 ⟨gz, rfl, oz, bb⟩
  have L2 := hide ((unhide L1).step bb)
  have OZ := hide oz
  clear bb oz L1
  go_wp2_with fail
  have SO := hide (sCmdOk u1 n0 gz z0.length z0 ok (by rw [unhide HL]; exact sm) (unhide OZ).lt.2 (unhide OZ).at (unhide HO))
  rw [unhide HL] at SO
  refine (unhide SO).mono ?_
  rintro e u2 ⟨rfl, bb⟩
  have L3 := hide ((unhide L2).step bb)
  clear bb L2 OZ SO c0 c1
  obtain ⟨c0, c1⟩ := (unhide L3).c
  go_wp2_with fail
  refine (toC _ n0 a0 len0 cap0 z0 (unhide HL) sm (unhide L3).r).mono ?_
  rintro e u3 ⟨gx, rfl, ox, bb⟩
  have V0 := hide (Vc.made (k := n0) ox 29)
  have L4 := hide (((unhide L3).step bb).step (one_more u3 (.cells #[.int .i64 n0, .slice (some ⟨gx, 0, none⟩) len0 len0] 29)))
  clear bb ox L3 c0 c1
  go_wp2_with fail
  have SO := hide (ICall10.iCmdOk _ n0 gx z0.length z0 ok (by rw [unhide HL]; exact sm) (unhide V0).l (unhide V0).r (unhide HO))
  rw [unhide HL] at SO
  refine (unhide SO).mono ?_
  rintro e u4 ⟨rfl, bb⟩
  have L5 := hide ((unhide L4).step bb)
  have V5 := hide ((unhide V0).step bb)
  clear bb L4 V0 SO
  have hq : (ok != ok) = false := by simp
  have l5 := (unhide L5).s
  have v5 := (unhide V5).s
  go_wp2_with fail
  clear hq
  have K4 := And.intro (unhide L5).c.1 (And.intro (unhide L5).c.2 (unhide V5).c)
  go_region_held3 (fun w' => w'.cell? ⟨w.heap.size, 0, none⟩ = some (.int .i64 n0) ∧ w'.cell? ⟨w.heap.size, 1, none⟩ = some (.slice a0 len0 cap0) ∧ w'.cell? ⟨u3.heap.size, 0, none⟩ = some (.int .i64 n0) ∧ w'.cell? ⟨u3.heap.size, 1, none⟩ = some (.slice (some ⟨gx, 0, none⟩) len0 len0)) (first | exact K4 | exact K5 | exact K6)
    (first | (go_at_call 10; refine (toC u4.drew n0 a0 len0 cap0 z0 (unhide HL) sm (unhide L5).r).mono ?_; rintro e u5 ⟨gq, rfl, oq, bb⟩; have bW : Below u4.heap.size u4 u5 := below_of_drew bb; have L6 := hide ((unhide L5).step bW); have V6 := hide ((unhide V5).step bW); have K5 := And.intro (unhide L6).c.1 (And.intro (unhide L6).c.2 (unhide V6).c); have OQ := hide oq; clear oq bb bW) | (go_at_call 12; refine (eqC u5 n0 gx gq len0 len0 len0 z0 (unhide HL) sm (unhide V6).r (unhide OQ).at (unhide V6).l (unhide OQ).lt.2).mono ?_; rintro e u6 ⟨rfl, bb6⟩; have L7 := hide ((unhide L6).step bb6); have V7 := hide ((unhide V6).step bb6); have K6 := And.intro (unhide L7).c.1 (And.intro (unhide L7).c.2 (unhide V7).c); clear bb6))
  clear K4 K5 K6
  go_wp2
  go_ret
  exact ⟨rfl, (unhide L7).b⟩

set_option maxRecDepth 100000 in
theorem lifted (os : Os) (started : os.Started) (H : Type) (enc : TypeId × Value → H) :
    ReturnsInHanded {} Try.checked os 4 .any (Rows.fnExactCmdOkSpec.pre6 enc Try.prog Try.f4 Rows.fnExactCmdOkRow.domain false) (Rows.fnExactCmdOkSpec.post enc Try.prog Try.f4 false true false false) := by
  refine returnsInHanded_of_change (C := Try.checked) own started (by kernel_rfl) Try.func4
    (ChangeSpec.witness6 (enc := enc) (C := Try.checked) false ⟨#[], #[.agg #[.int .i64 0, .slice none 0 0]], []⟩ 8 (by kernel_rfl) (by kernel_rfl) (by kernel_rfl) (by kernel_rfl)) ?_
  intro W base args ds gs before hval0 hW hcnd _
  have hval : ∀ (j : Nat) t v, Try.f4.params[j]? = some t → args[j]? = some v → Value.okWide Try.prog W .any base t v := hval0
  have hW' := hW
  obtain ⟨p, q, hA0, hV, rfl, hfz, hnd⟩ := hW
  have hA : DataW.TrodAll enc Try.prog W 0 (fun _ => true) true Try.f4.params.toList args.toList ds p := hA0
  rw [Try.params4] at hA hval
  obtain ⟨v0, vs0, d0, ds0, p0, q0, hargs, rfl, rfl, h0, r0⟩ := trodAll_cons hA
  obtain ⟨rfl, rfl, rfl⟩ := trodAll_nil r0
  obtain rfl : args = #[v0] := by cases args; simp_all
  obtain ⟨rfl, rfl⟩ := trodVars_none hV
  have k0 := h0
  have lt0 : ∀ x ∈ p0, x.block < W.heap.size := by obtain ⟨m, hm⟩ := k0; exact DataW.trod_lt m _ _ _ hm
  obtain ⟨n0, a0, len0, cap0, z0, rfl, l0, g0, w0⟩ := CmdH.open_cmd (hval 0 26 v0 rfl rfl) h0
  clear hA0 hval0
  refine (walk n0 a0 len0 cap0 z0 W l0 g0 w0).mono fun e W' ⟨he, bel⟩ => ?_
  subst he
  exact ⟨_, rfl, _, _, _, [], _, [], hW', trodAll_mk1 (shut_bool Try.underlying4 _), (trodAll_cons_mk (Below.trod laidOut (by kernel_rfl) (of_decide_eq_true (by kernel_rfl)) k0 bel lt0) trodAll_mk0), rfl, bel.frame _, fun h => by cases h⟩

theorem over : Rows.fnExactCmdOkRow.holds Try.pinned (OpenSpec.ofChange Rows.fnExactCmdOkSpec) :=
  OpenClaim.holds_of_wide 4 Try.f4 rfl rfl rfl rfl rfl rfl rfl ⟨rfl, rfl, rfl, rfl, rfl⟩ rfl rfl rfl rfl rfl (by kernel_rfl) Try.func4 (by kernel_rfl)
    (of_decide_eq_true (by kernel_rfl)) (by unfold Func.isWrapper; first | (rw [if_pos (by decide +kernel)]; kernel_rfl) | (rw [if_neg (by decide +kernel)]; exact ⟨rfl, rfl⟩))
    (fun os started H enc _ => lifted os started H enc)

/-- The statement. -/
theorem proved : Rows.FnExactCmdOkSaid := over
#print axioms proved
end Go.Proofs.Ytophnnmbgpinfaa.fnExactCmdOk
