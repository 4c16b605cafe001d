/- At any deed the program's DeedOk answers as its model, and writes into no argument. No condition. -/
import Derived.Test.YtkaomecmhphjpaaRows
import Derived.Test.YtkaomecmhphjpaaDeed18
import Derived.ShutString
import Derived.ChangeOld
import Derived.Below
namespace Go.Proofs.Ytkaomecmhphjpaa.fnExactDeedOk
open Go.ChangeShapes Go.WideShapes Go.ChangeAt Go.RowKit
open Go.ChangeMaps (open_string shut_string)
set_option linter.unusedVariables false
set_option linter.unusedSimpArgs false

theorem own : ownKnob Try.prog.godebug = none := by kernel_rfl
theorem laidOut : laidOutB Try.prog = true := by kernel_rfl

open Deed18
open Lots (Says says_of)

/-- The argument, in its box. -/
structure LD (w W : World) (k : Int) (s : ByteArray) (a c : Int) : Prop where
  c : W.cell? ⟨w.heap.size, 0, none⟩ = some (.int .i64 k) ∧ W.cell? ⟨w.heap.size, 1, none⟩ = some (.string s) ∧ W.cell? ⟨w.heap.size, 2, none⟩ = some (.int .i64 a) ∧ W.cell? ⟨w.heap.size, 3, none⟩ = some (.int .i64 c)
  b : Below w.heap.size w W
  s : w.heap.size < W.heap.size
theorem LD.step {w W W' : World} {k : Int} {s : ByteArray} {a c : Int} (h : LD w W k s a c) (q : Below W.heap.size W W') : LD w W' k s a c :=
  ⟨⟨(q.cell (p := ⟨w.heap.size, 0, none⟩) h.s).trans h.c.1, (q.cell (p := ⟨w.heap.size, 1, none⟩) h.s).trans h.c.2.1, (q.cell (p := ⟨w.heap.size, 2, none⟩) h.s).trans h.c.2.2.1, (q.cell (p := ⟨w.heap.size, 3, none⟩) h.s).trans h.c.2.2.2⟩, h.b.trans (q.mono (Nat.le_of_lt h.s)), Nat.lt_of_lt_of_le h.s q.size⟩
theorem LD.start (w : World) (k : Int) (s : ByteArray) (a c : Int) (e : TypeId) : LD w (w.alloc (.cells #[.int .i64 k, .string s, .int .i64 a, .int .i64 c] e)) k s a c :=
  ⟨⟨by simp, by simp, by simp, by simp⟩, one_more _ _, by simp⟩


set_option maxRecDepth 100000 in
set_option maxHeartbeats 8000000 in
theorem walk (n0 : Int) (s0 : ByteArray) (a0 c0 : Int) (w : World) (w0 : s0.size ≤ 9223372036854775807) :
    Calls Try.prog 3 #[.agg #[.int .i64 n0, .string s0, .int .i64 a0, .int .i64 c0]] w fun e w' => e = .returned (.bool true) ∧ Below w.heap.size w w' := by
  obtain ⟨ok, OK⟩ := says_of (DdOk n0 s0 a0 c0)
  have HO := hide OK
  have L0 := hide (LD.start w n0 s0 a0 c0 23)
  clear OK
  go_enter Try.func3, Try.ntmps3
  go_wp2_with fail
  refine (szDd _ n0 s0 a0 c0 w0).mono ?_
  rintro e u0 ⟨r, rfl, hr, bb⟩
  have L1 := hide ((unhide L0).step bb)
  clear bb L0
  rcases hr with rfl | ⟨r1, _⟩
  · go_wp2
    go_ret
    exact ⟨rfl, (unhide L1).b⟩
  have rn : ¬ r < 0 := by omega
  clear r1
  obtain ⟨q0, q1, q2, q3⟩ := (unhide L1).c
  go_wp2_with fail
  refine (toDd _ n0 s0 a0 c0).mono ?_
  rintro e u1 ⟨rfl, bb⟩
  have L2 := hide ((unhide L1).step bb)
  clear bb L1 q0 q1 q2 q3
  go_wp2_with fail
  refine (sDeedOk u1 n0 s0 a0 c0 ok w0 (unhide HO)).mono ?_
  rintro e u2 ⟨rfl, bb⟩
  have L3 := hide ((unhide L2).step bb)
  clear bb L2
  obtain ⟨q0, q1, q2, q3⟩ := (unhide L3).c
  go_wp2_with fail
  refine (toDd _ n0 s0 a0 c0).mono ?_
  rintro e u3 ⟨rfl, bb⟩
  have L4 := hide ((unhide L3).step bb)
  clear bb L3 q0 q1 q2 q3
  go_wp2_with fail
  refine (iDeedOk u3 n0 s0 a0 c0 ok w0 (unhide HO)).mono ?_
  rintro e u4 ⟨rfl, bb⟩
  have L5 := hide ((unhide L4).step bb)
  clear bb L4
  have hq : (ok != ok) = false := by simp
  go_wp2
  go_ret
  exact ⟨rfl, (unhide L5).b⟩

set_option maxRecDepth 100000 in
theorem lifted (os : Os) (started : os.Started) (H : Type) (enc : TypeId × Value → H) :
    ReturnsInHanded {} Try.checked os 3 .any (Rows.fnExactDeedOkSpec.pre6 enc Try.prog Try.f3 Rows.fnExactDeedOkRow.domain false) (Rows.fnExactDeedOkSpec.post enc Try.prog Try.f3 false true false false) := by
  refine returnsInHanded_of_change (C := Try.checked) own started (by kernel_rfl) Try.func3
    (ChangeSpec.witness6 (enc := enc) (C := Try.checked) false ⟨#[], #[.agg #[.int .i64 0, .string ByteArray.empty, .int .i64 0, .int .i64 0]], []⟩ 8 (by kernel_rfl) (by kernel_rfl) (by kernel_rfl) (by kernel_rfl)) ?_
  intro W base args ds gs before hval0 hW hcnd _
  have hval : ∀ (j : Nat) t v, Try.f3.params[j]? = some t → args[j]? = some v → Value.okWide Try.prog W .any base t v := hval0
  have hW' := hW
  obtain ⟨p, q, hA0, hV, rfl, hfz, hnd⟩ := hW
  have hA : DataW.TrodAll enc Try.prog W 0 (fun _ => true) true Try.f3.params.toList args.toList ds p := hA0
  rw [Try.params3] at hA hval
  obtain ⟨v0, vs0, d0, ds0, p0, q0, hargs, rfl, rfl, h0, r0⟩ := trodAll_cons hA
  obtain ⟨rfl, rfl, rfl⟩ := trodAll_nil r0
  obtain rfl : args = #[v0] := by cases args; simp_all
  obtain ⟨rfl, rfl⟩ := trodVars_none hV
  have k0 := h0
  have lt0 : ∀ x ∈ p0, x.block < W.heap.size := by obtain ⟨m, hm⟩ := k0; exact DataW.trod_lt m _ _ _ hm
  obtain ⟨n0, s0, a0, c0, rfl, w0⟩ := Deed18.open_deed (hval 0 23 v0 rfl rfl) h0
  clear hA0 hval0
  refine (walk n0 s0 a0 c0 W w0).mono fun e W' ⟨he, bel⟩ => ?_
  subst he
  exact ⟨_, rfl, _, _, _, [], _, [], hW', trodAll_mk1 (shut_bool Try.underlying4 _), (trodAll_cons_mk (Below.trod laidOut (by kernel_rfl) (of_decide_eq_true (by kernel_rfl)) k0 bel lt0) trodAll_mk0), rfl, bel.frame _, fun h => by cases h⟩

theorem over : Rows.fnExactDeedOkRow.holds Try.pinned (OpenSpec.ofChange Rows.fnExactDeedOkSpec) :=
  OpenClaim.holds_of_wide 3 Try.f3 rfl rfl rfl rfl rfl rfl rfl ⟨rfl, rfl, rfl, rfl, rfl⟩ rfl rfl rfl rfl rfl (by kernel_rfl) Try.func3 (by kernel_rfl)
    (of_decide_eq_true (by kernel_rfl)) (by unfold Func.isWrapper; first | (rw [if_pos (by decide +kernel)]; kernel_rfl) | (rw [if_neg (by decide +kernel)]; exact ⟨rfl, rfl⟩))
    (fun os started H enc _ => lifted os started H enc)

/-- The statement. -/
theorem proved : Rows.FnExactDeedOkSaid := over
#print axioms proved
end Go.Proofs.Ytkaomecmhphjpaa.fnExactDeedOk
