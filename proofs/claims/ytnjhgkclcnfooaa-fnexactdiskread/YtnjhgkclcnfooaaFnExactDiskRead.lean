/- At any arguments the program's DiskRead answers as its model, writes into no argument, and its answer is its own. No condition. -/
import Derived.Test.YtnjhgkclcnfooaaRows
import Derived.Test.YtnjhgkclcnfooaaFil14
import Derived.Test.YtnjhgkclcnfooaaOpensF14
import Derived.Test.YtnjhgkclcnfooaaDiskH14
import Derived.Test.YtnjhgkclcnfooaaHelpF14
import Derived.Test.YtnjhgkclcnfooaaMarkF14
import Derived.Test.YtnjhgkclcnfooaaMarkFS14
import Derived.Test.YtnjhgkclcnfooaaDkH14
import Derived.Test.YtnjhgkclcnfooaaSDk14
import Derived.Test.YtnjhgkclcnfooaaSOk14
import Derived.Test.YtnjhgkclcnfooaaSRd14
import Derived.Test.YtnjhgkclcnfooaaApp14
import Derived.Test.YtnjhgkclcnfooaaSLess14
import Derived.Test.YtnjhgkclcnfooaaSCopy14
import Derived.Test.YtnjhgkclcnfooaaSRef14
import Derived.Test.YtnjhgkclcnfooaaSCom14
import Derived.Test.YtnjhgkclcnfooaaLaw14
import Derived.Test.YtnjhgkclcnfooaaIFile14
import Derived.Test.YtnjhgkclcnfooaaIOk14
import Derived.Test.YtnjhgkclcnfooaaTabF14
import Derived.Test.YtnjhgkclcnfooaaITb14
import Derived.Test.YtnjhgkclcnfooaaICp14
import Derived.Test.YtnjhgkclcnfooaaSPut14
import Derived.Test.YtnjhgkclcnfooaaIDk14
import Derived.Test.YtnjhgkclcnfooaaPure14
import Derived.Test.YtnjhgkclcnfooaaPTab14
import Derived.Test.YtnjhgkclcnfooaaICom14
import Derived.Test.YtnjhgkclcnfooaaIRd14
import Derived.ShutString
import Derived.ChangeOld
import Derived.Below
namespace Go.Proofs.Ytnjhgkclcnfooaa.fnExactDiskRead
open Go.ChangeShapes Go.WideShapes Go.ChangeAt Go.RowKit
open Go.ChangeMaps (open_string shut_string)
set_option linter.unusedVariables false
set_option linter.unusedSimpArgs false

theorem own : ownKnob Try.prog.godebug = none := by kernel_rfl
theorem laidOut : laidOutB Try.prog = true := by kernel_rfl

open Fil14 OpensF14 DiskH14 DkH14 SCom14 Law14 SDk14 SOk14 SRd14 SRd14

abbrev oZ0 : Oper := { dst := some 39, op := Go.Op.load 29 (Go.Operand.tmp 8), type := 29, pos := "exact.go:3924", after := #[], guard := none }
abbrev oZ1 : Oper := { dst := some 40, op := Go.Op.load 24 (Go.Operand.tmp 2), type := 24, pos := "exact.go:3924", after := #[], guard := none }
abbrev oZ2 : Oper := { dst := some 41, op := Go.Op.call { callee := Go.Callee.value (Go.Operand.func 11), args := #[Go.Operand.tmp 40], argTypes := #[24] }, type := 29, pos := "exact.go:3924", after := #[{ on := 1, ground := Go.Ground.data }], guard := none }
abbrev oZ3 : Oper := { dst := some 42, op := Go.Op.call { callee := Go.Callee.value (Go.Operand.func 13), args := #[Go.Operand.tmp 39, Go.Operand.tmp 41], argTypes := #[29, 29] }, type := 4, pos := "exact.go:3924", after := #[{ on := 0, ground := Go.Ground.data }, { on := 2, ground := Go.Ground.data }, { on := 2, ground := Go.Ground.chain }], guard := none }
abbrev oZ4 : Oper := { dst := some 43, op := Go.Op.unOp Go.UnOp.not 4 (Go.Operand.tmp 42), type := 4, pos := "exact.go:3924", after := #[{ on := 3, ground := Go.Ground.data }], guard := none }


set_option maxRecDepth 100000 in
set_option maxHeartbeats 8000000 in
theorem walk (n0 : Int) (a0 : Option Addr) (len0 cap0 : Nat) (z0 : List Fil14.TF) (a1 : Int) (w : World) (l0 : z0.length = len0) (g0 : len0 ≤ 9223372036854775807) (w0 : Fil14.ReadsF w a0 z0) (f0 : OpensF14.FitF z0) (w1 : (Lit.int .i64 a1).wf = true) :
    Calls Try.prog 4 #[.agg #[.int .i64 n0, .slice a0 len0 cap0], .int .i64 a1] w fun e w' => e = .returned (.bool true) ∧ Below w.heap.size w w' := by
  have H := hide w0
  have L := hide (La.start (k := n0) (len := len0) (cap := cap0) w0 24)
  clear w0
  go_enter Try.func4, Try.ntmps4
  go_wp2_with fail
  refine (szD _ n0 a0 len0 cap0 z0 l0 g0 (unhide L).r f0).mono ?_
  rintro e u0 ⟨r, rfl, hr, bb⟩
  replace L := hide ((unhide L).step bb)
  clear bb
  rcases hr with rfl | ⟨r1, l20, sz⟩
  · go_wp2
    go_ret
    exact ⟨rfl, (unhide L).b⟩
  have rn : ¬ r < 0 := by omega
  clear r1
  have SP := hide (fun u (x : Dx) (h1 : x.room = n0) (h2 : x.ps = z0) (hr : RdD u x) => (sDiskRead u x a1 hr (by rw [h2]; exact sz)).mono (fun e w' h => show e = .returned (.tuple #[.string (readD n0 z0 a1).1, .bool (readD n0 z0 a1).2]) ∧ Below u.heap.size u w' by rw [← h1, ← h2]; exact h))
  have IM := hide (fun u (x : Dx) (h1 : x.room = n0) (h2 : x.ps = z0) (hr : RdD u x) => (IRd14.iDiskRead u x a1 hr (by rw [h2]; exact sz) w1).mono (fun e w' h => show e = .returned (.tuple #[.string (readD n0 z0 a1).1, .bool (readD n0 z0 a1).2]) ∧ Below u.heap.size u w' by rw [← h1, ← h2]; exact h))
  generalize readD n0 z0 a1 = rr at *
  obtain ⟨rs, rb⟩ := rr
  have q1 : (rb != rb) = false := by simp
  have c0 := (unhide L).c0
  have c1 := (unhide L).c1
  go_wp2_with fail
  refine (toD _ n0 a0 len0 cap0 z0 l0 l20 (unhide L).r).mono ?_
  rintro e u1 ⟨x1, xr, xp, rfl, ox, bb⟩
  replace L := hide ((unhide L).step bb)
  have E1 := hide (And.intro xr xp)
  have O1 := hide ox
  clear bb ox xr xp c0 c1
  go_wp2_with fail
  refine ((unhide SP) u1 x1 (unhide E1).1 (unhide E1).2 (OwD.rd (unhide O1) (by rw [(unhide E1).2]; omega))).mono ?_
  rintro e u2 ⟨rfl, bb⟩
  replace L := hide ((unhide L).step bb)
  clear bb O1 E1
  have c0 := (unhide L).c0
  have c1 := (unhide L).c1
  go_wp2_with fail
  refine (toD _ n0 a0 len0 cap0 z0 l0 l20 (unhide L).r).mono ?_
  rintro e u3 ⟨x3, xr, xp, rfl, ox, bb⟩
  replace L := hide ((unhide L).step bb)
  have E3 := hide (And.intro xr xp)
  have O3 := hide ox
  clear bb ox xr xp c0 c1
  have KX := hide (Kd.made u3 x3 29)
  have OX := hide ((unhide O3).step (one_more u3 (.cells #[.int .i64 x3.room, .slice x3.a x3.ps.length x3.c] 29)))
  replace L := hide ((unhide L).step (one_more u3 (.cells #[.int .i64 x3.room, .slice x3.a x3.ps.length x3.c] 29)))
  clear O3
  have g0 := (unhide KX).c0
  have g1 := (unhide KX).c1
  go_wp2_with fail
  refine ((unhide IM) _ x3 (unhide E3).1 (unhide E3).2 (OwD.rd (unhide OX) (by rw [(unhide E3).2]; omega))).mono ?_
  rintro e u4 ⟨rfl, bb⟩
  replace L := hide ((unhide L).step bb)
  replace KX := hide ((unhide KX).step bb)
  replace OX := hide ((unhide OX).step bb)
  clear bb g0 g1
  have K0 : u4.cell? ⟨u3.heap.size, 0, none⟩ = some (.int .i64 x3.room) ∧ u4.cell? ⟨u3.heap.size, 1, none⟩ = some (.slice x3.a x3.ps.length x3.c) ∧ u4.cell? ⟨w.heap.size, 0, none⟩ = some (.int .i64 n0) ∧ u4.cell? ⟨w.heap.size, 1, none⟩ = some (.slice a0 len0 cap0) := ⟨(unhide KX).c0, (unhide KX).c1, (unhide L).c0, (unhide L).c1⟩
  go_wp2_with fail
  refine wp_region_held_drew (S := (fun w' => w'.cell? ⟨u3.heap.size, 0, none⟩ = some (.int .i64 x3.room) ∧ w'.cell? ⟨u3.heap.size, 1, none⟩ = some (.slice x3.a x3.ps.length x3.c) ∧ w'.cell? ⟨w.heap.size, 0, none⟩ = some (.int .i64 n0) ∧ w'.cell? ⟨w.heap.size, 1, none⟩ = some (.slice a0 len0 cap0))) (by kernel_rfl) K0 (fun hHeld => ?_)
  refine wpAnyH_take (i := 0) (oi := oZ0) (v := .agg #[.int .i64 x3.room, .slice x3.a x3.ps.length x3.c]) rfl (by kernel_rfl) (by kernel_rfl) (by kernel_rfl) (fun _ _ _ h => h) (Or.inl ⟨by rfl, fun w hSw => ?_⟩) hHeld ?_
  · (try dsimp only at hSw)
    unfold oZ0
    go_simp
  try simp only [oZ0, Act.put, List.setIfInBounds_toArray, List.set_cons_zero, List.set_cons_succ]
  refine wpAnyH_take (i := 1) (oi := oZ1) (v := .agg #[.int .i64 n0, .slice a0 len0 cap0]) rfl (by kernel_rfl) (by kernel_rfl) (by kernel_rfl) (fun _ _ _ h => h) (Or.inl ⟨by rfl, fun w hSw => ?_⟩) hHeld ?_
  · (try dsimp only at hSw)
    unfold oZ1
    go_simp
  try simp only [oZ1, Act.put, List.setIfInBounds_toArray, List.set_cons_zero, List.set_cons_succ]
  refine wpAnyH_ready (rs := [2]) (by kernel_rfl) (by simp) ?_
  refine AllReadyH.cons (o := oZ2) rfl (fun K hK => ?_) AllReadyH.nil
  unfold oZ2
  go_simp
  go_wp2_with fail
  refine (toD u4.drew n0 a0 len0 cap0 z0 l0 l20 (show ReadsF u4.drew a0 z0 from (unhide L).r)).mono ?_
  rintro e u6 ⟨x6, xr, xp, rfl, ox, b6⟩
  have b7 : Below u4.heap.size u4 u6 := ⟨b6.os, b6.tape, b6.output, b6.size, b6.block⟩
  replace L := hide ((unhide L).step b7)
  replace KX := hide ((unhide KX).step b7)
  replace OX := hide ((unhide OX).step b7)
  have E6 := hide (And.intro xr xp)
  have O6 := hide ox
  have K1 : u6.cell? ⟨u3.heap.size, 0, none⟩ = some (.int .i64 x3.room) ∧ u6.cell? ⟨u3.heap.size, 1, none⟩ = some (.slice x3.a x3.ps.length x3.c) ∧ u6.cell? ⟨w.heap.size, 0, none⟩ = some (.int .i64 n0) ∧ u6.cell? ⟨w.heap.size, 1, none⟩ = some (.slice a0 len0 cap0) := ⟨(unhide KX).c0, (unhide KX).c1, (unhide L).c0, (unhide L).c1⟩
  clear b6 b7 ox xr xp
  go_wp2_with fail
  refine hK.out _ _ K1 (fun hHeld => ?_)
  clear hK K
  try simp only [oZ2, Act.put, List.setIfInBounds_toArray, List.set_cons_zero, List.set_cons_succ]
  refine wpAnyH_ready (rs := [3]) (by kernel_rfl) (by simp) ?_
  refine AllReadyH.cons (o := oZ3) rfl (fun K hK => ?_) AllReadyH.nil
  unfold oZ3
  go_simp
  go_wp2_with fail
  refine (eqD u6 x3 x6 (by rw [(unhide E6).1, (unhide E3).1]) (by rw [(unhide E6).2, (unhide E3).2]) (OwD.rd (unhide OX) (by rw [(unhide E3).2]; omega)) (OwD.rd (unhide O6) (by rw [(unhide E6).2]; omega))).mono ?_
  rintro e u7 ⟨rfl, bb⟩
  replace L := hide ((unhide L).step bb)
  replace KX := hide ((unhide KX).step bb)
  replace OX := hide ((unhide OX).step bb)
  have K2 : u7.cell? ⟨u3.heap.size, 0, none⟩ = some (.int .i64 x3.room) ∧ u7.cell? ⟨u3.heap.size, 1, none⟩ = some (.slice x3.a x3.ps.length x3.c) ∧ u7.cell? ⟨w.heap.size, 0, none⟩ = some (.int .i64 n0) ∧ u7.cell? ⟨w.heap.size, 1, none⟩ = some (.slice a0 len0 cap0) := ⟨(unhide KX).c0, (unhide KX).c1, (unhide L).c0, (unhide L).c1⟩
  clear bb O6 E6
  go_wp2_with fail
  refine hK.out _ _ K2 (fun hHeld => ?_)
  clear hK K
  try simp only [oZ3, Act.put, List.setIfInBounds_toArray, List.set_cons_zero, List.set_cons_succ]
  refine wpAnyH_take (i := 4) (oi := oZ4) (v := .bool false) rfl (by kernel_rfl) (by kernel_rfl) (by kernel_rfl) (fun _ _ _ h => h) (Or.inl ⟨by rfl, fun w hSw => ?_⟩) hHeld ?_
  · (try dsimp only at hSw)
    unfold oZ4
    go_simp
  try simp only [oZ4, Act.put, List.setIfInBounds_toArray, List.set_cons_zero, List.set_cons_succ]
  refine wpAnyH_done (by kernel_rfl) ?_ _
  clear K0 K1 K2
  go_wp2
  go_ret
  exact ⟨rfl, (unhide L).b⟩

set_option maxRecDepth 100000 in
theorem lifted (os : Os) (started : os.Started) (H : Type) (enc : TypeId × Value → H) :
    ReturnsInHanded {} Try.checked os 4 .any (Rows.fnExactDiskReadSpec.pre6 enc Try.prog Try.f4 Rows.fnExactDiskReadRow.domain false) (Rows.fnExactDiskReadSpec.post enc Try.prog Try.f4 false true false false) := by
  refine returnsInHanded_of_change (C := Try.checked) own started (by kernel_rfl) Try.func4
    (ChangeSpec.witness6 (enc := enc) (C := Try.checked) false ⟨#[], #[.agg #[.int .i64 0, .slice none 0 0], .int .i64 0], []⟩ 8 (by kernel_rfl) (by kernel_rfl) (by kernel_rfl) (by kernel_rfl)) ?_
  intro W base args ds gs before hval0 hW hcnd _
  have hval : ∀ (j : Nat) t v, Try.f4.params[j]? = some t → args[j]? = some v → Value.okWide Try.prog W .any base t v := hval0
  have hW' := hW
  obtain ⟨p, q, hA0, hV, rfl, hfz, hnd⟩ := hW
  have hA : DataW.TrodAll enc Try.prog W 0 (fun _ => true) true Try.f4.params.toList args.toList ds p := hA0
  rw [Try.params4] at hA hval
  obtain ⟨v0, vs0, d0, ds0, p0, q0, hargs, rfl, rfl, h0, r0⟩ := trodAll_cons hA
  obtain ⟨v1, vs1, d1, ds1, p1, q1, rfl, rfl, rfl, h1, r1⟩ := trodAll_cons r0
  obtain ⟨rfl, rfl, rfl⟩ := trodAll_nil r1
  obtain rfl : args = #[v0, v1] := by cases args; simp_all
  obtain ⟨rfl, rfl⟩ := trodVars_none hV
  have k0 := h0
  have lt0 : ∀ x ∈ p0, x.block < W.heap.size := by obtain ⟨m, hm⟩ := k0; exact DataW.trod_lt m _ _ _ hm
  obtain ⟨n0, a0, len0, cap0, z0, rfl, l0, g0, w0, f0, _⟩ := OpensF14.open_disk (hval 0 24 v0 rfl rfl) h0
  obtain ⟨a1, rfl, rfl, rfl, w1⟩ := open_int Try.underlying3 (hval 1 3 v1 rfl rfl) h1
  clear hA0 hval0
  refine (walk n0 a0 len0 cap0 z0 a1 W l0 g0 w0 f0 w1).mono fun e W' ⟨he, bel⟩ => ?_
  subst he
  exact ⟨_, rfl, _, _, _, [], _, [], hW', trodAll_mk1 (shut_bool Try.underlying4 _), (trodAll_cons_mk (Below.trod laidOut (by kernel_rfl) (of_decide_eq_true (by kernel_rfl)) k0 bel lt0) (trodAll_cons_mk (shut_int Try.underlying3 w1) trodAll_mk0)), rfl, bel.frame _, fun h => by cases h⟩

theorem over : Rows.fnExactDiskReadRow.holds Try.pinned (OpenSpec.ofChange Rows.fnExactDiskReadSpec) :=
  OpenClaim.holds_of_wide 4 Try.f4 rfl rfl rfl rfl rfl rfl rfl ⟨rfl, rfl, rfl, rfl, rfl⟩ rfl rfl rfl rfl rfl (by kernel_rfl) Try.func4 (by kernel_rfl)
    (of_decide_eq_true (by kernel_rfl)) (by unfold Func.isWrapper; first | (rw [if_pos (by decide +kernel)]; kernel_rfl) | (rw [if_neg (by decide +kernel)]; exact ⟨rfl, rfl⟩))
    (fun os started H enc _ => lifted os started H enc)

/-- The statement. -/
theorem proved : Rows.FnExactDiskReadSaid := over
#print axioms proved
end Go.Proofs.Ytnjhgkclcnfooaa.fnExactDiskRead
