/- At any arguments the program's SegRead answers as its model, writes into no argument, and its answer is its own. No condition. -/
import Derived.Test.YticofefdbjihiaaRows
import Derived.Test.YticofefdbjihiaaFG1
import Derived.Test.YticofefdbjihiaaFG2
import Derived.Test.YticofefdbjihiaaFG3
import Derived.Test.YticofefdbjihiaaFG4
import Derived.Test.YticofefdbjihiaaFG5
import Derived.Test.YticofefdbjihiaaFG6
import Derived.Test.YticofefdbjihiaaFG7
import Derived.Test.YticofefdbjihiaaFG8
import Derived.Test.YticofefdbjihiaaFG9
import Derived.ShutString
import Derived.ChangeOld
import Derived.Below
namespace Go.Proofs.Yticofefdbjihiaa.fnExactSegRead
open Go.ChangeShapes Go.WideShapes Go.ChangeAt Go.RowKit
open Go.ChangeMaps (open_string shut_string)
set_option linter.unusedVariables false
set_option linter.unusedSimpArgs false

theorem own : ownKnob Try.prog.godebug = none := by kernel_rfl
theorem laidOut : laidOutB Try.prog = true := by kernel_rfl

open Fil14 OpensF14 DiskH14 DkH14 SCom14 Law14 LawL15 SDk14 SOk14 SRd14 SegP15 SSeg15

abbrev oZ0 : Oper := { dst := some 45, op := Go.Op.load 31 (Go.Operand.tmp 8), type := 31, pos := "exact.go:4222", after := #[], guard := none }
abbrev oZ1 : Oper := { dst := some 46, op := Go.Op.load 24 (Go.Operand.tmp 2), type := 24, pos := "exact.go:4222", after := #[], guard := none }
abbrev oZ2 : Oper := { dst := some 47, op := Go.Op.call { callee := Go.Callee.value (Go.Operand.func 11), args := #[Go.Operand.tmp 46], argTypes := #[24] }, type := 31, pos := "exact.go:4222", after := #[{ on := 1, ground := Go.Ground.data }], guard := none }
abbrev oZ3 : Oper := { dst := some 48, op := Go.Op.call { callee := Go.Callee.value (Go.Operand.func 14), args := #[Go.Operand.tmp 45, Go.Operand.tmp 47], argTypes := #[31, 31] }, type := 4, pos := "exact.go:4222", after := #[{ on := 0, ground := Go.Ground.data }, { on := 2, ground := Go.Ground.data }, { on := 2, ground := Go.Ground.chain }], guard := none }
abbrev oZ4 : Oper := { dst := some 49, op := Go.Op.unOp Go.UnOp.not 4 (Go.Operand.tmp 48), type := 4, pos := "exact.go:4222", after := #[{ on := 3, ground := Go.Ground.data }], guard := none }


set_option maxRecDepth 100000 in
set_option maxHeartbeats 8000000 in
theorem walk (n0 : Int) (a0 : Option Addr) (len0 cap0 : Nat) (z0 : List Fil14.TF) (a1 : Int) (w : World) (l0 : z0.length = len0) (g0 : len0 ≤ 9223372036854775807) (w0 : Fil14.ReadsF w a0 z0) (f0 : OpensF14.FitF z0) (w1 : (Lit.int .i64 a1).wf = true) :
    Calls Try.prog 3 #[.agg #[.int .i64 n0, .slice a0 len0 cap0], .int .i64 a1] w fun e w' => e = .returned (.bool true) ∧ Below w.heap.size w w' := by
  have H := hide w0
  have L := hide (La.start (k := n0) (len := len0) (cap := cap0) w0 24)
  clear w0
  go_enter Try.func3, Try.ntmps3
  go_wp2_with fail
  refine (szD _ n0 a0 len0 cap0 z0 l0 g0 (unhide L).r f0).mono ?_
  rintro e u0 ⟨r, rfl, hr, bb⟩
  replace L := hide ((unhide L).step bb)
  clear bb
  rcases hr with rfl | ⟨r1, l20, sz⟩
  · go_wp2
    go_ret
    exact ⟨rfl, (unhide L).b⟩
  have rn : ¬ r < 0 := by omega
  clear r1
  have SP := hide (fun u (x : Dx) (h1 : x.room = n0) (h2 : x.ps = z0) (hr : RdD u x) => (sSegRead u x a1 hr (by rw [h2]; exact sz)).mono (fun e w' h => show ∃ g c, e = .returned (.tuple #[.slice (some ⟨g, 0, none⟩) (segD n0 z0 a1).1.length c, .int .i64 (segD n0 z0 a1).2]) ∧ StrO15.Own w' u.heap.size g (segD n0 z0 a1).1.length c (segD n0 z0 a1).1 ∧ Below u.heap.size u w' by rw [← h1, ← h2]; exact h))
  have IM := hide (fun u (x : Dx) (h1 : x.room = n0) (h2 : x.ps = z0) (hr : RdD u x) => (ISeg15.iSegRead u x a1 hr (by rw [h2]; exact sz) w1).mono (fun e w' h => show ∃ a c, e = .returned (.tuple #[.slice a (segD n0 z0 a1).1.length c, .int .i64 (segD n0 z0 a1).2]) ∧ StrO15.Ob w' u.heap.size a (segD n0 z0 a1).1.length c (segD n0 z0 a1).1 ∧ Below u.heap.size u w' by rw [← h1, ← h2]; exact h))
  have LEN := hide (Len15.len_segs (room := n0) (ps := z0) a1)
  generalize segD n0 z0 a1 = rr at *
  obtain ⟨rs, ri⟩ := rr
  have q1 : (ri != ri) = false := by simp
  have c0 := (unhide L).c0
  have c1 := (unhide L).c1
  go_wp2_with fail
  refine (toD _ n0 a0 len0 cap0 z0 l0 l20 (unhide L).r).mono ?_
  rintro e u1 ⟨x1, xr, xp, rfl, ox, bb⟩
  replace L := hide ((unhide L).step bb)
  have E1 := hide (And.intro xr xp)
  have O1 := hide ox
  clear bb ox xr xp c0 c1
  go_wp2_with fail
  refine ((unhide SP) u1 x1 (unhide E1).1 (unhide E1).2 (OwD.rd (unhide O1) (by rw [(unhide E1).2]; omega))).mono ?_
  rintro e u2 ⟨g2, c2, rfl, ow, bb⟩
  replace L := hide ((unhide L).step bb)
  have OW := hide (StrO15.Ob.of ow)
  have U2 := hide ow.lt.2
  have z2 : w.heap.size < u2.heap.size := (unhide L).s
  clear bb ow O1 E1
  have c0 := (unhide L).c0
  have c1 := (unhide L).c1
  go_wp2_with fail
  refine (toD _ n0 a0 len0 cap0 z0 l0 l20 (unhide L).r).mono ?_
  rintro e u3 ⟨x3, xr, xp, rfl, ox, bb⟩
  replace L := hide ((unhide L).step bb)
  replace OW := hide ((unhide OW).step bb)
  have E3 := hide (And.intro xr xp)
  have O3 := hide ox
  have z3 := bb.size
  clear bb ox xr xp c0 c1
  have bx := one_more u3 (.cells #[.int .i64 x3.room, .slice x3.a x3.ps.length x3.c] 31)
  have KX := hide (Kd.made u3 x3 31)
  have OX := hide ((unhide O3).step bx)
  have UX := hide (fun g e => (own_lt (unhide O3) (g := g) e).2)
  replace L := hide ((unhide L).step bx)
  replace OW := hide ((unhide OW).step bx)
  clear bx O3
  have Z3 := hide (show (u3.alloc (.cells #[.int .i64 x3.room, .slice x3.a x3.ps.length x3.c] 31)).heap.size = u3.heap.size + 1 by simp)
  have g0 := (unhide KX).c0
  have g1 := (unhide KX).c1
  go_wp2_with fail
  refine ((unhide IM) _ x3 (unhide E3).1 (unhide E3).2 (OwD.rd (unhide OX) (by rw [(unhide E3).2]; omega))).mono ?_
  rintro e u4 ⟨a4, c4, rfl, og, bb⟩
  rw [unhide Z3] at og
  replace L := hide ((unhide L).step bb)
  replace OW := hide ((unhide OW).step bb)
  replace KX := hide ((unhide KX).step bb)
  replace OX := hide ((unhide OX).step bb)
  have z4 := bb.size
  rw [unhide Z3] at z4
  have OG := hide og
  have TG := hide og.btw
  clear bb og g0 g1
  go_wp2_with fail
  refine (StrH15.eqO _ a4 _ rs.length c4 _ rs rfl (unhide LEN) (unhide OG).rd (unhide OW).rd).mono ?_
  rintro e u5 ⟨rfl, bb⟩
  replace L := hide ((unhide L).step bb)
  replace OW := hide ((unhide OW).step bb)
  replace KX := hide ((unhide KX).step bb)
  replace OX := hide ((unhide OX).step bb)
  replace OG := hide ((unhide OG).step bb)
  clear bb
  have K0 : u5.cell? ⟨u3.heap.size, 0, none⟩ = some (.int .i64 x3.room) ∧ u5.cell? ⟨u3.heap.size, 1, none⟩ = some (.slice x3.a x3.ps.length x3.c) ∧ u5.cell? ⟨w.heap.size, 0, none⟩ = some (.int .i64 n0) ∧ u5.cell? ⟨w.heap.size, 1, none⟩ = some (.slice a0 len0 cap0) := ⟨(unhide KX).c0, (unhide KX).c1, (unhide L).c0, (unhide L).c1⟩
  go_wp2_with fail
  refine wp_region_held_drew (S := (fun w' => w'.cell? ⟨u3.heap.size, 0, none⟩ = some (.int .i64 x3.room) ∧ w'.cell? ⟨u3.heap.size, 1, none⟩ = some (.slice x3.a x3.ps.length x3.c) ∧ w'.cell? ⟨w.heap.size, 0, none⟩ = some (.int .i64 n0) ∧ w'.cell? ⟨w.heap.size, 1, none⟩ = some (.slice a0 len0 cap0))) (by kernel_rfl) K0 (fun hHeld => ?_)
  refine wpAnyH_take (i := 0) (oi := oZ0) (v := .agg #[.int .i64 x3.room, .slice x3.a x3.ps.length x3.c]) rfl (by kernel_rfl) (by kernel_rfl) (by kernel_rfl) (fun _ _ _ h => h) (Or.inl ⟨by rfl, fun w hSw => ?_⟩) hHeld ?_
  · (try dsimp only at hSw)
    unfold oZ0
    go_simp
  try simp only [oZ0, Act.put, List.setIfInBounds_toArray, List.set_cons_zero, List.set_cons_succ]
  refine wpAnyH_take (i := 1) (oi := oZ1) (v := .agg #[.int .i64 n0, .slice a0 len0 cap0]) rfl (by kernel_rfl) (by kernel_rfl) (by kernel_rfl) (fun _ _ _ h => h) (Or.inl ⟨by rfl, fun w hSw => ?_⟩) hHeld ?_
  · (try dsimp only at hSw)
    unfold oZ1
    go_simp
  try simp only [oZ1, Act.put, List.setIfInBounds_toArray, List.set_cons_zero, List.set_cons_succ]
  refine wpAnyH_ready (rs := [2]) (by kernel_rfl) (by simp) ?_
  refine AllReadyH.cons (o := oZ2) rfl (fun K hK => ?_) AllReadyH.nil
  unfold oZ2
  go_simp
  go_wp2_with fail
  refine (toD u5.drew n0 a0 len0 cap0 z0 l0 l20 (show ReadsF u5.drew a0 z0 from (unhide L).r)).mono ?_
  rintro e u6 ⟨x6, xr, xp, rfl, ox, b6⟩
  have b7 : Below u5.heap.size u5 u6 := ⟨b6.os, b6.tape, b6.output, b6.size, b6.block⟩
  replace L := hide ((unhide L).step b7)
  replace OW := hide ((unhide OW).step b7)
  replace KX := hide ((unhide KX).step b7)
  replace OX := hide ((unhide OX).step b7)
  replace OG := hide ((unhide OG).step b7)
  have E6 := hide (And.intro xr xp)
  have O6 := hide ox
  have K1 : u6.cell? ⟨u3.heap.size, 0, none⟩ = some (.int .i64 x3.room) ∧ u6.cell? ⟨u3.heap.size, 1, none⟩ = some (.slice x3.a x3.ps.length x3.c) ∧ u6.cell? ⟨w.heap.size, 0, none⟩ = some (.int .i64 n0) ∧ u6.cell? ⟨w.heap.size, 1, none⟩ = some (.slice a0 len0 cap0) := ⟨(unhide KX).c0, (unhide KX).c1, (unhide L).c0, (unhide L).c1⟩
  clear b6 b7 ox xr xp
  go_wp2_with fail
  refine hK.out _ _ K1 (fun hHeld => ?_)
  clear hK K
  try simp only [oZ2, Act.put, List.setIfInBounds_toArray, List.set_cons_zero, List.set_cons_succ]
  refine wpAnyH_ready (rs := [3]) (by kernel_rfl) (by simp) ?_
  refine AllReadyH.cons (o := oZ3) rfl (fun K hK => ?_) AllReadyH.nil
  unfold oZ3
  go_simp
  go_wp2_with fail
  refine (eqD u6 x3 x6 (by rw [(unhide E6).1, (unhide E3).1]) (by rw [(unhide E6).2, (unhide E3).2]) (OwD.rd (unhide OX) (by rw [(unhide E3).2]; omega)) (OwD.rd (unhide O6) (by rw [(unhide E6).2]; omega))).mono ?_
  rintro e u7 ⟨rfl, bb⟩
  replace L := hide ((unhide L).step bb)
  replace OW := hide ((unhide OW).step bb)
  replace KX := hide ((unhide KX).step bb)
  replace OX := hide ((unhide OX).step bb)
  replace OG := hide ((unhide OG).step bb)
  have K2 : u7.cell? ⟨u3.heap.size, 0, none⟩ = some (.int .i64 x3.room) ∧ u7.cell? ⟨u3.heap.size, 1, none⟩ = some (.slice x3.a x3.ps.length x3.c) ∧ u7.cell? ⟨w.heap.size, 0, none⟩ = some (.int .i64 n0) ∧ u7.cell? ⟨w.heap.size, 1, none⟩ = some (.slice a0 len0 cap0) := ⟨(unhide KX).c0, (unhide KX).c1, (unhide L).c0, (unhide L).c1⟩
  clear bb O6 E6
  go_wp2_with fail
  refine hK.out _ _ K2 (fun hHeld => ?_)
  clear hK K
  try simp only [oZ3, Act.put, List.setIfInBounds_toArray, List.set_cons_zero, List.set_cons_succ]
  refine wpAnyH_take (i := 4) (oi := oZ4) (v := .bool false) rfl (by kernel_rfl) (by kernel_rfl) (by kernel_rfl) (fun _ _ _ h => h) (Or.inl ⟨by rfl, fun w hSw => ?_⟩) hHeld ?_
  · (try dsimp only at hSw)
    unfold oZ4
    go_simp
  try simp only [oZ4, Act.put, List.setIfInBounds_toArray, List.set_cons_zero, List.set_cons_succ]
  refine wpAnyH_done (by kernel_rfl) ?_ _
  clear K0 K1 K2
  have g0 := (unhide KX).c0
  have g1 := (unhide KX).c1
  go_wp2_with fail
  refine (markD _ u2.heap.size x3 (by rw [(unhide E3).2]; omega) (by have := (unhide KX).lt; omega) (unhide OX)).mono ?_
  rintro e u8 ⟨rfl, _, tn⟩
  have bl := tn.below (unhide OX) (by have := (unhide KX).lt; omega)
  replace L := hide (La.turn (unhide H) (unhide L) bl z2)
  replace OW := hide ((unhide OW).kept (grown_of tn) (fun q e => by
    have e' : (⟨g2, 0, none⟩ : Addr) = q := Option.some.inj e
    subst e'
    exact out_lo (unhide OX) (unhide U2)))
  replace OG := hide ((unhide OG).kept (grown_of tn) (fun q e r => by have := (unhide TG) q e; have := (unhide UX) _ r.symm; omega))
  have z8 := tn.size
  have k7 := (unhide KX).lt
  clear g0 g1 tn bl OX KX
  have k0 : ¬ (1 + 3 * (x3.ps.length : Int) < 0) := by omega
  go_wp2_with fail
  refine (StrH15.eqO _ a4 _ rs.length c4 _ rs rfl (unhide LEN) (unhide OG).rd (unhide OW).rd).mono ?_
  rintro e u9 ⟨rfl, bb⟩
  replace L := hide ((unhide L).step bb)
  replace OW := hide ((unhide OW).step bb)
  replace OG := hide ((unhide OG).step bb)
  have z9 := bb.size
  clear bb
  clear k0
  go_wp2_with fail
  refine (StrH15.markO _ (u3.heap.size + 1) rs.length c4 a4 rs (unhide LEN) (by omega) (unhide OG)).mono ?_
  rintro e u10 ⟨rfl, om, gr⟩
  have bl := below_blkS (lo := u3.heap.size + 1) gr (fun q e => ((unhide TG) q e).1) (by omega)
  replace L := hide (La.turn (unhide H) (unhide L) bl (by omega))
  replace OW := hide ((unhide OW).below bl (fun q e => by
    have e' : (⟨g2, 0, none⟩ : Addr) = q := Option.some.inj e
    subst e'
    have := unhide U2
    exact ⟨Nat.zero_le _, by show g2 < _; omega⟩))
  have OM := hide om
  clear om gr bl OG
  have k1 : ¬ (1 + (rs.length : Int) < 0) := by omega
  have k2 : ((1 + (rs.length : Int)) != (1 + (rs.length : Int))) = false := by simp
  go_wp2_with fail
  refine (StrH15.heldO _ rs.length c4 a4 (unhide LEN) (unhide OM).rd).mono ?_
  rintro e u11 ⟨rfl, bb⟩
  replace L := hide ((unhide L).step bb)
  replace OW := hide ((unhide OW).step bb)
  replace OM := hide ((unhide OM).step bb)
  clear bb
  have c0 := (unhide L).c0
  have c1 := (unhide L).c1
  go_wp2_with fail
  refine (toD _ n0 a0 len0 cap0 z0 l0 l20 (unhide L).r).mono ?_
  rintro e u12 ⟨x12, xr, xp, rfl, ox, bb⟩
  replace L := hide ((unhide L).step bb)
  replace OW := hide ((unhide OW).step bb)
  replace OM := hide ((unhide OM).step bb)
  have E12 := hide (And.intro xr xp)
  have O12 := hide ox
  clear bb ox xr xp c0 c1
  go_wp2_with fail
  refine ((unhide IM) u12 x12 (unhide E12).1 (unhide E12).2 (OwD.rd (unhide O12) (by rw [(unhide E12).2]; omega))).mono ?_
  rintro e u13 ⟨a6, c6, rfl, oh, bb⟩
  replace L := hide ((unhide L).step bb)
  replace OW := hide ((unhide OW).step bb)
  replace OM := hide ((unhide OM).step bb)
  have OH := hide oh
  clear bb oh O12 E12
  go_wp2_with fail
  refine (StrH15.eqO _ a6 _ rs.length c6 _ rs rfl (unhide LEN) (unhide OH).rd (unhide OW).rd).mono ?_
  rintro e u14 ⟨rfl, bb⟩
  replace L := hide ((unhide L).step bb)
  replace OW := hide ((unhide OW).step bb)
  replace OM := hide ((unhide OM).step bb)
  clear bb
  go_wp2_with fail
  refine (StrH15.heldO _ rs.length c4 a4 (unhide LEN) (unhide OM).rd).mono ?_
  rintro e u15 ⟨rfl, bb⟩
  replace L := hide ((unhide L).step bb)
  replace OW := hide ((unhide OW).step bb)
  replace OM := hide ((unhide OM).step bb)
  clear bb
  go_wp2
  go_ret
  exact ⟨rfl, (unhide L).b⟩

set_option maxRecDepth 100000 in
theorem lifted (os : Os) (started : os.Started) (H : Type) (enc : TypeId × Value → H) :
    ReturnsInHanded {} Try.checked os 3 .any (Rows.fnExactSegReadSpec.pre6 enc Try.prog Try.f3 Rows.fnExactSegReadRow.domain false) (Rows.fnExactSegReadSpec.post enc Try.prog Try.f3 false true false false) := by
  refine returnsInHanded_of_change (C := Try.checked) own started (by kernel_rfl) Try.func3
    (ChangeSpec.witness6 (enc := enc) (C := Try.checked) false ⟨#[], #[.agg #[.int .i64 0, .slice none 0 0], .int .i64 0], []⟩ 8 (by kernel_rfl) (by kernel_rfl) (by kernel_rfl) (by kernel_rfl)) ?_
  intro W base args ds gs before hval0 hW hcnd _
  have hval : ∀ (j : Nat) t v, Try.f3.params[j]? = some t → args[j]? = some v → Value.okWide Try.prog W .any base t v := hval0
  have hW' := hW
  obtain ⟨p, q, hA0, hV, rfl, hfz, hnd⟩ := hW
  have hA : DataW.TrodAll enc Try.prog W 0 (fun _ => true) true Try.f3.params.toList args.toList ds p := hA0
  rw [Try.params3] at hA hval
  obtain ⟨v0, vs0, d0, ds0, p0, q0, hargs, rfl, rfl, h0, r0⟩ := trodAll_cons hA
  obtain ⟨v1, vs1, d1, ds1, p1, q1, rfl, rfl, rfl, h1, r1⟩ := trodAll_cons r0
  obtain ⟨rfl, rfl, rfl⟩ := trodAll_nil r1
  obtain rfl : args = #[v0, v1] := by cases args; simp_all
  obtain ⟨rfl, rfl⟩ := trodVars_none hV
  have k0 := h0
  have lt0 : ∀ x ∈ p0, x.block < W.heap.size := by obtain ⟨m, hm⟩ := k0; exact DataW.trod_lt m _ _ _ hm
  obtain ⟨n0, a0, len0, cap0, z0, rfl, l0, g0, w0, f0, _⟩ := OpensF14.open_disk (hval 0 24 v0 rfl rfl) h0
  obtain ⟨a1, rfl, rfl, rfl, w1⟩ := open_int Try.underlying3 (hval 1 3 v1 rfl rfl) h1
  clear hA0 hval0
  refine (walk n0 a0 len0 cap0 z0 a1 W l0 g0 w0 f0 w1).mono fun e W' ⟨he, bel⟩ => ?_
  subst he
  exact ⟨_, rfl, _, _, _, [], _, [], hW', trodAll_mk1 (shut_bool Try.underlying4 _), (trodAll_cons_mk (Below.trod laidOut (by kernel_rfl) (of_decide_eq_true (by kernel_rfl)) k0 bel lt0) (trodAll_cons_mk (shut_int Try.underlying3 w1) trodAll_mk0)), rfl, bel.frame _, fun h => by cases h⟩

theorem over : Rows.fnExactSegReadRow.holds Try.pinned (OpenSpec.ofChange Rows.fnExactSegReadSpec) :=
  OpenClaim.holds_of_wide 3 Try.f3 rfl rfl rfl rfl rfl rfl rfl ⟨rfl, rfl, rfl, rfl, rfl⟩ rfl rfl rfl rfl rfl (by kernel_rfl) Try.func3 (by kernel_rfl)
    (of_decide_eq_true (by kernel_rfl)) (by unfold Func.isWrapper; first | (rw [if_pos (by decide +kernel)]; kernel_rfl) | (rw [if_neg (by decide +kernel)]; exact ⟨rfl, rfl⟩))
    (fun os started H enc _ => lifted os started H enc)

/-- The statement. -/
theorem proved : Rows.FnExactSegReadSaid := over
#print axioms proved
end Go.Proofs.Yticofefdbjihiaa.fnExactSegRead
