/- At any arguments the program's SegLate answers as its model, writes into no argument, and its answer is its own. No condition. -/
import Derived.Test.YticofefdbjihiaaRows
import Derived.Test.YticofefdbjihiaaFG1
import Derived.Test.YticofefdbjihiaaFG2
import Derived.Test.YticofefdbjihiaaFG3
import Derived.Test.YticofefdbjihiaaFG4
import Derived.Test.YticofefdbjihiaaFG5
import Derived.Test.YticofefdbjihiaaFG6
import Derived.Test.YticofefdbjihiaaFG7
import Derived.Test.YticofefdbjihiaaFG8
import Derived.Test.YticofefdbjihiaaFG9
import Derived.ShutString
import Derived.ChangeOld
import Derived.Below
namespace Go.Proofs.Yticofefdbjihiaa.fnExactSegLate
open Go.ChangeShapes Go.WideShapes Go.ChangeAt Go.RowKit
open Go.ChangeMaps (open_string shut_string)
set_option linter.unusedVariables false
set_option linter.unusedSimpArgs false

theorem own : ownKnob Try.prog.godebug = none := by kernel_rfl
theorem laidOut : laidOutB Try.prog = true := by kernel_rfl

open Fil14 OpensF14 DiskH14 DkH14 SCom14 Law14 SDk14 SOk14 SRd14 SLate15
open Len15 (len_late)

abbrev oZ0 : Oper := { dst := some 52, op := Go.Op.load 31 (Go.Operand.tmp 10), type := 31, pos := "exact.go:4320", after := #[], guard := none }
abbrev oZ1 : Oper := { dst := some 53, op := Go.Op.load 24 (Go.Operand.tmp 3), type := 24, pos := "exact.go:4320", after := #[], guard := none }
abbrev oZ2 : Oper := { dst := some 54, op := Go.Op.call { callee := Go.Callee.value (Go.Operand.func 11), args := #[Go.Operand.tmp 53], argTypes := #[24] }, type := 31, pos := "exact.go:4320", after := #[{ on := 1, ground := Go.Ground.data }], guard := none }
abbrev oZ3 : Oper := { dst := some 55, op := Go.Op.call { callee := Go.Callee.value (Go.Operand.func 14), args := #[Go.Operand.tmp 52, Go.Operand.tmp 54], argTypes := #[31, 31] }, type := 4, pos := "exact.go:4320", after := #[{ on := 0, ground := Go.Ground.data }, { on := 2, ground := Go.Ground.data }, { on := 2, ground := Go.Ground.chain }], guard := none }
abbrev oZ4 : Oper := { dst := some 56, op := Go.Op.unOp Go.UnOp.not 4 (Go.Operand.tmp 55), type := 4, pos := "exact.go:4320", after := #[{ on := 3, ground := Go.Ground.data }], guard := none }


set_option maxRecDepth 100000 in
set_option maxHeartbeats 8000000 in
theorem walk (n0 : Int) (a0 : Option Addr) (len0 cap0 : Nat) (z0 : List Fil14.TF) (a1 : Int) (s2 : ByteArray) (w : World) (l0 : z0.length = len0) (g0 : len0 ≤ 9223372036854775807) (w0 : Fil14.ReadsF w a0 z0) (f0 : OpensF14.FitF z0) (w1 : (Lit.int .i64 a1).wf = true) (w2 : s2.size ≤ maxLen) :
    Calls Try.prog 5 #[.agg #[.int .i64 n0, .slice a0 len0 cap0], .int .i64 a1, .string s2] w fun e w' => e = .returned (.bool true) ∧ Below w.heap.size w w' := by
  have H := hide w0
  have L := hide (La.start (k := n0) (len := len0) (cap := cap0) w0 24)
  clear w0
  by_cases ss : (s2.size : Int) > 1048576
  · have ss' : (1048576 : Int) < s2.size := ss
    go_enter Try.func5, Try.ntmps5
    go_wp2
    go_ret
    exact ⟨rfl, (unhide L).b⟩
  go_enter Try.func5, Try.ntmps5
  go_wp2_with fail
  refine (szD _ n0 a0 len0 cap0 z0 l0 g0 (unhide L).r f0).mono ?_
  rintro e u0 ⟨r, rfl, hr, bb⟩
  replace L := hide ((unhide L).step bb)
  clear bb
  rcases hr with rfl | ⟨r1, l20, sz⟩
  · go_wp2
    go_ret
    exact ⟨rfl, (unhide L).b⟩
  have rn : ¬ r < 0 := by omega
  clear r1
  have SP := hide (fun u (x : Dx) (h1 : x.room = n0) (h2 : x.ps = z0) (hr : RdD u x) => (sSegLate u x a1 s2 hr (by rw [h2]; exact sz) (by omega)).mono (fun e w' h => show ToldD (lateD n0 z0 a1 s2) u e w' by rw [← h1, ← h2]; exact h))
  have IM := hide (fun u (x : Dx) (h1 : x.room = n0) (h2 : x.ps = z0) (hr : RdD u x) => (ILate15.iSegLate u x a1 s2 hr (by rw [h2]; exact sz) (by omega) w1).mono (fun e w' h => show ToldD (lateD n0 z0 a1 s2) u e w' by rw [← h1, ← h2]; exact h))
  have LEN := hide (len_late (room := n0) (ps := z0) a1 s2 (by omega))
  generalize lateD n0 z0 a1 s2 = rr at *
  obtain ⟨⟨rm, rp⟩, rc⟩ := rr
  have q1 : (rc != rc) = false := by simp
  have c0 := (unhide L).c0
  have c1 := (unhide L).c1
  go_wp2_with fail
  refine (toD _ n0 a0 len0 cap0 z0 l0 l20 (unhide L).r).mono ?_
  rintro e u1 ⟨x1, xr, xp, rfl, ox, bb⟩
  replace L := hide ((unhide L).step bb)
  have E1 := hide (And.intro xr xp)
  have O1 := hide ox
  clear bb ox xr xp c0 c1
  go_wp2_with fail
  refine ((unhide SP) u1 x1 (unhide E1).1 (unhide E1).2 (OwD.rd (unhide O1) (by rw [(unhide E1).2]; omega))).mono ?_
  rintro e u2 ⟨y2, hy2, rfl, oy, bb⟩
  replace L := hide ((unhide L).step bb)
  obtain ⟨hm2, hp2⟩ : y2.room = rm ∧ y2.ps = rp := by simpa using hy2
  have Y2 := hide (And.intro hm2 hp2)
  have rw2 := OwD.rd oy (by rw [hp2]; exact unhide LEN)
  have UW := hide (fun g e => (rw2.r g e).1)
  have bw := one_more u2 (.cells #[.int .i64 y2.room, .slice y2.a y2.ps.length y2.c] 31)
  have RW := hide (rw2.below bw)
  have KW := hide (Kd.made u2 y2 31)
  replace L := hide ((unhide L).step bw)
  have z2 : w.heap.size < u2.heap.size + 1 := by have := (unhide L).s; simpa using this
  have Z2 := hide (show (u2.alloc (.cells #[.int .i64 y2.room, .slice y2.a y2.ps.length y2.c] 31)).heap.size = u2.heap.size + 1 by simp)
  clear bb bw rw2 hy2 hm2 hp2 oy O1 E1
  have c0 := (unhide L).c0
  have c1 := (unhide L).c1
  go_wp2_with fail
  refine (toD _ n0 a0 len0 cap0 z0 l0 l20 (unhide L).r).mono ?_
  rintro e u3 ⟨x3, xr, xp, rfl, ox, bb⟩
  replace L := hide ((unhide L).step bb)
  replace RW := hide ((unhide RW).below bb)
  replace KW := hide ((unhide KW).step bb)
  have E3 := hide (And.intro xr xp)
  have O3 := hide ox
  clear bb ox xr xp c0 c1
  have bx := one_more u3 (.cells #[.int .i64 x3.room, .slice x3.a x3.ps.length x3.c] 31)
  have KX := hide (Kd.made u3 x3 31)
  have OX := hide ((unhide O3).step bx)
  have UX := hide (fun g e => (own_lt (unhide O3) (g := g) e).2)
  have z3 : u2.heap.size + 1 ≤ u3.heap.size := by have := (unhide KW).lt; omega
  replace L := hide ((unhide L).step bx)
  replace RW := hide ((unhide RW).below bx)
  replace KW := hide ((unhide KW).step bx)
  have Z3 := hide (show (u3.alloc (.cells #[.int .i64 x3.room, .slice x3.a x3.ps.length x3.c] 31)).heap.size = u3.heap.size + 1 by simp)
  rw [unhide Z2] at OX
  clear bx O3
  have g0 := (unhide KX).c0
  have g1 := (unhide KX).c1
  go_wp2_with fail
  refine ((unhide IM) _ x3 (unhide E3).1 (unhide E3).2 (OwD.rd (unhide OX) (by rw [(unhide E3).2]; omega))).mono ?_
  rintro e u4 ⟨y4, hy4, rfl, og, bb⟩
  rw [unhide Z3] at og
  replace L := hide ((unhide L).step bb)
  replace RW := hide ((unhide RW).below bb)
  replace KW := hide ((unhide KW).step bb)
  replace OX := hide ((unhide OX).step bb)
  replace KX := hide ((unhide KX).step bb)
  obtain ⟨hm4, hp4⟩ : y4.room = rm ∧ y4.ps = rp := by simpa using hy4
  have Y4 := hide (And.intro hm4 hp4)
  have bg := one_more u4 (.cells #[.int .i64 y4.room, .slice y4.a y4.ps.length y4.c] 31)
  have z4 : u3.heap.size + 1 ≤ u4.heap.size := by have := bb.size; rw [unhide Z3] at this; exact this
  have UG := hide (fun g e => (own_lt og (g := g) e).2)
  have OG := hide (OwD.step og bg)
  have KG := hide (Kd.made u4 y4 31)
  replace L := hide ((unhide L).step bg)
  replace RW := hide ((unhide RW).below bg)
  replace KW := hide ((unhide KW).step bg)
  replace OX := hide ((unhide OX).step bg)
  replace KX := hide ((unhide KX).step bg)
  clear bb bg og hy4 hm4 hp4 g0 g1
  have g0 := (unhide KG).c0
  have g1 := (unhide KG).c1
  have v0 := (unhide KW).c0
  have v1 := (unhide KW).c1
  go_wp2_with fail
  refine (eqD _ y4 y2 (by rw [(unhide Y2).1, (unhide Y4).1]) (by rw [(unhide Y2).2, (unhide Y4).2]) (OwD.rd (unhide OG) (by rw [(unhide Y4).2]; exact unhide LEN)) (unhide RW)).mono ?_
  rintro e u5 ⟨rfl, bb⟩
  clear g0 g1 v0 v1
  replace L := hide ((unhide L).step bb)
  replace RW := hide ((unhide RW).below bb)
  replace KW := hide ((unhide KW).step bb)
  replace OX := hide ((unhide OX).step bb)
  replace KX := hide ((unhide KX).step bb)
  replace OG := hide ((unhide OG).step bb)
  replace KG := hide ((unhide KG).step bb)
  clear bb
  have K0 : u5.cell? ⟨u3.heap.size, 0, none⟩ = some (.int .i64 x3.room) ∧ u5.cell? ⟨u3.heap.size, 1, none⟩ = some (.slice x3.a x3.ps.length x3.c) ∧ u5.cell? ⟨w.heap.size, 0, none⟩ = some (.int .i64 n0) ∧ u5.cell? ⟨w.heap.size, 1, none⟩ = some (.slice a0 len0 cap0) := ⟨(unhide KX).c0, (unhide KX).c1, (unhide L).c0, (unhide L).c1⟩
  go_wp2_with fail
  refine wp_region_held_drew (S := (fun w' => w'.cell? ⟨u3.heap.size, 0, none⟩ = some (.int .i64 x3.room) ∧ w'.cell? ⟨u3.heap.size, 1, none⟩ = some (.slice x3.a x3.ps.length x3.c) ∧ w'.cell? ⟨w.heap.size, 0, none⟩ = some (.int .i64 n0) ∧ w'.cell? ⟨w.heap.size, 1, none⟩ = some (.slice a0 len0 cap0))) (by kernel_rfl) K0 (fun hHeld => ?_)
  refine wpAnyH_take (i := 0) (oi := oZ0) (v := .agg #[.int .i64 x3.room, .slice x3.a x3.ps.length x3.c]) rfl (by kernel_rfl) (by kernel_rfl) (by kernel_rfl) (fun _ _ _ h => h) (Or.inl ⟨by rfl, fun w hSw => ?_⟩) hHeld ?_
  · (try dsimp only at hSw)
    unfold oZ0
    go_simp
  try simp only [oZ0, Act.put, List.setIfInBounds_toArray, List.set_cons_zero, List.set_cons_succ]
  refine wpAnyH_take (i := 1) (oi := oZ1) (v := .agg #[.int .i64 n0, .slice a0 len0 cap0]) rfl (by kernel_rfl) (by kernel_rfl) (by kernel_rfl) (fun _ _ _ h => h) (Or.inl ⟨by rfl, fun w hSw => ?_⟩) hHeld ?_
  · (try dsimp only at hSw)
    unfold oZ1
    go_simp
  try simp only [oZ1, Act.put, List.setIfInBounds_toArray, List.set_cons_zero, List.set_cons_succ]
  refine wpAnyH_ready (rs := [2]) (by kernel_rfl) (by simp) ?_
  refine AllReadyH.cons (o := oZ2) rfl (fun K hK => ?_) AllReadyH.nil
  unfold oZ2
  go_simp
  go_wp2_with fail
  refine (toD u5.drew n0 a0 len0 cap0 z0 l0 l20 (show ReadsF u5.drew a0 z0 from (unhide L).r)).mono ?_
  rintro e u6 ⟨x6, xr, xp, rfl, ox, b6⟩
  have b7 : Below u5.heap.size u5 u6 := ⟨b6.os, b6.tape, b6.output, b6.size, b6.block⟩
  replace L := hide ((unhide L).step b7)
  replace RW := hide ((unhide RW).below b7)
  replace KW := hide ((unhide KW).step b7)
  replace OX := hide ((unhide OX).step b7)
  replace KX := hide ((unhide KX).step b7)
  replace OG := hide ((unhide OG).step b7)
  replace KG := hide ((unhide KG).step b7)
  have E6 := hide (And.intro xr xp)
  have O6 := hide ox
  have K1 : u6.cell? ⟨u3.heap.size, 0, none⟩ = some (.int .i64 x3.room) ∧ u6.cell? ⟨u3.heap.size, 1, none⟩ = some (.slice x3.a x3.ps.length x3.c) ∧ u6.cell? ⟨w.heap.size, 0, none⟩ = some (.int .i64 n0) ∧ u6.cell? ⟨w.heap.size, 1, none⟩ = some (.slice a0 len0 cap0) := ⟨(unhide KX).c0, (unhide KX).c1, (unhide L).c0, (unhide L).c1⟩
  clear b6 b7 ox xr xp
  go_wp2_with fail
  refine hK.out _ _ K1 (fun hHeld => ?_)
  clear hK K
  try simp only [oZ2, Act.put, List.setIfInBounds_toArray, List.set_cons_zero, List.set_cons_succ]
  refine wpAnyH_ready (rs := [3]) (by kernel_rfl) (by simp) ?_
  refine AllReadyH.cons (o := oZ3) rfl (fun K hK => ?_) AllReadyH.nil
  unfold oZ3
  go_simp
  go_wp2_with fail
  refine (eqD u6 x3 x6 (by rw [(unhide E6).1, (unhide E3).1]) (by rw [(unhide E6).2, (unhide E3).2]) (OwD.rd (unhide OX) (by rw [(unhide E3).2]; omega)) (OwD.rd (unhide O6) (by rw [(unhide E6).2]; omega))).mono ?_
  rintro e u7 ⟨rfl, bb⟩
  replace L := hide ((unhide L).step bb)
  replace RW := hide ((unhide RW).below bb)
  replace KW := hide ((unhide KW).step bb)
  replace OX := hide ((unhide OX).step bb)
  replace KX := hide ((unhide KX).step bb)
  replace OG := hide ((unhide OG).step bb)
  replace KG := hide ((unhide KG).step bb)
  have K2 : u7.cell? ⟨u3.heap.size, 0, none⟩ = some (.int .i64 x3.room) ∧ u7.cell? ⟨u3.heap.size, 1, none⟩ = some (.slice x3.a x3.ps.length x3.c) ∧ u7.cell? ⟨w.heap.size, 0, none⟩ = some (.int .i64 n0) ∧ u7.cell? ⟨w.heap.size, 1, none⟩ = some (.slice a0 len0 cap0) := ⟨(unhide KX).c0, (unhide KX).c1, (unhide L).c0, (unhide L).c1⟩
  clear bb O6 E6
  go_wp2_with fail
  refine hK.out _ _ K2 (fun hHeld => ?_)
  clear hK K
  try simp only [oZ3, Act.put, List.setIfInBounds_toArray, List.set_cons_zero, List.set_cons_succ]
  refine wpAnyH_take (i := 4) (oi := oZ4) (v := .bool false) rfl (by kernel_rfl) (by kernel_rfl) (by kernel_rfl) (fun _ _ _ h => h) (Or.inl ⟨by rfl, fun w hSw => ?_⟩) hHeld ?_
  · (try dsimp only at hSw)
    unfold oZ4
    go_simp
  try simp only [oZ4, Act.put, List.setIfInBounds_toArray, List.set_cons_zero, List.set_cons_succ]
  refine wpAnyH_done (by kernel_rfl) ?_ _
  clear K0 K1 K2
  have g0 := (unhide KX).c0
  have g1 := (unhide KX).c1
  go_wp2_with fail
  refine (markD _ (u2.heap.size + 1) x3 (by rw [(unhide E3).2]; omega) (by have := (unhide KX).lt; omega) (unhide OX)).mono ?_
  rintro e u8 ⟨rfl, _, tn⟩
  have bl := tn.below (unhide OX) (by have := (unhide KX).lt; omega)
  replace L := hide (La.turn (unhide H) (unhide L) bl z2)
  replace RW := hide (rd_turn (unhide RW) tn (fun g e => out_lo (unhide OX) (by have := (unhide UW) g e; omega)))
  replace KW := hide ((unhide KW).turn tn (out_lo (unhide OX) (by omega)))
  replace OG := hide (own_turn (unhide OG) tn (fun g e q => by have := (own_lt (unhide OG) e).1; have := (unhide UX) g q.symm; omega))
  replace KG := hide ((unhide KG).turn tn (fun e => by have := (unhide UX) _ e.symm; omega))
  clear g0 g1 tn bl OX KX
  have k0 : ¬ (1 + 3 * (x3.ps.length : Int) < 0) := by omega
  have g0 := (unhide KG).c0
  have g1 := (unhide KG).c1
  have v0 := (unhide KW).c0
  have v1 := (unhide KW).c1
  go_wp2_with fail
  refine (eqD _ y4 y2 (by rw [(unhide Y2).1, (unhide Y4).1]) (by rw [(unhide Y2).2, (unhide Y4).2]) (OwD.rd (unhide OG) (by rw [(unhide Y4).2]; exact unhide LEN)) (unhide RW)).mono ?_
  rintro e u9 ⟨rfl, bb⟩
  clear g0 g1 v0 v1
  replace L := hide ((unhide L).step bb)
  replace RW := hide ((unhide RW).below bb)
  replace KW := hide ((unhide KW).step bb)
  replace OG := hide ((unhide OG).step bb)
  replace KG := hide ((unhide KG).step bb)
  clear bb
  clear k0
  have g0 := (unhide KG).c0
  have g1 := (unhide KG).c1
  go_wp2_with fail
  refine (markD _ (u3.heap.size + 1) y4 (by rw [(unhide Y4).2]; exact unhide LEN) (by have := (unhide KG).lt; omega) (unhide OG)).mono ?_
  rintro e u10 ⟨rfl, om, tn⟩
  have bl := tn.below (unhide OG) (by have := (unhide KG).lt; omega)
  replace L := hide (La.turn (unhide H) (unhide L) bl (by omega))
  replace RW := hide (rd_turn (unhide RW) tn (fun g e => out_lo (unhide OG) (by have := (unhide UW) g e; omega)))
  replace KW := hide ((unhide KW).turn tn (out_lo (unhide OG) (by omega)))
  replace KG := hide ((unhide KG).turn tn (fun e => by have := (unhide UG) _ e.symm; omega))
  have OM := hide om
  clear g0 g1 tn bl om OG
  have k1 : ¬ (1 + 3 * (y4.ps.length : Int) < 0) := by omega
  have k2 : ((1 + 3 * (y4.ps.length : Int)) != (1 + 3 * (y4.ps.length : Int))) = false := by simp
  have g0 := (unhide KG).c0
  have g1 := (unhide KG).c1
  go_wp2_with fail
  refine (heldD _ _ y4 (by rw [(unhide Y4).2]; exact unhide LEN) (unhide OM)).mono ?_
  rintro e u11 ⟨rfl, bb⟩
  clear g0 g1
  replace L := hide ((unhide L).step bb)
  replace RW := hide ((unhide RW).below bb)
  replace KW := hide ((unhide KW).step bb)
  replace OM := hide ((unhide OM).step bb)
  replace KG := hide ((unhide KG).step bb)
  clear bb
  have c0 := (unhide L).c0
  have c1 := (unhide L).c1
  go_wp2_with fail
  refine (toD _ n0 a0 len0 cap0 z0 l0 l20 (unhide L).r).mono ?_
  rintro e u12 ⟨x12, xr, xp, rfl, ox, bb⟩
  replace L := hide ((unhide L).step bb)
  replace RW := hide ((unhide RW).below bb)
  replace KW := hide ((unhide KW).step bb)
  replace OM := hide ((unhide OM).step bb)
  replace KG := hide ((unhide KG).step bb)
  have E12 := hide (And.intro xr xp)
  have O12 := hide ox
  clear bb ox xr xp c0 c1
  go_wp2_with fail
  refine ((unhide IM) u12 x12 (unhide E12).1 (unhide E12).2 (OwD.rd (unhide O12) (by rw [(unhide E12).2]; omega))).mono ?_
  rintro e u13 ⟨y6, hy6, rfl, oh, bb⟩
  replace L := hide ((unhide L).step bb)
  replace RW := hide ((unhide RW).below bb)
  replace KW := hide ((unhide KW).step bb)
  replace OM := hide ((unhide OM).step bb)
  replace KG := hide ((unhide KG).step bb)
  obtain ⟨hm6, hp6⟩ : y6.room = rm ∧ y6.ps = rp := by simpa using hy6
  have Y6 := hide (And.intro hm6 hp6)
  have bh := one_more u13 (.cells #[.int .i64 y6.room, .slice y6.a y6.ps.length y6.c] 31)
  have RH := hide ((OwD.rd oh (by rw [hp6]; exact unhide LEN)).below bh)
  have KH := hide (Kd.made u13 y6 31)
  replace L := hide ((unhide L).step bh)
  replace RW := hide ((unhide RW).below bh)
  replace KW := hide ((unhide KW).step bh)
  replace OM := hide ((unhide OM).step bh)
  replace KG := hide ((unhide KG).step bh)
  clear bb bh oh hy6 hm6 hp6 O12 E12
  have g0 := (unhide KH).c0
  have g1 := (unhide KH).c1
  have v0 := (unhide KW).c0
  have v1 := (unhide KW).c1
  go_wp2_with fail
  refine (eqD _ y6 y2 (by rw [(unhide Y2).1, (unhide Y6).1]) (by rw [(unhide Y2).2, (unhide Y6).2]) (unhide RH) (unhide RW)).mono ?_
  rintro e u14 ⟨rfl, bb⟩
  clear g0 g1 v0 v1
  replace L := hide ((unhide L).step bb)
  replace RW := hide ((unhide RW).below bb)
  replace KW := hide ((unhide KW).step bb)
  replace OM := hide ((unhide OM).step bb)
  replace KG := hide ((unhide KG).step bb)
  replace RH := hide ((unhide RH).below bb)
  replace KH := hide ((unhide KH).step bb)
  clear bb
  have g0 := (unhide KG).c0
  have g1 := (unhide KG).c1
  go_wp2_with fail
  refine (heldD _ _ y4 (by rw [(unhide Y4).2]; exact unhide LEN) (unhide OM)).mono ?_
  rintro e u15 ⟨rfl, bb⟩
  clear g0 g1
  replace L := hide ((unhide L).step bb)
  replace RW := hide ((unhide RW).below bb)
  replace KW := hide ((unhide KW).step bb)
  replace OM := hide ((unhide OM).step bb)
  replace KG := hide ((unhide KG).step bb)
  clear bb
  go_wp2
  go_ret
  exact ⟨rfl, (unhide L).b⟩

set_option maxRecDepth 100000 in
theorem lifted (os : Os) (started : os.Started) (H : Type) (enc : TypeId × Value → H) :
    ReturnsInHanded {} Try.checked os 5 .any (Rows.fnExactSegLateSpec.pre6 enc Try.prog Try.f5 Rows.fnExactSegLateRow.domain false) (Rows.fnExactSegLateSpec.post enc Try.prog Try.f5 false true false false) := by
  refine returnsInHanded_of_change (C := Try.checked) own started (by kernel_rfl) Try.func5
    (ChangeSpec.witness6 (enc := enc) (C := Try.checked) false ⟨#[], #[.agg #[.int .i64 0, .slice none 0 0], .int .i64 0, .string ByteArray.empty], []⟩ 8 (by kernel_rfl) (by kernel_rfl) (by kernel_rfl) (by kernel_rfl)) ?_
  intro W base args ds gs before hval0 hW hcnd _
  have hval : ∀ (j : Nat) t v, Try.f5.params[j]? = some t → args[j]? = some v → Value.okWide Try.prog W .any base t v := hval0
  have hW' := hW
  obtain ⟨p, q, hA0, hV, rfl, hfz, hnd⟩ := hW
  have hA : DataW.TrodAll enc Try.prog W 0 (fun _ => true) true Try.f5.params.toList args.toList ds p := hA0
  rw [Try.params5] at hA hval
  obtain ⟨v0, vs0, d0, ds0, p0, q0, hargs, rfl, rfl, h0, r0⟩ := trodAll_cons hA
  obtain ⟨v1, vs1, d1, ds1, p1, q1, rfl, rfl, rfl, h1, r1⟩ := trodAll_cons r0
  obtain ⟨v2, vs2, d2, ds2, p2, q2, rfl, rfl, rfl, h2, r2⟩ := trodAll_cons r1
  obtain ⟨rfl, rfl, rfl⟩ := trodAll_nil r2
  obtain rfl : args = #[v0, v1, v2] := by cases args; simp_all
  obtain ⟨rfl, rfl⟩ := trodVars_none hV
  have k0 := h0
  have lt0 : ∀ x ∈ p0, x.block < W.heap.size := by obtain ⟨m, hm⟩ := k0; exact DataW.trod_lt m _ _ _ hm
  obtain ⟨n0, a0, len0, cap0, z0, rfl, l0, g0, w0, f0, _⟩ := OpensF14.open_disk (hval 0 24 v0 rfl rfl) h0
  obtain ⟨a1, rfl, rfl, rfl, w1⟩ := open_int Try.underlying3 (hval 1 3 v1 rfl rfl) h1
  obtain ⟨s2, rfl, rfl, rfl, w2⟩ := open_string Try.underlying9 (hval 2 9 v2 rfl rfl) h2
  clear hA0 hval0
  refine (walk n0 a0 len0 cap0 z0 a1 s2 W l0 g0 w0 f0 w1 w2).mono fun e W' ⟨he, bel⟩ => ?_
  subst he
  exact ⟨_, rfl, _, _, _, [], _, [], hW', trodAll_mk1 (shut_bool Try.underlying4 _), (trodAll_cons_mk (Below.trod laidOut (by kernel_rfl) (of_decide_eq_true (by kernel_rfl)) k0 bel lt0) (trodAll_cons_mk (shut_int Try.underlying3 w1) (trodAll_cons_mk (shut_string Try.underlying9 w2) trodAll_mk0))), rfl, bel.frame _, fun h => by cases h⟩

theorem over : Rows.fnExactSegLateRow.holds Try.pinned (OpenSpec.ofChange Rows.fnExactSegLateSpec) :=
  OpenClaim.holds_of_wide 5 Try.f5 rfl rfl rfl rfl rfl rfl rfl ⟨rfl, rfl, rfl, rfl, rfl⟩ rfl rfl rfl rfl rfl (by kernel_rfl) Try.func5 (by kernel_rfl)
    (of_decide_eq_true (by kernel_rfl)) (by unfold Func.isWrapper; first | (rw [if_pos (by decide +kernel)]; kernel_rfl) | (rw [if_neg (by decide +kernel)]; exact ⟨rfl, rfl⟩))
    (fun os started H enc _ => lifted os started H enc)

/-- The statement. -/
theorem proved : Rows.FnExactSegLateSaid := over
#print axioms proved
end Go.Proofs.Yticofefdbjihiaa.fnExactSegLate
