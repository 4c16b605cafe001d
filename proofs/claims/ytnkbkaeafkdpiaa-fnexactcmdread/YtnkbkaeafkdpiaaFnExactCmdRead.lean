/- At any bytes the program's CmdRead answers as its model, writes into no argument, and its answer is its own. No condition. -/
import Derived.Test.YtnkbkaeafkdpiaaRows
import Derived.Test.YtnkbkaeafkdpiaaByteH
import Derived.Test.YtnkbkaeafkdpiaaVOB
import Derived.Test.YtnkbkaeafkdpiaaInts
import Derived.Test.YtnkbkaeafkdpiaaSBytes
import Derived.Test.YtnkbkaeafkdpiaaLaw11
import Derived.Test.YtnkbkaeafkdpiaaLawS11
import Derived.Test.YtnkbkaeafkdpiaaVOI
import Derived.Test.YtnkbkaeafkdpiaaLaw12
import Derived.Test.YtnkbkaeafkdpiaaSPut11
import Derived.Test.YtnkbkaeafkdpiaaIRd11
import Derived.Test.YtnkbkaeafkdpiaaSPuts11
import Derived.Test.YtnkbkaeafkdpiaaSGets11
import Derived.Test.YtnkbkaeafkdpiaaIGets11
import Derived.Test.YtnkbkaeafkdpiaaTup5
import Derived.Test.YtnkbkaeafkdpiaaLots
import Derived.Test.YtnkbkaeafkdpiaaSCmd
import Derived.Test.YtnkbkaeafkdpiaaICmd10
import Derived.Test.YtnkbkaeafkdpiaaICall10
import Derived.Test.YtnkbkaeafkdpiaaIInto12
import Derived.Test.YtnkbkaeafkdpiaaIPuts11
import Derived.Test.YtnkbkaeafkdpiaaSPack12
import Derived.Test.YtnkbkaeafkdpiaaSPackC12
import Derived.Test.YtnkbkaeafkdpiaaIMsg12
import Derived.Test.YtnkbkaeafkdpiaaIPack12
import Derived.Test.YtnkbkaeafkdpiaaSRead12
import Derived.Test.YtnkbkaeafkdpiaaIRead12
import Derived.Test.YtnkbkaeafkdpiaaSReadC12
import Derived.Test.YtnkbkaeafkdpiaaRT11
import Derived.Test.YtnkbkaeafkdpiaaRT12
import Derived.Test.YtnkbkaeafkdpiaaIPackC12
import Derived.Test.YtnkbkaeafkdpiaaIReadC12
import Derived.ShutString
import Derived.ChangeOld
import Derived.Below
namespace Go.Proofs.Ytnkbkaeafkdpiaa.fnExactCmdRead
open Go.ChangeShapes Go.WideShapes Go.ChangeAt Go.RowKit
open Go.ChangeMaps (open_string shut_string)
set_option linter.unusedVariables false
set_option linter.unusedSimpArgs false

theorem own : ownKnob Try.prog.godebug = none := by kernel_rfl
theorem laidOut : laidOutB Try.prog = true := by kernel_rfl

open SBytes SReadC12 SRead12

theorem ans_len (xs : List Int) : (readC xs).2.1.length ≤ 1048576 := by
  unfold readC
  split
  · exact Nat.le_trans (getsN_le xs _ _) (by omega)
  · simp


set_option maxRecDepth 100000 in
set_option maxHeartbeats 8000000 in
theorem walk (a0 : Option Addr) (len0 cap0 : Nat) (z0 : List Int) (w : World) (w0 : Ints.IsRow .u8 w a0 len0 cap0 z0) :
    Calls Try.prog 5 #[.slice a0 len0 cap0] w fun e w' => e = .returned (.bool true) ∧ Below w.heap.size w w' := by
  obtain ⟨hl, hr, hi, hm⟩ := Law11.row_bytes w0
  generalize z0.take len0 = zs at *
  have R0 := hide hr
  have IN := hide hi
  have HL := hide hl
  clear w0 hr hi hl
  by_cases s : (len0 : Int) ≤ 1048576
  case neg =>
    go_enter Try.func5, Try.ntmps5
    go_wp2
    go_ret
    exact ⟨rfl, Below.refl _ _⟩
  have h20 : len0 ≤ 1048576 := by omega
  clear hm
  have B := hide (Below.refl w.heap.size w)
  have AL := hide (ans_len zs)
  have SP := hide (fun u gl hg hr => sCmdRead u gl len0 zs (by rw [unhide HL]; exact h20) hg hr)
  have IM := hide (fun u gl hg hr => IReadC12.iCmdRead u gl len0 zs (by rw [unhide HL]; exact h20) (by rw [unhide HL]; exact Nat.le_refl _) hg hr)
  rw [unhide HL] at SP IM
  generalize readC zs = y at *
  obtain ⟨kd, ws, r3⟩ := y
  simp only at AL SP IM
  generalize hn : ws.length = nw at *
  have NW := hide hn
  clear hn
  have q1 : (r3 != r3) = false := by simp
  go_enter Try.func5, Try.ntmps5
  go_wp2_with fail
  refine (ByteH.toByteS _ a0 len0 cap0 zs (unhide HL) (by omega) ((unhide R0).below (unhide B))).mono ?_
  rintro e u1 ⟨rfl, ox, bb⟩
  replace B := hide ((unhide B).trans (bb.mono (unhide B).size))
  have OX := hide ox
  clear bb ox
  go_wp2_with fail
  refine ((unhide SP) u1 _ (unhide OX).lt.2 (Law11.atB (unhide OX) (unhide IN))).mono ?_
  rintro e u2 ⟨a2, c2, rfl, ow, bb⟩
  replace B := hide ((unhide B).trans (bb.mono (unhide B).size))
  have OW := hide ow
  have TW := hide ow.btw
  have W2 := hide (unhide B).size
  clear bb ow OX
  have bb := Law12.one_more u2 (.cells #[.int .i64 kd, .slice a2 nw c2] 37)
  replace B := hide ((unhide B).trans (bb.mono (unhide B).size))
  replace OW := hide ((unhide OW).step bb)
  have KW := hide (Law12.Kb.made u2 (.int .i64 kd) (.slice a2 nw c2) 37)
  have SZKW := hide bb.size
  clear bb
  go_wp2_with fail
  refine (ByteH.toByteS _ a0 len0 cap0 zs (unhide HL) (by omega) ((unhide R0).below (unhide B))).mono ?_
  rintro e u3 ⟨rfl, ox, bb⟩
  rw [show (u2.alloc (.cells #[.int .i64 kd, .slice a2 nw c2] 37)).heap.size = u2.heap.size + 1 by simp] at ox
  have L3 := hide ox.lt.2
  replace B := hide ((unhide B).trans (bb.mono (unhide B).size))
  replace OW := hide ((unhide OW).step bb)
  replace KW := hide ((unhide KW).step bb)
  have OX := hide ox
  clear bb ox
  go_wp2_with fail
  refine ((unhide IM) u3 _ (unhide OX).lt.2 (Law11.atB (unhide OX) (unhide IN))).mono ?_
  rintro e u4 ⟨a4, c4, rfl, og, bb⟩
  have L4 := hide bb.size
  replace B := hide ((unhide B).trans (bb.mono (unhide B).size))
  replace OW := hide ((unhide OW).step bb)
  replace KW := hide ((unhide KW).step bb)
  replace OX := hide ((unhide OX).below bb (unhide OX).lt.2)
  have OG := hide og
  have TG := hide og.btw
  clear bb og
  have bb := Law12.one_more u4 (.cells #[.int .i64 kd, .slice a4 nw c4] 37)
  replace B := hide ((unhide B).trans (bb.mono (unhide B).size))
  replace OW := hide ((unhide OW).step bb)
  replace KW := hide ((unhide KW).step bb)
  replace OX := hide ((unhide OX).below bb (unhide OX).lt.2)
  replace OG := hide ((unhide OG).step bb)
  have KG := hide (Law12.Kb.made u4 (.int .i64 kd) (.slice a4 nw c4) 37)
  have SZKG := hide bb.size
  clear bb
  have p0 := (unhide KW).c0
  have p1 := (unhide KW).c1
  have p2 := (unhide KG).c0
  have p3 := (unhide KG).c1
  go_wp2_with fail
  refine (Law12.eqCm _ kd a4 a2 nw c4 c2 ws (unhide NW) (unhide AL) (unhide OG).rd (unhide OW).rd).mono ?_
  rintro e u5 ⟨rfl, bb⟩
  have L5 := hide bb.size
  replace B := hide ((unhide B).trans (bb.mono (unhide B).size))
  replace OW := hide ((unhide OW).step bb)
  replace KW := hide ((unhide KW).step bb)
  replace OX := hide ((unhide OX).below bb (unhide OX).lt.2)
  replace OG := hide ((unhide OG).step bb)
  replace KG := hide ((unhide KG).step bb)
  clear bb
  clear p0 p1 p2 p3
  go_wp2_with fail
  refine (ByteH.toByteS _ a0 len0 cap0 zs (unhide HL) (by omega) ((unhide R0).below (unhide B))).mono ?_
  rintro e u6 ⟨rfl, oy, bb⟩
  have L6 := hide bb.size
  replace B := hide ((unhide B).trans (bb.mono (unhide B).size))
  replace OW := hide ((unhide OW).step bb)
  replace KW := hide ((unhide KW).step bb)
  replace OX := hide ((unhide OX).below bb (unhide OX).lt.2)
  replace OG := hide ((unhide OG).step bb)
  replace KG := hide ((unhide KG).step bb)
  have OY := hide oy
  clear bb oy
  go_wp2_with fail
  refine (ByteH.eqByteS _ _ _ len0 _ _ zs (unhide HL) (by omega) (unhide OX).at (unhide OY).at).mono ?_
  rintro e u7 ⟨rfl, bb⟩
  have L7 := hide bb.size
  replace B := hide ((unhide B).trans (bb.mono (unhide B).size))
  replace OW := hide ((unhide OW).step bb)
  replace KW := hide ((unhide KW).step bb)
  replace OX := hide ((unhide OX).below bb (unhide OX).lt.2)
  replace OG := hide ((unhide OG).step bb)
  replace KG := hide ((unhide KG).step bb)
  clear bb OY
  go_wp2_with fail
  refine (ByteH.markByteS _ _ _ len0 _ 1 zs (by omega) (by omega) (by omega) (unhide OX)).mono ?_
  rintro e u8 ⟨rfl, ox, gr⟩
  have wz := unhide W2
  have l3 := unhide L3
  have l4 := unhide L4
  have k1 := (unhide SZKW)
  have kw := (unhide KW).lt
  have zz : (u2.alloc (.cells #[.int .i64 kd, .slice a2 nw c2] 37)).heap.size = u2.heap.size + 1 := by simp
  have xl := (unhide OX).lt
  replace OW := hide ((unhide OW).kept gr (fun x hx => by have := (unhide TW) x hx; intro e; injection e with e; omega))
  replace OG := hide ((unhide OG).kept gr (fun x hx => by have := (unhide TG) x hx; intro e; injection e with e; omega))
  replace KW := hide ((unhide KW).kept gr (fun e => by injection e with e; omega))
  replace KG := hide ((unhide KG).kept gr (fun e => by injection e with e; omega))
  replace B := hide ((unhide B).grown gr (by have := (unhide B).size; omega) (fun j hj => by cases hj; omega))
  clear gr ox OX l3 l4 k1 kw zz xl wz
  have k0 : ¬ (1 + (len0 : Int) < 0) := by omega
  have p0 := (unhide KW).c0
  have p1 := (unhide KW).c1
  have p2 := (unhide KG).c0
  have p3 := (unhide KG).c1
  go_wp2_with fail
  refine (Law12.eqCm _ kd a4 a2 nw c4 c2 ws (unhide NW) (unhide AL) (unhide OG).rd (unhide OW).rd).mono ?_
  rintro e u9 ⟨rfl, bb⟩
  replace B := hide ((unhide B).trans (bb.mono (unhide B).size))
  replace OW := hide ((unhide OW).step bb)
  replace KW := hide ((unhide KW).step bb)
  replace OG := hide ((unhide OG).step bb)
  replace KG := hide ((unhide KG).step bb)
  clear bb k0
  clear p0 p1 p2 p3
  have p0 := (unhide KG).c0
  have p1 := (unhide KG).c1
  go_wp2_with fail
  refine (Law12.markCm _ kd _ nw c4 a4 ws (unhide AL) (unhide OG)).mono ?_
  rintro e u10 ⟨rfl, og, gr0⟩
  have gr := gr0 _ rfl
  clear p0 p1
  have wz := unhide W2
  have l3 := unhide L3
  have l4 := unhide L4
  have zz : (u2.alloc (.cells #[.int .i64 kd, .slice a2 nw c2] 37)).heap.size = u2.heap.size + 1 := by simp
  replace OW := hide ((unhide OW).kept gr (fun x hx => by have := (unhide TW) x hx; exact VOI.blk_ne (unhide TG) (.inl (by omega))))
  replace KW := hide ((unhide KW).kept gr (VOI.blk_ne (unhide TG) (.inl (by omega))))
  replace KG := hide ((unhide KG).kept gr (VOI.blk_ne (unhide TG) (.inr (Nat.le_refl _))))
  replace B := hide ((unhide B).grown gr (by have := (unhide B).size; omega) (fun j hj => by
    cases a4 with
    | none => simp [VOI.blk] at hj
    | some x =>
      have := (unhide TG) x rfl
      simp [VOI.blk] at hj
      omega))
  replace OG := hide og
  clear gr gr0 og l3 l4 zz wz
  have m0 : ¬ (1 + (nw : Int) < 0) := by omega
  have m1 : ((1 + (nw : Int)) != (1 + (nw : Int))) = false := by simp
  have p0 := (unhide KG).c0
  have p1 := (unhide KG).c1
  go_wp2_with fail
  refine (Law12.heldCm _ kd nw c4 a4 (unhide AL) (unhide OG).rd).mono ?_
  rintro e u11 ⟨rfl, bb⟩
  replace B := hide ((unhide B).trans (bb.mono (unhide B).size))
  replace OW := hide ((unhide OW).step bb)
  replace KW := hide ((unhide KW).step bb)
  replace OG := hide ((unhide OG).step bb)
  replace KG := hide ((unhide KG).step bb)
  clear bb
  clear p0 p1
  go_wp2_with fail
  refine (ByteH.toByteS _ a0 len0 cap0 zs (unhide HL) (by omega) ((unhide R0).below (unhide B))).mono ?_
  rintro e u12 ⟨rfl, ox, bb⟩
  replace B := hide ((unhide B).trans (bb.mono (unhide B).size))
  replace OW := hide ((unhide OW).step bb)
  replace KW := hide ((unhide KW).step bb)
  replace OG := hide ((unhide OG).step bb)
  replace KG := hide ((unhide KG).step bb)
  have OX := hide ox
  clear bb ox
  go_wp2_with fail
  refine ((unhide IM) u12 _ (unhide OX).lt.2 (Law11.atB (unhide OX) (unhide IN))).mono ?_
  rintro e u13 ⟨a13, c13, rfl, oh, bb⟩
  replace B := hide ((unhide B).trans (bb.mono (unhide B).size))
  replace OW := hide ((unhide OW).step bb)
  replace KW := hide ((unhide KW).step bb)
  replace OG := hide ((unhide OG).step bb)
  replace KG := hide ((unhide KG).step bb)
  have OH := hide oh
  clear bb oh OX
  have bb := Law12.one_more u13 (.cells #[.int .i64 kd, .slice a13 nw c13] 37)
  replace B := hide ((unhide B).trans (bb.mono (unhide B).size))
  replace OW := hide ((unhide OW).step bb)
  replace KW := hide ((unhide KW).step bb)
  replace OG := hide ((unhide OG).step bb)
  replace KG := hide ((unhide KG).step bb)
  replace OH := hide ((unhide OH).step bb)
  have KH := hide (Law12.Kb.made u13 (.int .i64 kd) (.slice a13 nw c13) 37)
  have SZKH := hide bb.size
  clear bb
  have p0 := (unhide KW).c0
  have p1 := (unhide KW).c1
  have p2 := (unhide KH).c0
  have p3 := (unhide KH).c1
  go_wp2_with fail
  refine (Law12.eqCm _ kd a13 a2 nw c13 c2 ws (unhide NW) (unhide AL) (unhide OH).rd (unhide OW).rd).mono ?_
  rintro e u14 ⟨rfl, bb⟩
  replace B := hide ((unhide B).trans (bb.mono (unhide B).size))
  replace OW := hide ((unhide OW).step bb)
  replace KW := hide ((unhide KW).step bb)
  replace OG := hide ((unhide OG).step bb)
  replace KG := hide ((unhide KG).step bb)
  replace OH := hide ((unhide OH).step bb)
  replace KH := hide ((unhide KH).step bb)
  clear bb
  clear p0 p1 p2 p3
  have p0 := (unhide KG).c0
  have p1 := (unhide KG).c1
  go_wp2_with fail
  refine (Law12.heldCm _ kd nw c4 a4 (unhide AL) (unhide OG).rd).mono ?_
  rintro e u15 ⟨rfl, bb⟩
  replace B := hide ((unhide B).trans (bb.mono (unhide B).size))
  replace OW := hide ((unhide OW).step bb)
  replace KW := hide ((unhide KW).step bb)
  replace OG := hide ((unhide OG).step bb)
  replace KG := hide ((unhide KG).step bb)
  replace OH := hide ((unhide OH).step bb)
  replace KH := hide ((unhide KH).step bb)
  clear bb
  clear p0 p1
  go_wp2
  go_ret
  exact ⟨rfl, unhide B⟩

set_option maxRecDepth 100000 in
theorem lifted (os : Os) (started : os.Started) (H : Type) (enc : TypeId × Value → H) :
    ReturnsInHanded {} Try.checked os 5 .any (Rows.fnExactCmdReadSpec.pre6 enc Try.prog Try.f5 Rows.fnExactCmdReadRow.domain false) (Rows.fnExactCmdReadSpec.post enc Try.prog Try.f5 false true false false) := by
  refine returnsInHanded_of_change (C := Try.checked) own started (by kernel_rfl) Try.func5
    (ChangeSpec.witness6 (enc := enc) (C := Try.checked) false ⟨#[], #[.slice none 0 0], []⟩ 8 (by kernel_rfl) (by kernel_rfl) (by kernel_rfl) (by kernel_rfl)) ?_
  intro W base args ds gs before hval0 hW hcnd _
  have hval : ∀ (j : Nat) t v, Try.f5.params[j]? = some t → args[j]? = some v → Value.okWide Try.prog W .any base t v := hval0
  have hW' := hW
  obtain ⟨p, q, hA0, hV, rfl, hfz, hnd⟩ := hW
  have hA : DataW.TrodAll enc Try.prog W 0 (fun _ => true) true Try.f5.params.toList args.toList ds p := hA0
  rw [Try.params5] at hA hval
  obtain ⟨v0, vs0, d0, ds0, p0, q0, hargs, rfl, rfl, h0, r0⟩ := trodAll_cons hA
  obtain ⟨rfl, rfl, rfl⟩ := trodAll_nil r0
  obtain rfl : args = #[v0] := by cases args; simp_all
  obtain ⟨rfl, rfl⟩ := trodVars_none hV
  obtain ⟨a0, len0, cap0, rfl⟩ := okWide_slice Try.underlying22 (hval 0 22 v0 rfl rfl)
  have k0 := h0
  have lt0 : ∀ x ∈ p0, x.block < W.heap.size := by obtain ⟨m, hm⟩ := k0; exact DataW.trod_lt m _ _ _ hm
  obtain ⟨z0, w0⟩ : ∃ zs, Ints.IsRow .u8 W a0 len0 cap0 zs := by
    obtain ⟨fuel, hf⟩ := h0
    rcases open_ints Try.underlying22 Try.underlying5 (by kernel_rfl) hf with ⟨hcs, _⟩ | ⟨x, l, c, zs, hcs, _, hl, hm, hz, _, hcell, hwz⟩
    · simp [Value.cells] at hcs
      obtain ⟨rfl, rfl, rfl⟩ := hcs
      exact ⟨[], .inl ⟨rfl, rfl, rfl, rfl⟩⟩
    · simp [Value.cells] at hcs
      obtain ⟨rfl, rfl, rfl⟩ := hcs
      exact ⟨zs, .inr ⟨_, rfl, hl, hm, by simpa using hz, hcell, hwz⟩⟩
  clear hA0 hval0
  refine (walk a0 len0 cap0 z0 W w0).mono fun e W' ⟨he, bel⟩ => ?_
  subst he
  exact ⟨_, rfl, _, _, _, [], _, [], hW', trodAll_mk1 (shut_bool Try.underlying4 _), (trodAll_cons_mk (Below.trod laidOut (by kernel_rfl) (of_decide_eq_true (by kernel_rfl)) k0 bel lt0) trodAll_mk0), rfl, bel.frame _, fun h => by cases h⟩

theorem over : Rows.fnExactCmdReadRow.holds Try.pinned (OpenSpec.ofChange Rows.fnExactCmdReadSpec) :=
  OpenClaim.holds_of_wide 5 Try.f5 rfl rfl rfl rfl rfl rfl rfl ⟨rfl, rfl, rfl, rfl, rfl⟩ rfl rfl rfl rfl rfl (by kernel_rfl) Try.func5 (by kernel_rfl)
    (of_decide_eq_true (by kernel_rfl)) (by unfold Func.isWrapper; first | (rw [if_pos (by decide +kernel)]; kernel_rfl) | (rw [if_neg (by decide +kernel)]; exact ⟨rfl, rfl⟩))
    (fun os started H enc _ => lifted os started H enc)

/-- The statement. -/
theorem proved : Rows.FnExactCmdReadSaid := over
#print axioms proved
end Go.Proofs.Ytnkbkaeafkdpiaa.fnExactCmdRead
