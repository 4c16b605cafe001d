/- At any reply the program's ReplyPack answers as its model, writes into no argument, and its answer is its own. No condition. -/
import Derived.Test.YtnkbkaeafkdpiaaRows
import Derived.Test.YtnkbkaeafkdpiaaByteH
import Derived.Test.YtnkbkaeafkdpiaaVOB
import Derived.Test.YtnkbkaeafkdpiaaInts
import Derived.Test.YtnkbkaeafkdpiaaSBytes
import Derived.Test.YtnkbkaeafkdpiaaLaw11
import Derived.Test.YtnkbkaeafkdpiaaLawS11
import Derived.Test.YtnkbkaeafkdpiaaVOI
import Derived.Test.YtnkbkaeafkdpiaaLaw12
import Derived.Test.YtnkbkaeafkdpiaaSPut11
import Derived.Test.YtnkbkaeafkdpiaaSPuts11
import Derived.Test.YtnkbkaeafkdpiaaIPuts11
import Derived.Test.YtnkbkaeafkdpiaaTup5
import Derived.Test.YtnkbkaeafkdpiaaLots
import Derived.Test.YtnkbkaeafkdpiaaSCmd
import Derived.Test.YtnkbkaeafkdpiaaICmd10
import Derived.Test.YtnkbkaeafkdpiaaICall10
import Derived.Test.YtnkbkaeafkdpiaaSGets11
import Derived.Test.YtnkbkaeafkdpiaaSPack12
import Derived.Test.YtnkbkaeafkdpiaaSPackC12
import Derived.Test.YtnkbkaeafkdpiaaIMsg12
import Derived.Test.YtnkbkaeafkdpiaaIPack12
import Derived.Test.YtnkbkaeafkdpiaaPairs
import Derived.Test.YtnkbkaeafkdpiaaOpens
import Derived.ShutString
import Derived.ChangeOld
import Derived.Below
namespace Go.Proofs.Ytnkbkaeafkdpiaa.fnExactReplyPack
open Go.ChangeShapes Go.WideShapes Go.ChangeAt Go.RowKit
open Go.ChangeMaps (open_string shut_string)
set_option linter.unusedVariables false
set_option linter.unusedSimpArgs false

theorem own : ownKnob Try.prog.godebug = none := by kernel_rfl
theorem laidOut : laidOutB Try.prog = true := by kernel_rfl

open SBytes SPut11 SPack12 Opens

theorem ans_len (c v : Int) : (packR c v).length ≤ 100000000 := by
  unfold packR
  split
  · next h =>
    have a := numB_nine (x := c) (by have := h.1; omega)
    have b := numB_nine (x := v + 1000000000000000) (by have := h.2; simp only [Amt] at this; omega)
    simp
    omega
  · simp


set_option maxRecDepth 100000 in
set_option maxHeartbeats 8000000 in
theorem walk (x0 y0 : Int) (w : World)  :
    Calls Try.prog 6 #[.agg #[.int .i64 x0, .int .i64 y0]] w fun e w' => e = .returned (.bool true) ∧ Below w.heap.size w w' := by
  have B := hide (Law12.one_more w (.cells #[.int .i64 x0, .int .i64 y0] 46))
  have KA := hide (Law12.Kb.made w (.int .i64 x0) (.int .i64 y0) 46)
  have AL := hide (ans_len x0 y0)
  have SP := hide (fun u => sReplyPack u x0 y0)
  have IM := hide (fun u => IPack12.iReplyPack u x0 y0)
  generalize packR x0 y0 = ws at *
  generalize decide (RpOk x0 y0) = r1 at *
  generalize hn : ws.length = nw at *
  have NW := hide hn
  clear hn
  have q1 : (r1 != r1) = false := by simp
  go_enter Try.func6, Try.ntmps6
  have p0 := (unhide KA).c0
  have p1 := (unhide KA).c1
  go_wp2_with fail
  refine (Law12.toR _ x0 y0).mono ?_
  rintro e u1 ⟨rfl, bb⟩
  replace B := hide ((unhide B).trans (bb.mono (unhide B).size))
  replace KA := hide ((unhide KA).step bb)
  clear bb
  clear p0 p1
  go_wp2_with fail
  refine ((unhide SP) u1).mono ?_
  rintro e u2 ⟨g2, c2, rfl, ow, bb⟩
  replace B := hide ((unhide B).trans (bb.mono (unhide B).size))
  replace KA := hide ((unhide KA).step bb)
  have OW := hide (VOB.Ob.of ow)
  have LW := hide (And.intro (unhide B).size ow.lt.2)
  have W1 := hide (show w.heap.size < u2.heap.size from Nat.lt_of_lt_of_le (unhide KA).lt (Nat.le_refl _))
  clear bb ow
  have p0 := (unhide KA).c0
  have p1 := (unhide KA).c1
  go_wp2_with fail
  refine (Law12.toR _ x0 y0).mono ?_
  rintro e u3 ⟨rfl, bb⟩
  have U3 := hide bb.size
  replace B := hide ((unhide B).trans (bb.mono (unhide B).size))
  replace KA := hide ((unhide KA).step bb)
  replace OW := hide ((unhide OW).step bb)
  clear bb
  clear p0 p1
  go_wp2_with fail
  refine ((unhide IM) u3).mono ?_
  rintro e u4 ⟨a4, c4, rfl, og, bb⟩
  replace B := hide ((unhide B).trans (bb.mono (unhide B).size))
  replace KA := hide ((unhide KA).step bb)
  replace OW := hide ((unhide OW).step bb)
  have OG := hide og
  have TG := hide og.btw
  clear bb og
  go_wp2_with fail
  refine (VOB.eqO _ _ _ nw _ _ ws (unhide NW) (unhide AL) (unhide OG).rd (unhide OW).rd).mono ?_
  rintro e u5 ⟨rfl, bb⟩
  replace B := hide ((unhide B).trans (bb.mono (unhide B).size))
  replace KA := hide ((unhide KA).step bb)
  replace OW := hide ((unhide OW).step bb)
  replace OG := hide ((unhide OG).step bb)
  clear bb
  go_wp2_with fail
  refine (VOB.markO _ _ nw _ _ ws (unhide AL) (unhide OG)).mono ?_
  rintro e u6 ⟨rfl, og, gr⟩
  have l2 := unhide LW
  have l3 := unhide U3
  have tw : ∀ x : Addr, some ⟨g2, 0, none⟩ = some x → some x.block ≠ VOB.blk a4 := fun x hx => by cases hx; exact VOB.blk_ne (unhide TG) (.inl (by show g2 < _; omega))
  replace OW := hide ((unhide OW).kept gr tw)
  replace KA := hide ((unhide KA).kept gr (VOB.blk_ne (unhide TG) (.inl (by have := (unhide W1); omega))))
  replace B := hide ((unhide B).grown gr (by have := (unhide B).size; omega) (fun j hj => by
    cases a4 with
    | none => simp [VOB.blk] at hj
    | some x =>
      have := (unhide TG) x rfl
      simp [VOB.blk] at hj
      omega))
  replace OG := hide og
  clear gr og l2 l3 tw
  have m0 : ¬ (1 + (nw : Int) < 0) := by omega
  have m1 : ((1 + (nw : Int)) != (1 + (nw : Int))) = false := by simp
  go_wp2_with fail
  refine (VOB.heldO _ nw _ _ (unhide AL) (unhide OG).rd).mono ?_
  rintro e u ⟨rfl, rfl⟩
  have p0 := (unhide KA).c0
  have p1 := (unhide KA).c1
  go_wp2_with fail
  refine (Law12.toR _ x0 y0).mono ?_
  rintro e u7 ⟨rfl, bb⟩
  replace B := hide ((unhide B).trans (bb.mono (unhide B).size))
  replace KA := hide ((unhide KA).step bb)
  replace OW := hide ((unhide OW).step bb)
  replace OG := hide ((unhide OG).step bb)
  clear bb
  clear p0 p1
  go_wp2_with fail
  refine ((unhide IM) u7).mono ?_
  rintro e u8 ⟨a8, c8, rfl, oh, bb⟩
  replace B := hide ((unhide B).trans (bb.mono (unhide B).size))
  replace KA := hide ((unhide KA).step bb)
  replace OW := hide ((unhide OW).step bb)
  replace OG := hide ((unhide OG).step bb)
  have OH := hide oh
  clear bb oh
  go_wp2_with fail
  refine (VOB.eqO _ _ _ nw _ _ ws (unhide NW) (unhide AL) (unhide OH).rd (unhide OW).rd).mono ?_
  rintro e u9 ⟨rfl, bb⟩
  replace B := hide ((unhide B).trans (bb.mono (unhide B).size))
  replace KA := hide ((unhide KA).step bb)
  replace OW := hide ((unhide OW).step bb)
  replace OG := hide ((unhide OG).step bb)
  replace OH := hide ((unhide OH).step bb)
  clear bb
  go_wp2_with fail
  refine (VOB.heldO _ nw _ _ (unhide AL) (unhide OG).rd).mono ?_
  rintro e u ⟨rfl, rfl⟩
  go_wp2
  go_ret
  exact ⟨rfl, unhide B⟩

set_option maxRecDepth 100000 in
theorem lifted (os : Os) (started : os.Started) (H : Type) (enc : TypeId × Value → H) :
    ReturnsInHanded {} Try.checked os 6 .any (Rows.fnExactReplyPackSpec.pre6 enc Try.prog Try.f6 Rows.fnExactReplyPackRow.domain false) (Rows.fnExactReplyPackSpec.post enc Try.prog Try.f6 false true false false) := by
  refine returnsInHanded_of_change (C := Try.checked) own started (by kernel_rfl) Try.func6
    (ChangeSpec.witness6 (enc := enc) (C := Try.checked) false ⟨#[], #[.agg #[.int .i64 0, .int .i64 0]], []⟩ 8 (by kernel_rfl) (by kernel_rfl) (by kernel_rfl) (by kernel_rfl)) ?_
  intro W base args ds gs before hval0 hW hcnd _
  have hval : ∀ (j : Nat) t v, Try.f6.params[j]? = some t → args[j]? = some v → Value.okWide Try.prog W .any base t v := hval0
  have hW' := hW
  obtain ⟨p, q, hA0, hV, rfl, hfz, hnd⟩ := hW
  have hA : DataW.TrodAll enc Try.prog W 0 (fun _ => true) true Try.f6.params.toList args.toList ds p := hA0
  rw [Try.params6] at hA hval
  obtain ⟨v0, vs0, d0, ds0, p0, q0, hargs, rfl, rfl, h0, r0⟩ := trodAll_cons hA
  obtain ⟨rfl, rfl, rfl⟩ := trodAll_nil r0
  obtain rfl : args = #[v0] := by cases args; simp_all
  obtain ⟨rfl, rfl⟩ := trodVars_none hV
  have k0 := h0
  have lt0 : ∀ x ∈ p0, x.block < W.heap.size := by obtain ⟨m, hm⟩ := k0; exact DataW.trod_lt m _ _ _ hm
  obtain ⟨x0, y0, rfl⟩ : ∃ x y, v0 = .agg #[.int .i64 x, .int .i64 y] := open_pair Try.underlying46 (by kernel_rfl) (by kernel_rfl) Try.underlying3 (hval 0 46 v0 rfl rfl) h0
  clear hA0 hval0
  refine (walk x0 y0 W ).mono fun e W' ⟨he, bel⟩ => ?_
  subst he
  exact ⟨_, rfl, _, _, _, [], _, [], hW', trodAll_mk1 (shut_bool Try.underlying4 _), (trodAll_cons_mk (Below.trod laidOut (by kernel_rfl) (of_decide_eq_true (by kernel_rfl)) k0 bel lt0) trodAll_mk0), rfl, bel.frame _, fun h => by cases h⟩

theorem over : Rows.fnExactReplyPackRow.holds Try.pinned (OpenSpec.ofChange Rows.fnExactReplyPackSpec) :=
  OpenClaim.holds_of_wide 6 Try.f6 rfl rfl rfl rfl rfl rfl rfl ⟨rfl, rfl, rfl, rfl, rfl⟩ rfl rfl rfl rfl rfl (by kernel_rfl) Try.func6 (by kernel_rfl)
    (of_decide_eq_true (by kernel_rfl)) (by unfold Func.isWrapper; first | (rw [if_pos (by decide +kernel)]; kernel_rfl) | (rw [if_neg (by decide +kernel)]; exact ⟨rfl, rfl⟩))
    (fun os started H enc _ => lifted os started H enc)

/-- The statement. -/
theorem proved : Rows.FnExactReplyPackSaid := over
#print axioms proved
end Go.Proofs.Ytnkbkaeafkdpiaa.fnExactReplyPack
