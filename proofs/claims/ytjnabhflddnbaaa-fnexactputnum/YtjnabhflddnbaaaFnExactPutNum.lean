/- At any number the program's PutNum answers as its model, writes into no argument, and its answer is its own. No condition. -/
import Derived.Test.YtjnabhflddnbaaaRows
import Derived.Test.YtjnabhflddnbaaaByteH
import Derived.Test.YtjnabhflddnbaaaVOB
import Derived.Test.YtjnabhflddnbaaaInts
import Derived.Test.YtjnabhflddnbaaaSBytes
import Derived.Test.YtjnabhflddnbaaaLaw11
import Derived.Test.YtjnabhflddnbaaaLawS11
import Derived.Test.YtjnabhflddnbaaaSPut11
import Derived.Test.YtjnabhflddnbaaaSPuts11
import Derived.Test.YtjnabhflddnbaaaIPuts11
import Derived.Test.YtjnabhflddnbaaaIPut11
import Derived.ShutString
import Derived.ChangeOld
import Derived.Below
namespace Go.Proofs.Ytjnabhflddnbaaa.fnExactPutNum
open Go.ChangeShapes Go.WideShapes Go.ChangeAt Go.RowKit
open Go.ChangeMaps (open_string shut_string)
set_option linter.unusedVariables false
set_option linter.unusedSimpArgs false

theorem own : ownKnob Try.prog.godebug = none := by kernel_rfl
theorem laidOut : laidOutB Try.prog = true := by kernel_rfl

open SPut11 SBytes

theorem ans_len (x : Int) (h : x ≤ 9223372036854775807) : (numB x).length ≤ 100000000 := by
  have := numB_nine h
  omega


set_option maxRecDepth 100000 in
set_option maxHeartbeats 8000000 in
theorem walk (a0 : Int) (w : World) (w0 : (Lit.int .i64 a0).wf = true) :
    Calls Try.prog 3 #[.int .i64 a0] w fun e w' => e = .returned (.bool true) ∧ Below w.heap.size w w' := by
  have hi := LawS11.int_le w0
  clear w0
  have B := hide (Below.refl w.heap.size w)
  have AL := hide (ans_len a0 hi)
  have SP := hide (fun u => sPutNum u a0 hi)
  have IM := hide (fun u => IPut11.iPutNum u a0 hi)
  generalize numB a0 = ws at *
  generalize hn : ws.length = nw at *
  have NW := hide hn
  clear hn
  go_enter Try.func3, Try.ntmps3
  go_wp2_with fail
  refine ((unhide SP) w).mono ?_
  rintro e u2 ⟨g2, c2, rfl, ow, bb⟩
  replace B := hide ((unhide B).trans (bb.mono (unhide B).size))
  have OW := hide (VOB.Ob.of ow)
  have LW := hide (And.intro (Nat.le_trans (unhide B).size (Nat.le_refl _)) ow.lt.2)
  clear bb ow
  have L3 := hide (Nat.le_refl u2.heap.size)
  go_wp2_with fail
  refine ((unhide IM) u2).mono ?_
  rintro e u4 ⟨a4, c4, rfl, og, bb⟩
  have L4 := hide bb.size
  replace B := hide ((unhide B).trans (bb.mono (unhide B).size))
  replace OW := hide ((unhide OW).step bb)
  have OG := hide og
  have TG := hide og.btw
  clear bb og
  go_wp2_with fail
  refine (VOB.eqO _ _ _ nw _ _ ws (unhide NW) (unhide AL) (unhide OG).rd (unhide OW).rd).mono ?_
  rintro e u5 ⟨rfl, bb⟩
  have L5 := hide bb.size
  replace B := hide ((unhide B).trans (bb.mono (unhide B).size))
  replace OW := hide ((unhide OW).step bb)
  replace OG := hide ((unhide OG).step bb)
  clear bb
  go_wp2_with fail
  refine (VOB.markO _ _ nw _ _ ws (unhide AL) (unhide OG)).mono ?_
  rintro e u10 ⟨rfl, og, gr⟩
  have l2 := unhide LW
  have l3 := unhide L3
  have l4 := unhide L4
  have tw : ∀ x : Addr, some ⟨g2, 0, none⟩ = some x → some x.block ≠ VOB.blk a4 := fun x hx => by cases hx; exact VOB.blk_ne (unhide TG) (.inl (by show g2 < _; omega))
  replace OW := hide ((unhide OW).kept gr tw)
  replace B := hide ((unhide B).grown gr (by have := (unhide B).size; omega) (fun j hj => by
    cases a4 with
    | none => simp [VOB.blk] at hj
    | some x =>
      have := (unhide TG) x rfl
      simp [VOB.blk] at hj
      omega))
  replace OG := hide og
  clear gr og l2 l3 l4 tw
  have m0 : ¬ (1 + (nw : Int) < 0) := by omega
  have m1 : ((1 + (nw : Int)) != (1 + (nw : Int))) = false := by simp
  go_wp2_with fail
  refine (VOB.heldO _ nw _ _ (unhide AL) (unhide OG).rd).mono ?_
  rintro e u ⟨rfl, rfl⟩
  go_wp2_with fail
  refine ((unhide IM) u).mono ?_
  rintro e u12 ⟨a5, c5, rfl, oh, bb⟩
  replace B := hide ((unhide B).trans (bb.mono (unhide B).size))
  replace OW := hide ((unhide OW).step bb)
  replace OG := hide ((unhide OG).step bb)
  have OH := hide oh
  clear bb oh
  go_wp2_with fail
  refine (VOB.eqO _ _ _ nw _ _ ws (unhide NW) (unhide AL) (unhide OH).rd (unhide OW).rd).mono ?_
  rintro e u13 ⟨rfl, bb⟩
  replace B := hide ((unhide B).trans (bb.mono (unhide B).size))
  replace OG := hide ((unhide OG).step bb)
  clear bb OH OW
  go_wp2_with fail
  refine (VOB.heldO _ nw _ _ (unhide AL) (unhide OG).rd).mono ?_
  rintro e u ⟨rfl, rfl⟩
  go_wp2
  go_ret
  exact ⟨rfl, unhide B⟩

set_option maxRecDepth 100000 in
theorem lifted (os : Os) (started : os.Started) (H : Type) (enc : TypeId × Value → H) :
    ReturnsInHanded {} Try.checked os 3 .any (Rows.fnExactPutNumSpec.pre6 enc Try.prog Try.f3 Rows.fnExactPutNumRow.domain false) (Rows.fnExactPutNumSpec.post enc Try.prog Try.f3 false true false false) := by
  refine returnsInHanded_of_change (C := Try.checked) own started (by kernel_rfl) Try.func3
    (ChangeSpec.witness6 (enc := enc) (C := Try.checked) false ⟨#[], #[.int .i64 0], []⟩ 8 (by kernel_rfl) (by kernel_rfl) (by kernel_rfl) (by kernel_rfl)) ?_
  intro W base args ds gs before hval0 hW hcnd _
  have hval : ∀ (j : Nat) t v, Try.f3.params[j]? = some t → args[j]? = some v → Value.okWide Try.prog W .any base t v := hval0
  have hW' := hW
  obtain ⟨p, q, hA0, hV, rfl, hfz, hnd⟩ := hW
  have hA : DataW.TrodAll enc Try.prog W 0 (fun _ => true) true Try.f3.params.toList args.toList ds p := hA0
  rw [Try.params3] at hA hval
  obtain ⟨v0, vs0, d0, ds0, p0, q0, hargs, rfl, rfl, h0, r0⟩ := trodAll_cons hA
  obtain ⟨rfl, rfl, rfl⟩ := trodAll_nil r0
  obtain rfl : args = #[v0] := by cases args; simp_all
  obtain ⟨rfl, rfl⟩ := trodVars_none hV
  obtain ⟨a0, rfl, rfl, rfl, w0⟩ := open_int Try.underlying3 (hval 0 3 v0 rfl rfl) h0
  clear hA0 hval0
  refine (walk a0 W w0).mono fun e W' ⟨he, bel⟩ => ?_
  subst he
  exact ⟨_, rfl, _, _, _, [], _, [], hW', trodAll_mk1 (shut_bool Try.underlying4 _), (trodAll_cons_mk (shut_int Try.underlying3 w0) trodAll_mk0), rfl, bel.frame _, fun h => by cases h⟩

theorem over : Rows.fnExactPutNumRow.holds Try.pinned (OpenSpec.ofChange Rows.fnExactPutNumSpec) :=
  OpenClaim.holds_of_wide 3 Try.f3 rfl rfl rfl rfl rfl rfl rfl ⟨rfl, rfl, rfl, rfl, rfl⟩ rfl rfl rfl rfl rfl (by kernel_rfl) Try.func3 (by kernel_rfl)
    (of_decide_eq_true (by kernel_rfl)) (by unfold Func.isWrapper; first | (rw [if_pos (by decide +kernel)]; kernel_rfl) | (rw [if_neg (by decide +kernel)]; exact ⟨rfl, rfl⟩))
    (fun os started H enc _ => lifted os started H enc)

/-- The statement. -/
theorem proved : Rows.FnExactPutNumSaid := over
#print axioms proved
end Go.Proofs.Ytjnabhflddnbaaa.fnExactPutNum
