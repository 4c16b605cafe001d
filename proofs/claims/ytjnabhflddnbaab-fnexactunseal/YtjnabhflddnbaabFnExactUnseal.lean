/- At any bytes and any place the program's Unseal answers as its model, writes into no argument, and its answer is its own. No condition. -/
import Derived.Test.YtjnabhflddnbaabRows
import Derived.Test.YtjnabhflddnbaabByteH
import Derived.Test.YtjnabhflddnbaabVOB
import Derived.Test.YtjnabhflddnbaabInts
import Derived.Test.YtjnabhflddnbaabSBytes
import Derived.Test.YtjnabhflddnbaabLaw11
import Derived.Test.YtjnabhflddnbaabLawS11
import Derived.Test.YtjnabhflddnbaabSPut11
import Derived.Test.YtjnabhflddnbaabSUnseal11
import Derived.Test.YtjnabhflddnbaabIRd11
import Derived.Test.YtjnabhflddnbaabICheck11
import Derived.Test.YtjnabhflddnbaabISum11
import Derived.Test.YtjnabhflddnbaabEqS11
import Derived.Test.YtjnabhflddnbaabStepB11
import Derived.Test.YtjnabhflddnbaabIUnseal11
import Derived.ShutString
import Derived.ChangeOld
import Derived.Below
namespace Go.Proofs.Ytjnabhflddnbaab.fnExactUnseal
open Go.ChangeShapes Go.WideShapes Go.ChangeAt Go.RowKit
open Go.ChangeMaps (open_string shut_string)
set_option linter.unusedVariables false
set_option linter.unusedSimpArgs false

theorem own : ownKnob Try.prog.godebug = none := by kernel_rfl
theorem laidOut : laidOutB Try.prog = true := by kernel_rfl

open SUnseal11 SBytes

theorem ans_len (xs : List Int) (p : Int) (h : xs.length ≤ 1048576) : (unsealN xs p).1.length ≤ 100000000 := by
  unfold unsealN
  split
  · simp
  split
  · simp
  split
  · simp [piece]; omega
  · simp


set_option maxRecDepth 100000 in
set_option maxHeartbeats 8000000 in
theorem walk (a0 : Option Addr) (len0 cap0 : Nat) (z0 : List Int) (a1 : Int) (w : World) (w0 : Ints.IsRow .u8 w a0 len0 cap0 z0) (w1 : (Lit.int .i64 a1).wf = true) :
    Calls Try.prog 3 #[.slice a0 len0 cap0, .int .i64 a1] w fun e w' => e = .returned (.bool true) ∧ Below w.heap.size w w' := by
  have XL := hide (LawS11.int_le w1)
  obtain ⟨hl, hr, hi, hm⟩ := Law11.row_bytes w0
  generalize z0.take len0 = zs at *
  have R0 := hide hr
  have IN := hide hi
  have HL := hide hl
  clear w0 hr hi hl
  by_cases s : (len0 : Int) ≤ 1048576
  case neg =>
    go_enter Try.func3, Try.ntmps3
    go_wp2
    go_ret
    exact ⟨rfl, Below.refl _ _⟩
  have h20 : len0 ≤ 1048576 := by omega
  clear hm
  have B := hide (Below.refl w.heap.size w)
  have AL := hide (ans_len zs a1 (by rw [unhide HL]; exact h20))
  have SP := hide (fun u gl hg hr => sUnseal u gl len0 zs a1 (by rw [unhide HL]; exact h20) (by rw [unhide HL]; exact Nat.le_refl _) hg hr)
  have IM := hide (fun u gl hg hr => IUnseal11.iUnseal u gl len0 zs a1 (by rw [unhide HL]; exact h20) (by rw [unhide HL]; exact Nat.le_refl _) (unhide XL) hg hr)
  rw [unhide HL] at SP IM
  generalize unsealN zs a1 = y at *
  obtain ⟨ws, r1, r2⟩ := y
  generalize hn : ws.length = nw at *
  have NW := hide hn
  clear hn
  have q1 : (r1 != r1) = false := by simp
  have q2 : (r2 != r2) = false := by simp
  go_enter Try.func3, Try.ntmps3
  go_wp2_with fail
  refine (ByteH.toByteS _ a0 len0 cap0 zs (unhide HL) (by omega) ((unhide R0).below (unhide B))).mono ?_
  rintro e u1 ⟨rfl, ox, bb⟩
  replace B := hide ((unhide B).trans (bb.mono (unhide B).size))
  have OX := hide ox
  clear bb ox
  go_wp2_with fail
  refine ((unhide SP) u1 _ (unhide OX).lt.2 (Law11.atB (unhide OX) (unhide IN))).mono ?_
  rintro e u2 ⟨g2, c2, rfl, ow, bb⟩
  replace B := hide ((unhide B).trans (bb.mono (unhide B).size))
  have OW := hide (VOB.Ob.of ow)
  have LW := hide (And.intro (Nat.le_trans (unhide B).size (Nat.le_refl _)) ow.lt.2)
  clear bb ow OX
  go_wp2_with fail
  refine (ByteH.toByteS _ a0 len0 cap0 zs (unhide HL) (by omega) ((unhide R0).below (unhide B))).mono ?_
  rintro e u3 ⟨rfl, ox, bb⟩
  have L3 := hide ox.lt.2
  replace B := hide ((unhide B).trans (bb.mono (unhide B).size))
  replace OW := hide ((unhide OW).step bb)
  have OX := hide ox
  clear bb ox
  go_wp2_with fail
  refine ((unhide IM) u3 _ (unhide OX).lt.2 (Law11.atB (unhide OX) (unhide IN))).mono ?_
  rintro e u4 ⟨a4, c4, rfl, og, bb⟩
  have L4 := hide bb.size
  replace B := hide ((unhide B).trans (bb.mono (unhide B).size))
  replace OW := hide ((unhide OW).step bb)
  replace OX := hide ((unhide OX).below bb (unhide OX).lt.2)
  have OG := hide og
  have TG := hide og.btw
  clear bb og
  go_wp2_with fail
  refine (VOB.eqO _ _ _ nw _ _ ws (unhide NW) (unhide AL) (unhide OG).rd (unhide OW).rd).mono ?_
  rintro e u5 ⟨rfl, bb⟩
  have L5 := hide bb.size
  replace B := hide ((unhide B).trans (bb.mono (unhide B).size))
  replace OW := hide ((unhide OW).step bb)
  replace OX := hide ((unhide OX).below bb (unhide OX).lt.2)
  replace OG := hide ((unhide OG).step bb)
  clear bb
  go_wp2_with fail
  refine (ByteH.toByteS _ a0 len0 cap0 zs (unhide HL) (by omega) ((unhide R0).below (unhide B))).mono ?_
  rintro e u6 ⟨rfl, oy, bb⟩
  have L6 := hide bb.size
  replace B := hide ((unhide B).trans (bb.mono (unhide B).size))
  replace OW := hide ((unhide OW).step bb)
  replace OX := hide ((unhide OX).below bb (unhide OX).lt.2)
  replace OG := hide ((unhide OG).step bb)
  have OY := hide oy
  clear bb oy
  go_wp2_with fail
  refine (ByteH.eqByteS _ _ _ len0 _ _ zs (unhide HL) (by omega) (unhide OX).at (unhide OY).at).mono ?_
  rintro e u7 ⟨rfl, bb⟩
  have L7 := hide bb.size
  replace B := hide ((unhide B).trans (bb.mono (unhide B).size))
  replace OW := hide ((unhide OW).step bb)
  replace OX := hide ((unhide OX).below bb (unhide OX).lt.2)
  replace OG := hide ((unhide OG).step bb)
  clear bb OY
  go_wp2_with fail
  refine (ByteH.markByteS _ _ _ len0 _ 1 zs (by omega) (by omega) (by omega) (unhide OX)).mono ?_
  rintro e u8 ⟨rfl, ox, gr⟩
  have l2 := unhide LW
  have l3 := unhide L3
  have l4 := unhide L4
  have l5 := unhide L5
  have l6 := unhide L6
  have l7 := unhide L7
  replace OW := hide ((unhide OW).kept gr (fun x hx => by cases hx; intro e; injection e with e; simp at e; omega))
  replace OG := hide ((unhide OG).kept gr (fun x hx => by have := (unhide TG) x hx; have := (unhide OX).lt; intro e; injection e with e; omega))
  replace B := hide ((unhide B).grown gr (by have := (unhide B).size; omega) (fun j hj => by cases hj; have := (unhide OX).lt; omega))
  clear gr ox OX l2 l3 l4 l5 l6 l7
  have k0 : ¬ (1 + (len0 : Int) < 0) := by omega
  go_wp2_with fail
  refine (VOB.eqO _ _ _ nw _ _ ws (unhide NW) (unhide AL) (unhide OG).rd (unhide OW).rd).mono ?_
  rintro e u9 ⟨rfl, bb⟩
  replace B := hide ((unhide B).trans (bb.mono (unhide B).size))
  replace OW := hide ((unhide OW).step bb)
  replace OG := hide ((unhide OG).step bb)
  clear bb k0
  go_wp2_with fail
  refine (VOB.markO _ _ nw _ _ ws (unhide AL) (unhide OG)).mono ?_
  rintro e u10 ⟨rfl, og, gr⟩
  have l2 := unhide LW
  have l3 := unhide L3
  have l4 := unhide L4
  have tw : ∀ x : Addr, some ⟨g2, 0, none⟩ = some x → some x.block ≠ VOB.blk a4 := fun x hx => by cases hx; exact VOB.blk_ne (unhide TG) (.inl (by show g2 < _; omega))
  replace OW := hide ((unhide OW).kept gr tw)
  replace B := hide ((unhide B).grown gr (by have := (unhide B).size; omega) (fun j hj => by
    cases a4 with
    | none => simp [VOB.blk] at hj
    | some x =>
      have := (unhide TG) x rfl
      simp [VOB.blk] at hj
      omega))
  replace OG := hide og
  clear gr og l2 l3 l4 tw
  have m0 : ¬ (1 + (nw : Int) < 0) := by omega
  have m1 : ((1 + (nw : Int)) != (1 + (nw : Int))) = false := by simp
  go_wp2_with fail
  refine (VOB.heldO _ nw _ _ (unhide AL) (unhide OG).rd).mono ?_
  rintro e u ⟨rfl, rfl⟩
  go_wp2_with fail
  refine (ByteH.toByteS _ a0 len0 cap0 zs (unhide HL) (by omega) ((unhide R0).below (unhide B))).mono ?_
  rintro e u11 ⟨rfl, ox, bb⟩
  replace B := hide ((unhide B).trans (bb.mono (unhide B).size))
  replace OW := hide ((unhide OW).step bb)
  replace OG := hide ((unhide OG).step bb)
  have OX := hide ox
  clear bb ox
  go_wp2_with fail
  refine ((unhide IM) u11 _ (unhide OX).lt.2 (Law11.atB (unhide OX) (unhide IN))).mono ?_
  rintro e u12 ⟨a5, c5, rfl, oh, bb⟩
  replace B := hide ((unhide B).trans (bb.mono (unhide B).size))
  replace OW := hide ((unhide OW).step bb)
  replace OG := hide ((unhide OG).step bb)
  have OH := hide oh
  clear bb oh OX
  go_wp2_with fail
  refine (VOB.eqO _ _ _ nw _ _ ws (unhide NW) (unhide AL) (unhide OH).rd (unhide OW).rd).mono ?_
  rintro e u13 ⟨rfl, bb⟩
  replace B := hide ((unhide B).trans (bb.mono (unhide B).size))
  replace OG := hide ((unhide OG).step bb)
  clear bb OH OW
  go_wp2_with fail
  refine (VOB.heldO _ nw _ _ (unhide AL) (unhide OG).rd).mono ?_
  rintro e u ⟨rfl, rfl⟩
  go_wp2
  go_ret
  exact ⟨rfl, unhide B⟩

set_option maxRecDepth 100000 in
theorem lifted (os : Os) (started : os.Started) (H : Type) (enc : TypeId × Value → H) :
    ReturnsInHanded {} Try.checked os 3 .any (Rows.fnExactUnsealSpec.pre6 enc Try.prog Try.f3 Rows.fnExactUnsealRow.domain false) (Rows.fnExactUnsealSpec.post enc Try.prog Try.f3 false true false false) := by
  refine returnsInHanded_of_change (C := Try.checked) own started (by kernel_rfl) Try.func3
    (ChangeSpec.witness6 (enc := enc) (C := Try.checked) false ⟨#[], #[.slice none 0 0, .int .i64 0], []⟩ 8 (by kernel_rfl) (by kernel_rfl) (by kernel_rfl) (by kernel_rfl)) ?_
  intro W base args ds gs before hval0 hW hcnd _
  have hval : ∀ (j : Nat) t v, Try.f3.params[j]? = some t → args[j]? = some v → Value.okWide Try.prog W .any base t v := hval0
  have hW' := hW
  obtain ⟨p, q, hA0, hV, rfl, hfz, hnd⟩ := hW
  have hA : DataW.TrodAll enc Try.prog W 0 (fun _ => true) true Try.f3.params.toList args.toList ds p := hA0
  rw [Try.params3] at hA hval
  obtain ⟨v0, vs0, d0, ds0, p0, q0, hargs, rfl, rfl, h0, r0⟩ := trodAll_cons hA
  obtain ⟨v1, vs1, d1, ds1, p1, q1, rfl, rfl, rfl, h1, r1⟩ := trodAll_cons r0
  obtain ⟨rfl, rfl, rfl⟩ := trodAll_nil r1
  obtain rfl : args = #[v0, v1] := by cases args; simp_all
  obtain ⟨rfl, rfl⟩ := trodVars_none hV
  obtain ⟨a0, len0, cap0, rfl⟩ := okWide_slice Try.underlying22 (hval 0 22 v0 rfl rfl)
  have k0 := h0
  have lt0 : ∀ x ∈ p0, x.block < W.heap.size := by obtain ⟨m, hm⟩ := k0; exact DataW.trod_lt m _ _ _ hm
  obtain ⟨z0, w0⟩ : ∃ zs, Ints.IsRow .u8 W a0 len0 cap0 zs := by
    obtain ⟨fuel, hf⟩ := h0
    rcases open_ints Try.underlying22 Try.underlying5 (by kernel_rfl) hf with ⟨hcs, _⟩ | ⟨x, l, c, zs, hcs, _, hl, hm, hz, _, hcell, hwz⟩
    · simp [Value.cells] at hcs
      obtain ⟨rfl, rfl, rfl⟩ := hcs
      exact ⟨[], .inl ⟨rfl, rfl, rfl, rfl⟩⟩
    · simp [Value.cells] at hcs
      obtain ⟨rfl, rfl, rfl⟩ := hcs
      exact ⟨zs, .inr ⟨_, rfl, hl, hm, by simpa using hz, hcell, hwz⟩⟩
  obtain ⟨a1, rfl, rfl, rfl, w1⟩ := open_int Try.underlying3 (hval 1 3 v1 rfl rfl) h1
  clear hA0 hval0
  refine (walk a0 len0 cap0 z0 a1 W w0 w1).mono fun e W' ⟨he, bel⟩ => ?_
  subst he
  exact ⟨_, rfl, _, _, _, [], _, [], hW', trodAll_mk1 (shut_bool Try.underlying4 _), (trodAll_cons_mk (Below.trod laidOut (by kernel_rfl) (of_decide_eq_true (by kernel_rfl)) k0 bel lt0) (trodAll_cons_mk (shut_int Try.underlying3 w1) trodAll_mk0)), rfl, bel.frame _, fun h => by cases h⟩

theorem over : Rows.fnExactUnsealRow.holds Try.pinned (OpenSpec.ofChange Rows.fnExactUnsealSpec) :=
  OpenClaim.holds_of_wide 3 Try.f3 rfl rfl rfl rfl rfl rfl rfl ⟨rfl, rfl, rfl, rfl, rfl⟩ rfl rfl rfl rfl rfl (by kernel_rfl) Try.func3 (by kernel_rfl)
    (of_decide_eq_true (by kernel_rfl)) (by unfold Func.isWrapper; first | (rw [if_pos (by decide +kernel)]; kernel_rfl) | (rw [if_neg (by decide +kernel)]; exact ⟨rfl, rfl⟩))
    (fun os started H enc _ => lifted os started H enc)

/-- The statement. -/
theorem proved : Rows.FnExactUnsealSaid := over
#print axioms proved
end Go.Proofs.Ytjnabhflddnbaab.fnExactUnseal
