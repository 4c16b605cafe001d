/- At any command the program's CmdPack answers as its model, writes into no argument, and its answer is its own. No condition. -/
import Derived.Test.YtnkbkaeafkdpiaaRows
import Derived.Test.YtnkbkaeafkdpiaaByteH
import Derived.Test.YtnkbkaeafkdpiaaVOB
import Derived.Test.YtnkbkaeafkdpiaaInts
import Derived.Test.YtnkbkaeafkdpiaaSBytes
import Derived.Test.YtnkbkaeafkdpiaaLaw11
import Derived.Test.YtnkbkaeafkdpiaaLawS11
import Derived.Test.YtnkbkaeafkdpiaaVOI
import Derived.Test.YtnkbkaeafkdpiaaLaw12
import Derived.Test.YtnkbkaeafkdpiaaSPut11
import Derived.Test.YtnkbkaeafkdpiaaSPuts11
import Derived.Test.YtnkbkaeafkdpiaaIPuts11
import Derived.Test.YtnkbkaeafkdpiaaTup5
import Derived.Test.YtnkbkaeafkdpiaaLots
import Derived.Test.YtnkbkaeafkdpiaaSCmd
import Derived.Test.YtnkbkaeafkdpiaaICmd10
import Derived.Test.YtnkbkaeafkdpiaaICall10
import Derived.Test.YtnkbkaeafkdpiaaSGets11
import Derived.Test.YtnkbkaeafkdpiaaSPack12
import Derived.Test.YtnkbkaeafkdpiaaSPackC12
import Derived.Test.YtnkbkaeafkdpiaaIMsg12
import Derived.Test.YtnkbkaeafkdpiaaIPack12
import Derived.Test.YtnkbkaeafkdpiaaIPackC12
import Derived.Test.YtnkbkaeafkdpiaaCmdH
import Derived.ShutString
import Derived.ChangeOld
import Derived.Below
namespace Go.Proofs.Ytnkbkaeafkdpiaa.fnExactCmdPack
open Go.ChangeShapes Go.WideShapes Go.ChangeAt Go.RowKit
open Go.ChangeMaps (open_string shut_string)
set_option linter.unusedVariables false
set_option linter.unusedSimpArgs false

theorem own : ownKnob Try.prog.godebug = none := by kernel_rfl
theorem laidOut : laidOutB Try.prog = true := by kernel_rfl

open SBytes SPut11 SPack12 SPackC12
open CmdH (szC toC)
open SCmd (CmOk below_of_drew)
open Lots (Says says_of)

theorem ans_len {k : Int} {xs : List Int} {ok : Bool} (h : xs.length ≤ 1048576) (hs : Says ok (CmOk k xs)) : (packC ok k xs).length ≤ 100000000 := by
  cases ok with
  | false => simp [packC]
  | true =>
    have a := numB_nine (x := k) (by have := kind_in hs.yes; omega)
    have b := nums_len xs (args_in hs.yes)
    simp [packC]
    omega


set_option maxRecDepth 100000 in
set_option maxHeartbeats 8000000 in
theorem walk (n0 : Int) (a0 : Option Addr) (len0 cap0 : Nat) (z0 : List Int) (w : World) (l0 : z0.length = len0) (g0 : len0 ≤ 9223372036854775807) (w0 : Ints.Reads w a0 z0) :
    Calls Try.prog 4 #[.agg #[.int .i64 n0, .slice a0 len0 cap0]] w fun e w' => e = .returned (.bool true) ∧ Below w.heap.size w w' := by
  generalize hlen : z0.length = lenz at *
  subst l0
  have HL := hide hlen
  have R0 := hide w0
  clear w0 hlen
  obtain ⟨ok, OK⟩ := says_of (CmOk n0 z0)
  have HO := hide OK
  clear OK
  have B := hide (Law12.one_more w (.cells #[.int .i64 n0, .slice a0 lenz cap0] 34))
  have KA := hide (Law12.Kb.made w (.int .i64 n0) (.slice a0 lenz cap0) 34)
  go_enter Try.func4, Try.ntmps4
  go_wp2_with fail
  refine (szC _ n0 a0 lenz cap0 g0).mono ?_
  rintro e u0 ⟨r, rfl, hr, bb⟩
  replace B := hide ((unhide B).trans (bb.mono (unhide B).size))
  replace KA := hide ((unhide KA).step bb)
  clear bb
  rcases hr with rfl | ⟨r1, sm⟩
  · go_wp2
    go_ret
    exact ⟨rfl, unhide B⟩
  have rn : ¬ r < 0 := by omega
  clear r1
  have AL := hide (ans_len (k := n0) (by rw [unhide HL]; exact sm) (unhide HO))
  have SP := hide (fun u gl hg hr => sCmdPack u n0 gl lenz z0 ok (by rw [unhide HL]; exact sm) hg hr (unhide HO))
  have IM := hide (fun u gl hg hr => IPackC12.iCmdPack u n0 gl lenz z0 ok (by rw [unhide HL]; exact sm) hg hr (unhide HO))
  rw [unhide HL] at SP IM
  generalize packC ok n0 z0 = ws at *
  generalize hn : ws.length = nw at *
  have NW := hide hn
  clear hn
  have q1 : (ok != ok) = false := by simp
  have p0 := (unhide KA).c0
  have p1 := (unhide KA).c1
  go_wp2_with fail
  refine (toC _ n0 a0 lenz cap0 z0 (unhide HL) sm ((unhide R0).below (unhide B))).mono ?_
  rintro e u1 ⟨gf, rfl, oz, bb⟩
  replace B := hide ((unhide B).trans (bb.mono (unhide B).size))
  replace KA := hide ((unhide KA).step bb)
  clear p0 p1
  have OZ := hide oz
  clear bb oz
  go_wp2_with fail
  refine ((unhide SP) u1 gf (unhide OZ).lt.2 (unhide OZ).at).mono ?_
  rintro e u2 ⟨g2, c2, rfl, ow, bb⟩
  replace B := hide ((unhide B).trans (bb.mono (unhide B).size))
  replace KA := hide ((unhide KA).step bb)
  have OW := hide (VOB.Ob.of ow)
  have LW := hide (And.intro (unhide B).size ow.lt.2)
  have W1 := hide (show w.heap.size < u2.heap.size from (unhide KA).lt)
  clear bb ow OZ
  have p0 := (unhide KA).c0
  have p1 := (unhide KA).c1
  go_wp2_with fail
  refine (toC _ n0 a0 lenz cap0 z0 (unhide HL) sm ((unhide R0).below (unhide B))).mono ?_
  rintro e u3 ⟨gz, rfl, oz, bb⟩
  replace B := hide ((unhide B).trans (bb.mono (unhide B).size))
  replace KA := hide ((unhide KA).step bb)
  replace OW := hide ((unhide OW).step bb)
  clear p0 p1
  have OX2 := hide (VOI.Ob.of oz)
  have LX := hide oz.lt
  clear bb oz
  have bb := Law12.one_more u3 (.cells #[.int .i64 n0, .slice (some ⟨gz, 0, none⟩) lenz lenz] 37)
  replace B := hide ((unhide B).trans (bb.mono (unhide B).size))
  replace KA := hide ((unhide KA).step bb)
  replace OW := hide ((unhide OW).step bb)
  replace OX2 := hide ((unhide OX2).step bb)
  have KX := hide (Law12.Kb.made u3 (.int .i64 n0) (.slice (some ⟨gz, 0, none⟩) lenz lenz) 37)
  have SZKX := hide bb.size
  clear bb
  have p0 := (unhide KX).c0
  have p1 := (unhide KX).c1
  have oxo : Ints.Own (u3.alloc (.cells #[.int .i64 n0, .slice (some ⟨gz, 0, none⟩) lenz lenz] 37)) u2.heap.size gz lenz lenz z0 := unhide OX2
  have OXO := hide oxo
  clear oxo
  go_wp2_with fail
  refine ((unhide IM) _ gz (unhide OXO).lt.2 (unhide OXO).at).mono ?_
  rintro e u4 ⟨a4, c4, rfl, og, bb⟩
  replace B := hide ((unhide B).trans (bb.mono (unhide B).size))
  replace KA := hide ((unhide KA).step bb)
  replace OW := hide ((unhide OW).step bb)
  replace OX2 := hide ((unhide OX2).step bb)
  replace KX := hide ((unhide KX).step bb)
  clear p0 p1
  have OG := hide og
  have TG := hide og.btw
  clear bb og OXO
  go_wp2_with fail
  refine (VOB.eqO _ _ _ nw _ _ ws (unhide NW) (unhide AL) (unhide OG).rd (unhide OW).rd).mono ?_
  rintro e u5 ⟨rfl, bb⟩
  replace B := hide ((unhide B).trans (bb.mono (unhide B).size))
  replace KA := hide ((unhide KA).step bb)
  replace OW := hide ((unhide OW).step bb)
  replace OX2 := hide ((unhide OX2).step bb)
  replace KX := hide ((unhide KX).step bb)
  replace OG := hide ((unhide OG).step bb)
  clear bb
  have K4 := And.intro (unhide KA).c0 (And.intro (unhide KA).c1 (And.intro (unhide KX).c0 (unhide KX).c1))
  go_wp2_with fail
  go_region_held3 (fun w' => w'.cell? ⟨w.heap.size, 0, none⟩ = some (.int .i64 n0) ∧ w'.cell? ⟨w.heap.size, 1, none⟩ = some (.slice a0 lenz cap0) ∧ w'.cell? ⟨u3.heap.size, 0, none⟩ = some (.int .i64 n0) ∧ w'.cell? ⟨u3.heap.size, 1, none⟩ = some (.slice (some ⟨gz, 0, none⟩) lenz lenz)) (first | exact K4 | exact K5 | exact K6)
    (first | (go_at_call 17; refine (toC u5.drew n0 a0 lenz cap0 z0 (unhide HL) sm ((unhide R0).below (unhide B).drew)).mono ?_; rintro e u6 ⟨gq, rfl, oq, bb⟩; have bW := hide (show Below u5.heap.size u5 u6 from below_of_drew bb); have B6 := hide ((unhide B).trans ((unhide bW).mono (unhide B).size)); have KA6 := hide ((unhide KA).step (unhide bW)); have KX6 := hide ((unhide KX).step (unhide bW)); have OW6 := hide ((unhide OW).step (unhide bW)); have OG6 := hide ((unhide OG).step (unhide bW)); have OX6 := hide ((unhide OX2).step (unhide bW)); have OQ := hide oq; have K5 := And.intro (unhide KA6).c0 (And.intro (unhide KA6).c1 (And.intro (unhide KX6).c0 (unhide KX6).c1)); clear bb oq) | (go_at_call 20; refine (Law12.eqCm u6 n0 (some ⟨gz, 0, none⟩) (some ⟨gq, 0, none⟩) lenz lenz lenz z0 (unhide HL) sm (unhide OX6).rd (VOI.Ob.of (unhide OQ)).rd).mono ?_; rintro e u7 ⟨rfl, bb7⟩; have B7 := hide ((unhide B6).trans (bb7.mono (unhide B6).size)); have KA7 := hide ((unhide KA6).step bb7); have KX7 := hide ((unhide KX6).step bb7); have OW7 := hide ((unhide OW6).step bb7); have OG7 := hide ((unhide OG6).step bb7); have OX7 := hide ((unhide OX6).step bb7); have K6 := And.intro (unhide KA7).c0 (And.intro (unhide KA7).c1 (And.intro (unhide KX7).c0 (unhide KX7).c1)); clear bb7))
  clear K4 K5 K6 KA KX OW OG OX2 B KA6 KX6 OW6 OG6 OX6 B6 OQ bW
  have p0 := (unhide KX7).c0
  have p1 := (unhide KX7).c1
  go_wp2_with fail
  refine (Law12.markCm _ n0 _ lenz lenz (some ⟨gz, 0, none⟩) z0 sm (unhide OX7)).mono ?_
  rintro e u8 ⟨rfl, ox, gr0⟩
  have gr := gr0 (some gz) rfl
  clear p0 p1
  have l2 := unhide LW
  have w1 := unhide W1
  have lx := unhide LX
  have z3 := unhide SZKX
  have zz : (u3.alloc (.cells #[.int .i64 n0, .slice (some ⟨gz, 0, none⟩) lenz lenz] 37)).heap.size = u3.heap.size + 1 := by simp
  have OW := hide ((unhide OW7).kept gr (fun x hx => by cases hx; intro e; injection e with e; simp at e; omega))
  have OG := hide ((unhide OG7).kept gr (fun x hx => by have := (unhide TG) x hx; intro e; injection e with e; omega))
  have KA := hide ((unhide KA7).kept gr (fun e => by injection e with e; omega))
  have B := hide ((unhide B7).grown gr (by have := (unhide B7).size; omega) (fun j hj => by cases hj; omega))
  clear gr gr0 ox KA7 KX7 OW7 OG7 OX7 B7 l2 w1 lx z3 zz
  have k0 : ¬ (1 + (lenz : Int) < 0) := by omega
  go_wp2_with fail
  refine (VOB.eqO _ _ _ nw _ _ ws (unhide NW) (unhide AL) (unhide OG).rd (unhide OW).rd).mono ?_
  rintro e u9 ⟨rfl, bb⟩
  replace B := hide ((unhide B).trans (bb.mono (unhide B).size))
  replace KA := hide ((unhide KA).step bb)
  replace OW := hide ((unhide OW).step bb)
  replace OG := hide ((unhide OG).step bb)
  clear bb k0
  go_wp2_with fail
  refine (VOB.markO _ _ nw _ _ ws (unhide AL) (unhide OG)).mono ?_
  rintro e u10 ⟨rfl, og, gr⟩
  have l2 := unhide LW
  have w1 := unhide W1
  have lx := unhide LX
  have zz : (u3.alloc (.cells #[.int .i64 n0, .slice (some ⟨gz, 0, none⟩) lenz lenz] 37)).heap.size = u3.heap.size + 1 := by simp
  have tw : ∀ x : Addr, some ⟨g2, 0, none⟩ = some x → some x.block ≠ VOB.blk a4 := fun x hx => by cases hx; exact VOB.blk_ne (unhide TG) (.inl (by show g2 < _; omega))
  replace OW := hide ((unhide OW).kept gr tw)
  replace KA := hide ((unhide KA).kept gr (VOB.blk_ne (unhide TG) (.inl (by omega))))
  replace B := hide ((unhide B).grown gr (by have := (unhide B).size; omega) (fun j hj => by
    cases a4 with
    | none => simp [VOB.blk] at hj
    | some x =>
      have := (unhide TG) x rfl
      simp [VOB.blk] at hj
      omega))
  replace OG := hide og
  clear gr og l2 w1 lx zz tw
  have m0 : ¬ (1 + (nw : Int) < 0) := by omega
  have m1 : ((1 + (nw : Int)) != (1 + (nw : Int))) = false := by simp
  go_wp2_with fail
  refine (VOB.heldO _ nw _ _ (unhide AL) (unhide OG).rd).mono ?_
  rintro e u ⟨rfl, rfl⟩
  have p0 := (unhide KA).c0
  have p1 := (unhide KA).c1
  go_wp2_with fail
  refine (toC _ n0 a0 lenz cap0 z0 (unhide HL) sm ((unhide R0).below (unhide B))).mono ?_
  rintro e u11 ⟨gy, rfl, oz, bb⟩
  replace B := hide ((unhide B).trans (bb.mono (unhide B).size))
  replace KA := hide ((unhide KA).step bb)
  replace OW := hide ((unhide OW).step bb)
  replace OG := hide ((unhide OG).step bb)
  clear p0 p1
  have OZ := hide oz
  clear bb oz
  go_wp2_with fail
  refine ((unhide IM) u11 gy (unhide OZ).lt.2 (unhide OZ).at).mono ?_
  rintro e u12 ⟨a12, c12, rfl, oh, bb⟩
  replace B := hide ((unhide B).trans (bb.mono (unhide B).size))
  replace KA := hide ((unhide KA).step bb)
  replace OW := hide ((unhide OW).step bb)
  replace OG := hide ((unhide OG).step bb)
  have OH := hide oh
  clear bb oh OZ
  go_wp2_with fail
  refine (VOB.eqO _ _ _ nw _ _ ws (unhide NW) (unhide AL) (unhide OH).rd (unhide OW).rd).mono ?_
  rintro e u13 ⟨rfl, bb⟩
  replace B := hide ((unhide B).trans (bb.mono (unhide B).size))
  replace KA := hide ((unhide KA).step bb)
  replace OW := hide ((unhide OW).step bb)
  replace OG := hide ((unhide OG).step bb)
  replace OH := hide ((unhide OH).step bb)
  clear bb
  go_wp2_with fail
  refine (VOB.heldO _ nw _ _ (unhide AL) (unhide OG).rd).mono ?_
  rintro e u ⟨rfl, rfl⟩
  go_wp2
  go_ret
  exact ⟨rfl, unhide B⟩

set_option maxRecDepth 100000 in
theorem lifted (os : Os) (started : os.Started) (H : Type) (enc : TypeId × Value → H) :
    ReturnsInHanded {} Try.checked os 4 .any (Rows.fnExactCmdPackSpec.pre6 enc Try.prog Try.f4 Rows.fnExactCmdPackRow.domain false) (Rows.fnExactCmdPackSpec.post enc Try.prog Try.f4 false true false false) := by
  refine returnsInHanded_of_change (C := Try.checked) own started (by kernel_rfl) Try.func4
    (ChangeSpec.witness6 (enc := enc) (C := Try.checked) false ⟨#[], #[.agg #[.int .i64 0, .slice none 0 0]], []⟩ 8 (by kernel_rfl) (by kernel_rfl) (by kernel_rfl) (by kernel_rfl)) ?_
  intro W base args ds gs before hval0 hW hcnd _
  have hval : ∀ (j : Nat) t v, Try.f4.params[j]? = some t → args[j]? = some v → Value.okWide Try.prog W .any base t v := hval0
  have hW' := hW
  obtain ⟨p, q, hA0, hV, rfl, hfz, hnd⟩ := hW
  have hA : DataW.TrodAll enc Try.prog W 0 (fun _ => true) true Try.f4.params.toList args.toList ds p := hA0
  rw [Try.params4] at hA hval
  obtain ⟨v0, vs0, d0, ds0, p0, q0, hargs, rfl, rfl, h0, r0⟩ := trodAll_cons hA
  obtain ⟨rfl, rfl, rfl⟩ := trodAll_nil r0
  obtain rfl : args = #[v0] := by cases args; simp_all
  obtain ⟨rfl, rfl⟩ := trodVars_none hV
  have k0 := h0
  have lt0 : ∀ x ∈ p0, x.block < W.heap.size := by obtain ⟨m, hm⟩ := k0; exact DataW.trod_lt m _ _ _ hm
  obtain ⟨n0, a0, len0, cap0, z0, rfl, l0, g0, w0⟩ := CmdH.open_cmd (hval 0 34 v0 rfl rfl) h0
  clear hA0 hval0
  refine (walk n0 a0 len0 cap0 z0 W l0 g0 w0).mono fun e W' ⟨he, bel⟩ => ?_
  subst he
  exact ⟨_, rfl, _, _, _, [], _, [], hW', trodAll_mk1 (shut_bool Try.underlying4 _), (trodAll_cons_mk (Below.trod laidOut (by kernel_rfl) (of_decide_eq_true (by kernel_rfl)) k0 bel lt0) trodAll_mk0), rfl, bel.frame _, fun h => by cases h⟩

theorem over : Rows.fnExactCmdPackRow.holds Try.pinned (OpenSpec.ofChange Rows.fnExactCmdPackSpec) :=
  OpenClaim.holds_of_wide 4 Try.f4 rfl rfl rfl rfl rfl rfl rfl ⟨rfl, rfl, rfl, rfl, rfl⟩ rfl rfl rfl rfl rfl (by kernel_rfl) Try.func4 (by kernel_rfl)
    (of_decide_eq_true (by kernel_rfl)) (by unfold Func.isWrapper; first | (rw [if_pos (by decide +kernel)]; kernel_rfl) | (rw [if_neg (by decide +kernel)]; exact ⟨rfl, rfl⟩))
    (fun os started H enc _ => lifted os started H enc)

/-- The statement. -/
theorem proved : Rows.FnExactCmdPackSaid := over
#print axioms proved
end Go.Proofs.Ytnkbkaeafkdpiaa.fnExactCmdPack
