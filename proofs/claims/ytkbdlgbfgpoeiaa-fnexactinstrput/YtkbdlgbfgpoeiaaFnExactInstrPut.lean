/- At every list of instrs and every instr the program's InstrPut answers as its model, writes into no argument, and its answer owns its memory. No condition. -/
import Derived.Test.YtkbdlgbfgpoeiaaRows
import Derived.Test.YtkbdlgbfgpoeiaaOpens
import Derived.Test.YtkbdlgbfgpoeiaaArg
import Derived.Test.YtkbdlgbfgpoeiaaInstrHelp
import Derived.Test.YtkbdlgbfgpoeiaaInstrSPut
import Derived.Test.YtkbdlgbfgpoeiaaInstrIPut
import Derived.ShutString
import Derived.ChangeOld
import Derived.Below
namespace Go.Proofs.Ytkbdlgbfgpoeiaa.fnExactInstrPut
open Go.ChangeShapes Go.WideShapes Go.ChangeAt Go.RowKit
open Go.ChangeMaps (open_string shut_string)
set_option linter.unusedVariables false

theorem own : ownKnob Try.prog.godebug = none := by kernel_rfl
theorem laidOut : laidOutB Try.prog = true := by kernel_rfl

open Pairs Chart Opens Arg InstrHelp InstrSPut InstrIPut


set_option maxRecDepth 100000 in
set_option maxHeartbeats 8000000 in
theorem walk (a0 : Option Addr) (len0 cap0 : Nat) (z0 : List (Int × Int)) (x1 y1 : Int) (w : World) (l0 : z0.length = len0) (g0 : len0 ≤ 9223372036854775807) (w0 : Reads w a0 z0) :
    Calls Try.prog 6 #[.slice a0 len0 cap0, .agg #[.int .i64 x1, .int .i64 y1]] w fun e w' => e = .returned (.bool true) ∧ Below w.heap.size w w' := by
  by_cases t : (len0 : Int) ≤ 1048576
  · have HR := hide w0
    have T : len0 ≤ 1048576 := by omega
    clear w0
    have HA := hide (Arg.start w x1 y1 53)
    obtain ⟨v0, hv0⟩ : ∃ v0, v0 = w.alloc (.cells #[.int .i64 x1, .int .i64 y1] 53) := ⟨_, rfl⟩
    rw [← hv0] at HA
    have d0 := (unhide HA).c0
    have d1 := (unhide HA).c1
    have sz := (unhide HA).sz
    go_enter Try.func6, Try.ntmps6
    go_wp2_with fail
    rw [← hv0]
    clear hv0
    refine (sz_yes a0 len0 cap0 _ t).mono ?_
    rintro e u0 ⟨r0, hr0, rfl, rfl⟩
    go_wp2_with fail
    go_region_with (first
      | (go_at_call 23
         refine (toS _ a0 len0 cap0 z0 l0 T (by exact (unhide HR).below (unhide HA).drew.bel)).mono ?_
         rintro e u1 ⟨rfl, o1, b1⟩
         have HA := hide ((unhide HA).drew.next b1)
         have d0 := (unhide HA).c0
         have d1 := (unhide HA).c1
         have sz := (unhide HA).sz)
      | (go_at_call 31
         refine (to1 _ x1 y1).mono ?_
         rintro e u2 ⟨rfl, b2⟩
         have o1 := o1.below b2 o1.lt.2
         have HA := hide ((unhide HA).next b2)
         have sz := (unhide HA).sz)
      | (go_at_call 18
         refine (sPut _ _ len0 len0 z0 x1 y1 l0 T o1.lt.2 o1.at).mono ?_
         rintro e u3 ⟨qs, ok, gW, cW, hp, rfl, oW, b3⟩
         have HA := hide ((unhide HA).next b3)
         have HP := hide hp
         have OW := hide oW
         have lW := oW.lt
         have qn := hp.len
         clear o1 b1 b2 b3 hp oW d0 d1))
    all_goals
      (have lW : w.heap.size < gW := by omega
       have lW2 := (unhide OW).lt.2
       have sz := (unhide HA).sz
       go_wp2_with fail
       refine (toS _ a0 len0 cap0 z0 l0 T ((unhide HR).below (unhide HA).bel)).mono ?_
       rintro e u4 ⟨rfl, oX, b4⟩
       have HA := hide ((unhide HA).next b4)
       have OW := hide ((unhide OW).below b4 lW2)
       have lW2 := (unhide OW).lt.2
       have lX := oX.lt
       have d0 := (unhide HA).c0
       have d1 := (unhide HA).c1
       have sz4 := (unhide HA).sz
       clear b4
       go_wp2_with fail
       refine (to1 _ x1 y1).mono ?_
       rintro e u5 ⟨rfl, b5⟩
       have HA := hide ((unhide HA).next b5)
       have OW := hide ((unhide OW).below b5 lW2)
       have oX := oX.below b5 lX.2
       clear b5
       go_wp2_with fail
       refine (iPut _ _ len0 len0 z0 x1 y1 l0 T oX.lt.2 oX.at).mono ?_
       rintro e u6 ⟨qs', ok', gG, cG, hp', rfl, oG, b6⟩
       obtain ⟨rfl, rfl⟩ := (unhide HP).same hp'
       have lG := oG.lt
       have lX5 := oX.lt.2
       have lW5 := (unhide OW).lt.2
       have HA := hide ((unhide HA).next b6)
       have OW := hide ((unhide OW).below b6 lW5)
       have oX := oX.below b6 lX5
       clear b6 hp' d0 d1
       have lX2 := oX.lt.2
       have lW2 := (unhide OW).lt.2
       have lG2 := oG.lt.2
       go_wp2_with fail
       refine (eqS _ gG gW qs.length cG cW qs rfl (by omega) lG2 lW2 oG.at (unhide OW).at).mono ?_
       rintro e u7 ⟨rfl, b7⟩
       have HA := hide ((unhide HA).next b7)
       have OW := hide ((unhide OW).below b7 lW2)
       have oX := oX.below b7 lX2
       have oG := oG.below b7 lG2
       clear b7
       go_wp2_with fail
       refine (toS _ a0 len0 cap0 z0 l0 T ((unhide HR).below (unhide HA).bel)).mono ?_
       rintro e u8 ⟨rfl, oY, b8⟩
       have HA := hide ((unhide HA).next b8)
       have OW := hide ((unhide OW).below b8 (unhide OW).lt.2)
       have oX := oX.below b8 oX.lt.2
       have oG := oG.below b8 oG.lt.2
       clear b8
       go_wp2_with fail
       refine (eqS _ _ _ len0 len0 len0 z0 l0 T oX.lt.2 oY.lt.2 oX.at oY.at).mono ?_
       rintro e u9 ⟨rfl, b9⟩
       have HA := hide ((unhide HA).next b9)
       have OW := hide ((unhide OW).below b9 (unhide OW).lt.2)
       have oX := oX.below b9 oX.lt.2
       have oG := oG.below b9 oG.lt.2
       clear b9 oY
       go_wp2_with fail
       refine (markS _ _ _ len0 len0 z0 T oX).mono ?_
       rintro e u10 ⟨rfl, oX, g10⟩
       have HA := hide ((unhide HA).grown g10 (by omega))
       have OW := hide ((unhide OW).kept g10 (by simp; omega))
       have oG := oG.kept g10 (by simp; omega)
       clear g10 oX
       have k0 : ¬ (1 + 2 * (len0 : Int)) < 0 := by omega
       go_wp2_with fail
       refine (eqS _ gG gW qs.length cG cW qs rfl (by omega) oG.lt.2 (unhide OW).lt.2 oG.at (unhide OW).at).mono ?_
       rintro e u11 ⟨rfl, b11⟩
       have HA := hide ((unhide HA).next b11)
       have OW := hide ((unhide OW).below b11 (unhide OW).lt.2)
       have oG := oG.below b11 oG.lt.2
       clear b11
       go_wp2_with fail
       refine (markS _ _ _ qs.length _ qs (by omega) oG).mono ?_
       rintro e u12 ⟨rfl, oG, g12⟩
       have HA := hide ((unhide HA).grown g12 (by omega))
       have OW := hide ((unhide OW).kept g12 (by simp; omega))
       clear g12
       have k1 : ¬ (1 + 2 * (qs.length : Int)) < 0 := by omega
       go_wp2_with fail
       refine (heldS _ _ qs.length _ (by omega) oG.at).mono ?_
       rintro e u13 ⟨rfl, rfl⟩
       have d0 := (unhide HA).c0
       have d1 := (unhide HA).c1
       have sz5 := (unhide HA).sz
       go_wp2_with fail
       go_region_with (first
         | (go_at_call 23
            refine (toS _ a0 len0 cap0 z0 l0 T (by exact (unhide HR).below (unhide HA).drew.bel)).mono ?_
            rintro e u14 ⟨rfl, oZ, b14⟩
            have HA := hide ((unhide HA).drew.next b14)
            have OW := hide ((unhide OW).drew.below b14 (by simpa using (unhide OW).lt.2))
            have oG := oG.drew.below b14 (by simpa using oG.lt.2)
            have d0 := (unhide HA).c0
            have d1 := (unhide HA).c1)
         | (go_at_call 31
            refine (to1 _ x1 y1).mono ?_
            rintro e u15 ⟨rfl, b15⟩
            have HA := hide ((unhide HA).next b15)
            have OW := hide ((unhide OW).below b15 (unhide OW).lt.2)
            have oG := oG.below b15 oG.lt.2
            have oZ := oZ.below b15 oZ.lt.2)
         | (go_at_call 17
            refine (iPut _ _ len0 len0 z0 x1 y1 l0 T oZ.lt.2 oZ.at).mono ?_
            rintro e u16 ⟨qs', ok', gH, cH, hp', rfl, oH, b16⟩
            obtain ⟨rfl, rfl⟩ := (unhide HP).same hp'
            have HA := hide ((unhide HA).next b16)
            have OW := hide ((unhide OW).below b16 (unhide OW).lt.2)
            have oG := oG.below b16 oG.lt.2
            clear b14 b15 b16 hp' d0 d1 oZ))
       all_goals
         (go_wp2_with fail
          refine (eqS _ gH gW qs.length cH cW qs rfl (by omega) oH.lt.2 (unhide OW).lt.2 oH.at (unhide OW).at).mono ?_
          rintro e u17 ⟨rfl, b17⟩
          have HA := hide ((unhide HA).next b17)
          have oG := oG.below b17 oG.lt.2
          clear b17
          go_wp2_with fail
          refine (heldS _ _ qs.length _ (by omega) oG.at).mono ?_
          rintro e u18 ⟨rfl, rfl⟩
          have B := (unhide HA).bel
          go_wp2
          go_ret
          exact ⟨rfl, B⟩))
  · clear w0 l0
    go_enter Try.func6, Try.ntmps6
    go_wp2_with fail
    refine (sz_no a0 len0 cap0 _ (by omega) g0).mono ?_
    rintro e u0 ⟨rfl, rfl⟩
    go_wp2
    go_ret
    exact ⟨rfl, (Below.refl _ _).alloc (Nat.le_refl _) _⟩

set_option maxRecDepth 100000 in
theorem lifted (os : Os) (started : os.Started) (H : Type) (enc : TypeId × Value → H) :
    ReturnsInHanded {} Try.checked os 6 .any (Rows.fnExactInstrPutSpec.pre6 enc Try.prog Try.f6 Rows.fnExactInstrPutRow.domain false) (Rows.fnExactInstrPutSpec.post enc Try.prog Try.f6 false true false false) := by
  refine returnsInHanded_of_change (C := Try.checked) own started (by kernel_rfl) Try.func6
    (ChangeSpec.witness6 (enc := enc) (C := Try.checked) false ⟨#[], #[.slice none 0 0, .agg #[.int .i64 0, .int .i64 0]], []⟩ 8 (by kernel_rfl) (by kernel_rfl) (by kernel_rfl) (by kernel_rfl)) ?_
  intro W base args ds gs before hval0 hW hcnd _
  have hval : ∀ (j : Nat) t v, Try.f6.params[j]? = some t → args[j]? = some v → Value.okWide Try.prog W .any base t v := hval0
  have hW' := hW
  obtain ⟨p, q, hA0, hV, rfl, hfz, hnd⟩ := hW
  have hA : DataW.TrodAll enc Try.prog W 0 (fun _ => true) true Try.f6.params.toList args.toList ds p := hA0
  rw [Try.params6] at hA hval
  obtain ⟨v0, vs0, d0, ds0, p0, q0, hargs, rfl, rfl, h0, r0⟩ := trodAll_cons hA
  obtain ⟨v1, vs1, d1, ds1, p1, q1, rfl, rfl, rfl, h1, r1⟩ := trodAll_cons r0
  obtain ⟨rfl, rfl, rfl⟩ := trodAll_nil r1
  obtain rfl : args = #[v0, v1] := by cases args; simp_all
  obtain ⟨rfl, rfl⟩ := trodVars_none hV
  obtain ⟨a0, len0, cap0, rfl⟩ := okWide_slice Try.underlying41 (hval 0 41 v0 rfl rfl)
  have k0 := h0
  have lt0 : ∀ x ∈ p0, x.block < W.heap.size := by obtain ⟨m, hm⟩ := k0; exact DataW.trod_lt m _ _ _ hm
  obtain ⟨z0, l0, g0, w0⟩ : ∃ zs : List (Int × Int), zs.length = len0 ∧ len0 ≤ 9223372036854775807 ∧ Reads W a0 zs := by
    obtain ⟨fuel, hf⟩ := h0
    exact open_pairs Try.underlying41 Try.underlying53 (by kernel_rfl) Try.underlying3 hf
  have k1 := h1
  have lt1 : ∀ x ∈ p1, x.block < W.heap.size := by obtain ⟨m, hm⟩ := k1; exact DataW.trod_lt m _ _ _ hm
  obtain ⟨x1, y1, rfl⟩ : ∃ x y, v1 = .agg #[.int .i64 x, .int .i64 y] := open_pair Try.underlying53 (by kernel_rfl) (by kernel_rfl) Try.underlying3 (hval 1 53 v1 rfl rfl) h1
  clear hA0 hval0
  refine (walk a0 len0 cap0 z0 x1 y1 W l0 g0 w0).mono fun e W' ⟨he, bel⟩ => ?_
  subst he
  exact ⟨_, rfl, _, _, _, [], _, [], hW', trodAll_mk1 (shut_bool Try.underlying4 _), (trodAll_cons_mk (Below.trod laidOut (by kernel_rfl) (of_decide_eq_true (by kernel_rfl)) k0 bel lt0) (trodAll_cons_mk (Below.trod laidOut (by kernel_rfl) (of_decide_eq_true (by kernel_rfl)) k1 bel lt1) trodAll_mk0)), rfl, bel.frame _, fun h => by cases h⟩

theorem over : Rows.fnExactInstrPutRow.holds Try.pinned (OpenSpec.ofChange Rows.fnExactInstrPutSpec) :=
  OpenClaim.holds_of_wide 6 Try.f6 rfl rfl rfl rfl rfl rfl rfl ⟨rfl, rfl, rfl, rfl, rfl⟩ rfl rfl rfl rfl rfl (by kernel_rfl) Try.func6 (by kernel_rfl)
    (of_decide_eq_true (by kernel_rfl)) (by unfold Func.isWrapper; first | (rw [if_pos (by decide +kernel)]; kernel_rfl) | (rw [if_neg (by decide +kernel)]; exact ⟨rfl, rfl⟩))
    (fun os started H enc _ => lifted os started H enc)

/-- The statement. -/
theorem proved : Rows.FnExactInstrPutSaid := over
#print axioms proved
end Go.Proofs.Ytkbdlgbfgpoeiaa.fnExactInstrPut
