/- For every row of bytes the law of charts returns true: an account or an instrument that is put into the chart that the bytes draw is found by its number, and turns no other one. No condition. -/
import Derived.Test.YtkbdlgbfgpoeiaaRows
import Derived.WalkKit
import Derived.Deep.RegionHeld3
import Derived.Test.YtkbdlgbfgpoeiaaQuieter
import Derived.Test.YtkbdlgbfgpoeiaaArg
import Derived.Test.YtkbdlgbfgpoeiaaMore
import Derived.Test.YtkbdlgbfgpoeiaaInstrIPut
import Derived.Test.YtkbdlgbfgpoeiaaAccountIPut
import Derived.Test.YtkbdlgbfgpoeiaaInstrDraw3
import Derived.Test.YtkbdlgbfgpoeiaaAccountDraw3
import Derived.ProofKit
import Derived.OpenShut
import Derived.ShutString
import Derived.ChangeOld
import Derived.Below
namespace Go.Proofs.Ytkbdlgbfgpoeiaa.fnChart
open Go.ChangeShapes Go.WideShapes Go.ChangeAt Go.RowKit
open Go.ChangeMaps (open_string shut_string)
set_option linter.unusedVariables false

theorem own : ownKnob Try.prog.godebug = none := by kernel_rfl
theorem laidOut : laidOutB Try.prog = true := by kernel_rfl

/-- A slice of integers that came in, with its cells. -/
def IsRow (k : IntKind) (w : World) (a : Option Addr) (len cap : Nat) (zs : List Int) : Prop :=
  (a = none ∧ len = 0 ∧ cap = 0 ∧ zs = []) ∨
  ∃ x, a = some x ∧ len ≤ cap ∧ cap ≤ maxLen ∧ zs.length = cap ∧ (∀ i, i < zs.length → w.cell? (x.add i) = some (.int k (zs.getD i 0))) ∧ ∀ n ∈ zs, (Lit.int k n).wf = true

open Pairs Chart More Arg
open Draw (CodeAt)
open Quieter
open AccountIPut (iPut)

/-- The bytes that came in, as the drawing functions want them. -/
theorem codeAt (w : World) (a : Option Addr) (len cap : Nat) (zs : List Int) (h : IsRow .u8 w a len cap zs) : CodeAt w a len := by
  rcases h with ⟨rfl, rfl, rfl, rfl⟩ | ⟨x, rfl, hl, hm, hz, hcell, hwz⟩
  · exact .inl rfl
  · by_cases z : len = 0
    · exact .inl z
    · obtain ⟨b, off, spot⟩ := x
      have hc := hcell 0 (by omega)
      have hspot : spot = none := by simpa [Addr.add] using World.cell?_spot hc
      subst hspot
      have hc0 : w.cell? ⟨b, off, none⟩ = some (.int .u8 (zs.getD 0 0)) := by simpa [Addr.add] using hc
      refine .inr ⟨b, off, zs, rfl, World.block_lt_of_cell? w _ hc0, fun i hi => ?_⟩
      have k := hcell i (by omega)
      have hw : (Lit.int .u8 (zs.getD i 0)).wf = true := hwz _ (by rw [List.getD_eq_getElem?_getD, List.getElem?_eq_getElem (by omega)]; exact List.getElem_mem _)
      have hb := bounds_u8 hw
      refine ⟨?_, by omega, by omega⟩
      by_cases z : i = 0
      · subst z; simpa [Addr.add] using k
      · simpa [Addr.add, z] using k

set_option maxRecDepth 100000 in
set_option maxHeartbeats 8000000 in
theorem walk (a0 : Option Addr) (len0 cap0 : Nat) (z0 : List Int) (w : World) (w0 : IsRow .u8 w a0 len0 cap0 z0) :
    Calls Try.prog 3 #[.slice a0 len0 cap0] w fun e w' => e = .returned (.bool true) ∧ Below w.heap.size w w' := by
  have hc := codeAt w a0 len0 cap0 z0 w0
  clear w0
  by_cases tl : (len0 : Int) ≤ 1048576
  · have HC := hide hc
    have TL : len0 ≤ 1048576 := by omega
    clear hc
    go_enter Try.func3, Try.ntmps3
    go_wp2_with (first | (go_at_call 9; go_in) | fail)
    refine (AccountDraw.drawPut _ a0 len0 cap0 TL (unhide HC)).mono ?_
    rintro e u1 ⟨ps, x, y, gL, cL, rfl, oL, l21, b1⟩
    have HA := hide (Arg.start u1 x y 26)
    have sL := oL.lt
    have OL := hide (oL.alloc (.cells #[.int .i64 x, .int .i64 y] 26))
    have HB := hide b1
    obtain ⟨v1, hv1⟩ : ∃ v1, v1 = u1.alloc (.cells #[.int .i64 x, .int .i64 y] 26) := ⟨_, rfl⟩
    rw [← hv1] at HA OL
    have d0 := (unhide HA).c0
    have d1 := (unhide HA).c1
    have sz := (unhide HA).sz
    clear oL b1
    go_wp2_with fail
    rw [← hv1]
    clear hv1
    refine (iPut _ gL ps.length cL ps x y rfl (by omega) (unhide OL).lt.2 (unhide OL).at).mono ?_
    rintro e u2 ⟨qs, ok, gN, cN, hp, rfl, oN, b2⟩
    have HP := hide hp
    have q20 := hp.len
    have lN := oN.lt
    have HA := hide ((unhide HA).next b2)
    have OL := hide ((unhide OL).below b2 (unhide OL).lt.2)
    have ON := hide oN
    have d0 := (unhide HA).c0
    have d1 := (unhide HA).c1
    have sz2 := (unhide HA).sz
    clear b2 hp oN
    go_wp2_with fail
    refine (AccountSPut.sPut _ gL ps.length cL ps x y rfl (by omega) (unhide OL).lt.2 (unhide OL).at).mono ?_
    rintro e u3 ⟨qs', ok', gM, cM, hp', rfl, oM, b3⟩
    obtain ⟨rfl, rfl⟩ := (unhide HP).same hp'
    have HA := hide ((unhide HA).next b3)
    have OL := hide ((unhide OL).below b3 (unhide OL).lt.2)
    have ON := hide ((unhide ON).below b3 (unhide ON).lt.2)
    have d0 := (unhide HA).c0
    have d1 := (unhide HA).c1
    have sz3 := (unhide HA).sz
    clear b3 hp' oM
    obtain ⟨good, GD⟩ := says_of 20 4 ps
    go_wp2_with fail
    refine (AccountSOk.sOk _ gL ps.length cL ps good rfl (by omega) (unhide OL).at GD).mono ?_
    rintro e u4 ⟨rfl, nq, rfl⟩
    have HA := hide ((unhide HA).drewN nq)
    have OL : Hid (Own 26 (u3.drewN nq) _ gL ps.length cL ps) := OL
    have ON : Hid (Own 26 (u3.drewN nq) _ gN qs.length cN qs) := ON
    generalize u3.drewN nq = u4 at *
    have d0 := (unhide HA).c0
    have d1 := (unhide HA).c1
    have sz4 := (unhide HA).sz
    cases good
    · obtain ⟨rfl, rfl⟩ := put_bad (unhide HP) GD.no
      go_wp2_with fail
      refine (AccountIKind.iKind _ gL ps.length cL ps x rfl (by omega) (unhide OL).lt.2 (unhide OL).at).mono ?_
      rintro e u5 ⟨r, hr, rfl, b5⟩
      obtain rfl : r = 0 := kind_bad GD.no hr
      have B := hide (next (next (unhide HB) (unhide HA).bel) b5)
      clear hr b5
      go_wp2
      go_ret
      exact ⟨rfl, unhide B⟩
    · have OL := hide ((unhide OL).rebase (base' := 0) (Nat.zero_le _))
      have ON := hide ((unhide ON).rebase (base' := 0) (Nat.zero_le _))
      go_wp2_with fail
      go_loopw [9] (fun i wr => ∃ (k : Nat), k ≤ ps.length ∧ i = .int .i64 k ∧ Hid (Arg u1 wr x y) ∧ Hid (Own 26 wr 0 gL ps.length cL ps) ∧ Hid (Own 26 wr 0 gN qs.length cN qs)) (fun i _ => ps.length - (intOf i).toNat)
      case atStart => exact ⟨0, by omega, rfl, HA, OL, ON⟩
      case round =>
        clear HA OL ON d0 d1
        obtain ⟨k, hk, rfl, HA, OL, ON⟩ := hrel
        by_cases t : k < ps.length
        · obtain ⟨e1, e2⟩ := (unhide OL).at k t
          have KK := hide (show ∀ r, IsKind 20 4 qs (el ps k).1 r → r = (el ps k).2 from fun r hr => put_keeps (unhide HP) GD.yes t hr)
          have lLr := (unhide OL).lt.2
          have lNr := (unhide ON).lt.2
          have szr := (unhide HA).sz
          generalize (el ps k).1 = p1 at *
          generalize (el ps k).2 = p2 at *
          go_wp2_with fail
          go_region_with (first
            | (go_at_call 14
               refine (AccountIKind.iKind _ gN qs.length cN qs p1 rfl (by omega) (by simpa using lNr) (by exact (unhide ON).at)).mono ?_
               rintro e u5 ⟨r, hr, rfl, b5⟩
               obtain rfl : r = p2 := (unhide KK) r hr
               have f2 := (b5.cell (p := ⟨gL, k * 2 + 1, none⟩) (by simpa using lLr)).trans e2
               have HA := hide ((unhide HA).drew.next b5)
               have OL := hide ((unhide OL).drew.below b5 (by simpa using lLr))
               have ON := hide ((unhide ON).drew.below b5 (by simpa using lNr))
               clear hr b5))
          all_goals
            (go_wp2
             go_roundw
             case rel => exact ⟨k + 1, by omega, by go_num, HA, OL, ON⟩
             case measure => simp [intOf]; omega)
        · have d0 := (unhide HA).c0
          have d1 := (unhide HA).c1
          have sz5 := (unhide HA).sz
          have lLr := (unhide OL).lt.2
          have lNr := (unhide ON).lt.2
          have LEN := put_len (unhide HP) GD.yes
          have RQ := put_right (unhide HP) GD.yes
          cases ok
          · obtain rfl : qs = ps := put_no (unhide HP) GD.yes
            have SQ : Says true 20 4 qs := ⟨fun _ => RQ, fun _ => rfl⟩
            have hw : IntKind.i64.wrap (qs.length : Int) = (qs.length : Int) := by rw [IntKind.wrap_i64]; omega
            have hw0 : IntKind.i64.wrap ((qs.length : Int) + 0) = (qs.length : Int) := by rw [IntKind.wrap_i64]; omega
            clear LEN
            go_wp2_with fail
            have near := near_is wr
            refine quiet_near (by kernel_rfl) (by kernel_rfl) ?_
            repeat (go_big_quiet_step (first
              | (rename_i nn
                 refine (AccountIKind.iOks nn.u gN qs.length cN qs true rfl (by omega) (Nat.lt_of_lt_of_le lNr nn.b.size) ((unhide ON).below nn.b lNr).at SQ).mono ?_
                 rintro e u6 ⟨rfl, b6⟩
                 exact ⟨rfl, ⟨u6, next nn.b b6⟩, rfl⟩)))
            refine wpQuiet_nil ?_
            rintro _ ⟨⟨u6, hb6⟩, rfl⟩
            have HA := hide ((unhide HA).next hb6)
            clear hb6
            all_goals
              (have BW := hide (next (unhide HB) (unhide HA).bel)
               clear HA OL ON
               go_wp2_with fail
               refine (InstrDraw.drawPut _ a0 len0 cap0 TL ((unhide HC).below (unhide BW))).mono ?_
               rintro e u7 ⟨ts, x', y', gT, cT, rfl, oT, l9, b7⟩
               have HA := hide (Arg.start u7 x' y' 34)
               have OT := hide (oT.alloc (.cells #[.int .i64 x', .int .i64 y'] 34))
               have BW := hide (next (unhide BW) b7)
               obtain ⟨v7, hv7⟩ : ∃ v7, v7 = u7.alloc (.cells #[.int .i64 x', .int .i64 y'] 34) := ⟨_, rfl⟩
               rw [← hv7] at HA OT
               have c0 := (unhide HA).c0
               have c1 := (unhide HA).c1
               have sz7 := (unhide HA).sz
               clear oT b7
               go_wp2_with fail
               rw [← hv7]
               clear hv7
               refine (InstrIPut.iPut _ gT ts.length cT ts x' y' rfl (by omega) (unhide OT).lt.2 (unhide OT).at).mono ?_
               rintro e u8 ⟨qt, fine, gO, cO, ht, rfl, oO, b8⟩
               have HT := hide ht
               have q9 := ht.len
               have HA := hide ((unhide HA).next b8)
               have OT := hide ((unhide OT).below b8 (unhide OT).lt.2)
               have OO := hide oO
               have c0 := (unhide HA).c0
               have c1 := (unhide HA).c1
               have sz8 := (unhide HA).sz
               clear b8 ht oO
               go_wp2_with fail
               refine (InstrSPut.sPut _ gT ts.length cT ts x' y' rfl (by omega) (unhide OT).lt.2 (unhide OT).at).mono ?_
               rintro e u9 ⟨qt', fine', gM', cM', ht', rfl, oM', b9⟩
               obtain ⟨rfl, rfl⟩ := (unhide HT).same ht'
               have HA := hide ((unhide HA).next b9)
               have OO := hide ((unhide OO).below b9 (unhide OO).lt.2)
               have c0 := (unhide HA).c0
               have c1 := (unhide HA).c1
               have sz9 := (unhide HA).sz
               have lO9 := (unhide OO).lt.2
               clear b9 ht' oM' OT
               cases fine
               · have BF := hide (next (unhide BW) (unhide HA).bel)
                 go_wp2_with fail
                 go_quiet (fail)
                 go_wp2
                 go_ret
                 exact ⟨rfl, below_drewN (unhide BF) _⟩
               · have GT := put_yes (unhide HT)
                 have LT := put_len (unhide HT) GT
                 have RT := put_right (unhide HT) GT
                 have KT := hide (show ∀ r, IsKind 8 2 qt x' r → r = y' from fun r hr => put_new (unhide HT) hr)
                 have LQT : qt.length = ts.length + 1 := by simpa using LT
                 have LQ2 := hide LQT
                 have hw2 : IntKind.i64.wrap ((ts.length : Int) + 1) = (ts.length : Int) + 1 := by rw [IntKind.wrap_i64]; omega
                 have ST : Says true 8 2 qt := ⟨fun _ => RT, fun _ => rfl⟩
                 rw [LQT] at OO ⊢
                 clear LT LQT
                 go_wp2_with fail
                 go_region_held3 (fun w' => w'.cell? ⟨u7.heap.size, 0, none⟩ = some (.int .i64 x') ∧ w'.cell? ⟨u7.heap.size, 1, none⟩ = some (.int .i64 y')) (go_keep)
                   (first
                   | (go_at_call 19
                      refine (InstrIKind.iKind _ gO (ts.length + 1) cO qt x' (unhide LQ2) (by omega) (by simpa using lO9) (by exact (unhide OO).at)).mono ?_
                      rintro e u10 ⟨r2, hr2, rfl, b10⟩
                      obtain rfl : r2 = y' := (unhide KT) r2 hr2
                      have HA := hide ((unhide HA).drew.next b10)
                      have OO := hide ((unhide OO).drew.below b10 (by simpa using lO9))
                      have c0 := (unhide HA).c0
                      have c1 := (unhide HA).c1
                      clear hr2 b10)
                   | (go_at_call 20
                      refine (InstrIKind.iOks _ gO (ts.length + 1) cO qt true (unhide LQ2) (by omega) (unhide OO).lt.2 (unhide OO).at ST).mono ?_
                      rintro e u11 ⟨rfl, b11⟩
                      have HA := hide ((unhide HA).next b11)
                      have c0 := (unhide HA).c0
                      have c1 := (unhide HA).c1
                      clear b11))
                 all_goals
                   (have BF := hide (next (unhide BW) (unhide HA).bel)
                    go_wp2
                    go_ret
                    exact ⟨rfl, unhide BF⟩))
          · have lq : qs.length = ps.length + 1 := by simpa using LEN
            have SQ : Says true 20 4 qs := ⟨fun _ => RQ, fun _ => rfl⟩
            have KN := hide (show ∀ r, IsKind 20 4 qs x r → r = y from fun r hr => put_new (unhide HP) hr)
            have LQ := hide lq
            rw [lq] at ON ⊢
            have hw : IntKind.i64.wrap ((ps.length : Int) + 1) = (ps.length : Int) + 1 := by rw [IntKind.wrap_i64]; omega
            clear LEN lq
            go_wp2_with fail
            go_region_held3 (fun w' => w'.cell? ⟨u1.heap.size, 0, none⟩ = some (.int .i64 x) ∧ w'.cell? ⟨u1.heap.size, 1, none⟩ = some (.int .i64 y)) (go_keep)
              (first
              | (go_at_call 14
                 refine (AccountIKind.iKind _ gN (ps.length + 1) cN qs x (unhide LQ) (by omega) (by simpa using lNr) (by exact (unhide ON).at)).mono ?_
                 rintro e u5 ⟨r, hr, rfl, b5⟩
                 obtain rfl : r = y := (unhide KN) r hr
                 have HA := hide ((unhide HA).drew.next b5)
                 have ON := hide ((unhide ON).drew.below b5 (by simpa using lNr))
                 have d0 := (unhide HA).c0
                 have d1 := (unhide HA).c1
                 clear hr b5)
              | (go_at_call 15
                 refine (AccountIKind.iOks _ gN (ps.length + 1) cN qs true (unhide LQ) (by omega) (unhide ON).lt.2 (unhide ON).at SQ).mono ?_
                 rintro e u6 ⟨rfl, b6⟩
                 have HA := hide ((unhide HA).next b6)
                 have d0 := (unhide HA).c0
                 have d1 := (unhide HA).c1
                 clear b6))
            all_goals
              (have BW := hide (next (unhide HB) (unhide HA).bel)
               clear HA OL ON
               go_wp2_with fail
               refine (InstrDraw.drawPut _ a0 len0 cap0 TL ((unhide HC).below (unhide BW))).mono ?_
               rintro e u7 ⟨ts, x', y', gT, cT, rfl, oT, l9, b7⟩
               have HA := hide (Arg.start u7 x' y' 34)
               have OT := hide (oT.alloc (.cells #[.int .i64 x', .int .i64 y'] 34))
               have BW := hide (next (unhide BW) b7)
               obtain ⟨v7, hv7⟩ : ∃ v7, v7 = u7.alloc (.cells #[.int .i64 x', .int .i64 y'] 34) := ⟨_, rfl⟩
               rw [← hv7] at HA OT
               have c0 := (unhide HA).c0
               have c1 := (unhide HA).c1
               have sz7 := (unhide HA).sz
               clear oT b7
               go_wp2_with fail
               rw [← hv7]
               clear hv7
               refine (InstrIPut.iPut _ gT ts.length cT ts x' y' rfl (by omega) (unhide OT).lt.2 (unhide OT).at).mono ?_
               rintro e u8 ⟨qt, fine, gO, cO, ht, rfl, oO, b8⟩
               have HT := hide ht
               have q9 := ht.len
               have HA := hide ((unhide HA).next b8)
               have OT := hide ((unhide OT).below b8 (unhide OT).lt.2)
               have OO := hide oO
               have c0 := (unhide HA).c0
               have c1 := (unhide HA).c1
               have sz8 := (unhide HA).sz
               clear b8 ht oO
               go_wp2_with fail
               refine (InstrSPut.sPut _ gT ts.length cT ts x' y' rfl (by omega) (unhide OT).lt.2 (unhide OT).at).mono ?_
               rintro e u9 ⟨qt', fine', gM', cM', ht', rfl, oM', b9⟩
               obtain ⟨rfl, rfl⟩ := (unhide HT).same ht'
               have HA := hide ((unhide HA).next b9)
               have OO := hide ((unhide OO).below b9 (unhide OO).lt.2)
               have c0 := (unhide HA).c0
               have c1 := (unhide HA).c1
               have sz9 := (unhide HA).sz
               have lO9 := (unhide OO).lt.2
               clear b9 ht' oM' OT
               cases fine
               · have BF := hide (next (unhide BW) (unhide HA).bel)
                 go_wp2_with fail
                 go_quiet (fail)
                 go_wp2
                 go_ret
                 exact ⟨rfl, below_drewN (unhide BF) _⟩
               · have GT := put_yes (unhide HT)
                 have LT := put_len (unhide HT) GT
                 have RT := put_right (unhide HT) GT
                 have KT := hide (show ∀ r, IsKind 8 2 qt x' r → r = y' from fun r hr => put_new (unhide HT) hr)
                 have LQT : qt.length = ts.length + 1 := by simpa using LT
                 have LQ2 := hide LQT
                 have hw2 : IntKind.i64.wrap ((ts.length : Int) + 1) = (ts.length : Int) + 1 := by rw [IntKind.wrap_i64]; omega
                 have ST : Says true 8 2 qt := ⟨fun _ => RT, fun _ => rfl⟩
                 rw [LQT] at OO ⊢
                 clear LT LQT
                 go_wp2_with fail
                 go_region_held3 (fun w' => w'.cell? ⟨u7.heap.size, 0, none⟩ = some (.int .i64 x') ∧ w'.cell? ⟨u7.heap.size, 1, none⟩ = some (.int .i64 y')) (go_keep)
                   (first
                   | (go_at_call 19
                      refine (InstrIKind.iKind _ gO (ts.length + 1) cO qt x' (unhide LQ2) (by omega) (by simpa using lO9) (by exact (unhide OO).at)).mono ?_
                      rintro e u10 ⟨r2, hr2, rfl, b10⟩
                      obtain rfl : r2 = y' := (unhide KT) r2 hr2
                      have HA := hide ((unhide HA).drew.next b10)
                      have OO := hide ((unhide OO).drew.below b10 (by simpa using lO9))
                      have c0 := (unhide HA).c0
                      have c1 := (unhide HA).c1
                      clear hr2 b10)
                   | (go_at_call 20
                      refine (InstrIKind.iOks _ gO (ts.length + 1) cO qt true (unhide LQ2) (by omega) (unhide OO).lt.2 (unhide OO).at ST).mono ?_
                      rintro e u11 ⟨rfl, b11⟩
                      have HA := hide ((unhide HA).next b11)
                      have c0 := (unhide HA).c0
                      have c1 := (unhide HA).c1
                      clear b11))
                 all_goals
                   (have BF := hide (next (unhide BW) (unhide HA).bel)
                    go_wp2
                    go_ret
                    exact ⟨rfl, unhide BF⟩))
  · clear hc
    go_enter Try.func3, Try.ntmps3
    go_wp2_with (first | (go_at_call 9; go_in) | fail)
    go_ret
    exact ⟨rfl, Below.refl _ _⟩

set_option maxRecDepth 100000 in
theorem lifted (os : Os) (started : os.Started) (H : Type) (enc : TypeId × Value → H) :
    ReturnsInHanded {} Try.checked os 3 .any (Rows.fnChartSpec.pre6 enc Try.prog Try.f3 Rows.fnChartRow.domain false) (Rows.fnChartSpec.post enc Try.prog Try.f3 false true false false) := by
  refine returnsInHanded_of_change (C := Try.checked) own started (by kernel_rfl) Try.func3
    (ChangeSpec.witness6 (enc := enc) (C := Try.checked) false ⟨#[], #[.slice none 0 0], []⟩ 8 (by kernel_rfl) (by kernel_rfl) (by kernel_rfl) (by kernel_rfl)) ?_
  intro W base args ds gs before hval0 hW hcnd _
  have hval : ∀ (j : Nat) t v, Try.f3.params[j]? = some t → args[j]? = some v → Value.okWide Try.prog W .any base t v := hval0
  have hW' := hW
  obtain ⟨p, q, hA0, hV, rfl, hfz, hnd⟩ := hW
  have hA : DataW.TrodAll enc Try.prog W 0 (fun _ => true) true Try.f3.params.toList args.toList ds p := hA0
  rw [Try.params3] at hA hval
  obtain ⟨v0, vs0, d0, ds0, p0, q0, hargs, rfl, rfl, h0, r0⟩ := trodAll_cons hA
  obtain ⟨rfl, rfl, rfl⟩ := trodAll_nil r0
  obtain rfl : args = #[v0] := by cases args; simp_all
  obtain ⟨rfl, rfl⟩ := trodVars_none hV
  obtain ⟨a0, len0, cap0, rfl⟩ := okWide_slice Try.underlying22 (hval 0 22 v0 rfl rfl)
  have k0 := h0
  have lt0 : ∀ x ∈ p0, x.block < W.heap.size := by obtain ⟨m, hm⟩ := k0; exact DataW.trod_lt m _ _ _ hm
  obtain ⟨z0, w0⟩ : ∃ zs, IsRow .u8 W a0 len0 cap0 zs := by
    obtain ⟨fuel, hf⟩ := h0
    rcases open_ints Try.underlying22 Try.underlying5 (by kernel_rfl) hf with ⟨hcs, _⟩ | ⟨x, l, c, zs, hcs, _, hl, hm, hz, _, hcell, hwz⟩
    · simp [Value.cells] at hcs
      obtain ⟨rfl, rfl, rfl⟩ := hcs
      exact ⟨[], .inl ⟨rfl, rfl, rfl, rfl⟩⟩
    · simp [Value.cells] at hcs
      obtain ⟨rfl, rfl, rfl⟩ := hcs
      exact ⟨zs, .inr ⟨_, rfl, hl, hm, by simpa using hz, hcell, hwz⟩⟩
  clear hA0 hval0
  refine (walk a0 len0 cap0 z0 W w0).mono fun e W' ⟨he, bel⟩ => ?_
  subst he
  exact ⟨_, rfl, _, _, _, [], _, [], hW', trodAll_mk1 (shut_bool Try.underlying4 _), (trodAll_cons_mk (Below.trod laidOut (by kernel_rfl) (of_decide_eq_true (by kernel_rfl)) k0 bel lt0) trodAll_mk0), rfl, bel.frame _, fun h => by cases h⟩

theorem over : Rows.fnChartRow.holds Try.pinned (OpenSpec.ofChange Rows.fnChartSpec) :=
  OpenClaim.holds_of_wide 3 Try.f3 rfl rfl rfl rfl rfl rfl rfl ⟨rfl, rfl, rfl, rfl, rfl⟩ rfl rfl rfl rfl rfl (by kernel_rfl) Try.func3 (by kernel_rfl)
    (of_decide_eq_true (by kernel_rfl)) (by unfold Func.isWrapper; first | (rw [if_pos (by decide +kernel)]; kernel_rfl) | (rw [if_neg (by decide +kernel)]; exact ⟨rfl, rfl⟩))
    (fun os started H enc _ => lifted os started H enc)

/-- The statement. -/
theorem proved : Rows.FnChartSaid := over
#print axioms proved
end Go.Proofs.Ytkbdlgbfgpoeiaa.fnChart
