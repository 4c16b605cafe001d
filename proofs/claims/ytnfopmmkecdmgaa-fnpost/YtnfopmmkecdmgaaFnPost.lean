/- For every row of bytes the law of posts returns true: legs that are posted turn each balance that the bytes draw by just what they give it, and leave of each instrument all balances together as they were. No condition. -/
import Derived.Test.YtnfopmmkecdmgaaRows
import Derived.WalkKit
import Derived.Test.YtnfopmmkecdmgaaDraw5
import Derived.Test.YtnfopmmkecdmgaaSPost
import Derived.Test.YtnfopmmkecdmgaaSame
import Derived.Test.YtnfopmmkecdmgaaPostMore
import Derived.ProofKit
import Derived.OpenShut
import Derived.ShutString
import Derived.ChangeOld
import Derived.Below
namespace Go.Proofs.Ytnfopmmkecdmgaa.fnPost
open Go.ChangeShapes Go.WideShapes Go.ChangeAt Go.RowKit
open Go.ChangeMaps (open_string shut_string)
set_option linter.unusedVariables false
set_option linter.unusedSimpArgs false

theorem own : ownKnob Try.prog.godebug = none := by kernel_rfl
theorem laidOut : laidOutB Try.prog = true := by kernel_rfl

/-- A slice of integers that came in, with its cells. -/
def IsRow (k : IntKind) (w : World) (a : Option Addr) (len cap : Nat) (zs : List Int) : Prop :=
  (a = none ∧ len = 0 ∧ cap = 0 ∧ zs = []) ∨
  ∃ x, a = some x ∧ len ≤ cap ∧ cap ≤ maxLen ∧ zs.length = cap ∧ (∀ i, i < zs.length → w.cell? (x.add i) = some (.int k (zs.getD i 0))) ∧ ∀ n ∈ zs, (Lit.int k n).wf = true

open Bals Triples Tab Look Put Legs Post2 SPost Draw5 PostMore Same
open Draw (CodeAt)

/-- The bytes that came in, as the drawing functions want them. -/
theorem codeAt (w : World) (a : Option Addr) (len cap : Nat) (zs : List Int) (h : IsRow .u8 w a len cap zs) : CodeAt w a len := by
  rcases h with ⟨rfl, rfl, rfl, rfl⟩ | ⟨x, rfl, hl, hm, hz, hcell, hwz⟩
  · exact .inl rfl
  · by_cases z : len = 0
    · exact .inl z
    · obtain ⟨b, off, spot⟩ := x
      have hc := hcell 0 (by omega)
      have hspot : spot = none := by simpa [Addr.add] using World.cell?_spot hc
      subst hspot
      have hc0 : w.cell? ⟨b, off, none⟩ = some (.int .u8 (zs.getD 0 0)) := by simpa [Addr.add] using hc
      refine .inr ⟨b, off, zs, rfl, World.block_lt_of_cell? w _ hc0, fun i hi => ?_⟩
      have k := hcell i (by omega)
      have hw : (Lit.int .u8 (zs.getD i 0)).wf = true := hwz _ (by rw [List.getD_eq_getElem?_getD, List.getElem?_eq_getElem (by omega)]; exact List.getElem_mem _)
      have hb := bounds_u8 hw
      refine ⟨?_, by omega, by omega⟩
      by_cases z : i = 0
      · subst z; simpa [Addr.add] using k
      · simpa [Addr.add, z] using k

set_option maxRecDepth 100000 in
set_option maxHeartbeats 8000000 in
theorem walk (a0 : Option Addr) (len0 cap0 : Nat) (z0 : List Int) (w : World) (w0 : IsRow .u8 w a0 len0 cap0 z0) :
    Calls Try.prog 3 #[.slice a0 len0 cap0] w fun e w' => e = .returned (.bool true) ∧ Below w.heap.size w w' := by
  have hc := codeAt w a0 len0 cap0 z0 w0
  clear w0
  by_cases tl : (len0 : Int) ≤ 1048576
  · have HC := hide hc
    have TL : len0 ≤ 1048576 := by omega
    clear hc
    go_enter Try.func3, Try.ntmps3
    go_wp2_with (first | (go_at_call 6; go_in) | fail)
    refine (drawPost _ a0 len0 cap0 TL (unhide HC)).mono ?_
    rintro e u1 ⟨ps, ls, xs, gA, cA, gL, cL, gS, cS, rfl, oA, oL, oS, lA, lL, lS, b1⟩
    have OA := hide oA
    have OL := hide oL
    have OS := hide oS
    have HB := hide b1
    clear oA oL oS b1
    go_wp2_with fail
    refine (iBalsPost _ gA ps.length cA gL ls.length cL gS xs.length cS ps ls xs rfl rfl rfl (by omega) (by omega) (by omega) (unhide OA).lt.2 (unhide OL).lt.2 (unhide OS).lt.2 (unhide OA).at (unhide OL).at (unhide OS).at).mono ?_
    rintro e u2 ⟨qs, cd, gN, cN, hp, rfl, oN, b2⟩
    have HP := hide hp
    have qn := hp.len
    have ON := hide (oN.rebase (base' := w.heap.size) (by have := oN.lt.1; have := (unhide HB).size; omega))
    have OA := hide ((unhide OA).below b2 (unhide OA).lt.2)
    have OL := hide ((unhide OL).below b2 (unhide OL).lt.2)
    have OS := hide ((unhide OS).below b2 (unhide OS).lt.2)
    have HB := hide (next (unhide HB) b2)
    clear hp oN b2
    go_wp2_with fail
    refine (sBalsPost _ gA ps.length cA gL ls.length cL gS xs.length cS ps ls xs rfl rfl rfl (by omega) (by omega) (by omega) (unhide OA).lt.2 (unhide OL).lt.2 (unhide OS).lt.2 (unhide OA).at (unhide OL).at (unhide OS).at).mono ?_
    rintro e u3 ⟨qs', cd', gM, cM, hp, rfl, oM, b3⟩
    obtain ⟨rfl, rfl⟩ := (unhide HP).same hp
    have ON := hide ((unhide ON).below b3 (unhide ON).lt.2)
    have OA := hide ((unhide OA).below b3 (unhide OA).lt.2)
    have OL := hide ((unhide OL).below b3 (unhide OL).lt.2)
    have OS := hide ((unhide OS).below b3 (unhide OS).lt.2)
    have HB := hide (next (unhide HB) b3)
    clear hp oM b3
    by_cases c1 : cd = 1
    · subst c1
      obtain rfl := post_bad (unhide HP)
      go_wp2
      go_ret
      exact ⟨rfl, unhide HB⟩
    have c1b : (cd == 1) = false := by simpa using c1
    by_cases c0 : ¬ cd = 0
    · have c0b : (cd == 0) = false := by simpa using c0
      obtain ⟨rfl, EV, FL⟩ := post_else (unhide HP) c0 c1
      have m160 : ls.length ≤ 160 := FL.1
      go_wp2_with fail
      refine (same _ gN gA cN cA qs qs (by omega) (by omega) (unhide ON).at (unhide OA).at).mono ?_
      rintro e u4 ⟨b, rfl, hb, q4, rfl⟩
      obtain rfl := hb rfl
      have HB := hide (below_drewN (unhide HB) q4)
      have OL := hide (show Own3 34 (u3.drewN q4) w.heap.size gL ls.length cL ls from unhide OL)
      generalize u3.drewN q4 = u4 at *
      by_cases c2 : cd = 2
      · subst c2
        have SL : Says false (Formed ls ∧ Even ls) := ⟨fun e => Bool.noConfusion e, fun e => absurd rfl (EV.1 e.2)⟩
        go_wp2_with fail
        refine (iLegsOk _ gL ls.length cL ls false rfl (by omega) (unhide OL).lt.2 (unhide OL).at SL).mono ?_
        rintro e u5 ⟨rfl, b5⟩
        have HB := hide (next (unhide HB) b5)
        clear b5
        go_wp2
        go_ret
        exact ⟨rfl, unhide HB⟩
      · have c2b : (cd == 2) = false := by simpa using c2
        have SL : Says true (Formed ls ∧ Even ls) := ⟨fun _ => ⟨FL, EV.2 c2⟩, fun _ => rfl⟩
        go_wp2_with fail
        refine (iLegsOk _ gL ls.length cL ls true rfl (by omega) (unhide OL).lt.2 (unhide OL).at SL).mono ?_
        rintro e u5 ⟨rfl, b5⟩
        have HB := hide (next (unhide HB) b5)
        clear b5
        go_wp2
        go_ret
        exact ⟨rfl, unhide HB⟩
    obtain rfl : cd = 0 := by omega
    have D := hide (post_done (unhide HP))
    have m160 : ls.length ≤ 160 := (unhide D).fl.1
    have SP : Says true (Right ps) := ⟨fun _ => (unhide D).rp, fun _ => rfl⟩
    have SQ : Says true (Right qs) := ⟨fun _ => (unhide D).rq, fun _ => rfl⟩
    have gLl := (unhide OL).lt.2
    have gAl := (unhide OA).lt.2
    have gNl := (unhide ON).lt.2
    have gSl := (unhide OS).lt.2
    go_wp2
    generalize u3 = v3 at *
    go_loopw [10, 11, 12, 13, 14, 15, 16, 17, 18] (fun i _ _ _ _ _ _ _ _ wr => ∃ (k : Nat), k ≤ ls.length ∧ i = .int .i64 k ∧ Hid (Below v3.heap.size v3 wr)) (fun i _ _ _ _ _ _ _ _ _ => ls.length - (intOf i).toNat)
    case atStart => exact ⟨0, by omega, rfl, hide (Below.refl _ _)⟩
    case round =>
      obtain ⟨k, hk, rfl, WB⟩ := hrel
      by_cases t : k < ls.length
      · obtain ⟨l1, l2, l3⟩ := (unhide D).fl.2 k t
        have WF := wf_no l1 l2
        have kn : (k : Int) < (ls.length : Int) := by omega
        have LK := hide ((unhide D).lack k t)
        have TD := hide ((unhide D).told (el3 ls k).1 (el3 ls k).2.1)
        have SI := hide ((unhide D).sum (el3 ls k).2.1)
        have AQ := ((unhide D).rq.val_in (el3 ls k).1 (el3 ls k).2.1).1
        have KB := hide (fun j hj => sumK_bound (ps := ls) (el3 ls k).1 (el3 ls k).2.1 (fun j hj => ((unhide D).fl.2 j hj).2.2) j hj)
        have CK := hide ((unhide OL).at k t)
        obtain ⟨X, hX⟩ : ∃ X, X = (el3 ls k).1 := ⟨_, rfl⟩
        obtain ⟨Y, hY⟩ : ∃ Y, Y = (el3 ls k).2.1 := ⟨_, rfl⟩
        have C0 := hide (show v3.cell? ⟨gL, k * 3, none⟩ = some (.int .i64 X) from by rw [hX]; exact (unhide CK).1)
        have C1 := hide (show v3.cell? ⟨gL, k * 3 + 1, none⟩ = some (.int .i64 Y) from by rw [hY]; exact (unhide CK).2.1)
        rw [← hX] at TD AQ KB WF LK
        rw [← hY] at TD AQ KB WF LK SI
        clear CK hX hY l1 l2 l3
        go_wp2
        generalize wr = v4 at *
        go_loopw [11, 12] (fun s j wr => ∃ (i : Nat), i ≤ ls.length ∧ j = .int .i64 i ∧ s = .int .i64 (sumK (ls.take i) X Y) ∧ Hid (∃ q, wr = v4.drewN q)) (fun _ j _ => ls.length - (intOf j).toNat)
        case atStart => exact ⟨0, by omega, rfl, rfl, hide ⟨0, rfl⟩⟩
        case round =>
          obtain ⟨i, hi, rfl, rfl, HQ⟩ := hrel
          obtain ⟨q5, e5⟩ := unhide HQ
          have WB5 := hide (show Below v3.heap.size v3 wr from by rw [e5]; exact below_drewN (unhide WB) q5)
          clear e5
          have d0 := ((unhide WB5).cell (p := ⟨gL, k * 3, none⟩) gLl).trans (unhide C0)
          have d1 := ((unhide WB5).cell (p := ⟨gL, k * 3 + 1, none⟩) gLl).trans (unhide C1)
          by_cases ti : i < ls.length
          · obtain ⟨e1, e2, e3⟩ := (unhide OL).at.below (unhide WB5) gLl i ti
            have SN := hide (sumK_next (ps := ls) (k := i) ti X Y)
            have R1 := (unhide KB) (i + 1) (by omega)
            rw [unhide SN] at R1
            have inn : (i : Int) < (ls.length : Int) := by omega
            generalize sumK (ls.take i) X Y = S at *
            generalize (el3 ls i).1 = x at *
            generalize (el3 ls i).2.1 = y at *
            generalize (el3 ls i).2.2 = z at *
            by_cases a1 : x = X
            · by_cases a2 : y = Y
              · rw [if_pos ⟨a1, a2⟩] at SN R1
                have wr1 : IntKind.i64.wrap (S + z) = S + z := by rw [IntKind.wrap_i64]; omega
                clear R1
                subst a1 a2
                go_wp2_with fail
                go_quiet (fail)
                go_wp2
                go_roundw
                case rel => exact ⟨i + 1, by omega, by go_num, by rw [unhide SN], hide (drewN_more (unhide HQ) _)⟩
                case measure => simp [intOf]; omega
              · rw [if_neg (fun r => a2 r.2)] at SN R1
                have SN := hide ((unhide SN).trans (Int.add_zero S))
                have a2b : (y == Y) = false := by simpa using a2
                clear R1
                subst a1
                go_wp2_with fail
                go_quiet (fail)
                go_wp2
                go_roundw
                case rel => exact ⟨i + 1, by omega, by go_num, by rw [unhide SN], hide (drewN_more (unhide HQ) _)⟩
                case measure => simp [intOf]; omega
            · rw [if_neg (fun r => a1 r.1)] at SN R1
              have SN := hide ((unhide SN).trans (Int.add_zero S))
              have a1b : (x == X) = false := by simpa using a1
              clear R1
              go_wp2_with fail
              go_quiet (fail)
              go_wp2
              go_roundw
              case rel => exact ⟨i + 1, by omega, by go_num, by rw [unhide SN], hide (drewN_more (unhide HQ) _)⟩
              case measure => simp [intOf]; omega
          · obtain rfl : i = ls.length := by omega
            have e0 : sumK (ls.take ls.length) X Y = sumK ls X Y := by rw [List.take_length]
            rw [e0]
            clear e0
            have s5 := (unhide WB5).size
            have A5 := hide ((unhide OA).below (unhide WB5) gAl)
            have N5 := hide ((unhide ON).below (unhide WB5) gNl)
            have AB := hide ((unhide KB) ls.length (Nat.le_refl _))
            rw [List.take_length] at AB
            have TP : told ps X Y true = val ps X Y := rfl
            have TQ : told qs X Y true = val qs X Y := rfl
            have AP := ((unhide D).rp.val_in X Y).1
            generalize sumK ls X Y = S at *
            generalize hvp : val ps X Y = vp at *
            generalize hvq : val qs X Y = vq at *
            have HVP := hide hvp
            have HVQ := hide hvq
            clear hvp hvq
            have EQ := unhide TD
            have wr2 : IntKind.i64.wrap (vp + S) = vq := by rw [EQ]; unfold Amt at AQ AP; rw [IntKind.wrap_i64]; omega
            have gLw : gL < wr.heap.size := by omega
            have gAw : gA < wr.heap.size := by omega
            have gNw : gN < wr.heap.size := by omega
            go_wp2_with fail
            go_region_held3 (fun w' => w'.cell? ⟨gL, k * 3, none⟩ = some (.int .i64 X) ∧ w'.cell? ⟨gL, k * 3 + 1, none⟩ = some (.int .i64 Y)) (go_keep)
              (first
                | (go_at_call 12
                   refine (sBalOf _ gA ps.length cA ps X Y true rfl (by omega) (by exact gAw) (by exact (unhide A5).at) SP).mono ?_
                   rw [TP]
                   rintro e w6 ⟨rfl, n6⟩
                   have h1 : w6.cell? ⟨gL, k * 3, none⟩ = some (.int .i64 X) := (n6.cell (p := ⟨gL, k * 3, none⟩) (by exact gLw)).trans (by exact d0)
                   have h2 : w6.cell? ⟨gL, k * 3 + 1, none⟩ = some (.int .i64 Y) := (n6.cell (p := ⟨gL, k * 3 + 1, none⟩) (by exact gLw)).trans (by exact d1)
                   have N6 := hide ((unhide N5).below (show Below wr.heap.size wr w6 from ⟨n6.os, n6.tape, n6.output, n6.size, n6.block⟩) gNw)
                   have W6 := hide (next (unhide WB5) (show Below wr.heap.size wr w6 from ⟨n6.os, n6.tape, n6.output, n6.size, n6.block⟩))
                   have s6 : wr.heap.size ≤ w6.heap.size := n6.size
                   clear n6)
                | (go_at_call 13
                   refine (iBalOf _ gN qs.length cN qs X Y true rfl (by omega) (by exact (unhide N6).lt.2) (by exact (unhide N6).at) SQ WF).mono ?_
                   rw [TQ]
                   rintro e w7 ⟨rfl, n7⟩
                   have h3 : w7.cell? ⟨gL, k * 3, none⟩ = some (.int .i64 X) := (n7.cell (p := ⟨gL, k * 3, none⟩) (show gL < w6.heap.size by omega)).trans h1
                   have h4 : w7.cell? ⟨gL, k * 3 + 1, none⟩ = some (.int .i64 Y) := (n7.cell (p := ⟨gL, k * 3 + 1, none⟩) (show gL < w6.heap.size by omega)).trans h2
                   have W7 := hide (next (unhide W6) n7)
                   clear n7))
            have d0 := ((unhide W7).cell (p := ⟨gL, k * 3, none⟩) gLl).trans (unhide C0)
            have d1 := ((unhide W7).cell (p := ⟨gL, k * 3 + 1, none⟩) gLl).trans (unhide C1)
            have A7 := hide ((unhide OA).below (unhide W7) gAl)
            have N7 := hide ((unhide ON).below (unhide W7) gNl)
            have S7 := hide ((unhide OS).below (unhide W7) gSl)
            clear A5 N5 N6 W6 WB5
            obtain ⟨r1, k1, I1⟩ := sum_is ps Y
            obtain ⟨r2, k2, I2⟩ := sum_is qs Y
            have R12 := hide (show k1 = true → k2 = true → r1 = r2 from fun a b => by
              rcases I1 with ⟨_, _, e1, _⟩ | ⟨_, _, e⟩
              · rcases I2 with ⟨_, _, e2, _⟩ | ⟨_, _, e⟩
                · rw [e1, e2, unhide SI]
                · rw [b] at e; cases e
              · rw [a] at e; cases e)
            by_cases v0 : vq < 0
            · have SX : Says true (X ∈ xs) := ⟨fun _ => (unhide LK) v0, fun _ => rfl⟩
              go_wp2_with fail
              refine (within _ gS xs.length cS xs X true rfl (by omega) (unhide S7).at SX).mono ?_
              rintro e w8 ⟨rfl, rfl⟩
              go_wp2_with fail
              refine (sSum _ gA ps.length cA ps Y r1 k1 rfl (by omega) (unhide A7).lt.2 (unhide A7).at I1).mono ?_
              rintro e w9 ⟨rfl, n9⟩
              have W9 := hide (next (unhide W7) n9)
              have d1 := ((unhide W9).cell (p := ⟨gL, k * 3 + 1, none⟩) gLl).trans (unhide C1)
              have N9 := hide ((unhide N7).below n9 (unhide N7).lt.2)
              clear n9
              go_wp2_with fail
              refine (iSum _ gN qs.length cN qs Y r2 k2 rfl (by omega) (unhide N9).lt.2 (unhide N9).at I2).mono ?_
              rintro e wA ⟨rfl, nA⟩
              have WA := hide (next (unhide W9) nA)
              clear nA
              cases k1
              · go_wp2
                go_roundw
                case rel => exact ⟨k + 1, by omega, by go_num, WA⟩
                case measure => simp [intOf]; omega
              · cases k2
                · go_wp2
                  go_roundw
                  case rel => exact ⟨k + 1, by omega, by go_num, WA⟩
                  case measure => simp [intOf]; omega
                · obtain rfl := (unhide R12) rfl rfl
                  go_wp2
                  go_roundw
                  case rel => exact ⟨k + 1, by omega, by go_num, WA⟩
                  case measure => simp [intOf]; omega
            · have v0b : decide (vq < 0) = false := decide_eq_false v0
              go_wp2_with fail
              refine (sSum _ gA ps.length cA ps Y r1 k1 rfl (by omega) (unhide A7).lt.2 (unhide A7).at I1).mono ?_
              rintro e w9 ⟨rfl, n9⟩
              have W9 := hide (next (unhide W7) n9)
              have d1 := ((unhide W9).cell (p := ⟨gL, k * 3 + 1, none⟩) gLl).trans (unhide C1)
              have N9 := hide ((unhide N7).below n9 (unhide N7).lt.2)
              clear n9
              go_wp2_with fail
              refine (iSum _ gN qs.length cN qs Y r2 k2 rfl (by omega) (unhide N9).lt.2 (unhide N9).at I2).mono ?_
              rintro e wA ⟨rfl, nA⟩
              have WA := hide (next (unhide W9) nA)
              clear nA
              cases k1
              · go_wp2
                go_roundw
                case rel => exact ⟨k + 1, by omega, by go_num, WA⟩
                case measure => simp [intOf]; omega
              · cases k2
                · go_wp2
                  go_roundw
                  case rel => exact ⟨k + 1, by omega, by go_num, WA⟩
                  case measure => simp [intOf]; omega
                · obtain rfl := (unhide R12) rfl rfl
                  go_wp2
                  go_roundw
                  case rel => exact ⟨k + 1, by omega, by go_num, WA⟩
                  case measure => simp [intOf]; omega
      · have N9 := hide ((unhide ON).below (unhide WB) gNl)
        have L9 := hide ((unhide OL).below (unhide WB) gLl)
        have SL : Says true (Formed ls ∧ Even ls) := ⟨fun _ => ⟨(unhide D).fl, (unhide D).ev⟩, fun _ => rfl⟩
        go_wp2_with fail
        refine (IOk3.iOk _ gN qs.length cN qs true rfl (by omega) (unhide N9).lt.2 (unhide N9).at SQ).mono ?_
        rintro e u5 ⟨rfl, b5⟩
        have L9 := hide ((unhide L9).below b5 (unhide L9).lt.2)
        have WB := hide (next (unhide WB) b5)
        clear b5
        go_wp2_with fail
        refine (iLegsOk _ gL ls.length cL ls true rfl (by omega) (unhide L9).lt.2 (unhide L9).at SL).mono ?_
        rintro e u6 ⟨rfl, b6⟩
        have HB := hide (next (unhide HB) (next (unhide WB) b6))
        clear b6
        go_wp2
        go_ret
        exact ⟨rfl, unhide HB⟩
  · clear hc
    go_enter Try.func3, Try.ntmps3
    go_wp2_with (first | (go_at_call 6; go_in) | fail)
    go_ret
    exact ⟨rfl, Below.refl _ _⟩

set_option maxRecDepth 100000 in
theorem lifted (os : Os) (started : os.Started) (H : Type) (enc : TypeId × Value → H) :
    ReturnsInHanded {} Try.checked os 3 .any (Rows.fnPostSpec.pre6 enc Try.prog Try.f3 Rows.fnPostRow.domain false) (Rows.fnPostSpec.post enc Try.prog Try.f3 false true false false) := by
  refine returnsInHanded_of_change (C := Try.checked) own started (by kernel_rfl) Try.func3
    (ChangeSpec.witness6 (enc := enc) (C := Try.checked) false ⟨#[], #[.slice none 0 0], []⟩ 8 (by kernel_rfl) (by kernel_rfl) (by kernel_rfl) (by kernel_rfl)) ?_
  intro W base args ds gs before hval0 hW hcnd _
  have hval : ∀ (j : Nat) t v, Try.f3.params[j]? = some t → args[j]? = some v → Value.okWide Try.prog W .any base t v := hval0
  have hW' := hW
  obtain ⟨p, q, hA0, hV, rfl, hfz, hnd⟩ := hW
  have hA : DataW.TrodAll enc Try.prog W 0 (fun _ => true) true Try.f3.params.toList args.toList ds p := hA0
  rw [Try.params3] at hA hval
  obtain ⟨v0, vs0, d0, ds0, p0, q0, hargs, rfl, rfl, h0, r0⟩ := trodAll_cons hA
  obtain ⟨rfl, rfl, rfl⟩ := trodAll_nil r0
  obtain rfl : args = #[v0] := by cases args; simp_all
  obtain ⟨rfl, rfl⟩ := trodVars_none hV
  obtain ⟨a0, len0, cap0, rfl⟩ := okWide_slice Try.underlying22 (hval 0 22 v0 rfl rfl)
  have k0 := h0
  have lt0 : ∀ x ∈ p0, x.block < W.heap.size := by obtain ⟨m, hm⟩ := k0; exact DataW.trod_lt m _ _ _ hm
  obtain ⟨z0, w0⟩ : ∃ zs, IsRow .u8 W a0 len0 cap0 zs := by
    obtain ⟨fuel, hf⟩ := h0
    rcases open_ints Try.underlying22 Try.underlying5 (by kernel_rfl) hf with ⟨hcs, _⟩ | ⟨x, l, c, zs, hcs, _, hl, hm, hz, _, hcell, hwz⟩
    · simp [Value.cells] at hcs
      obtain ⟨rfl, rfl, rfl⟩ := hcs
      exact ⟨[], .inl ⟨rfl, rfl, rfl, rfl⟩⟩
    · simp [Value.cells] at hcs
      obtain ⟨rfl, rfl, rfl⟩ := hcs
      exact ⟨zs, .inr ⟨_, rfl, hl, hm, by simpa using hz, hcell, hwz⟩⟩
  clear hA0 hval0
  refine (walk a0 len0 cap0 z0 W w0).mono fun e W' ⟨he, bel⟩ => ?_
  subst he
  exact ⟨_, rfl, _, _, _, [], _, [], hW', trodAll_mk1 (shut_bool Try.underlying4 _), (trodAll_cons_mk (Below.trod laidOut (by kernel_rfl) (of_decide_eq_true (by kernel_rfl)) k0 bel lt0) trodAll_mk0), rfl, bel.frame _, fun h => by cases h⟩

theorem over : Rows.fnPostRow.holds Try.pinned (OpenSpec.ofChange Rows.fnPostSpec) :=
  OpenClaim.holds_of_wide 3 Try.f3 rfl rfl rfl rfl rfl rfl rfl ⟨rfl, rfl, rfl, rfl, rfl⟩ rfl rfl rfl rfl rfl (by kernel_rfl) Try.func3 (by kernel_rfl)
    (of_decide_eq_true (by kernel_rfl)) (by unfold Func.isWrapper; first | (rw [if_pos (by decide +kernel)]; kernel_rfl) | (rw [if_neg (by decide +kernel)]; exact ⟨rfl, rfl⟩))
    (fun os started H enc _ => lifted os started H enc)

/-- The statement. -/
theorem proved : Rows.FnPostSaid := over
#print axioms proved
end Go.Proofs.Ytnfopmmkecdmgaa.fnPost
