/- For every row of bytes the law of cleared segments returns true: a drawn disk that is cleared has the segments that were kept, and all that is no segment; of those in a row the first one is the one that was asked for. No condition. -/
import Derived.Test.YtcajdiopgaoicaaRows
import Derived.Test.YtcajdiopgaoicaaCG1
import Derived.Test.YtcajdiopgaoicaaCG2
import Derived.Test.YtcajdiopgaoicaaCG3
import Derived.Test.YtcajdiopgaoicaaCG4
import Derived.Test.YtcajdiopgaoicaaCG5
import Derived.Test.YtcajdiopgaoicaaCG6
import Derived.Test.YtcajdiopgaoicaaCG7
import Derived.Test.YtcajdiopgaoicaaCG8
import Derived.Test.YtcajdiopgaoicaaCG9
import Derived.ShutString
import Derived.ChangeOld
import Derived.Below
namespace Go.Proofs.Ytcajdiopgaoicaa.fnCleared
open Go.ChangeShapes Go.WideShapes Go.ChangeAt Go.RowKit
open Go.ChangeMaps (open_string shut_string)
set_option linter.unusedVariables false
set_option linter.unusedSimpArgs false

theorem own : ownKnob Try.prog.godebug = none := by kernel_rfl
theorem laidOut : laidOutB Try.prog = true := by kernel_rfl

open Fil14 (TF elF)
open DiskH14 (sumZ one_more)
open SOk14 (OkD okN)
open SRd14 (readD)
open SegP15 (okS)
open SClear15 (clearD stays)
open SFrom15 (fromD)
open PureG15
open DkH14 (Dx RdD OwD)
open Law14 (Kd)
open LawM15
open Draw (CodeAt)
open DrawT14 (hide unhide)

abbrev oY0 : Oper := { dst := some 94, op := Go.Op.load 26 (Go.Operand.tmp 3), type := 26, pos := "laws.go:1046", after := #[], guard := none }
abbrev oY1 : Oper := { dst := some 95, op := Go.Op.move (Go.Operand.tmp 12), type := 37, pos := "laws.go:1046", after := #[], guard := none }
abbrev oY2 : Oper := { dst := some 96, op := Go.Op.move (Go.Operand.tmp 13), type := 3, pos := "laws.go:1046", after := #[], guard := none }
abbrev oY3 : Oper := { dst := some 97, op := Go.Op.indexAddr 37 (Go.Operand.tmp 95) (Go.Operand.tmp 96), type := 0, pos := "laws.go:1046", after := #[{ on := 1, ground := Go.Ground.data }, { on := 2, ground := Go.Ground.data }], guard := none }
abbrev oY4 : Oper := { dst := some 98, op := Go.Op.load 3 (Go.Operand.tmp 97), type := 3, pos := "laws.go:1046", after := #[{ on := 3, ground := Go.Ground.data }], guard := none }
abbrev oY5 : Oper := { dst := some 99, op := Go.Op.call { callee := Go.Callee.value (Go.Operand.func 18), args := #[Go.Operand.tmp 94, Go.Operand.tmp 98], argTypes := #[26, 3] }, type := 42, pos := "laws.go:1046", after := #[{ on := 0, ground := Go.Ground.data }, { on := 4, ground := Go.Ground.data }], guard := none }
abbrev oY6 : Oper := { dst := some 93, op := Go.Op.move (Go.Operand.tmp 99), type := 42, pos := "laws.go:1046", after := #[{ on := 5, ground := Go.Ground.data }], guard := none }
abbrev oY7 : Oper := { dst := some 100, op := Go.Op.extract (Go.Operand.tmp 93) 0, type := 9, pos := "laws.go:1046", after := #[{ on := 6, ground := Go.Ground.data }], guard := none }
abbrev oY8 : Oper := { dst := some 101, op := Go.Op.extract (Go.Operand.tmp 93) 1, type := 4, pos := "laws.go:1046", after := #[{ on := 6, ground := Go.Ground.data }, { on := 9, ground := Go.Ground.gcOnly Go.Departure.lateStores }], guard := none }
abbrev oY9 : Oper := { dst := some 14, op := Go.Op.assign (Go.Operand.tmp 100), type := 9, pos := "laws.go:1046", after := #[{ on := 7, ground := Go.Ground.data }, { on := 5, ground := Go.Ground.chain }, { on := 0, ground := Go.Ground.phase }, { on := 1, ground := Go.Ground.phase }, { on := 2, ground := Go.Ground.phase }, { on := 3, ground := Go.Ground.phase }, { on := 4, ground := Go.Ground.phase }, { on := 5, ground := Go.Ground.phase }, { on := 6, ground := Go.Ground.phase }, { on := 7, ground := Go.Ground.phase }, { on := 8, ground := Go.Ground.textOnly Go.Departure.lateStores }], guard := none }
abbrev oY10 : Oper := { dst := some 15, op := Go.Op.assign (Go.Operand.tmp 101), type := 4, pos := "laws.go:1046", after := #[{ on := 8, ground := Go.Ground.data }, { on := 9, ground := Go.Ground.chain }, { on := 0, ground := Go.Ground.phase }, { on := 1, ground := Go.Ground.phase }, { on := 2, ground := Go.Ground.phase }, { on := 3, ground := Go.Ground.phase }, { on := 4, ground := Go.Ground.phase }, { on := 5, ground := Go.Ground.phase }, { on := 6, ground := Go.Ground.phase }, { on := 7, ground := Go.Ground.phase }, { on := 8, ground := Go.Ground.phase }, { on := 9, ground := Go.Ground.phase }], guard := none }
theorem code_at {w : World} {a : Option Addr} {len cap : Nat} {zs : List Int} (h : Ints.IsRow .u8 w a len cap zs) : CodeAt w a len := by
  obtain ⟨hl, hr, hi, _⟩ := Law11.row_bytes h
  rcases hr with h0 | ⟨b, off, rfl, hb, hc⟩
  · exact .inl (by omega)
  · exact .inr ⟨b, off, zs.take len, rfl, hb, fun i hi' => ⟨hc i (by omega), hi i (by omega)⟩⟩


set_option maxRecDepth 100000 in
set_option maxHeartbeats 8000000 in
theorem walk (a0 : Option Addr) (len0 cap0 : Nat) (z0 : List Int) (w : World) (w0 : Ints.IsRow .u8 w a0 len0 cap0 z0) :
    Calls Try.prog 4 #[.slice a0 len0 cap0] w fun e w' => e = .returned (.bool true) ∧ Below w.heap.size w w' := by
  have hc := code_at w0
  clear w0
  by_cases tl : (len0 : Int) ≤ 1048576
  case neg =>
    have HC := hide hc
    clear hc
    go_enter Try.func4, Try.ntmps4
    go_wp2
    go_ret
    exact ⟨rfl, Below.refl _ _⟩
  have HC := hide hc
  have TL : len0 ≤ 1048576 := by omega
  clear hc
  go_enter Try.func4, Try.ntmps4
  go_wp2_with (first | (go_at_call 5; go_in) | fail)
  refine (DrawK15.drawClear _ a0 len0 cap0 TL (unhide HC)).mono ?_
  rintro e u1 ⟨yD, ks, gk, ck, sm, k21, rfl, oD, oK, b1⟩
  have RD := hide (oD.rd (by have := sm.1; omega))
  have bb := one_more u1 (.cells #[.int .i64 yD.room, .slice yD.a yD.ps.length yD.c] 26)
  have KD := hide (Kr.made (unhide RD) 26)
  have OK := hide (oK.below bb oK.lt.2)
  have B := hide (b1.trans (bb.mono b1.size))
  have zD : sumZ yD.ps ≤ 1048576 := by have := sm.2; omega
  have lD : yD.ps.length ≤ 23 := sm.1
  have LC := hide (Len15.len_clear (room := yD.room) (ps := yD.ps) ks (by omega))
  have IC := hide (fun u hr hg ha => IClear15.iSegsClear u yD gk ck ks hr zD hg (by omega) ha)
  have SO := hide (fun u hr => SOk14.sDiskOk u yD hr zD)
  have RE := hide (show clearD yD.room yD.ps ks = if OkD yD.room yD.ps ∧ ks.length ≤ 20 then (yD.room, yD.ps.filter (stays ks)) else (0, []) from rfl)
  generalize clearD yD.room yD.ps ks = cl at *
  clear oD oK b1 bb RD sm
  go_wp2_with fail
  generalize u1.alloc (.cells #[.int .i64 yD.room, .slice yD.a yD.ps.length yD.c] 26) = V1 at *
  generalize u1.heap.size = bD at *
  refine ((unhide IC) _ (unhide KD).r (unhide OK).lt.2 (unhide OK).at).mono ?_
  rintro e u2 ⟨yC, eyC, rfl, oC, bb⟩
  obtain ⟨cr, cp⟩ := cl
  obtain ⟨eC1, eC2⟩ := two eyC
  have RC := hide (oC.rd (by rw [eC2]; exact unhide LC))
  have bb2 := one_more u2 (.cells #[.int .i64 yC.room, .slice yC.a yC.ps.length yC.c] 26)
  have KC := hide (Kr.made (unhide RC) 26)
  replace KD := hide (((unhide KD).step bb).step bb2)
  replace OK := hide (((unhide OK).below bb (unhide OK).lt.2).below bb2 (by have := (unhide OK).lt.2; have := bb.size; omega))
  replace B := hide (((unhide B).trans (bb.mono (unhide B).size)).trans (bb2.mono (by have := (unhide B).size; have := bb.size; omega)))
  have EC := hide (And.intro eC1 eC2)
  clear bb bb2 oC eyC RC eC1 eC2 IC
  have p0 := (unhide KD).k.c0
  have p1 := (unhide KD).k.c1
  have pl := (unhide KD).k.lt
  go_wp2_with fail
  generalize u2.alloc (.cells #[.int .i64 yC.room, .slice yC.a yC.ps.length yC.c] 26) = V2 at *
  generalize u2.heap.size = bC at *
  refine ((unhide SO) _ (unhide KD).r).mono ?_
  rintro e u3 ⟨rfl, bb⟩
  replace KD := hide ((unhide KD).step bb)
  replace KC := hide ((unhide KC).step bb)
  replace OK := hide ((unhide OK).below bb (unhide OK).lt.2)
  replace B := hide ((unhide B).trans (bb.mono (unhide B).size))
  clear bb p0 p1 pl SO
  by_cases ok : OkD yD.room yD.ps ∧ ks.length ≤ 20
  case neg =>
    have E := unhide RE
    rw [if_neg ok] at E
    obtain ⟨e1, e2⟩ := two E
    have F1 : yC.room = 0 := by rw [(unhide EC).1, e1]
    have F2 : yC.ps.length = 0 := by rw [(unhide EC).2, e2]; rfl
    have q0 := (unhide KC).k.c0
    have q1 := (unhide KC).k.c1
    rw [F1] at q0
    rw [F2] at q1
    have KB := hide (show decide (OkD yD.room yD.ps) = true → 20 < ks.length from fun e => Nat.lt_of_not_le (fun q => ok ⟨of_decide_eq_true e, q⟩))
    generalize decide (OkD yD.room yD.ps) = b at *
    clear F1 F2 E e1 e2 ok RE
    cases b with
    | false =>
      go_wp2
      go_ret
      exact ⟨rfl, unhide B⟩
    | true =>
      have kb : (ks.length : Int) > 20 := by have := (unhide KB) rfl; omega
      go_wp2
      go_ret
      exact ⟨rfl, unhide B⟩
  have E := unhide RE
  rw [if_pos ok] at E
  obtain ⟨e1, e2⟩ := two E
  have F1 : yC.room = yD.room := by rw [(unhide EC).1, e1]
  have F2 : yC.ps = yD.ps.filter (stays ks) := by rw [(unhide EC).2, e2]
  have okD := hide ok.1
  have okC := hide (show OkD yC.room yC.ps by rw [F1, F2]; exact clear_ok ks ok.1)
  have CR := hide (show ∀ nm, readD yC.room yC.ps nm = if (readD yD.room yD.ps nm).2 = true ∧ (okS nm = false ∨ ks.contains nm = true) then readD yD.room yD.ps nm else (ByteArray.empty, false) by intro nm; rw [F1, F2]; exact clear_read ks ok.1 nm)
  have FR := hide (fun s (hs : 0 ≤ s ∧ s ≤ 19) => from_row (s := s) ok.1 hs)
  have dk : decide (OkD yD.room yD.ps) = true := decide_eq_true ok.1
  have kd : decide ((ks.length : Int) > 20) = false := decide_eq_false (by have := ok.2; omega)
  have zC := (ok_small (unhide okC)).2
  have SR := hide (fun nm u hr => SRd14.sDiskRead u yD nm hr zD)
  have IR := hide (fun nm u hr hw => IRd14.iDiskRead u yC nm hr zC hw)
  have IO := hide (fun u hr => IOk14.iDiskOk u yC hr zC)
  rw [decide_eq_true (unhide okC)] at IO
  clear E e1 e2 F1 F2 RE EC LC ok okC
  rw [dk]
  clear dk
  go_wp2
  go_loopw [6] (fun i wr => ∃ (k : Nat), i = .int .i64 k ∧ k ≤ 22 ∧ Hid (Below w.heap.size w wr) ∧ Hid (Kr wr bD yD) ∧ Hid (Kr wr bC yC) ∧ Hid (Ints.Own wr w.heap.size gk ks.length ck ks)) (fun i _ => 22 - (intOf i).toNat)
  case atStart => exact ⟨0, rfl, by omega, B, KD, KC, OK⟩
  case round =>
    clear B KD KC OK
    obtain ⟨k, rfl, hk, B, KD, KC, OK⟩ := hrel
    by_cases t : k < 22
    · have kt : (k : Int) < 22 := by omega
      have WF := hide (TabF14.wf_low (n := (k : Int)) ⟨by omega, by omega⟩)
      have CK := hide ((unhide CR) k)
      have S1 := hide ((unhide SR) k)
      have I1 := hide ((unhide IR) k)
      have SB := hide (show decide ((k : Int) ≥ 20) = !okS k by
        by_cases q : (k : Int) ≥ 20
        · rw [decide_eq_true q, show okS (k : Int) = false from decide_eq_false (fun z => by omega)]; rfl
        · rw [decide_eq_false q, show okS (k : Int) = true from decide_eq_true (by omega)]; rfl)
      generalize readD yD.room yD.ps k = rD at *
      generalize readD yC.room yC.ps k = rC at *
      obtain ⟨s, had⟩ := rD
      have p0 := (unhide KD).k.c0
      have p1 := (unhide KD).k.c1
      go_wp2_with fail
      refine ((unhide S1) _ (unhide KD).r).mono ?_
      rintro e v1 ⟨rfl, bb⟩
      replace KD := hide ((unhide KD).step bb)
      replace KC := hide ((unhide KC).step bb)
      replace OK := hide ((unhide OK).below bb (unhide OK).lt.2)
      replace B := hide ((unhide B).trans (bb.mono (unhide B).size))
      clear bb p0 p1 S1
      have q0 := (unhide KC).k.c0
      have q1 := (unhide KC).k.c1
      go_wp2_with fail
      refine ((unhide I1) _ (unhide KC).r (unhide WF)).mono ?_
      rintro e v2 ⟨rfl, bb⟩
      replace KD := hide ((unhide KD).step bb)
      replace KC := hide ((unhide KC).step bb)
      replace OK := hide ((unhide OK).below bb (unhide OK).lt.2)
      replace B := hide ((unhide B).trans (bb.mono (unhide B).size))
      clear bb q0 q1 I1
      cases had with
      | false =>
        obtain rfl : rC = (ByteArray.empty, false) := by rw [unhide CK, if_neg (by simp)]
        clear CK SB
        go_wp2
        go_roundw
        case rel => exact ⟨k + 1, by go_num, by omega, B, KD, KC, OK⟩
        case measure => simp [intOf]; omega
      | true =>
        cases so : okS (k : Int) with
        | false =>
          obtain rfl : rC = (s, true) := by rw [unhide CK, if_pos ⟨rfl, .inl so⟩]
          have sb := unhide SB
          rw [so] at sb
          have sg : (k : Int) ≥ 20 := of_decide_eq_true sb
          clear CK SB so sb
          go_wp2
          go_roundw
          case rel => exact ⟨k + 1, by go_num, by omega, B, KD, KC, OK⟩
          case measure => simp [intOf]; omega
        | true =>
          have sb := unhide SB
          rw [so] at sb
          have sb : decide ((k : Int) ≥ 20) = false := sb
          cases kb : ks.contains (k : Int) with
          | true =>
            obtain rfl : rC = (s, true) := by rw [unhide CK, if_pos ⟨rfl, .inr kb⟩]
            have KB := hide kb
            clear CK SB so kb
            go_wp2_with fail
            refine (inside _ gk ks.length ck ks k true rfl (by omega) (unhide OK).at (unhide KB)).mono ?_
            rintro e v2 ⟨rfl, rfl⟩
            go_wp2
            go_roundw
            case rel => exact ⟨k + 1, by go_num, by omega, B, KD, KC, OK⟩
            case measure => simp [intOf]; omega
          | false =>
            obtain rfl : rC = (ByteArray.empty, false) := by rw [unhide CK, if_neg (by rw [so, kb]; simp)]
            have KB := hide kb
            clear CK SB so kb
            go_wp2_with fail
            refine (inside _ gk ks.length ck ks k false rfl (by omega) (unhide OK).at (unhide KB)).mono ?_
            rintro e v2 ⟨rfl, rfl⟩
            go_wp2
            go_roundw
            case rel => exact ⟨k + 1, by go_num, by omega, B, KD, KC, OK⟩
            case measure => simp [intOf]; omega
    · have kt : ¬ (k : Int) < 22 := by omega
      go_wp2_with fail
      refine (Code11.atC _ a0 len0 cap0 1 TL (by omega) ((unhide HC).below (unhide B))).mono ?_
      rintro e v1 ⟨x, x0, x1, rfl, rfl⟩
      obtain ⟨fr, hfr⟩ : ∃ fr : Int, x % 20 = fr := ⟨_, rfl⟩
      have f0 : 0 ≤ fr ∧ fr ≤ 19 := by omega
      have tm : x.tmod 20 = fr := by rw [Int.tmod_eq_emod_of_nonneg x0]; exact hfr
      have wf : wrap64 fr = fr := by rw [wrap64]; omega
      have R0 := hide ((unhide FR) fr f0)
      have IF := hide (fun u hr => IFrom15.iSegsFrom u yD fr hr zD (TabF14.wf_low (by omega)))
      have p0 := (unhide KD).k.c0
      have p1 := (unhide KD).k.c1
      clear hfr x0 x1
      generalize fromD yD.room yD.ps fr = row at *
      have R1 := (unhide R0).1
      go_wp2_with fail
      refine ((unhide IF) _ (unhide KD).r).mono ?_
      rintro e v2 ⟨a4, c4, rfl, og, bb⟩
      replace KD := hide ((unhide KD).step bb)
      replace KC := hide ((unhide KC).step bb)
      replace B := hide ((unhide B).trans (bb.mono (unhide B).size))
      have OG := hide og
      clear bb og p0 p1 IF OK
      obtain ⟨n4, hn4⟩ : ∃ n4, row.length = n4 := ⟨_, rfl⟩
      rw [hn4] at OG R1 R0 ⊢
      have HN := hide hn4
      clear hn4
      go_wp2
      go_loopw [13] (fun j wr => ∃ (i : Nat), j = .int .i64 i ∧ i ≤ n4 ∧ Hid (Below w.heap.size w wr) ∧ Hid (Kr wr bD yD) ∧ Hid (Kr wr bC yC) ∧ Hid (VOI.Ob wr v1.heap.size a4 n4 c4 row)) (fun j _ => n4 - (intOf j).toNat)
      case atStart => exact ⟨0, rfl, by omega, B, KD, KC, OG⟩
      case round =>
        clear B KD KC OG
        obtain ⟨i, rfl, hi, B, KD, KC, OG⟩ := hrel
        by_cases ti : i < n4
        · have it : (i : Int) < n4 := by omega
          rcases (unhide OG).either with ⟨_, n0, _⟩ | ⟨g4, ea, o4⟩
          · omega
          subst ea
          have rc := o4.at i (by rw [o4.len]; exact ti)
          have gl := o4.lt.2
          obtain ⟨rv1, rv2⟩ := (unhide R0).2.1 i ti
          generalize row.getD i 0 = rv at *
          have SRV := hide (show ∃ rs, readD yD.room yD.ps rv = (rs, true) from ⟨(readD yD.room yD.ps rv).1, by rw [← rv2]⟩)
          obtain ⟨rs, hrs⟩ := unhide SRV
          have SR1 := hide (show ∀ u, RdD u yD → Calls Try.prog 18 #[.agg #[.int .i64 yD.room, .slice yD.a yD.ps.length yD.c], .int .i64 rv] u fun e w' => e = .returned (.tuple #[.string rs, .bool true]) ∧ Below u.heap.size u w' from fun u hr => by have := (unhide SR) rv u hr; rwa [hrs] at this)
          have wA : wrap64 (fr + (i : Int)) = fr + i := by rw [wrap64]; omega
          have tA : (fr + (i : Int)).tmod 20 = rv := by rw [Int.tmod_eq_emod_of_nonneg (by omega)]; exact rv1.symm
          have wR : wrap64 rv = rv := by rw [wrap64]; omega
          have nb : (rv != rv) = false := by simp
          have HR := hide (And.intro wA (And.intro tA wR))
          clear SRV hrs rv1 rv2 o4 wA tA wR
          have K0 : wr.cell? ⟨bD, 0, none⟩ = some (.int .i64 yD.room) ∧ wr.cell? ⟨bD, 1, none⟩ = some (.slice yD.a yD.ps.length yD.c) ∧ wr.cell? ⟨g4, i, none⟩ = some (.int .i64 rv) := ⟨(unhide KD).k.c0, (unhide KD).k.c1, rc⟩
          go_wp2_with fail
          refine wp_region_held_drew (S := (fun w' => w'.cell? ⟨bD, 0, none⟩ = some (.int .i64 yD.room) ∧ w'.cell? ⟨bD, 1, none⟩ = some (.slice yD.a yD.ps.length yD.c) ∧ w'.cell? ⟨g4, i, none⟩ = some (.int .i64 rv))) (by kernel_rfl) K0 (fun hHeld => ?_)
          refine wpAnyH_take (i := 0) (oi := oY0) (v := .agg #[.int .i64 yD.room, .slice yD.a yD.ps.length yD.c]) rfl (by kernel_rfl) (by kernel_rfl) (by kernel_rfl) (fun _ _ _ h => h) (Or.inl ⟨by rfl, fun w hSw => ?_⟩) hHeld ?_
          · (try dsimp only at hSw)
            unfold oY0
            go_simp
          try simp only [oY0, Act.put, List.setIfInBounds_toArray, List.set_cons_zero, List.set_cons_succ]
          refine wpAnyH_take (i := 1) (oi := oY1) (v := .slice (some ⟨g4, 0, none⟩) n4 c4) rfl (by kernel_rfl) (by kernel_rfl) (by kernel_rfl) (fun _ _ _ h => h) (Or.inl ⟨by rfl, fun w hSw => ?_⟩) hHeld ?_
          · (try dsimp only at hSw)
            unfold oY1
            go_simp
          try simp only [oY1, Act.put, List.setIfInBounds_toArray, List.set_cons_zero, List.set_cons_succ]
          refine wpAnyH_take (i := 2) (oi := oY2) (v := .int .i64 i) rfl (by kernel_rfl) (by kernel_rfl) (by kernel_rfl) (fun _ _ _ h => h) (Or.inl ⟨by rfl, fun w hSw => ?_⟩) hHeld ?_
          · (try dsimp only at hSw)
            unfold oY2
            go_simp
          try simp only [oY2, Act.put, List.setIfInBounds_toArray, List.set_cons_zero, List.set_cons_succ]
          refine wpAnyH_take (i := 3) (oi := oY3) (v := .pointer (some ⟨g4, i, none⟩)) rfl (by kernel_rfl) (by kernel_rfl) (by kernel_rfl) (fun _ _ _ h => h) (Or.inl ⟨by rfl, fun w hSw => ?_⟩) hHeld ?_
          · (try dsimp only at hSw)
            unfold oY3
            go_simp
          try simp only [oY3, Act.put, List.setIfInBounds_toArray, List.set_cons_zero, List.set_cons_succ]
          refine wpAnyH_take (i := 4) (oi := oY4) (v := .int .i64 rv) rfl (by kernel_rfl) (by kernel_rfl) (by kernel_rfl) (fun _ _ _ h => h) (Or.inl ⟨by rfl, fun w hSw => ?_⟩) hHeld ?_
          · (try dsimp only at hSw)
            unfold oY4
            go_simp
          try simp only [oY4, Act.put, List.setIfInBounds_toArray, List.set_cons_zero, List.set_cons_succ]
          refine wpAnyH_ready (rs := [5]) (by kernel_rfl) (by simp) ?_
          refine AllReadyH.cons (o := oY5) rfl (fun K hK => ?_) AllReadyH.nil
          unfold oY5
          go_simp
          go_wp2_with fail
          refine ((unhide SR1) wr.drew ((unhide KD).r.below ((Below.refl _ _).drew))).mono ?_
          rintro e z ⟨rfl, bb⟩
          have bb1 : Below wr.heap.size wr z := ⟨bb.os, bb.tape, bb.output, bb.size, bb.block⟩
          have KDz := hide ((unhide KD).step bb1)
          have KCz := hide ((unhide KC).step bb1)
          have OGz := hide ((unhide OG).step bb1)
          have Bz := hide ((unhide B).trans (bb1.mono (unhide B).size))
          have K1 : z.cell? ⟨bD, 0, none⟩ = some (.int .i64 yD.room) ∧ z.cell? ⟨bD, 1, none⟩ = some (.slice yD.a yD.ps.length yD.c) ∧ z.cell? ⟨g4, i, none⟩ = some (.int .i64 rv) := ⟨(unhide KDz).k.c0, (unhide KDz).k.c1, (bb1.cell (p := ⟨g4, i, none⟩) gl).trans K0.2.2⟩
          clear bb bb1
          go_wp2_with fail
          refine hK.out _ _ K1 (fun hHeld => ?_)
          clear hK K
          try simp only [oY5, Act.put, List.setIfInBounds_toArray, List.set_cons_zero, List.set_cons_succ]
          refine wpAnyH_take (i := 6) (oi := oY6) (v := .tuple #[.string rs, .bool true]) rfl (by kernel_rfl) (by kernel_rfl) (by kernel_rfl) (fun _ _ _ h => h) (Or.inl ⟨by rfl, fun w hSw => ?_⟩) hHeld ?_
          · (try dsimp only at hSw)
            unfold oY6
            go_simp
          try simp only [oY6, Act.put, List.setIfInBounds_toArray, List.set_cons_zero, List.set_cons_succ]
          refine wpAnyH_take (i := 7) (oi := oY7) (v := .string rs) rfl (by kernel_rfl) (by kernel_rfl) (by kernel_rfl) (fun _ _ _ h => h) (Or.inl ⟨by rfl, fun w hSw => ?_⟩) hHeld ?_
          · (try dsimp only at hSw)
            unfold oY7
            go_simp
          try simp only [oY7, Act.put, List.setIfInBounds_toArray, List.set_cons_zero, List.set_cons_succ]
          refine wpAnyH_take (i := 8) (oi := oY8) (v := .bool true) rfl (by kernel_rfl) (by kernel_rfl) (by kernel_rfl) (fun _ _ _ h => h) (Or.inl ⟨by rfl, fun w hSw => ?_⟩) hHeld ?_
          · (try dsimp only at hSw)
            unfold oY8
            go_simp
          try simp only [oY8, Act.put, List.setIfInBounds_toArray, List.set_cons_zero, List.set_cons_succ]
          refine wpAnyH_take (i := 9) (oi := oY9) (v := .string rs) rfl (by kernel_rfl) (by kernel_rfl) (by kernel_rfl) (fun _ _ _ h => h) (Or.inl ⟨by rfl, fun w hSw => ?_⟩) hHeld ?_
          · (try dsimp only at hSw)
            unfold oY9
            go_simp
          try simp only [oY9, Act.put, List.setIfInBounds_toArray, List.set_cons_zero, List.set_cons_succ]
          refine wpAnyH_take (i := 10) (oi := oY10) (v := .bool true) rfl (by kernel_rfl) (by kernel_rfl) (by kernel_rfl) (fun _ _ _ h => h) (Or.inl ⟨by rfl, fun w hSw => ?_⟩) hHeld ?_
          · (try dsimp only at hSw)
            unfold oY10
            go_simp
          try simp only [oY10, Act.put, List.setIfInBounds_toArray, List.set_cons_zero, List.set_cons_succ]
          refine wpAnyH_done (by kernel_rfl) ?_ _
          have c9 := K1.2.2
          have wA := (unhide HR).1
          have tA := (unhide HR).2.1
          have wR := (unhide HR).2.2
          clear K0 K1
          go_wp2
          go_roundw
          case rel => exact ⟨i + 1, by go_num, by omega, Bz, KDz, KCz, OGz⟩
          case measure => simp [intOf]; omega
        · have it : ¬ (i : Int) < n4 := by omega
          have q0 := (unhide KC).k.c0
          have q1 := (unhide KC).k.c1
          by_cases l20 : n4 < 20
          · have lb : (n4 : Int) < 20 := by omega
            have RF := (unhide R0).2.2 l20
            obtain ⟨nx, hnx⟩ : ∃ nx : Int, (fr + (n4 : Int)) % 20 = nx := ⟨_, rfl⟩
            rw [hnx] at RF
            obtain ⟨rs, hrs⟩ : ∃ rs, readD yD.room yD.ps nx = (rs, false) := ⟨(readD yD.room yD.ps nx).1, by rw [← RF]⟩
            have SR1 := hide (show ∀ u, RdD u yD → Calls Try.prog 18 #[.agg #[.int .i64 yD.room, .slice yD.a yD.ps.length yD.c], .int .i64 nx] u fun e w' => e = .returned (.tuple #[.string rs, .bool false]) ∧ Below u.heap.size u w' from fun u hr => by have := (unhide SR) nx u hr; rwa [hrs] at this)
            have wA : wrap64 (fr + (n4 : Int)) = fr + n4 := by rw [wrap64]; omega
            have tA : (fr + (n4 : Int)).tmod 20 = nx := by rw [Int.tmod_eq_emod_of_nonneg (by omega)]; exact hnx
            have wR : wrap64 nx = nx := by rw [wrap64]; omega
            have p0 := (unhide KD).k.c0
            have p1 := (unhide KD).k.c1
            clear hrs RF hnx
            go_wp2_with fail
            refine ((unhide SR1) _ (unhide KD).r).mono ?_
            rintro e z ⟨rfl, bb⟩
            have KCz := hide ((unhide KC).step bb)
            have Bz := hide ((unhide B).trans (bb.mono (unhide B).size))
            clear bb p0 p1 q0 q1
            have q0 := (unhide KCz).k.c0
            have q1 := (unhide KCz).k.c1
            go_wp2_with fail
            refine ((unhide IO) _ (unhide KCz).r).mono ?_
            rintro e z2 ⟨rfl, bb⟩
            have B2 := hide ((unhide Bz).trans (bb.mono (unhide Bz).size))
            clear bb q0 q1
            go_wp2
            go_ret
            exact ⟨rfl, unhide B2⟩
          · have lb : ¬ (n4 : Int) < 20 := by omega
            go_wp2_with fail
            refine ((unhide IO) _ (unhide KC).r).mono ?_
            rintro e z2 ⟨rfl, bb⟩
            have B2 := hide ((unhide B).trans (bb.mono (unhide B).size))
            clear bb q0 q1
            go_wp2
            go_ret
            exact ⟨rfl, unhide B2⟩

set_option maxRecDepth 100000 in
theorem lifted (os : Os) (started : os.Started) (H : Type) (enc : TypeId × Value → H) :
    ReturnsInHanded {} Try.checked os 4 .any (Rows.fnClearedSpec.pre6 enc Try.prog Try.f4 Rows.fnClearedRow.domain false) (Rows.fnClearedSpec.post enc Try.prog Try.f4 false true false false) := by
  refine returnsInHanded_of_change (C := Try.checked) own started (by kernel_rfl) Try.func4
    (ChangeSpec.witness6 (enc := enc) (C := Try.checked) false ⟨#[], #[.slice none 0 0], []⟩ 8 (by kernel_rfl) (by kernel_rfl) (by kernel_rfl) (by kernel_rfl)) ?_
  intro W base args ds gs before hval0 hW hcnd _
  have hval : ∀ (j : Nat) t v, Try.f4.params[j]? = some t → args[j]? = some v → Value.okWide Try.prog W .any base t v := hval0
  have hW' := hW
  obtain ⟨p, q, hA0, hV, rfl, hfz, hnd⟩ := hW
  have hA : DataW.TrodAll enc Try.prog W 0 (fun _ => true) true Try.f4.params.toList args.toList ds p := hA0
  rw [Try.params4] at hA hval
  obtain ⟨v0, vs0, d0, ds0, p0, q0, hargs, rfl, rfl, h0, r0⟩ := trodAll_cons hA
  obtain ⟨rfl, rfl, rfl⟩ := trodAll_nil r0
  obtain rfl : args = #[v0] := by cases args; simp_all
  obtain ⟨rfl, rfl⟩ := trodVars_none hV
  obtain ⟨a0, len0, cap0, rfl⟩ := okWide_slice Try.underlying22 (hval 0 22 v0 rfl rfl)
  have k0 := h0
  have lt0 : ∀ x ∈ p0, x.block < W.heap.size := by obtain ⟨m, hm⟩ := k0; exact DataW.trod_lt m _ _ _ hm
  obtain ⟨z0, w0⟩ : ∃ zs, Ints.IsRow .u8 W a0 len0 cap0 zs := by
    obtain ⟨fuel, hf⟩ := h0
    rcases open_ints Try.underlying22 Try.underlying5 (by kernel_rfl) hf with ⟨hcs, _⟩ | ⟨x, l, c, zs, hcs, _, hl, hm, hz, _, hcell, hwz⟩
    · simp [Value.cells] at hcs
      obtain ⟨rfl, rfl, rfl⟩ := hcs
      exact ⟨[], .inl ⟨rfl, rfl, rfl, rfl⟩⟩
    · simp [Value.cells] at hcs
      obtain ⟨rfl, rfl, rfl⟩ := hcs
      exact ⟨zs, .inr ⟨_, rfl, hl, hm, by simpa using hz, hcell, hwz⟩⟩
  clear hA0 hval0
  refine (walk a0 len0 cap0 z0 W w0).mono fun e W' ⟨he, bel⟩ => ?_
  subst he
  exact ⟨_, rfl, _, _, _, [], _, [], hW', trodAll_mk1 (shut_bool Try.underlying4 _), (trodAll_cons_mk (Below.trod laidOut (by kernel_rfl) (of_decide_eq_true (by kernel_rfl)) k0 bel lt0) trodAll_mk0), rfl, bel.frame _, fun h => by cases h⟩

theorem over : Rows.fnClearedRow.holds Try.pinned (OpenSpec.ofChange Rows.fnClearedSpec) :=
  OpenClaim.holds_of_wide 4 Try.f4 rfl rfl rfl rfl rfl rfl rfl ⟨rfl, rfl, rfl, rfl, rfl⟩ rfl rfl rfl rfl rfl (by kernel_rfl) Try.func4 (by kernel_rfl)
    (of_decide_eq_true (by kernel_rfl)) (by unfold Func.isWrapper; first | (rw [if_pos (by decide +kernel)]; kernel_rfl) | (rw [if_neg (by decide +kernel)]; exact ⟨rfl, rfl⟩))
    (fun os started H enc _ => lifted os started H enc)

/-- The statement. -/
theorem proved : Rows.FnClearedSaid := over
#print axioms proved
end Go.Proofs.Ytcajdiopgaoicaa.fnCleared
