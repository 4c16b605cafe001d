/- For every row of bytes the law of segments returns true: a record that is added to a mended segment of a drawn disk is read behind a crash, behind all that were there; a late one is there whole or not at all. No condition. -/
import Derived.Test.YtcajdiopgaoicaaRows
import Derived.Test.YtcajdiopgaoicaaSG1
import Derived.Test.YtcajdiopgaoicaaSG2
import Derived.Test.YtcajdiopgaoicaaSG3
import Derived.Test.YtcajdiopgaoicaaSG4
import Derived.Test.YtcajdiopgaoicaaSG5
import Derived.Test.YtcajdiopgaoicaaSG6
import Derived.Test.YtcajdiopgaoicaaSG7
import Derived.Test.YtcajdiopgaoicaaSG8
import Derived.Test.YtcajdiopgaoicaaSG9
import Derived.Test.YtcajdiopgaoicaaSG10
import Derived.Test.YtcajdiopgaoicaaSG11
import Derived.ShutString
import Derived.ChangeOld
import Derived.Below
namespace Go.Proofs.Ytcajdiopgaoicaa.fnSegs
open Go.ChangeShapes Go.WideShapes Go.ChangeAt Go.RowKit
open Go.ChangeMaps (open_string shut_string)
set_option linter.unusedVariables false
set_option linter.unusedSimpArgs false

theorem own : ownKnob Try.prog.godebug = none := by kernel_rfl
theorem laidOut : laidOutB Try.prog = true := by kernel_rfl

open Fil14 (TF elF)
open DiskH14 (sumZ one_more)
open SOk14 (OkD okN)
open SRd14 (readD)
open SegP15 (okS segD)
open SLate15 (lateD sealT)
open SAdd15 (addD)
open SMend15 (mendD)
open SCrash14 (crashD)
open SCom14 (ToldD)
open RTG15 (Whole whole_more)
open Conv15 (nums)
open PureS15
open DkH14 (Dx RdD OwD)
open Law14 (Kd)
open LawM15
open Draw (CodeAt)
open DrawT14 (hide unhide)

abbrev oX0 : Oper := { dst := some 118, op := Go.Op.load 26 (Go.Operand.tmp 16), type := 26, pos := "laws.go:1014", after := #[], guard := none }
abbrev oX1 : Oper := { dst := some 119, op := Go.Op.move (Go.Operand.tmp 0), type := 22, pos := "laws.go:1014", after := #[], guard := none }
abbrev oX2 : Oper := { dst := some 120, op := Go.Op.call { callee := Go.Callee.value (Go.Operand.func 14), args := #[Go.Operand.tmp 119, Go.Operand.const (Go.Value.int Go.IntKind.i64 1)], argTypes := #[22, 3] }, type := 3, pos := "laws.go:1014", after := #[{ on := 1, ground := Go.Ground.data }], guard := none }
abbrev oX3 : Oper := { dst := some 121, op := Go.Op.binOp Go.BinOp.rem 3 (Go.Operand.tmp 120) (Go.Operand.const (Go.Value.int Go.IntKind.i64 12)) 3, type := 3, pos := "laws.go:1014", after := #[{ on := 2, ground := Go.Ground.data }], guard := none }
abbrev oX4 : Oper := { dst := some 122, op := Go.Op.call { callee := Go.Callee.value (Go.Operand.func 13), args := #[Go.Operand.tmp 118, Go.Operand.tmp 121], argTypes := #[26, 3] }, type := 26, pos := "laws.go:1014", after := #[{ on := 0, ground := Go.Ground.data }, { on := 3, ground := Go.Ground.data }, { on := 2, ground := Go.Ground.chain }], guard := none }
abbrev oX5 : Oper := { dst := some 123, op := Go.Op.move (Go.Operand.tmp 4), type := 3, pos := "laws.go:1014", after := #[], guard := none }
abbrev oX6 : Oper := { dst := some 124, op := Go.Op.call { callee := Go.Callee.value (Go.Operand.func 9), args := #[Go.Operand.tmp 122, Go.Operand.tmp 123], argTypes := #[26, 3] }, type := 32, pos := "laws.go:1014", after := #[{ on := 4, ground := Go.Ground.data }, { on := 5, ground := Go.Ground.data }, { on := 4, ground := Go.Ground.chain }], guard := none }
abbrev oX7 : Oper := { dst := some 117, op := Go.Op.move (Go.Operand.tmp 124), type := 32, pos := "laws.go:1014", after := #[{ on := 6, ground := Go.Ground.data }], guard := none }
abbrev oX8 : Oper := { dst := some 125, op := Go.Op.extract (Go.Operand.tmp 117) 0, type := 31, pos := "laws.go:1014", after := #[{ on := 7, ground := Go.Ground.data }], guard := none }
abbrev oX9 : Oper := { dst := some 126, op := Go.Op.extract (Go.Operand.tmp 117) 1, type := 3, pos := "laws.go:1014", after := #[{ on := 7, ground := Go.Ground.data }, { on := 10, ground := Go.Ground.gcOnly Go.Departure.lateStores }], guard := none }
abbrev oX10 : Oper := { dst := some 18, op := Go.Op.assign (Go.Operand.tmp 125), type := 31, pos := "laws.go:1014", after := #[{ on := 8, ground := Go.Ground.data }, { on := 6, ground := Go.Ground.chain }, { on := 0, ground := Go.Ground.phase }, { on := 1, ground := Go.Ground.phase }, { on := 2, ground := Go.Ground.phase }, { on := 3, ground := Go.Ground.phase }, { on := 4, ground := Go.Ground.phase }, { on := 5, ground := Go.Ground.phase }, { on := 6, ground := Go.Ground.phase }, { on := 7, ground := Go.Ground.phase }, { on := 8, ground := Go.Ground.phase }, { on := 9, ground := Go.Ground.textOnly Go.Departure.lateStores }], guard := none }
abbrev oX11 : Oper := { dst := some 19, op := Go.Op.assign (Go.Operand.tmp 126), type := 3, pos := "laws.go:1014", after := #[{ on := 9, ground := Go.Ground.data }, { on := 10, ground := Go.Ground.chain }, { on := 0, ground := Go.Ground.phase }, { on := 1, ground := Go.Ground.phase }, { on := 2, ground := Go.Ground.phase }, { on := 3, ground := Go.Ground.phase }, { on := 4, ground := Go.Ground.phase }, { on := 5, ground := Go.Ground.phase }, { on := 6, ground := Go.Ground.phase }, { on := 7, ground := Go.Ground.phase }, { on := 8, ground := Go.Ground.phase }, { on := 9, ground := Go.Ground.phase }, { on := 10, ground := Go.Ground.phase }], guard := none }
theorem code_at {w : World} {a : Option Addr} {len cap : Nat} {zs : List Int} (h : Ints.IsRow .u8 w a len cap zs) : CodeAt w a len := by
  obtain ⟨hl, hr, hi, _⟩ := Law11.row_bytes h
  rcases hr with h0 | ⟨b, off, rfl, hb, hc⟩
  · exact .inl (by omega)
  · exact .inr ⟨b, off, zs.take len, rfl, hb, fun i hi' => ⟨hc i (by omega), hi i (by omega)⟩⟩


set_option maxRecDepth 100000 in
set_option maxHeartbeats 8000000 in
theorem walk (a0 : Option Addr) (len0 cap0 : Nat) (z0 : List Int) (w : World) (w0 : Ints.IsRow .u8 w a0 len0 cap0 z0) :
    Calls Try.prog 3 #[.slice a0 len0 cap0] w fun e w' => e = .returned (.bool true) ∧ Below w.heap.size w w' := by
  have hc := code_at w0
  clear w0
  by_cases tl : (len0 : Int) ≤ 1048576
  case neg =>
    have HC := hide hc
    clear hc
    go_enter Try.func3, Try.ntmps3
    go_wp2
    go_ret
    exact ⟨rfl, Below.refl _ _⟩
  have HC := hide hc
  have TL : len0 ≤ 1048576 := by omega
  clear hc
  go_enter Try.func3, Try.ntmps3
  go_wp2_with (first | (go_at_call 5; go_in) | fail)
  refine (DrawJ15.drawAdd _ a0 len0 cap0 TL (unhide HC)).mono ?_
  rintro e u1 ⟨yD, seg, s, sm, ⟨sg0, sg1⟩, ss, rfl, oD, b1⟩
  have RD := hide (oD.rd (by have := sm.1; omega))
  have bb := one_more u1 (.cells #[.int .i64 yD.room, .slice yD.a yD.ps.length yD.c] 26)
  have KD := hide (Kr.made (unhide RD) 26)
  have B := hide (b1.trans (bb.mono b1.size))
  have zD : sumZ yD.ps ≤ 1048576 := by have := sm.2; omega
  have lD : yD.ps.length ≤ 23 := sm.1
  have WF := hide (show TabF14.Wf seg from WalkArith.wf_i64 (by omega))
  have IM := hide (fun u hr => IMend15.iSegMend u yD seg hr zD (unhide WF))
  have SM := hide (fun u hr => SMend15.sSegMend u yD seg hr zD)
  have MN := hide (mend_not (room := yD.room) (ps := yD.ps) (seg := seg))
  have MD := hide (mend_done (room := yD.room) (ps := yD.ps) (seg := seg))
  have ML := hide (Len15.len_mend (room := yD.room) (ps := yD.ps) seg (by omega))
  generalize mendD yD.room yD.ps seg = md at *
  obtain ⟨⟨mr, mp⟩, cm⟩ := md
  clear oD b1 bb RD sm
  go_wp2_with fail
  generalize u1.alloc (.cells #[.int .i64 yD.room, .slice yD.a yD.ps.length yD.c] 26) = V1 at *
  generalize u1.heap.size = bD at *
  refine ((unhide IM) _ (unhide KD).r).mono ?_
  rintro e u2 ⟨yM, eyM, rfl, oM, bb⟩
  obtain ⟨eM1, eM2⟩ := two eyM
  try simp only at MN MD ML
  subst eM1 eM2
  have RM := hide (oM.rd (unhide ML))
  replace B := hide ((unhide B).trans (bb.mono (unhide B).size))
  replace KD := hide ((unhide KD).step bb)
  have bb2 := one_more u2 (.cells #[.int .i64 yM.room, .slice yM.a yM.ps.length yM.c] 26)
  have KM := hide (Kr.made (unhide RM) 26)
  replace B := hide ((unhide B).trans (bb2.mono (unhide B).size))
  replace KD := hide ((unhide KD).step bb2)
  clear bb bb2 oM eyM RM IM ML
  have p0 := (unhide KD).k.c0
  have p1 := (unhide KD).k.c1
  have pl := (unhide KD).k.lt
  go_wp2_with fail
  generalize u2.alloc (.cells #[.int .i64 yM.room, .slice yM.a yM.ps.length yM.c] 26) = V2 at *
  generalize u2.heap.size = bM at *
  refine ((unhide SM) _ (unhide KD).r).mono ?_
  rintro e u3 ⟨yN, eyN, rfl, _, bb⟩
  replace B := hide ((unhide B).trans (bb.mono (unhide B).size))
  replace KD := hide ((unhide KD).step bb)
  replace KM := hide ((unhide KM).step bb)
  have bb2 := one_more u3 (.cells #[.int .i64 yN.room, .slice yN.a yN.ps.length yN.c] 26)
  replace B := hide ((unhide B).trans (bb2.mono (unhide B).size))
  replace KD := hide ((unhide KD).step bb2)
  replace KM := hide ((unhide KM).step bb2)
  have q1 : (cm != cm) = false := by simp
  clear bb bb2 p0 p1 pl SM eyN
  by_cases cz : cm = 0
  case neg =>
    have cb : (cm != 0) = true := by simpa using cz
    have N := (unhide MN) cz
    have m1 := (unhide KM).k.c1
    have d1 := (unhide KD).k.c1
    have ml := (unhide KM).k.lt
    have dl := (unhide KD).k.lt
    clear MN MD cz
    rcases N with ⟨n1, n2⟩ | ⟨n1, n2⟩
    · have n3 : yM.ps.length = 0 := by rw [n2]; rfl
      rw [n3] at m1
      subst n1
      clear n2 n3
      go_wp2
      go_ret
      exact ⟨rfl, unhide B⟩
    · have n3 : yM.ps.length = yD.ps.length := by rw [n2]
      rw [n3] at m1
      have n4 : (cm == 1) = false := by simpa using n1
      clear n1 n2 n3
      go_wp2
      go_ret
      exact ⟨rfl, unhide B⟩
  subst cz
  obtain ⟨mr, ok, ks, X, l, rX, wX, l6, sg⟩ := (unhide MD) rfl
  try simp only at mr ok rX sg
  rw [← mr] at ok rX sg
  have zM := (ok_small ok).2
  have lM := (ok_small ok).1
  have IS := hide (fun u hr => ISeg15.iSegRead u yM seg hr zM (unhide WF))
  obtain ⟨on, hon⟩ : ∃ on, segD yM.room yM.ps seg = (l, on) := ⟨(segD yM.room yM.ps seg).2, by rw [← sg]⟩
  obtain ⟨no, hno⟩ : ∃ no, l.length = no := ⟨_, rfl⟩
  have HNO := hide hno
  have IS := hide (show ∀ u, RdD u yM → Calls Try.prog 9 #[.agg #[.int .i64 yM.room, .slice yM.a yM.ps.length yM.c], .int .i64 seg] u fun e w' => ∃ a c, e = .returned (.tuple #[.slice a no c, .int .i64 on]) ∧ StrO15.Ob w' u.heap.size a no c l ∧ Below u.heap.size u w' from fun u hr => by have := (unhide IS) u hr; rw [hon] at this; subst hno; exact this)
  have no6 : no ≤ 6 := by omega
  clear hno
  have IA := hide (fun u hr => IAdd15.iSegAdd u yM seg s hr zM (by omega) (unhide WF))
  have SA := hide (fun u hr => SAdd15.sSegAdd u yM seg s hr zM (by omega))
  have AN := hide (add_not (seg := seg) (s := s) ok)
  have AD := hide (fun h => add_done (seg := seg) (s := s) ok h)
  have LD := hide (fun h => (late_done (seg := seg) (s := s) ok h).1)
  have AE := hide (show (lateD yM.room yM.ps seg s).2 ≠ 0 → addD yM.room yM.ps seg s = lateD yM.room yM.ps seg s from fun h => by unfold addD; rw [if_neg h])
  have AL := hide (Len15.len_add (room := yM.room) (ps := yM.ps) seg s (by omega))
  have WX := hide wX
  have RX := hide rX
  have KS := hide ks
  clear MN MD mr sg hon wX rX ks
  have p0 := (unhide KM).k.c0
  have p1 := (unhide KM).k.c1
  have pl := (unhide KM).k.lt
  go_wp2_with fail
  refine ((unhide IS) _ (unhide KM).r).mono ?_
  rintro e u4 ⟨a5, c5, rfl, og, bb⟩
  replace B := hide ((unhide B).trans (bb.mono (unhide B).size))
  replace KD := hide ((unhide KD).step bb)
  replace KM := hide ((unhide KM).step bb)
  have RO := hide og
  clear bb og p0 p1 pl IS
  clear KD
  have p0 := (unhide KM).k.c0
  have p1 := (unhide KM).k.c1
  have pl := (unhide KM).k.lt
  go_wp2_with fail
  refine ((unhide IA) _ (unhide KM).r).mono ?_
  rintro e u5 ⟨yE, eyE, rfl, oE, bb⟩
  generalize hAD : addD yM.room yM.ps seg s = ad at *
  have HAD := hide hAD
  clear hAD
  obtain ⟨⟨er, ep⟩, ca⟩ := ad
  obtain ⟨eE1, eE2⟩ := two eyE
  try simp only at AN AL
  subst eE1 eE2
  have RE := hide (oE.rd (unhide AL))
  replace B := hide ((unhide B).trans (bb.mono (unhide B).size))
  replace KM := hide ((unhide KM).step bb)
  replace RO := hide ((unhide RO).step bb)
  have bb2 := one_more u5 (.cells #[.int .i64 yE.room, .slice yE.a yE.ps.length yE.c] 26)
  have KE := hide (Kr.made (unhide RE) 26)
  replace B := hide ((unhide B).trans (bb2.mono (unhide B).size))
  replace KM := hide ((unhide KM).step bb2)
  replace RO := hide ((unhide RO).step bb2)
  clear bb bb2 oE eyE RE IA AL p0 p1 pl
  have p0 := (unhide KM).k.c0
  have p1 := (unhide KM).k.c1
  have pl := (unhide KM).k.lt
  go_wp2_with fail
  generalize u5.alloc (.cells #[.int .i64 yE.room, .slice yE.a yE.ps.length yE.c] 26) = V5 at *
  generalize u5.heap.size = bE at *
  refine ((unhide SA) _ (unhide KM).r).mono ?_
  rintro e u6 ⟨yF, eyF, rfl, _, bb⟩
  replace B := hide ((unhide B).trans (bb.mono (unhide B).size))
  replace KM := hide ((unhide KM).step bb)
  replace RO := hide ((unhide RO).step bb)
  replace KE := hide ((unhide KE).step bb)
  have bb2 := one_more u6 (.cells #[.int .i64 yF.room, .slice yF.a yF.ps.length yF.c] 26)
  replace B := hide ((unhide B).trans (bb2.mono (unhide B).size))
  replace KM := hide ((unhide KM).step bb2)
  replace RO := hide ((unhide RO).step bb2)
  replace KE := hide ((unhide KE).step bb2)
  have q2 : (ca != ca) = false := by simp
  clear bb bb2 p0 p1 pl SA eyF
  by_cases az : ca = 0
  case neg =>
    have ab : (ca != 0) = true := by simpa using az
    have ae : (ca == 0) = false := by simpa using az
    have N := (unhide AN) az
    have m1 := (unhide KM).k.c1
    have e1 := (unhide KE).k.c1
    have ml := (unhide KM).k.lt
    have el := (unhide KE).k.lt
    clear AN AD az LD AE HAD
    by_cases le : yE.ps.length = yM.ps.length
    · rw [le] at e1
      clear N le
      go_wp2
      go_ret
      exact ⟨rfl, unhide B⟩
    · have ln : (((yE.ps.length : Int)) == ((yM.ps.length : Int))) = false := by simp; omega
      obtain rfl : ca = 1 := by
        rcases N with n | n
        · exact n
        · exact absurd (by rw [n]) le
      clear N le
      go_wp2
      go_ret
      exact ⟨rfl, unhide B⟩
  subst az
  by_cases l5 : no ≥ 5
  case pos =>
    have lb : (no : Int) ≥ 5 := by omega
    clear AN AD LD AE HAD
    go_wp2
    go_ret
    exact ⟨rfl, unhide B⟩
  have lb : decide ((no : Int) ≥ 5) = false := decide_eq_false (by omega)
  have lz : (lateD yM.room yM.ps seg s).2 = 0 := by
    by_cases q : (lateD yM.room yM.ps seg s).2 = 0
    · exact q
    · have := (unhide AE) q
      exact absurd (by rw [← this]) q
  obtain ⟨qs, eq1, okE, memE⟩ := (unhide AD) lz
  have s9 := (unhide LD) lz
  have E1 : yE.room = yM.room := congrArg (fun t => t.1.1) eq1
  have E2 : yE.ps = qs := congrArg (fun t => t.1.2) eq1
  rw [← E1, ← E2] at okE
  rw [← E2, unhide RX] at memE
  try simp only at memE
  have WY := hide (show Whole (nums (X ++ sealT s)) (l ++ [s]) by rw [nums_append, nums_seal]; exact whole_more (unhide WX) s9)
  have zE := (ok_small okE).2
  have lE := (ok_small okE).1
  have IL := hide (fun u hr => ILate15.iSegLate u yE seg ⟨#[97, 98, 99]⟩ hr zE (by decide) (unhide WF))
  have LL := hide (Len15.len_late (room := yE.room) (ps := yE.ps) seg ⟨#[97, 98, 99]⟩ (by omega))
  have LT := hide (fun h => late_done (seg := seg) (s := ⟨#[97, 98, 99]⟩) okE h)
  have CS := hide (fun (kp : Int) (z : Dx) (hz : OkD z.room z.ps) hm => crash_seg (t := ⟨#[97, 98, 99]⟩) kp hz (unhide KS) (by decide) hm (unhide WY) (by have := unhide HNO; simp; omega))
  have APF := hide (show SAppend14.appF yE.ps seg (sealT ⟨#[97, 98, 99]⟩) = (seg, X ++ sealT s, sealT ⟨#[97, 98, 99]⟩) from by
    obtain ⟨k, fk, kl, ek⟩ := Pure14.find_yes (Pure14.asc_of okE).1 memE
    simp only at fk
    unfold SAppend14.appF
    rw [if_pos (by omega), fk, Int.toNat_natCast, ek]
    simp)
  clear AN AD LD AE HAD eq1 E1 E2 lz RX WX WY KM zM lM
  have OKE := hide okE
  have ME := hide memE
  clear okE memE
  have p0 := (unhide KE).k.c0
  have p1 := (unhide KE).k.c1
  have pl := (unhide KE).k.lt
  go_wp2_with fail
  refine ((unhide IL) _ (unhide KE).r).mono ?_
  rintro e u7 ⟨yL, eyL, rfl, oL, bb⟩
  generalize hLD : lateD yE.room yE.ps seg ⟨#[97, 98, 99]⟩ = ld at *
  have HLD := hide hLD
  clear hLD
  obtain ⟨⟨lr, lp⟩, cl⟩ := ld
  obtain ⟨eL1, eL2⟩ := two eyL
  try simp only at LL
  subst eL1 eL2
  have RL := hide (oL.rd (unhide LL))
  replace B := hide ((unhide B).trans (bb.mono (unhide B).size))
  replace RO := hide ((unhide RO).step bb)
  replace KE := hide ((unhide KE).step bb)
  have bb2 := one_more u7 (.cells #[.int .i64 yL.room, .slice yL.a yL.ps.length yL.c] 26)
  have KL := hide (Kr.made (unhide RL) 26)
  have LO := hide (unhide RO).btw
  have B7 := hide (unhide B)
  have RO7 := hide (unhide RO)
  have KE0 := hide (unhide KE)
  have KB := hide (DkH14.Bc.made (w := u7) (base := w.heap.size) (g := u7.heap.size) (.int .i64 yL.room) (.slice yL.a yL.ps.length yL.c) (unhide B).size rfl)
  have RLz := hide (unhide KL).r
  replace B := hide ((unhide B).trans (bb2.mono (unhide B).size))
  replace RO := hide ((unhide RO).step bb2)
  replace KE := hide ((unhide KE).step bb2)
  have e0 := (unhide KE).k.c0
  have e1 := (unhide KE).k.c1
  have el := (unhide KE).k.lt
  clear bb bb2 oL eyL RL IL LL p0 p1 pl
  by_cases lz : cl = 0
  case pos =>
    subst lz
    obtain ⟨_, _, eq3, okL, memL, _⟩ := (unhide LT) rfl
    have E1 : yL.room = yE.room := congrArg (fun t => t.1.1) eq3
    have E2 := congrArg (fun t => t.1.2) eq3
    try simp only at E2
    rw [← E1, ← E2] at okL
    rw [← E2, unhide APF] at memL
    have OKZ := hide okL
    have MZ := hide (show (seg, X ++ sealT s, ByteArray.empty) ∈ yL.ps ∨ (seg, X ++ sealT s, sealT ⟨#[97, 98, 99]⟩) ∈ yL.ps from .inr memL)
    have zz := (ok_small okL).2
    have IC := hide (fun kp u hr => ICrash14.iDiskCrash u yL kp hr zz)
    have KZ := KL
    have RZ := RO
    have BZ := B
    clear LT HLD APF eq3 okL memL E1 E2 KB RLz e0 e1 el ME OKE KE B RO KL RO7
    go_wp2_with fail
    generalize u7.alloc (.cells #[.int .i64 yL.room, .slice yL.a yL.ps.length yL.c] 26) = V at *
    generalize u7.heap.size = bL at *
    have K0 : V.cell? ⟨bL, 0, none⟩ = some (.int .i64 yL.room) ∧ V.cell? ⟨bL, 1, none⟩ = some (.slice yL.a yL.ps.length yL.c) := ⟨(unhide KZ).k.c0, (unhide KZ).k.c1⟩
    refine wp_region_held_drew (S := (fun w' => w'.cell? ⟨bL, 0, none⟩ = some (.int .i64 yL.room) ∧ w'.cell? ⟨bL, 1, none⟩ = some (.slice yL.a yL.ps.length yL.c))) (by kernel_rfl) K0 (fun hHeld => ?_)
    refine wpAnyH_take (i := 0) (oi := oX0) (v := .agg #[.int .i64 yL.room, .slice yL.a yL.ps.length yL.c]) rfl (by kernel_rfl) (by kernel_rfl) (by kernel_rfl) (fun _ _ _ h => h) (Or.inl ⟨by rfl, fun w hSw => ?_⟩) hHeld ?_
    · (try dsimp only at hSw)
      unfold oX0
      go_simp
    try simp only [oX0, Act.put, List.setIfInBounds_toArray, List.set_cons_zero, List.set_cons_succ]
    refine wpAnyH_take (i := 1) (oi := oX1) (v := .slice a0 len0 cap0) rfl (by kernel_rfl) (by kernel_rfl) (by kernel_rfl) (fun _ _ _ h => h) (Or.inl ⟨by rfl, fun w hSw => ?_⟩) hHeld ?_
    · (try dsimp only at hSw)
      unfold oX1
      go_simp
    try simp only [oX1, Act.put, List.setIfInBounds_toArray, List.set_cons_zero, List.set_cons_succ]
    refine wpAnyH_take (i := 5) (oi := oX5) (v := .int .i64 seg) rfl (by kernel_rfl) (by kernel_rfl) (by kernel_rfl) (fun _ _ _ h => h) (Or.inl ⟨by rfl, fun w hSw => ?_⟩) hHeld ?_
    · (try dsimp only at hSw)
      unfold oX5
      go_simp
    try simp only [oX5, Act.put, List.setIfInBounds_toArray, List.set_cons_zero, List.set_cons_succ]
    refine wpAnyH_ready (rs := [2]) (by kernel_rfl) (by simp) ?_
    refine AllReadyH.cons (o := oX2) rfl (fun K hK => ?_) AllReadyH.nil
    unfold oX2
    go_simp
    go_wp2_with fail
    refine (Code11.atC V.drew a0 len0 cap0 1 TL (by omega) ((unhide HC).below (unhide BZ).drew)).mono ?_
    rintro e v0 ⟨xx, xx0, xx1, rfl, rfl⟩
    obtain ⟨kp, hkp⟩ : ∃ kp : Int, xx % 12 = kp := ⟨_, rfl⟩
    have tm : xx.tmod 12 = kp := by rw [Int.tmod_eq_emod_of_nonneg xx0]; exact hkp
    have wf : IntKind.i64.wrap kp = kp := by rw [IntKind.wrap_i64]; omega
    have wg : wrap64 kp = kp := by rw [wrap64]; omega
    clear hkp
    go_wp2_with fail
    refine hK.out _ _ K0 (fun hHeld => ?_)
    clear hK K
    try simp only [oX2, Act.put, List.setIfInBounds_toArray, List.set_cons_zero, List.set_cons_succ]
    refine wpAnyH_take (i := 3) (oi := oX3) (v := .int .i64 kp) rfl (by kernel_rfl) (by kernel_rfl) (by kernel_rfl) (fun _ _ _ h => h) (Or.inl ⟨by rfl, fun w hSw => ?_⟩) hHeld ?_
    · (try dsimp only at hSw)
      unfold oX3
      go_simp
    try simp only [oX3, Act.put, List.setIfInBounds_toArray, List.set_cons_zero, List.set_cons_succ]
    refine wpAnyH_ready (rs := [4]) (by kernel_rfl) (by simp) ?_
    refine AllReadyH.cons (o := oX4) rfl (fun K hK => ?_) AllReadyH.nil
    unfold oX4
    go_simp
    go_wp2_with fail
    refine ((unhide IC) kp V.drew ((unhide KZ).r.below ((Below.refl _ _).drew))).mono ?_
    rintro e v1 ⟨yC, eyC, rfl, oC, bb⟩
    have okC := OkS15.rg_crash (room := yL.room) (ps := yL.ps) kp (unhide OKZ)
    have csg := (unhide CS) kp yL (unhide OKZ) (unhide MZ)
    rw [← eyC] at okC csg
    try simp only at okC csg
    have RC := hide (oC.rd (by have := okC.2.1; omega))
    have bb1 : Below V.heap.size V v1 := ⟨bb.os, bb.tape, bb.output, bb.size, bb.block⟩
    have R1 := hide ((unhide RZ).step bb1)
    have B1 := hide ((unhide BZ).trans (bb1.mono (unhide BZ).size))
    have K1 : v1.cell? ⟨bL, 0, none⟩ = some (.int .i64 yL.room) ∧ v1.cell? ⟨bL, 1, none⟩ = some (.slice yL.a yL.ps.length yL.c) := ⟨(bb1.cell (p := ⟨bL, 0, none⟩) (unhide KZ).k.lt).trans K0.1, (bb1.cell (p := ⟨bL, 1, none⟩) (unhide KZ).k.lt).trans K0.2⟩
    have ISR := hide (fun u hr => ISeg15.iSegRead u yC seg hr (ok_small okC).2 (unhide WF))
    have CSG := hide csg
    have bl1 : bL < v1.heap.size := Nat.lt_of_lt_of_le (unhide KZ).k.lt bb1.size
    clear bb bb1 okC csg oC eyC
    generalize segD yC.room yC.ps seg = sd at *
    obtain ⟨al, an⟩ := sd
    obtain ⟨n6, hn6⟩ : ∃ n6, al.length = n6 := ⟨_, rfl⟩
    have HN6 := hide hn6
    have ISQ := hide (show ∀ u, RdD u yC → Calls Try.prog 9 #[.agg #[.int .i64 yC.room, .slice yC.a yC.ps.length yC.c], .int .i64 seg] u fun e w' => ∃ a c, e = .returned (.tuple #[.slice a n6 c, .int .i64 an]) ∧ StrO15.Ob w' u.heap.size a n6 c al ∧ Below u.heap.size u w' from fun u hr => by have := (unhide ISR) u hr; subst hn6; exact this)
    have CSL := hide (show (al = l ++ [s] ∧ n6 = no + 1) ∨ (al = l ++ [s] ++ [(⟨#[97, 98, 99]⟩ : ByteArray)] ∧ n6 = no + 2) from by
      have a1 := unhide HNO
      rcases unhide CSG with c | c
      · have c' : al = l ++ [s] := c
        exact .inl ⟨c', by rw [← hn6, c']; simp [a1]⟩
      · have c' : al = l ++ [s] ++ [(⟨#[97, 98, 99]⟩ : ByteArray)] := c
        exact .inr ⟨c', by rw [← hn6, c']; simp [a1]⟩)
    clear hn6 ISR CSG
    go_wp2_with fail
    refine hK.out _ _ K1 (fun hHeld => ?_)
    clear hK K
    try simp only [oX4, Act.put, List.setIfInBounds_toArray, List.set_cons_zero, List.set_cons_succ]
    refine wpAnyH_ready (rs := [6]) (by kernel_rfl) (by simp) ?_
    refine AllReadyH.cons (o := oX6) rfl (fun K hK => ?_) AllReadyH.nil
    unfold oX6
    go_simp
    go_wp2_with fail
    refine ((unhide ISQ) _ (unhide RC)).mono ?_
    rintro e v2 ⟨a6, c6, he, oa, bb⟩
    obtain ⟨g6, ea6, o6⟩ : ∃ g6, a6 = some ⟨g6, 0, none⟩ ∧ StrO15.Own v2 v1.heap.size g6 n6 c6 al := by
      rcases oa.either with ⟨_, z0, _⟩ | h
      · exfalso; rcases unhide CSL with c | c <;> omega
      · exact h
    rw [ea6] at he
    subst he
    clear ea6 oa
    have R2 := hide ((unhide R1).step bb)
    have B2 := hide ((unhide B1).trans (bb.mono (unhide B1).size))
    have RA := hide o6
    have K2 : v2.cell? ⟨bL, 0, none⟩ = some (.int .i64 yL.room) ∧ v2.cell? ⟨bL, 1, none⟩ = some (.slice yL.a yL.ps.length yL.c) := ⟨(bb.cell (p := ⟨bL, 0, none⟩) bl1).trans K1.1, (bb.cell (p := ⟨bL, 1, none⟩) bl1).trans K1.2⟩
    clear bb o6
    go_wp2_with fail
    refine hK.out _ _ K2 (fun hHeld => ?_)
    clear hK K
    try simp only [oX6, Act.put, List.setIfInBounds_toArray, List.set_cons_zero, List.set_cons_succ]
    refine wpAnyH_take (i := 7) (oi := oX7) (v := .tuple #[.slice (some ⟨g6, 0, none⟩) n6 c6, .int .i64 an]) rfl (by kernel_rfl) (by kernel_rfl) (by kernel_rfl) (fun _ _ _ h => h) (Or.inl ⟨by rfl, fun w hSw => ?_⟩) hHeld ?_
    · (try dsimp only at hSw)
      unfold oX7
      go_simp
    try simp only [oX7, Act.put, List.setIfInBounds_toArray, List.set_cons_zero, List.set_cons_succ]
    refine wpAnyH_take (i := 8) (oi := oX8) (v := .slice (some ⟨g6, 0, none⟩) n6 c6) rfl (by kernel_rfl) (by kernel_rfl) (by kernel_rfl) (fun _ _ _ h => h) (Or.inl ⟨by rfl, fun w hSw => ?_⟩) hHeld ?_
    · (try dsimp only at hSw)
      unfold oX8
      go_simp
    try simp only [oX8, Act.put, List.setIfInBounds_toArray, List.set_cons_zero, List.set_cons_succ]
    refine wpAnyH_take (i := 9) (oi := oX9) (v := .int .i64 an) rfl (by kernel_rfl) (by kernel_rfl) (by kernel_rfl) (fun _ _ _ h => h) (Or.inl ⟨by rfl, fun w hSw => ?_⟩) hHeld ?_
    · (try dsimp only at hSw)
      unfold oX9
      go_simp
    try simp only [oX9, Act.put, List.setIfInBounds_toArray, List.set_cons_zero, List.set_cons_succ]
    refine wpAnyH_take (i := 10) (oi := oX10) (v := .slice (some ⟨g6, 0, none⟩) n6 c6) rfl (by kernel_rfl) (by kernel_rfl) (by kernel_rfl) (fun _ _ _ h => h) (Or.inl ⟨by rfl, fun w hSw => ?_⟩) hHeld ?_
    · (try dsimp only at hSw)
      unfold oX10
      go_simp
    try simp only [oX10, Act.put, List.setIfInBounds_toArray, List.set_cons_zero, List.set_cons_succ]
    refine wpAnyH_take (i := 11) (oi := oX11) (v := .int .i64 an) rfl (by kernel_rfl) (by kernel_rfl) (by kernel_rfl) (fun _ _ _ h => h) (Or.inl ⟨by rfl, fun w hSw => ?_⟩) hHeld ?_
    · (try dsimp only at hSw)
      unfold oX11
      go_simp
    try simp only [oX11, Act.put, List.setIfInBounds_toArray, List.set_cons_zero, List.set_cons_succ]
    refine wpAnyH_done (by kernel_rfl) ?_ _
    clear K0 K1 K2 wf wg tm
    have GT := PureT15.t15 (unhide RA) (unhide HNO) (show no < 5 by omega) (unhide CSL)
    clear RA CSL HNO
    refine Exists.elim GT (fun nI GT => Exists.elim GT (fun mI GT => ?_))
    have hn := GT.1
    have hm := GT.2.1
    have GT := hide GT.2.2
    have w1 := (unhide GT).w1
    have w2 := (unhide GT).w2
    have q5 := (unhide GT).q5
    have q6 := (unhide GT).q6
    have cs := (unhide GT).cs
    have ixA := (unhide GT).ix
    refine Or.elim (unhide GT).two (fun hh => ?_) (fun hh => ?_)
    · have q7 := hh
      clear hh
      go_wp2
      clear cs ixA q5 q6 q7 w1 w2
      go_loopw [20] (fun j wr => ∃ (i : Nat), j = .int .i64 i ∧ i ≤ no ∧ Hid (Below v2.heap.size v2 wr)) (fun j _ => no - (intOf j).toNat)
      case atStart => exact ⟨0, rfl, by omega, hide (Below.refl _ _)⟩
      case round =>
        obtain ⟨i, rfl, hi, BW⟩ := hrel
        by_cases ti : i < no
        · have it : (i : Int) < nI := by omega
          obtain ⟨g5, ea5, o5⟩ : ∃ g5, a5 = some ⟨g5, 0, none⟩ ∧ StrO15.Own v2 _ g5 no c5 l := by
            rcases (unhide R2).either with ⟨_, z0, _⟩ | h
            · omega
            · exact h
          have x1 := ((unhide BW).cell (p := ⟨g6, i, none⟩) (unhide GT).gl).trans ((unhide GT).eq i ti)
          have x2 := ((unhide BW).cell (p := ⟨g5, i, none⟩) o5.lt.2).trans (o5.at i (by rw [o5.len]; exact ti))
          generalize l.getD i ByteArray.empty = zt at *
          have ixi := (unhide GT).ixi i ti
          have ixj := PureT15.ixS a5 g5 no c5 i ea5 ti (i : Int) rfl
          clear o5 ea5
          go_wp2
          go_region
          go_wp2
          go_roundw
          case rel => exact ⟨i + 1, by go_num, by omega, hide (unhide BW).drew⟩
          case measure => simp [intOf]; omega
        · have it : ¬ (i : Int) < nI := by omega
          go_wp2
          go_ret
          exact ⟨rfl, (unhide B2).trans ((unhide BW).mono (unhide B2).size)⟩
    · have q7 := hh.1
      have ct := hh.2.1
      have ix := hh.2.2
      clear hh
      go_wp2
      clear cs ixA q5 q6 q7 w1 w2
      go_loopw [20] (fun j wr => ∃ (i : Nat), j = .int .i64 i ∧ i ≤ no ∧ Hid (Below v2.heap.size v2 wr)) (fun j _ => no - (intOf j).toNat)
      case atStart => exact ⟨0, rfl, by omega, hide (Below.refl _ _)⟩
      case round =>
        obtain ⟨i, rfl, hi, BW⟩ := hrel
        by_cases ti : i < no
        · have it : (i : Int) < nI := by omega
          obtain ⟨g5, ea5, o5⟩ : ∃ g5, a5 = some ⟨g5, 0, none⟩ ∧ StrO15.Own v2 _ g5 no c5 l := by
            rcases (unhide R2).either with ⟨_, z0, _⟩ | h
            · omega
            · exact h
          have x1 := ((unhide BW).cell (p := ⟨g6, i, none⟩) (unhide GT).gl).trans ((unhide GT).eq i ti)
          have x2 := ((unhide BW).cell (p := ⟨g5, i, none⟩) o5.lt.2).trans (o5.at i (by rw [o5.len]; exact ti))
          generalize l.getD i ByteArray.empty = zt at *
          have ixi := (unhide GT).ixi i ti
          have ixj := PureT15.ixS a5 g5 no c5 i ea5 ti (i : Int) rfl
          clear o5 ea5
          go_wp2
          go_region
          go_wp2
          go_roundw
          case rel => exact ⟨i + 1, by go_num, by omega, hide (unhide BW).drew⟩
          case measure => simp [intOf]; omega
        · have it : ¬ (i : Int) < nI := by omega
          go_wp2
          go_ret
          exact ⟨rfl, (unhide B2).trans ((unhide BW).mono (unhide B2).size)⟩
  have lb2 : (cl != 0) = true := by simpa using lz
  have bbz := one_more u7 (.cells #[.int .i64 yE.room, .slice yE.a yE.ps.length yE.c] 26)
  have KZ := hide (Kr.made (unhide KE0).r 26)
  have RZ := hide ((unhide RO7).step bbz)
  have BZ := hide ((unhide B7).trans (bbz.mono (unhide B7).size))
  have l0 := (unhide KB).c0
  have l1 := (unhide KB).c1
  have lf0 := (unhide KB).free 0
  have lf1 := (unhide KB).free 1
  clear bbz
  have OKZ := OKE
  have MZ := hide (show (seg, X ++ sealT s, ByteArray.empty) ∈ yE.ps ∨ (seg, X ++ sealT s, sealT ⟨#[97, 98, 99]⟩) ∈ yE.ps from .inl (unhide ME))
  have IC := hide (fun kp u hr => ICrash14.iDiskCrash u yE kp hr zE)
  clear LT HLD APF RLz ME OKE B RO KL lz RO7
  go_wp2_with fail
  generalize u7.alloc (.cells #[.int .i64 yE.room, .slice yE.a yE.ps.length yE.c] 26) = V at *
  clear l0 l1 lf0 lf1 e0 e1 el KB KE KE0
  generalize u7.heap.size = bL at *
  have K0 : V.cell? ⟨bL, 0, none⟩ = some (.int .i64 yE.room) ∧ V.cell? ⟨bL, 1, none⟩ = some (.slice yE.a yE.ps.length yE.c) := ⟨(unhide KZ).k.c0, (unhide KZ).k.c1⟩
  refine wp_region_held_drew (S := (fun w' => w'.cell? ⟨bL, 0, none⟩ = some (.int .i64 yE.room) ∧ w'.cell? ⟨bL, 1, none⟩ = some (.slice yE.a yE.ps.length yE.c))) (by kernel_rfl) K0 (fun hHeld => ?_)
  refine wpAnyH_take (i := 0) (oi := oX0) (v := .agg #[.int .i64 yE.room, .slice yE.a yE.ps.length yE.c]) rfl (by kernel_rfl) (by kernel_rfl) (by kernel_rfl) (fun _ _ _ h => h) (Or.inl ⟨by rfl, fun w hSw => ?_⟩) hHeld ?_
  · (try dsimp only at hSw)
    unfold oX0
    go_simp
  try simp only [oX0, Act.put, List.setIfInBounds_toArray, List.set_cons_zero, List.set_cons_succ]
  refine wpAnyH_take (i := 1) (oi := oX1) (v := .slice a0 len0 cap0) rfl (by kernel_rfl) (by kernel_rfl) (by kernel_rfl) (fun _ _ _ h => h) (Or.inl ⟨by rfl, fun w hSw => ?_⟩) hHeld ?_
  · (try dsimp only at hSw)
    unfold oX1
    go_simp
  try simp only [oX1, Act.put, List.setIfInBounds_toArray, List.set_cons_zero, List.set_cons_succ]
  refine wpAnyH_take (i := 5) (oi := oX5) (v := .int .i64 seg) rfl (by kernel_rfl) (by kernel_rfl) (by kernel_rfl) (fun _ _ _ h => h) (Or.inl ⟨by rfl, fun w hSw => ?_⟩) hHeld ?_
  · (try dsimp only at hSw)
    unfold oX5
    go_simp
  try simp only [oX5, Act.put, List.setIfInBounds_toArray, List.set_cons_zero, List.set_cons_succ]
  refine wpAnyH_ready (rs := [2]) (by kernel_rfl) (by simp) ?_
  refine AllReadyH.cons (o := oX2) rfl (fun K hK => ?_) AllReadyH.nil
  unfold oX2
  go_simp
  go_wp2_with fail
  refine (Code11.atC V.drew a0 len0 cap0 1 TL (by omega) ((unhide HC).below (unhide BZ).drew)).mono ?_
  rintro e v0 ⟨xx, xx0, xx1, rfl, rfl⟩
  obtain ⟨kp, hkp⟩ : ∃ kp : Int, xx % 12 = kp := ⟨_, rfl⟩
  have tm : xx.tmod 12 = kp := by rw [Int.tmod_eq_emod_of_nonneg xx0]; exact hkp
  have wf : IntKind.i64.wrap kp = kp := by rw [IntKind.wrap_i64]; omega
  have wg : wrap64 kp = kp := by rw [wrap64]; omega
  clear hkp
  go_wp2_with fail
  refine hK.out _ _ K0 (fun hHeld => ?_)
  clear hK K
  try simp only [oX2, Act.put, List.setIfInBounds_toArray, List.set_cons_zero, List.set_cons_succ]
  refine wpAnyH_take (i := 3) (oi := oX3) (v := .int .i64 kp) rfl (by kernel_rfl) (by kernel_rfl) (by kernel_rfl) (fun _ _ _ h => h) (Or.inl ⟨by rfl, fun w hSw => ?_⟩) hHeld ?_
  · (try dsimp only at hSw)
    unfold oX3
    go_simp
  try simp only [oX3, Act.put, List.setIfInBounds_toArray, List.set_cons_zero, List.set_cons_succ]
  refine wpAnyH_ready (rs := [4]) (by kernel_rfl) (by simp) ?_
  refine AllReadyH.cons (o := oX4) rfl (fun K hK => ?_) AllReadyH.nil
  unfold oX4
  go_simp
  go_wp2_with fail
  refine ((unhide IC) kp V.drew ((unhide KZ).r.below ((Below.refl _ _).drew))).mono ?_
  rintro e v1 ⟨yC, eyC, rfl, oC, bb⟩
  have okC := OkS15.rg_crash (room := yE.room) (ps := yE.ps) kp (unhide OKZ)
  have csg := (unhide CS) kp yE (unhide OKZ) (unhide MZ)
  rw [← eyC] at okC csg
  try simp only at okC csg
  have RC := hide (oC.rd (by have := okC.2.1; omega))
  have bb1 : Below V.heap.size V v1 := ⟨bb.os, bb.tape, bb.output, bb.size, bb.block⟩
  have R1 := hide ((unhide RZ).step bb1)
  have B1 := hide ((unhide BZ).trans (bb1.mono (unhide BZ).size))
  have K1 : v1.cell? ⟨bL, 0, none⟩ = some (.int .i64 yE.room) ∧ v1.cell? ⟨bL, 1, none⟩ = some (.slice yE.a yE.ps.length yE.c) := ⟨(bb1.cell (p := ⟨bL, 0, none⟩) (unhide KZ).k.lt).trans K0.1, (bb1.cell (p := ⟨bL, 1, none⟩) (unhide KZ).k.lt).trans K0.2⟩
  have ISR := hide (fun u hr => ISeg15.iSegRead u yC seg hr (ok_small okC).2 (unhide WF))
  have CSG := hide csg
  have bl1 : bL < v1.heap.size := Nat.lt_of_lt_of_le (unhide KZ).k.lt bb1.size
  clear bb bb1 okC csg oC eyC
  generalize segD yC.room yC.ps seg = sd at *
  obtain ⟨al, an⟩ := sd
  obtain ⟨n6, hn6⟩ : ∃ n6, al.length = n6 := ⟨_, rfl⟩
  have HN6 := hide hn6
  have ISQ := hide (show ∀ u, RdD u yC → Calls Try.prog 9 #[.agg #[.int .i64 yC.room, .slice yC.a yC.ps.length yC.c], .int .i64 seg] u fun e w' => ∃ a c, e = .returned (.tuple #[.slice a n6 c, .int .i64 an]) ∧ StrO15.Ob w' u.heap.size a n6 c al ∧ Below u.heap.size u w' from fun u hr => by have := (unhide ISR) u hr; subst hn6; exact this)
  have CSL := hide (show (al = l ++ [s] ∧ n6 = no + 1) ∨ (al = l ++ [s] ++ [(⟨#[97, 98, 99]⟩ : ByteArray)] ∧ n6 = no + 2) from by
    have a1 := unhide HNO
    rcases unhide CSG with c | c
    · have c' : al = l ++ [s] := c
      exact .inl ⟨c', by rw [← hn6, c']; simp [a1]⟩
    · have c' : al = l ++ [s] ++ [(⟨#[97, 98, 99]⟩ : ByteArray)] := c
      exact .inr ⟨c', by rw [← hn6, c']; simp [a1]⟩)
  clear hn6 ISR CSG
  go_wp2_with fail
  refine hK.out _ _ K1 (fun hHeld => ?_)
  clear hK K
  try simp only [oX4, Act.put, List.setIfInBounds_toArray, List.set_cons_zero, List.set_cons_succ]
  refine wpAnyH_ready (rs := [6]) (by kernel_rfl) (by simp) ?_
  refine AllReadyH.cons (o := oX6) rfl (fun K hK => ?_) AllReadyH.nil
  unfold oX6
  go_simp
  go_wp2_with fail
  refine ((unhide ISQ) _ (unhide RC)).mono ?_
  rintro e v2 ⟨a6, c6, he, oa, bb⟩
  obtain ⟨g6, ea6, o6⟩ : ∃ g6, a6 = some ⟨g6, 0, none⟩ ∧ StrO15.Own v2 v1.heap.size g6 n6 c6 al := by
    rcases oa.either with ⟨_, z0, _⟩ | h
    · exfalso; rcases unhide CSL with c | c <;> omega
    · exact h
  rw [ea6] at he
  subst he
  clear ea6 oa
  have R2 := hide ((unhide R1).step bb)
  have B2 := hide ((unhide B1).trans (bb.mono (unhide B1).size))
  have RA := hide o6
  have K2 : v2.cell? ⟨bL, 0, none⟩ = some (.int .i64 yE.room) ∧ v2.cell? ⟨bL, 1, none⟩ = some (.slice yE.a yE.ps.length yE.c) := ⟨(bb.cell (p := ⟨bL, 0, none⟩) bl1).trans K1.1, (bb.cell (p := ⟨bL, 1, none⟩) bl1).trans K1.2⟩
  clear bb o6
  go_wp2_with fail
  refine hK.out _ _ K2 (fun hHeld => ?_)
  clear hK K
  try simp only [oX6, Act.put, List.setIfInBounds_toArray, List.set_cons_zero, List.set_cons_succ]
  refine wpAnyH_take (i := 7) (oi := oX7) (v := .tuple #[.slice (some ⟨g6, 0, none⟩) n6 c6, .int .i64 an]) rfl (by kernel_rfl) (by kernel_rfl) (by kernel_rfl) (fun _ _ _ h => h) (Or.inl ⟨by rfl, fun w hSw => ?_⟩) hHeld ?_
  · (try dsimp only at hSw)
    unfold oX7
    go_simp
  try simp only [oX7, Act.put, List.setIfInBounds_toArray, List.set_cons_zero, List.set_cons_succ]
  refine wpAnyH_take (i := 8) (oi := oX8) (v := .slice (some ⟨g6, 0, none⟩) n6 c6) rfl (by kernel_rfl) (by kernel_rfl) (by kernel_rfl) (fun _ _ _ h => h) (Or.inl ⟨by rfl, fun w hSw => ?_⟩) hHeld ?_
  · (try dsimp only at hSw)
    unfold oX8
    go_simp
  try simp only [oX8, Act.put, List.setIfInBounds_toArray, List.set_cons_zero, List.set_cons_succ]
  refine wpAnyH_take (i := 9) (oi := oX9) (v := .int .i64 an) rfl (by kernel_rfl) (by kernel_rfl) (by kernel_rfl) (fun _ _ _ h => h) (Or.inl ⟨by rfl, fun w hSw => ?_⟩) hHeld ?_
  · (try dsimp only at hSw)
    unfold oX9
    go_simp
  try simp only [oX9, Act.put, List.setIfInBounds_toArray, List.set_cons_zero, List.set_cons_succ]
  refine wpAnyH_take (i := 10) (oi := oX10) (v := .slice (some ⟨g6, 0, none⟩) n6 c6) rfl (by kernel_rfl) (by kernel_rfl) (by kernel_rfl) (fun _ _ _ h => h) (Or.inl ⟨by rfl, fun w hSw => ?_⟩) hHeld ?_
  · (try dsimp only at hSw)
    unfold oX10
    go_simp
  try simp only [oX10, Act.put, List.setIfInBounds_toArray, List.set_cons_zero, List.set_cons_succ]
  refine wpAnyH_take (i := 11) (oi := oX11) (v := .int .i64 an) rfl (by kernel_rfl) (by kernel_rfl) (by kernel_rfl) (fun _ _ _ h => h) (Or.inl ⟨by rfl, fun w hSw => ?_⟩) hHeld ?_
  · (try dsimp only at hSw)
    unfold oX11
    go_simp
  try simp only [oX11, Act.put, List.setIfInBounds_toArray, List.set_cons_zero, List.set_cons_succ]
  refine wpAnyH_done (by kernel_rfl) ?_ _
  clear K0 K1 K2 wf wg tm
  have GT := PureT15.t15 (unhide RA) (unhide HNO) (show no < 5 by omega) (unhide CSL)
  clear RA CSL HNO
  refine Exists.elim GT (fun nI GT => Exists.elim GT (fun mI GT => ?_))
  have hn := GT.1
  have hm := GT.2.1
  have GT := hide GT.2.2
  have w1 := (unhide GT).w1
  have w2 := (unhide GT).w2
  have q5 := (unhide GT).q5
  have q6 := (unhide GT).q6
  have cs := (unhide GT).cs
  have ixA := (unhide GT).ix
  refine Or.elim (unhide GT).two (fun hh => ?_) (fun hh => ?_)
  · have q7 := hh
    clear hh
    go_wp2
    clear cs ixA q5 q6 q7 w1 w2
    go_loopw [20] (fun j wr => ∃ (i : Nat), j = .int .i64 i ∧ i ≤ no ∧ Hid (Below v2.heap.size v2 wr)) (fun j _ => no - (intOf j).toNat)
    case atStart => exact ⟨0, rfl, by omega, hide (Below.refl _ _)⟩
    case round =>
      obtain ⟨i, rfl, hi, BW⟩ := hrel
      by_cases ti : i < no
      · have it : (i : Int) < nI := by omega
        obtain ⟨g5, ea5, o5⟩ : ∃ g5, a5 = some ⟨g5, 0, none⟩ ∧ StrO15.Own v2 _ g5 no c5 l := by
          rcases (unhide R2).either with ⟨_, z0, _⟩ | h
          · omega
          · exact h
        have x1 := ((unhide BW).cell (p := ⟨g6, i, none⟩) (unhide GT).gl).trans ((unhide GT).eq i ti)
        have x2 := ((unhide BW).cell (p := ⟨g5, i, none⟩) o5.lt.2).trans (o5.at i (by rw [o5.len]; exact ti))
        generalize l.getD i ByteArray.empty = zt at *
        have ixi := (unhide GT).ixi i ti
        have ixj := PureT15.ixS a5 g5 no c5 i ea5 ti (i : Int) rfl
        clear o5 ea5
        go_wp2
        go_region
        go_wp2
        go_roundw
        case rel => exact ⟨i + 1, by go_num, by omega, hide (unhide BW).drew⟩
        case measure => simp [intOf]; omega
      · have it : ¬ (i : Int) < nI := by omega
        go_wp2
        go_ret
        exact ⟨rfl, (unhide B2).trans ((unhide BW).mono (unhide B2).size)⟩
  · have q7 := hh.1
    have ct := hh.2.1
    have ix := hh.2.2
    clear hh
    go_wp2
    clear cs ixA q5 q6 q7 w1 w2
    go_loopw [20] (fun j wr => ∃ (i : Nat), j = .int .i64 i ∧ i ≤ no ∧ Hid (Below v2.heap.size v2 wr)) (fun j _ => no - (intOf j).toNat)
    case atStart => exact ⟨0, rfl, by omega, hide (Below.refl _ _)⟩
    case round =>
      obtain ⟨i, rfl, hi, BW⟩ := hrel
      by_cases ti : i < no
      · have it : (i : Int) < nI := by omega
        obtain ⟨g5, ea5, o5⟩ : ∃ g5, a5 = some ⟨g5, 0, none⟩ ∧ StrO15.Own v2 _ g5 no c5 l := by
          rcases (unhide R2).either with ⟨_, z0, _⟩ | h
          · omega
          · exact h
        have x1 := ((unhide BW).cell (p := ⟨g6, i, none⟩) (unhide GT).gl).trans ((unhide GT).eq i ti)
        have x2 := ((unhide BW).cell (p := ⟨g5, i, none⟩) o5.lt.2).trans (o5.at i (by rw [o5.len]; exact ti))
        generalize l.getD i ByteArray.empty = zt at *
        have ixi := (unhide GT).ixi i ti
        have ixj := PureT15.ixS a5 g5 no c5 i ea5 ti (i : Int) rfl
        clear o5 ea5
        go_wp2
        go_region
        go_wp2
        go_roundw
        case rel => exact ⟨i + 1, by go_num, by omega, hide (unhide BW).drew⟩
        case measure => simp [intOf]; omega
      · have it : ¬ (i : Int) < nI := by omega
        go_wp2
        go_ret
        exact ⟨rfl, (unhide B2).trans ((unhide BW).mono (unhide B2).size)⟩

set_option maxRecDepth 100000 in
theorem lifted (os : Os) (started : os.Started) (H : Type) (enc : TypeId × Value → H) :
    ReturnsInHanded {} Try.checked os 3 .any (Rows.fnSegsSpec.pre6 enc Try.prog Try.f3 Rows.fnSegsRow.domain false) (Rows.fnSegsSpec.post enc Try.prog Try.f3 false true false false) := by
  refine returnsInHanded_of_change (C := Try.checked) own started (by kernel_rfl) Try.func3
    (ChangeSpec.witness6 (enc := enc) (C := Try.checked) false ⟨#[], #[.slice none 0 0], []⟩ 8 (by kernel_rfl) (by kernel_rfl) (by kernel_rfl) (by kernel_rfl)) ?_
  intro W base args ds gs before hval0 hW hcnd _
  have hval : ∀ (j : Nat) t v, Try.f3.params[j]? = some t → args[j]? = some v → Value.okWide Try.prog W .any base t v := hval0
  have hW' := hW
  obtain ⟨p, q, hA0, hV, rfl, hfz, hnd⟩ := hW
  have hA : DataW.TrodAll enc Try.prog W 0 (fun _ => true) true Try.f3.params.toList args.toList ds p := hA0
  rw [Try.params3] at hA hval
  obtain ⟨v0, vs0, d0, ds0, p0, q0, hargs, rfl, rfl, h0, r0⟩ := trodAll_cons hA
  obtain ⟨rfl, rfl, rfl⟩ := trodAll_nil r0
  obtain rfl : args = #[v0] := by cases args; simp_all
  obtain ⟨rfl, rfl⟩ := trodVars_none hV
  obtain ⟨a0, len0, cap0, rfl⟩ := okWide_slice Try.underlying22 (hval 0 22 v0 rfl rfl)
  have k0 := h0
  have lt0 : ∀ x ∈ p0, x.block < W.heap.size := by obtain ⟨m, hm⟩ := k0; exact DataW.trod_lt m _ _ _ hm
  obtain ⟨z0, w0⟩ : ∃ zs, Ints.IsRow .u8 W a0 len0 cap0 zs := by
    obtain ⟨fuel, hf⟩ := h0
    rcases open_ints Try.underlying22 Try.underlying5 (by kernel_rfl) hf with ⟨hcs, _⟩ | ⟨x, l, c, zs, hcs, _, hl, hm, hz, _, hcell, hwz⟩
    · simp [Value.cells] at hcs
      obtain ⟨rfl, rfl, rfl⟩ := hcs
      exact ⟨[], .inl ⟨rfl, rfl, rfl, rfl⟩⟩
    · simp [Value.cells] at hcs
      obtain ⟨rfl, rfl, rfl⟩ := hcs
      exact ⟨zs, .inr ⟨_, rfl, hl, hm, by simpa using hz, hcell, hwz⟩⟩
  clear hA0 hval0
  refine (walk a0 len0 cap0 z0 W w0).mono fun e W' ⟨he, bel⟩ => ?_
  subst he
  exact ⟨_, rfl, _, _, _, [], _, [], hW', trodAll_mk1 (shut_bool Try.underlying4 _), (trodAll_cons_mk (Below.trod laidOut (by kernel_rfl) (of_decide_eq_true (by kernel_rfl)) k0 bel lt0) trodAll_mk0), rfl, bel.frame _, fun h => by cases h⟩

theorem over : Rows.fnSegsRow.holds Try.pinned (OpenSpec.ofChange Rows.fnSegsSpec) :=
  OpenClaim.holds_of_wide 3 Try.f3 rfl rfl rfl rfl rfl rfl rfl ⟨rfl, rfl, rfl, rfl, rfl⟩ rfl rfl rfl rfl rfl (by kernel_rfl) Try.func3 (by kernel_rfl)
    (of_decide_eq_true (by kernel_rfl)) (by unfold Func.isWrapper; first | (rw [if_pos (by decide +kernel)]; kernel_rfl) | (rw [if_neg (by decide +kernel)]; exact ⟨rfl, rfl⟩))
    (fun os started H enc _ => lifted os started H enc)

/-- The statement. -/
theorem proved : Rows.FnSegsSaid := over
#print axioms proved
end Go.Proofs.Ytcajdiopgaoicaa.fnSegs
