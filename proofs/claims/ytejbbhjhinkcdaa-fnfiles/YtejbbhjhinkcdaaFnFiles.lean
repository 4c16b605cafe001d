/- For every row of bytes the law of files returns true: what is appended to a file of a drawn disk stands behind what it had; cut there again it is what it was; moved it has the other name; dropped it is gone. No condition. -/
import Derived.Test.YtejbbhjhinkcdaaRows
import Derived.Test.YtejbbhjhinkcdaaByteH
import Derived.Test.YtejbbhjhinkcdaaVOB
import Derived.Test.YtejbbhjhinkcdaaInts
import Derived.Test.YtejbbhjhinkcdaaSBytes
import Derived.Test.YtejbbhjhinkcdaaLaw11
import Derived.Test.YtejbbhjhinkcdaaFil14
import Derived.Test.YtejbbhjhinkcdaaDiskH14
import Derived.Test.YtejbbhjhinkcdaaHelpF14
import Derived.Test.YtejbbhjhinkcdaaMarkF14
import Derived.Test.YtejbbhjhinkcdaaMarkFS14
import Derived.Test.YtejbbhjhinkcdaaDkH14
import Derived.Test.YtejbbhjhinkcdaaSDk14
import Derived.Test.YtejbbhjhinkcdaaSOk14
import Derived.Test.YtejbbhjhinkcdaaSRd14
import Derived.Test.YtejbbhjhinkcdaaApp14
import Derived.Test.YtejbbhjhinkcdaaSLess14
import Derived.Test.YtejbbhjhinkcdaaSCopy14
import Derived.Test.YtejbbhjhinkcdaaSRef14
import Derived.Test.YtejbbhjhinkcdaaSCom14
import Derived.Test.YtejbbhjhinkcdaaLaw14
import Derived.Test.YtejbbhjhinkcdaaPairs
import Derived.Test.YtejbbhjhinkcdaaDraw
import Derived.Test.YtejbbhjhinkcdaaSPut11
import Derived.Test.YtejbbhjhinkcdaaDraw11
import Derived.Test.YtejbbhjhinkcdaaDrawS11
import Derived.Test.YtejbbhjhinkcdaaDrawT14
import Derived.Test.YtejbbhjhinkcdaaSPut14
import Derived.Test.YtejbbhjhinkcdaaPure14
import Derived.Test.YtejbbhjhinkcdaaSAppend14
import Derived.Test.YtejbbhjhinkcdaaSSync14
import Derived.Test.YtejbbhjhinkcdaaSMove14
import Derived.Test.YtejbbhjhinkcdaaSCut14
import Derived.Test.YtejbbhjhinkcdaaSDrop14
import Derived.Test.YtejbbhjhinkcdaaOk14
import Derived.Test.YtejbbhjhinkcdaaOkk14
import Derived.Test.YtejbbhjhinkcdaaDrawR14
import Derived.Test.YtejbbhjhinkcdaaDrawD14
import Derived.Test.YtejbbhjhinkcdaaDrawC14
import Derived.Test.YtejbbhjhinkcdaaDrawA14
import Derived.Test.YtejbbhjhinkcdaaPureD14
import Derived.Test.YtejbbhjhinkcdaaIFile14
import Derived.Test.YtejbbhjhinkcdaaIOk14
import Derived.Test.YtejbbhjhinkcdaaTabF14
import Derived.Test.YtejbbhjhinkcdaaITb14
import Derived.Test.YtejbbhjhinkcdaaICp14
import Derived.Test.YtejbbhjhinkcdaaIDk14
import Derived.Test.YtejbbhjhinkcdaaPTab14
import Derived.Test.YtejbbhjhinkcdaaICom14
import Derived.Test.YtejbbhjhinkcdaaISz14
import Derived.Test.YtejbbhjhinkcdaaIAppend14
import Derived.Test.YtejbbhjhinkcdaaIRd14
import Derived.Test.YtejbbhjhinkcdaaICut14
import Derived.Test.YtejbbhjhinkcdaaIMove14
import Derived.Test.YtejbbhjhinkcdaaIDrop14
import Derived.ShutString
import Derived.ChangeOld
import Derived.Below
namespace Go.Proofs.Ytejbbhjhinkcdaa.fnFiles
open Go.ChangeShapes Go.WideShapes Go.ChangeAt Go.RowKit
open Go.ChangeMaps (open_string shut_string)
set_option linter.unusedVariables false
set_option linter.unusedSimpArgs false

theorem own : ownKnob Try.prog.godebug = none := by kernel_rfl
theorem laidOut : laidOutB Try.prog = true := by kernel_rfl

open Fil14 (TF elF)
open DiskH14 (sumZ one_more)
open SOk14 (OkD okN)
open SRd14 (readD atD)
open SCom14 (ToldD)
open SAppend14 (appF appendD)
open PureD14 Pure14 Ok14
open DrawT14 (hide unhide)
open DkH14 (Dx RdD OwD)
open Law14 (Kd)
open Draw (CodeAt)

/-- A disk in a box, its files there. -/
structure Kr (W : World) (g : Nat) (x : Dx) : Prop where
  k : Kd W g x
  r : RdD W x
theorem Kr.step {W W' : World} {g : Nat} {x : Dx} (h : Kr W g x) (b : Below W.heap.size W W') : Kr W' g x := ⟨h.k.step b, h.r.below b⟩
theorem Kr.made {u : World} {x : Dx} (h : RdD u x) (e : TypeId) : Kr (u.alloc (.cells #[.int .i64 x.room, .slice x.a x.ps.length x.c] e)) u.heap.size x := ⟨Kd.made u x e, h.below (one_more u _)⟩
theorem code_at {w : World} {a : Option Addr} {len cap : Nat} {zs : List Int} (h : Ints.IsRow .u8 w a len cap zs) : CodeAt w a len := by
  obtain ⟨hl, hr, hi, _⟩ := Law11.row_bytes h
  rcases hr with h0 | ⟨b, off, rfl, hb, hc⟩
  · exact .inl (by omega)
  · exact .inr ⟨b, off, zs.take len, rfl, hb, fun i hi' => ⟨hc i (by omega), hi i (by omega)⟩⟩
theorem ok_small {room : Int} {ps : List TF} (h : OkD room ps) : ps.length ≤ 22 ∧ sumZ ps ≤ 1048576 := ⟨h.2.1, by have := h.1; have := h.2.2.1; omega⟩
theorem two {a c : Int} {b d : List TF} (h : (a, b) = (c, d)) : a = c ∧ b = d := Prod.mk.inj h
/-- What the two appends tell. -/
theorem append_bad {room : Int} {ps : List TF} {nm : Int} {s : ByteArray} (h : ¬(OkD room ps ∧ okN nm = true)) : appendD room ps nm s = ((0, []), 1) := by
  unfold appendD
  rw [if_neg h]
theorem append_full {room : Int} {ps : List TF} {nm : Int} {s : ByteArray} (h : OkD room ps ∧ okN nm = true) (q : room - sumZ ps < s.size) : appendD room ps nm s = ((room, ps), 3) := by
  unfold appendD
  rw [if_pos h, if_pos q]
theorem append_done {room : Int} {ps : List TF} {nm : Int} {s : ByteArray} (h : OkD room ps ∧ okN nm = true) (q : ¬ room - sumZ ps < s.size) : appendD room ps nm s = ((room, SPut14.putF ps (appF ps nm s)), 0) := by
  unfold appendD
  rw [if_pos h, if_neg q]


set_option maxRecDepth 100000 in
set_option maxHeartbeats 8000000 in
theorem walk (a0 : Option Addr) (len0 cap0 : Nat) (z0 : List Int) (w : World) (w0 : Ints.IsRow .u8 w a0 len0 cap0 z0) :
    Calls Try.prog 4 #[.slice a0 len0 cap0] w fun e w' => e = .returned (.bool true) ∧ Below w.heap.size w w' := by
  have hc := code_at w0
  clear w0
  by_cases tl : (len0 : Int) ≤ 1048576
  case neg =>
    have HC := hide hc
    clear hc
    go_enter Try.func4, Try.ntmps4
    go_wp2
    go_ret
    exact ⟨rfl, Below.refl _ _⟩
  have HC := hide hc
  have TL : len0 ≤ 1048576 := by omega
  clear hc
  go_enter Try.func4, Try.ntmps4
  go_wp2_with (first | (go_at_call 5; go_in) | fail)
  refine (DrawA14.drawAppend _ a0 len0 cap0 TL (unhide HC)).mono ?_
  rintro e u1 ⟨yD, nm, s, sm, ⟨n0, n1⟩, sz, rfl, oD, b1⟩
  have B := hide b1
  clear b1 HC
  have RD := hide (oD.rd (by have := sm.1; omega))
  clear oD
  have bb := DiskH14.one_more u1 (.cells #[.int .i64 yD.room, .slice yD.a yD.ps.length yD.c] 26)
  have KD := hide (Kr.made (unhide RD) 26)
  clear RD
  replace B := hide ((unhide B).trans (bb.mono (unhide B).size))
  clear bb
  have zD : sumZ yD.ps ≤ 1048576 := by have := sm.2; omega
  have IA := hide (fun u hr => IAppend14.iDiskAppend u yD nm s hr zD (by omega))
  have SA := hide (fun u hr => SAppend14.sDiskAppend u yD nm s hr zD (by omega))
  by_cases ok : OkD yD.room yD.ps ∧ okN nm = true
  case neg =>
    rw [append_bad ok] at IA SA
    have pD0 := (unhide KD).k.c0
    have pD1 := (unhide KD).k.c1
    go_wp2_with fail
    refine ((unhide IA) _ (unhide KD).r).mono ?_
    rintro e u2 ⟨yE, eyE, rfl, oyE, bb⟩
    clear pD0 pD1
    replace B := hide ((unhide B).trans (bb.mono (unhide B).size))
    replace KD := hide ((unhide KD).step bb)
    clear bb
    clear IA
    have nE := hide (show yE.ps.length = 0 by rw [(two eyE).2]; rfl)
    have lE : yE.ps.length ≤ 1048576 := by have := unhide nE; omega
    clear eyE
    have RE := hide (oyE.rd lE)
    clear oyE
    have bb := DiskH14.one_more u2 (.cells #[.int .i64 yE.room, .slice yE.a yE.ps.length yE.c] 26)
    have KE := hide (Kr.made (unhide RE) 26)
    clear RE
    replace B := hide ((unhide B).trans (bb.mono (unhide B).size))
    replace KD := hide ((unhide KD).step bb)
    clear bb
    have pD0 := (unhide KD).k.c0
    have pD1 := (unhide KD).k.c1
    go_wp2_with fail
    refine ((unhide SA) _ (unhide KD).r).mono ?_
    rintro e u3 ⟨yF, eyF, rfl, oyF, bb⟩
    clear pD0 pD1
    replace B := hide ((unhide B).trans (bb.mono (unhide B).size))
    replace KD := hide ((unhide KD).step bb)
    replace KE := hide ((unhide KE).step bb)
    clear bb
    clear SA
    have nF := hide (show yF.ps.length = 0 by rw [(two eyF).2]; rfl)
    have lF : yF.ps.length ≤ 1048576 := by have := unhide nF; omega
    clear eyF
    have RF := hide (oyF.rd lF)
    clear oyF
    have bb := DiskH14.one_more u3 (.cells #[.int .i64 yF.room, .slice yF.a yF.ps.length yF.c] 26)
    have KF := hide (Kr.made (unhide RF) 26)
    clear RF
    replace B := hide ((unhide B).trans (bb.mono (unhide B).size))
    replace KD := hide ((unhide KD).step bb)
    replace KE := hide ((unhide KE).step bb)
    clear bb
    have pE0 := (unhide KE).k.c0
    have pE1 := (unhide KE).k.c1
    have pD0 := (unhide KD).k.c0
    have pD1 := (unhide KD).k.c1
    rw [unhide nE] at pE1
    go_wp2
    go_ret
    exact ⟨rfl, unhide B⟩
  have okD := ok.1
  have hn := ok.2
  by_cases fu : yD.room - sumZ yD.ps < s.size
  case pos =>
    rw [append_full ok fu] at IA SA
    have pD0 := (unhide KD).k.c0
    have pD1 := (unhide KD).k.c1
    go_wp2_with fail
    refine ((unhide IA) _ (unhide KD).r).mono ?_
    rintro e u2 ⟨yE, eyE, rfl, oyE, bb⟩
    clear pD0 pD1
    replace B := hide ((unhide B).trans (bb.mono (unhide B).size))
    replace KD := hide ((unhide KD).step bb)
    clear bb
    clear IA
    have nE := hide (show yE.ps.length = yD.ps.length by rw [(two eyE).2])
    have lE : yE.ps.length ≤ 1048576 := by have := sm.1; have := unhide nE; omega
    clear eyE
    have RE := hide (oyE.rd lE)
    clear oyE
    have bb := DiskH14.one_more u2 (.cells #[.int .i64 yE.room, .slice yE.a yE.ps.length yE.c] 26)
    have KE := hide (Kr.made (unhide RE) 26)
    clear RE
    replace B := hide ((unhide B).trans (bb.mono (unhide B).size))
    replace KD := hide ((unhide KD).step bb)
    clear bb
    have pD0 := (unhide KD).k.c0
    have pD1 := (unhide KD).k.c1
    go_wp2_with fail
    refine ((unhide SA) _ (unhide KD).r).mono ?_
    rintro e u3 ⟨yF, eyF, rfl, oyF, bb⟩
    clear pD0 pD1
    replace B := hide ((unhide B).trans (bb.mono (unhide B).size))
    replace KD := hide ((unhide KD).step bb)
    replace KE := hide ((unhide KE).step bb)
    clear bb
    clear SA
    have nF := hide (show yF.ps.length = yD.ps.length by rw [(two eyF).2])
    have lF : yF.ps.length ≤ 1048576 := by have := sm.1; have := unhide nF; omega
    clear eyF
    have RF := hide (oyF.rd lF)
    clear oyF
    have bb := DiskH14.one_more u3 (.cells #[.int .i64 yF.room, .slice yF.a yF.ps.length yF.c] 26)
    have KF := hide (Kr.made (unhide RF) 26)
    clear RF
    replace B := hide ((unhide B).trans (bb.mono (unhide B).size))
    replace KD := hide ((unhide KD).step bb)
    replace KE := hide ((unhide KE).step bb)
    clear bb
    have pE0 := (unhide KE).k.c0
    have pE1 := (unhide KE).k.c1
    have pD0 := (unhide KD).k.c0
    have pD1 := (unhide KD).k.c1
    rw [unhide nE] at pE1
    go_wp2
    go_ret
    exact ⟨rfl, unhide B⟩
  rw [append_done ok fu] at IA SA
  have hs : (s.size : Int) ≤ yD.room - sumZ yD.ps := by omega
  have ok1 := ok_append okD hn hs
  obtain ⟨rd1, mem1⟩ := append_read okD hn hs
  have SR := hide (fun u hr => SRd14.sDiskRead u yD nm hr zD)
  generalize (readD yD.room yD.ps nm).1 = old at *
  generalize (readD yD.room yD.ps nm).2 = oldb at *
  have pD0 := (unhide KD).k.c0
  have pD1 := (unhide KD).k.c1
  go_wp2_with fail
  refine ((unhide IA) _ (unhide KD).r).mono ?_
  rintro e u2 ⟨yE, eyE, rfl, oyE, bb⟩
  clear pD0 pD1
  replace B := hide ((unhide B).trans (bb.mono (unhide B).size))
  replace KD := hide ((unhide KD).step bb)
  clear bb
  clear IA
  have xE : OkD yE.room yE.ps ∧ readD yE.room yE.ps nm = (old ++ s, true) ∧ ∃ f ∈ yE.ps, f.1 = nm := by
    obtain ⟨e1, e2⟩ := two eyE
    rw [e1, e2]
    exact ⟨ok1, rd1, _, mem1, app_name⟩
  have lE : yE.ps.length ≤ 1048576 := by have := (ok_small xE.1).1; omega
  clear eyE
  have RE := hide (oyE.rd lE)
  clear oyE
  have bb := DiskH14.one_more u2 (.cells #[.int .i64 yE.room, .slice yE.a yE.ps.length yE.c] 26)
  have KE := hide (Kr.made (unhide RE) 26)
  clear RE
  replace B := hide ((unhide B).trans (bb.mono (unhide B).size))
  replace KD := hide ((unhide KD).step bb)
  clear bb
  have pD0 := (unhide KD).k.c0
  have pD1 := (unhide KD).k.c1
  go_wp2_with fail
  refine ((unhide SA) _ (unhide KD).r).mono ?_
  rintro e u3 ⟨yF, eyF, rfl, oyF, bb⟩
  clear pD0 pD1
  replace B := hide ((unhide B).trans (bb.mono (unhide B).size))
  replace KD := hide ((unhide KD).step bb)
  replace KE := hide ((unhide KE).step bb)
  clear bb
  clear SA
  have xF : OkD yF.room yF.ps ∧ readD yF.room yF.ps nm = (old ++ s, true) ∧ ∃ f ∈ yF.ps, f.1 = nm := by
    obtain ⟨e1, e2⟩ := two eyF
    rw [e1, e2]
    exact ⟨ok1, rd1, _, mem1, app_name⟩
  have lF : yF.ps.length ≤ 1048576 := by have := (ok_small xF.1).1; omega
  clear eyF
  have RF := hide (oyF.rd lF)
  clear oyF
  have bb := DiskH14.one_more u3 (.cells #[.int .i64 yF.room, .slice yF.a yF.ps.length yF.c] 26)
  have KF := hide (Kr.made (unhide RF) 26)
  clear RF
  replace B := hide ((unhide B).trans (bb.mono (unhide B).size))
  replace KD := hide ((unhide KD).step bb)
  replace KE := hide ((unhide KE).step bb)
  clear bb
  clear xF lF lE ok1 rd1 mem1 ok okD fu hs
  obtain ⟨okE, rdE, f, hf, fn⟩ := xE
  have WNM := hide (show TabF14.Wf nm from fn ▸ TabF14.wf_low ((asc_of okE).2 f hf))
  obtain ⟨nw, hnw⟩ : ∃ nw, old ++ s = nw := ⟨_, rfl⟩
  have hb : f.2.1 ++ f.2.2 = old ++ s := by have := read_is okE hf; rw [fn, rdE] at this; exact (Prod.ext_iff.1 this).1.symm
  rw [hnw] at rdE
  have zE := (ok_small okE).2
  have cs : old.size + s.size ≤ 9223372036854775807 := by
    obtain ⟨k, _, l, hk⟩ := at_yes okE hf
    have h1 := sum_rest (asc_of okE).1 l
    rw [hk] at h1
    have h2 := congrArg ByteArray.size hb
    rw [ByteArray.size_append, ByteArray.size_append] at h2
    omega
  have IR := hide (show ∀ u, RdD u yE → Calls Try.prog 9 #[.agg #[.int .i64 yE.room, .slice yE.a yE.ps.length yE.c], .int .i64 nm] u fun e w' => e = .returned (.tuple #[.string nw, .bool true]) ∧ Below u.heap.size u w' from fun u hr => by have := IRd14.iDiskRead u yE nm hr zE (unhide WNM); rwa [rdE] at this)
  obtain ⟨qs, ec, okC, rdC⟩ := cut_read okE hf hb
  rw [fn] at ec rdC
  have IC := hide (show ∀ u, RdD u yE → Calls Try.prog 16 #[.agg #[.int .i64 yE.room, .slice yE.a yE.ps.length yE.c], .int .i64 nm, .int .i64 old.size] u (ToldD ((yE.room, qs), 0) u) from fun u hr => by have := ICut14.iDiskCut u yE nm old.size hr zE; rwa [ec] at this)
  have HB := hide hb
  clear hb ec
  have pD0 := (unhide KD).k.c0
  have pD1 := (unhide KD).k.c1
  go_wp2_with fail
  refine ((unhide SR) _ (unhide KD).r).mono ?_
  rintro e u4 ⟨rfl, bb⟩
  clear pD0 pD1
  replace B := hide ((unhide B).trans (bb.mono (unhide B).size))
  replace KD := hide ((unhide KD).step bb)
  replace KE := hide ((unhide KE).step bb)
  replace KF := hide ((unhide KF).step bb)
  clear bb
  clear SR
  have pE0 := (unhide KE).k.c0
  have pE1 := (unhide KE).k.c1
  go_wp2_with fail
  refine ((unhide IR) _ (unhide KE).r).mono ?_
  rintro e u5 ⟨rfl, bb⟩
  clear pE0 pE1
  replace B := hide ((unhide B).trans (bb.mono (unhide B).size))
  replace KD := hide ((unhide KD).step bb)
  replace KE := hide ((unhide KE).step bb)
  replace KF := hide ((unhide KF).step bb)
  clear bb
  clear IR
  have pE0 := (unhide KE).k.c0
  have pE1 := (unhide KE).k.c1
  go_wp2_with fail
  refine ((unhide IC) _ (unhide KE).r).mono ?_
  rintro e u6 ⟨yC, eyC, rfl, oyC, bb⟩
  clear pE0 pE1
  replace B := hide ((unhide B).trans (bb.mono (unhide B).size))
  replace KD := hide ((unhide KD).step bb)
  replace KE := hide ((unhide KE).step bb)
  replace KF := hide ((unhide KF).step bb)
  clear bb
  clear IC
  have IQ := hide (show ∀ u, RdD u yC → Calls Try.prog 9 #[.agg #[.int .i64 yC.room, .slice yC.a yC.ps.length yC.c], .int .i64 nm] u fun e w' => e = .returned (.tuple #[.string old, .bool true]) ∧ Below u.heap.size u w' from fun u hr => by
    obtain ⟨e1, e2⟩ := two eyC
    have := IRd14.iDiskRead u yC nm hr (by rw [e2]; exact (ok_small okC).2) (unhide WNM)
    rw [e1, e2, rdC] at this
    rw [e1, e2]
    exact this)
  have lC : yC.ps.length ≤ 1048576 := by rw [(two eyC).2]; have := (ok_small okC).1; show qs.length ≤ _; omega
  clear eyC okC rdC
  have RC := hide (oyC.rd lC)
  clear oyC
  have bb := DiskH14.one_more u6 (.cells #[.int .i64 yC.room, .slice yC.a yC.ps.length yC.c] 26)
  have KC := hide (Kr.made (unhide RC) 26)
  clear RC
  replace B := hide ((unhide B).trans (bb.mono (unhide B).size))
  replace KD := hide ((unhide KD).step bb)
  replace KE := hide ((unhide KE).step bb)
  replace KF := hide ((unhide KF).step bb)
  clear bb
  have pC0 := (unhide KC).k.c0
  have pC1 := (unhide KC).k.c1
  go_wp2_with fail
  refine ((unhide IQ) _ (unhide KC).r).mono ?_
  rintro e u7 ⟨rfl, bb⟩
  clear pC0 pC1
  replace B := hide ((unhide B).trans (bb.mono (unhide B).size))
  replace KD := hide ((unhide KD).step bb)
  replace KE := hide ((unhide KE).step bb)
  replace KF := hide ((unhide KF).step bb)
  replace KC := hide ((unhide KC).step bb)
  clear bb
  clear IQ
  obtain ⟨tt, hto⟩ : ∃ tt : Int, (nm + 1).tmod 22 = tt := ⟨_, rfl⟩
  have nn := ok_named.1 hn
  have tn : okN tt = true ∧ f.1 ≠ tt := by
    rw [Int.tmod_eq_emod_of_nonneg (by omega)] at hto
    exact ⟨ok_named.2 (by omega), by rw [fn]; omega⟩
  have wr1 : IntKind.i64.wrap (nm + 1) = nm + 1 := by rw [IntKind.wrap_i64]; omega
  have wr1' : wrap64 (nm + 1) = nm + 1 := by rw [wrap64]; omega
  have tb := ok_named.1 tn.1
  have wr2 : IntKind.i64.wrap tt = tt := by rw [IntKind.wrap_i64]; omega
  have wr2' : wrap64 tt = tt := by rw [wrap64]; omega
  obtain ⟨ms, em, okM, memM, rdM, rdN⟩ := move_read okE hf tn.1 tn.2
  rw [fn] at em rdN
  rw [unhide HB, hnw] at rdM
  have IM := hide (show ∀ u, RdD u yE → Calls Try.prog 17 #[.agg #[.int .i64 yE.room, .slice yE.a yE.ps.length yE.c], .int .i64 nm, .int .i64 tt] u (ToldD ((yE.room, ms), 0) u) from fun u hr => by have := IMove14.iDiskMove u yE nm tt hr zE; rwa [em] at this)
  clear em
  have pE0 := (unhide KE).k.c0
  have pE1 := (unhide KE).k.c1
  go_wp2_with fail
  refine ((unhide IM) _ (unhide KE).r).mono ?_
  rintro e u8 ⟨yM, eyM, rfl, oyM, bb⟩
  clear pE0 pE1
  replace B := hide ((unhide B).trans (bb.mono (unhide B).size))
  replace KD := hide ((unhide KD).step bb)
  replace KE := hide ((unhide KE).step bb)
  replace KF := hide ((unhide KF).step bb)
  replace KC := hide ((unhide KC).step bb)
  clear bb
  clear IM
  have xM : OkD yM.room yM.ps ∧ (tt, f.2.1, f.2.2) ∈ yM.ps ∧ readD yM.room yM.ps tt = (nw, true) ∧ readD yM.room yM.ps nm = (ByteArray.empty, false) := by
    obtain ⟨e1, e2⟩ := two eyM
    rw [e1, e2]
    exact ⟨okM, memM, rdM, rdN⟩
  have lM : yM.ps.length ≤ 1048576 := by have := (ok_small xM.1).1; omega
  clear eyM okM memM rdM rdN
  have RM := hide (oyM.rd lM)
  clear oyM
  have bb := DiskH14.one_more u8 (.cells #[.int .i64 yM.room, .slice yM.a yM.ps.length yM.c] 26)
  have KM := hide (Kr.made (unhide RM) 26)
  clear RM
  replace B := hide ((unhide B).trans (bb.mono (unhide B).size))
  replace KD := hide ((unhide KD).step bb)
  replace KE := hide ((unhide KE).step bb)
  replace KF := hide ((unhide KF).step bb)
  replace KC := hide ((unhide KC).step bb)
  clear bb
  obtain ⟨okM, memM, rdM, rdN⟩ := xM
  have WT := hide (TabF14.wf_low ((asc_of okM).2 _ memM))
  have zM := (ok_small okM).2
  have J1 := hide (show ∀ u, RdD u yM → Calls Try.prog 9 #[.agg #[.int .i64 yM.room, .slice yM.a yM.ps.length yM.c], .int .i64 tt] u fun e w' => e = .returned (.tuple #[.string nw, .bool true]) ∧ Below u.heap.size u w' from fun u hr => by have := IRd14.iDiskRead u yM tt hr zM (unhide WT); rwa [rdM] at this)
  have J2 := hide (show ∀ u, RdD u yM → Calls Try.prog 9 #[.agg #[.int .i64 yM.room, .slice yM.a yM.ps.length yM.c], .int .i64 nm] u fun e w' => e = .returned (.tuple #[.string ByteArray.empty, .bool false]) ∧ Below u.heap.size u w' from fun u hr => by have := IRd14.iDiskRead u yM nm hr zM (unhide WNM); rwa [rdN] at this)
  obtain ⟨xs, ed, okX, lX, rdX⟩ := drop_read okM memM
  simp only at ed rdX
  have J3 := hide (show ∀ u, RdD u yM → Calls Try.prog 18 #[.agg #[.int .i64 yM.room, .slice yM.a yM.ps.length yM.c], .int .i64 tt] u (ToldD ((yM.room, xs), 0) u) from fun u hr => by have := IDrop14.iDiskDrop u yM tt hr zM; rwa [ed] at this)
  have mpos : 1 ≤ yM.ps.length := List.length_pos_of_mem memM
  have J5 := hide (show ∀ u, RdD u yM → Calls Try.prog 11 #[.agg #[.int .i64 yM.room, .slice yM.a yM.ps.length yM.c]] u fun e w' => e = .returned (.bool true) ∧ Below u.heap.size u w' from fun u hr => by have := IOk14.iDiskOk u yM hr zM; rwa [decide_eq_true okM] at this)
  have l22 := (ok_small okM).1
  clear ed okM memM rdM rdN
  have pM0 := (unhide KM).k.c0
  have pM1 := (unhide KM).k.c1
  go_wp2_with fail
  refine ((unhide J1) _ (unhide KM).r).mono ?_
  rintro e u9 ⟨rfl, bb⟩
  clear pM0 pM1
  replace B := hide ((unhide B).trans (bb.mono (unhide B).size))
  replace KD := hide ((unhide KD).step bb)
  replace KE := hide ((unhide KE).step bb)
  replace KF := hide ((unhide KF).step bb)
  replace KC := hide ((unhide KC).step bb)
  replace KM := hide ((unhide KM).step bb)
  clear bb
  clear J1
  have pM0 := (unhide KM).k.c0
  have pM1 := (unhide KM).k.c1
  go_wp2_with fail
  refine ((unhide J2) _ (unhide KM).r).mono ?_
  rintro e u10 ⟨rfl, bb⟩
  clear pM0 pM1
  replace B := hide ((unhide B).trans (bb.mono (unhide B).size))
  replace KD := hide ((unhide KD).step bb)
  replace KE := hide ((unhide KE).step bb)
  replace KF := hide ((unhide KF).step bb)
  replace KC := hide ((unhide KC).step bb)
  replace KM := hide ((unhide KM).step bb)
  clear bb
  clear J2
  have pM0 := (unhide KM).k.c0
  have pM1 := (unhide KM).k.c1
  go_wp2_with fail
  refine ((unhide J3) _ (unhide KM).r).mono ?_
  rintro e u11 ⟨yX, eyX, rfl, oyX, bb⟩
  clear pM0 pM1
  replace B := hide ((unhide B).trans (bb.mono (unhide B).size))
  replace KD := hide ((unhide KD).step bb)
  replace KE := hide ((unhide KE).step bb)
  replace KF := hide ((unhide KF).step bb)
  replace KC := hide ((unhide KC).step bb)
  replace KM := hide ((unhide KM).step bb)
  clear bb
  clear J3
  have J4 := hide (show ∀ u, RdD u yX → Calls Try.prog 9 #[.agg #[.int .i64 yX.room, .slice yX.a yX.ps.length yX.c], .int .i64 tt] u fun e w' => e = .returned (.tuple #[.string ByteArray.empty, .bool false]) ∧ Below u.heap.size u w' from fun u hr => by
    obtain ⟨e1, e2⟩ := two eyX
    have := IRd14.iDiskRead u yX tt hr (by rw [e2]; exact (ok_small okX).2) (unhide WT)
    rw [e1, e2, rdX] at this
    rw [e1, e2]
    exact this)
  have nX := hide (show yX.ps.length = yM.ps.length - 1 by rw [(two eyX).2]; exact lX)
  clear lX
  have lX : yX.ps.length ≤ 1048576 := by have := unhide nX; omega
  clear eyX okX rdX
  have RX := hide (oyX.rd lX)
  clear oyX
  have bb := DiskH14.one_more u11 (.cells #[.int .i64 yX.room, .slice yX.a yX.ps.length yX.c] 26)
  have KX := hide (Kr.made (unhide RX) 26)
  clear RX
  replace B := hide ((unhide B).trans (bb.mono (unhide B).size))
  replace KD := hide ((unhide KD).step bb)
  replace KE := hide ((unhide KE).step bb)
  replace KF := hide ((unhide KF).step bb)
  replace KC := hide ((unhide KC).step bb)
  replace KM := hide ((unhide KM).step bb)
  clear bb
  have pX0 := (unhide KX).k.c0
  have pX1 := (unhide KX).k.c1
  go_wp2_with fail
  refine ((unhide J4) _ (unhide KX).r).mono ?_
  rintro e u12 ⟨rfl, bb⟩
  clear pX0 pX1
  replace B := hide ((unhide B).trans (bb.mono (unhide B).size))
  replace KD := hide ((unhide KD).step bb)
  replace KE := hide ((unhide KE).step bb)
  replace KF := hide ((unhide KF).step bb)
  replace KC := hide ((unhide KC).step bb)
  replace KM := hide ((unhide KM).step bb)
  replace KX := hide ((unhide KX).step bb)
  clear bb
  clear J4
  have wr3 : IntKind.i64.wrap ((yM.ps.length : Int) - 1) = (yX.ps.length : Int) := by have := unhide nX; rw [IntKind.wrap_i64]; omega
  have wr3' : wrap64 ((yM.ps.length : Int) - 1) = (yX.ps.length : Int) := by have := unhide nX; rw [wrap64]; omega
  clear nX
  have pM0 := (unhide KM).k.c0
  have pM1 := (unhide KM).k.c1
  have pX0 := (unhide KX).k.c0
  have pX1 := (unhide KX).k.c1
  go_wp2_with fail
  refine ((unhide J5) _ (unhide KM).r).mono ?_
  rintro e u13 ⟨rfl, bb⟩
  clear pM0 pM1 pX0 pX1
  replace B := hide ((unhide B).trans (bb.mono (unhide B).size))
  replace KD := hide ((unhide KD).step bb)
  replace KE := hide ((unhide KE).step bb)
  replace KF := hide ((unhide KF).step bb)
  replace KC := hide ((unhide KC).step bb)
  replace KM := hide ((unhide KM).step bb)
  replace KX := hide ((unhide KX).step bb)
  clear bb
  have pM0 := (unhide KM).k.c0
  have pM1 := (unhide KM).k.c1
  have pX0 := (unhide KX).k.c0
  have pX1 := (unhide KX).k.c1
  go_wp2
  go_ret
  exact ⟨rfl, unhide B⟩

set_option maxRecDepth 100000 in
theorem lifted (os : Os) (started : os.Started) (H : Type) (enc : TypeId × Value → H) :
    ReturnsInHanded {} Try.checked os 4 .any (Rows.fnFilesSpec.pre6 enc Try.prog Try.f4 Rows.fnFilesRow.domain false) (Rows.fnFilesSpec.post enc Try.prog Try.f4 false true false false) := by
  refine returnsInHanded_of_change (C := Try.checked) own started (by kernel_rfl) Try.func4
    (ChangeSpec.witness6 (enc := enc) (C := Try.checked) false ⟨#[], #[.slice none 0 0], []⟩ 8 (by kernel_rfl) (by kernel_rfl) (by kernel_rfl) (by kernel_rfl)) ?_
  intro W base args ds gs before hval0 hW hcnd _
  have hval : ∀ (j : Nat) t v, Try.f4.params[j]? = some t → args[j]? = some v → Value.okWide Try.prog W .any base t v := hval0
  have hW' := hW
  obtain ⟨p, q, hA0, hV, rfl, hfz, hnd⟩ := hW
  have hA : DataW.TrodAll enc Try.prog W 0 (fun _ => true) true Try.f4.params.toList args.toList ds p := hA0
  rw [Try.params4] at hA hval
  obtain ⟨v0, vs0, d0, ds0, p0, q0, hargs, rfl, rfl, h0, r0⟩ := trodAll_cons hA
  obtain ⟨rfl, rfl, rfl⟩ := trodAll_nil r0
  obtain rfl : args = #[v0] := by cases args; simp_all
  obtain ⟨rfl, rfl⟩ := trodVars_none hV
  obtain ⟨a0, len0, cap0, rfl⟩ := okWide_slice Try.underlying22 (hval 0 22 v0 rfl rfl)
  have k0 := h0
  have lt0 : ∀ x ∈ p0, x.block < W.heap.size := by obtain ⟨m, hm⟩ := k0; exact DataW.trod_lt m _ _ _ hm
  obtain ⟨z0, w0⟩ : ∃ zs, Ints.IsRow .u8 W a0 len0 cap0 zs := by
    obtain ⟨fuel, hf⟩ := h0
    rcases open_ints Try.underlying22 Try.underlying5 (by kernel_rfl) hf with ⟨hcs, _⟩ | ⟨x, l, c, zs, hcs, _, hl, hm, hz, _, hcell, hwz⟩
    · simp [Value.cells] at hcs
      obtain ⟨rfl, rfl, rfl⟩ := hcs
      exact ⟨[], .inl ⟨rfl, rfl, rfl, rfl⟩⟩
    · simp [Value.cells] at hcs
      obtain ⟨rfl, rfl, rfl⟩ := hcs
      exact ⟨zs, .inr ⟨_, rfl, hl, hm, by simpa using hz, hcell, hwz⟩⟩
  clear hA0 hval0
  refine (walk a0 len0 cap0 z0 W w0).mono fun e W' ⟨he, bel⟩ => ?_
  subst he
  exact ⟨_, rfl, _, _, _, [], _, [], hW', trodAll_mk1 (shut_bool Try.underlying4 _), (trodAll_cons_mk (Below.trod laidOut (by kernel_rfl) (of_decide_eq_true (by kernel_rfl)) k0 bel lt0) trodAll_mk0), rfl, bel.frame _, fun h => by cases h⟩

theorem over : Rows.fnFilesRow.holds Try.pinned (OpenSpec.ofChange Rows.fnFilesSpec) :=
  OpenClaim.holds_of_wide 4 Try.f4 rfl rfl rfl rfl rfl rfl rfl ⟨rfl, rfl, rfl, rfl, rfl⟩ rfl rfl rfl rfl rfl (by kernel_rfl) Try.func4 (by kernel_rfl)
    (of_decide_eq_true (by kernel_rfl)) (by unfold Func.isWrapper; first | (rw [if_pos (by decide +kernel)]; kernel_rfl) | (rw [if_neg (by decide +kernel)]; exact ⟨rfl, rfl⟩))
    (fun os started H enc _ => lifted os started H enc)

/-- The statement. -/
theorem proved : Rows.FnFilesSaid := over
#print axioms proved
end Go.Proofs.Ytejbbhjhinkcdaa.fnFiles
