/- For every row of bytes the law of disks returns true: behind a crash each file of a drawn disk has what was safe, and behind that a beginning of what was late; what is synced ahead of it is there whole. No condition. -/
import Derived.Test.YtejbbhjhinkcdaaRows
import Derived.Test.YtejbbhjhinkcdaaByteH
import Derived.Test.YtejbbhjhinkcdaaVOB
import Derived.Test.YtejbbhjhinkcdaaInts
import Derived.Test.YtejbbhjhinkcdaaSBytes
import Derived.Test.YtejbbhjhinkcdaaLaw11
import Derived.Test.YtejbbhjhinkcdaaFil14
import Derived.Test.YtejbbhjhinkcdaaOpensF14
import Derived.Test.YtejbbhjhinkcdaaDiskH14
import Derived.Test.YtejbbhjhinkcdaaHelpF14
import Derived.Test.YtejbbhjhinkcdaaMarkF14
import Derived.Test.YtejbbhjhinkcdaaMarkFS14
import Derived.Test.YtejbbhjhinkcdaaDkH14
import Derived.Test.YtejbbhjhinkcdaaSDk14
import Derived.Test.YtejbbhjhinkcdaaSOk14
import Derived.Test.YtejbbhjhinkcdaaSRd14
import Derived.Test.YtejbbhjhinkcdaaApp14
import Derived.Test.YtejbbhjhinkcdaaSLess14
import Derived.Test.YtejbbhjhinkcdaaSCopy14
import Derived.Test.YtejbbhjhinkcdaaSRef14
import Derived.Test.YtejbbhjhinkcdaaSCom14
import Derived.Test.YtejbbhjhinkcdaaLaw14
import Derived.Test.YtejbbhjhinkcdaaPairs
import Derived.Test.YtejbbhjhinkcdaaDraw
import Derived.Test.YtejbbhjhinkcdaaSPut11
import Derived.Test.YtejbbhjhinkcdaaSPuts11
import Derived.Test.YtejbbhjhinkcdaaDraw11
import Derived.Test.YtejbbhjhinkcdaaDrawS11
import Derived.Test.YtejbbhjhinkcdaaDrawT14
import Derived.Test.YtejbbhjhinkcdaaSPut14
import Derived.Test.YtejbbhjhinkcdaaPure14
import Derived.Test.YtejbbhjhinkcdaaSAppend14
import Derived.Test.YtejbbhjhinkcdaaSSync14
import Derived.Test.YtejbbhjhinkcdaaSMove14
import Derived.Test.YtejbbhjhinkcdaaSCut14
import Derived.Test.YtejbbhjhinkcdaaSDrop14
import Derived.Test.YtejbbhjhinkcdaaSCrash14
import Derived.Test.YtejbbhjhinkcdaaOk14
import Derived.Test.YtejbbhjhinkcdaaOkk14
import Derived.Test.YtejbbhjhinkcdaaDrawR14
import Derived.Test.YtejbbhjhinkcdaaDrawD14
import Derived.Test.YtejbbhjhinkcdaaDrawC14
import Derived.Test.YtejbbhjhinkcdaaPureD14
import Derived.Test.YtejbbhjhinkcdaaIFile14
import Derived.Test.YtejbbhjhinkcdaaIOk14
import Derived.Test.YtejbbhjhinkcdaaTabF14
import Derived.Test.YtejbbhjhinkcdaaITb14
import Derived.Test.YtejbbhjhinkcdaaICp14
import Derived.Test.YtejbbhjhinkcdaaIDk14
import Derived.Test.YtejbbhjhinkcdaaPTab14
import Derived.Test.YtejbbhjhinkcdaaICom14
import Derived.Test.YtejbbhjhinkcdaaICrash14
import Derived.Test.YtejbbhjhinkcdaaIRd14
import Derived.Test.YtejbbhjhinkcdaaISync14
import Derived.ShutString
import Derived.ChangeOld
import Derived.Below
namespace Go.Proofs.Ytejbbhjhinkcdaa.fnDisk
open Go.ChangeShapes Go.WideShapes Go.ChangeAt Go.RowKit
open Go.ChangeMaps (open_string shut_string)
set_option linter.unusedVariables false
set_option linter.unusedSimpArgs false

theorem own : ownKnob Try.prog.godebug = none := by kernel_rfl
theorem laidOut : laidOutB Try.prog = true := by kernel_rfl

open Fil14 (TF elF)
open DiskH14 (sumZ one_more)
open SOk14 (OkD okN)
open SDk14 (sumZ_le)
open DiskH14 (sumZ_next)
open SRd14 (readD atD)
open SCom14 (ToldD ixF)
open SCrash14 (crashF crashD)
open SSync14 (syncD)
open PureD14 Pure14 Ok14
open DkH14 (Dx RdD OwD)
open Law14 (Kd)
open Draw (CodeAt)
open DrawT14 (hide unhide)

abbrev oS0 : Oper := { dst := some 92, op := Go.Op.load 26 (Go.Operand.tmp 11), type := 26, pos := "laws.go:949", after := #[], guard := none }
abbrev oS1 : Oper := { dst := some 93, op := Go.Op.move (Go.Operand.tmp 4), type := 3, pos := "laws.go:949", after := #[], guard := none }
abbrev oS2 : Oper := { dst := some 94, op := Go.Op.call { callee := Go.Callee.value (Go.Operand.func 7), args := #[Go.Operand.tmp 92, Go.Operand.tmp 93], argTypes := #[26, 3] }, type := 26, pos := "laws.go:949", after := #[{ on := 0, ground := Go.Ground.data }, { on := 1, ground := Go.Ground.data }], guard := none }
abbrev oS3 : Oper := { dst := some 95, op := Go.Op.fieldAddr 32 (Go.Operand.tmp 7) 0, type := 0, pos := "laws.go:949", after := #[], guard := none }
abbrev oS4 : Oper := { dst := some 96, op := Go.Op.load 3 (Go.Operand.tmp 95), type := 3, pos := "laws.go:949", after := #[{ on := 3, ground := Go.Ground.data }], guard := none }
abbrev oS5 : Oper := { dst := some 97, op := Go.Op.call { callee := Go.Callee.value (Go.Operand.func 9), args := #[Go.Operand.tmp 94, Go.Operand.tmp 96], argTypes := #[26, 3] }, type := 33, pos := "laws.go:949", after := #[{ on := 2, ground := Go.Ground.data }, { on := 4, ground := Go.Ground.data }, { on := 2, ground := Go.Ground.chain }], guard := none }
abbrev oS6 : Oper := { dst := some 91, op := Go.Op.move (Go.Operand.tmp 97), type := 33, pos := "laws.go:949", after := #[{ on := 5, ground := Go.Ground.data }], guard := none }
abbrev oS7 : Oper := { dst := some 98, op := Go.Op.extract (Go.Operand.tmp 91) 0, type := 9, pos := "laws.go:949", after := #[{ on := 6, ground := Go.Ground.data }], guard := none }
abbrev oS8 : Oper := { dst := some 99, op := Go.Op.extract (Go.Operand.tmp 91) 1, type := 4, pos := "laws.go:949", after := #[{ on := 6, ground := Go.Ground.data }, { on := 9, ground := Go.Ground.gcOnly Go.Departure.lateStores }], guard := none }
abbrev oS9 : Oper := { dst := some 8, op := Go.Op.assign (Go.Operand.tmp 98), type := 9, pos := "laws.go:949", after := #[{ on := 7, ground := Go.Ground.data }, { on := 5, ground := Go.Ground.chain }, { on := 0, ground := Go.Ground.phase }, { on := 1, ground := Go.Ground.phase }, { on := 2, ground := Go.Ground.phase }, { on := 3, ground := Go.Ground.phase }, { on := 4, ground := Go.Ground.phase }, { on := 5, ground := Go.Ground.phase }, { on := 6, ground := Go.Ground.phase }, { on := 7, ground := Go.Ground.phase }, { on := 8, ground := Go.Ground.textOnly Go.Departure.lateStores }], guard := none }
abbrev oS10 : Oper := { dst := some 9, op := Go.Op.assign (Go.Operand.tmp 99), type := 4, pos := "laws.go:949", after := #[{ on := 8, ground := Go.Ground.data }, { on := 9, ground := Go.Ground.chain }, { on := 0, ground := Go.Ground.phase }, { on := 1, ground := Go.Ground.phase }, { on := 2, ground := Go.Ground.phase }, { on := 3, ground := Go.Ground.phase }, { on := 4, ground := Go.Ground.phase }, { on := 5, ground := Go.Ground.phase }, { on := 6, ground := Go.Ground.phase }, { on := 7, ground := Go.Ground.phase }, { on := 8, ground := Go.Ground.phase }, { on := 9, ground := Go.Ground.phase }], guard := none }

/-- A disk in a box, its files there. -/
structure Kr (W : World) (g : Nat) (x : Dx) : Prop where
  k : Kd W g x
  r : RdD W x
theorem Kr.step {W W' : World} {g : Nat} {x : Dx} (h : Kr W g x) (b : Below W.heap.size W W') : Kr W' g x := ⟨h.k.step b, h.r.below b⟩
theorem Kr.made {u : World} {x : Dx} (h : RdD u x) (e : TypeId) : Kr (u.alloc (.cells #[.int .i64 x.room, .slice x.a x.ps.length x.c] e)) u.heap.size x := ⟨Kd.made u x e, h.below (one_more u _)⟩
/-- A file in a box. -/
structure Kf (W : World) (g : Nat) (z0 : Int) (z1 z2 : ByteArray) : Prop where
  c0 : W.cell? ⟨g, 0, none⟩ = some (.int .i64 z0)
  c1 : W.cell? ⟨g, 1, none⟩ = some (.string z1)
  c2 : W.cell? ⟨g, 2, none⟩ = some (.string z2)
  lt : g < W.heap.size
theorem Kf.made (u : World) (z0 : Int) (z1 z2 : ByteArray) (e : TypeId) : Kf (u.alloc (.cells #[.int .i64 z0, .string z1, .string z2] e)) u.heap.size z0 z1 z2 := ⟨by simp, by simp, by simp, by simp⟩
theorem Kf.step {W W' : World} {g : Nat} {z0 : Int} {z1 z2 : ByteArray} (h : Kf W g z0 z1 z2) (k : Below W.heap.size W W') : Kf W' g z0 z1 z2 :=
  ⟨(k.cell (p := ⟨g, 0, none⟩) h.lt).trans h.c0, (k.cell (p := ⟨g, 1, none⟩) h.lt).trans h.c1, (k.cell (p := ⟨g, 2, none⟩) h.lt).trans h.c2, Nat.lt_of_lt_of_le h.lt k.size⟩
theorem code_at {w : World} {a : Option Addr} {len cap : Nat} {zs : List Int} (h : Ints.IsRow .u8 w a len cap zs) : CodeAt w a len := by
  obtain ⟨hl, hr, hi, _⟩ := Law11.row_bytes h
  rcases hr with h0 | ⟨b, off, rfl, hb, hc⟩
  · exact .inl (by omega)
  · exact .inr ⟨b, off, zs.take len, rfl, hb, fun i hi' => ⟨hc i (by omega), hi i (by omega)⟩⟩
theorem ok_small {room : Int} {ps : List TF} (h : OkD room ps) : ps.length ≤ 22 ∧ sumZ ps ≤ 1048576 := ⟨h.2.1, by have := h.1; have := h.2.2.1; omega⟩
theorem two {a c : Int} {b d : List TF} (h : (a, b) = (c, d)) : a = c ∧ b = d := Prod.mk.inj h


set_option maxRecDepth 100000 in
set_option maxHeartbeats 8000000 in
theorem walk (a0 : Option Addr) (len0 cap0 : Nat) (z0 : List Int) (w : World) (w0 : Ints.IsRow .u8 w a0 len0 cap0 z0) :
    Calls Try.prog 3 #[.slice a0 len0 cap0] w fun e w' => e = .returned (.bool true) ∧ Below w.heap.size w w' := by
  have hc := code_at w0
  clear w0
  by_cases tl : (len0 : Int) ≤ 1048576
  case neg =>
    have HC := hide hc
    clear hc
    go_enter Try.func3, Try.ntmps3
    go_wp2
    go_ret
    exact ⟨rfl, Below.refl _ _⟩
  have HC := hide hc
  have TL : len0 ≤ 1048576 := by omega
  clear hc
  go_enter Try.func3, Try.ntmps3
  go_wp2_with (first | (go_at_call 5; go_in) | fail)
  refine (DrawC14.drawCrash _ a0 len0 cap0 TL (unhide HC)).mono ?_
  rintro e u1 ⟨yD, keep, sm, ⟨k0, k1⟩, rfl, oD, b1⟩
  have B := hide b1
  clear b1 HC
  have RD := hide (oD.rd (by have := sm.1; omega))
  clear oD
  have bb := DiskH14.one_more u1 (.cells #[.int .i64 yD.room, .slice yD.a yD.ps.length yD.c] 26)
  have KD := hide (Kr.made (unhide RD) 26)
  clear RD
  replace B := hide ((unhide B).trans (bb.mono (unhide B).size))
  clear bb
  have zD : sumZ yD.ps ≤ 1048576 := by have := sm.2; omega
  have IC := hide (fun u hr => ICrash14.iDiskCrash u yD keep hr zD)
  have SO := hide (fun u hr => SOk14.sDiskOk u yD hr zD)
  by_cases ok : OkD yD.room yD.ps
  case neg =>
    rw [show crashD yD.room yD.ps keep = (0, []) from if_neg ok] at IC
    rw [decide_eq_false ok] at SO
    have pD0 := (unhide KD).k.c0
    have pD1 := (unhide KD).k.c1
    go_wp2_with fail
    refine ((unhide IC) _ (unhide KD).r).mono ?_
    rintro e u2 ⟨yC, eyC, rfl, oyC, bb⟩
    clear pD0 pD1
    replace B := hide ((unhide B).trans (bb.mono (unhide B).size))
    replace KD := hide ((unhide KD).step bb)
    clear bb
    clear IC
    have nC := hide (two eyC)
    have lC : yC.ps.length ≤ 1048576 := by rw [(two eyC).2]; simp
    clear eyC
    have RC := hide (oyC.rd lC)
    clear oyC
    have bb := DiskH14.one_more u2 (.cells #[.int .i64 yC.room, .slice yC.a yC.ps.length yC.c] 26)
    have KC := hide (Kr.made (unhide RC) 26)
    clear RC
    replace B := hide ((unhide B).trans (bb.mono (unhide B).size))
    replace KD := hide ((unhide KD).step bb)
    clear bb
    have pD0 := (unhide KD).k.c0
    have pD1 := (unhide KD).k.c1
    go_wp2_with fail
    refine ((unhide SO) _ (unhide KD).r).mono ?_
    rintro e u3 ⟨rfl, bb⟩
    clear pD0 pD1
    replace B := hide ((unhide B).trans (bb.mono (unhide B).size))
    replace KD := hide ((unhide KD).step bb)
    replace KC := hide ((unhide KC).step bb)
    clear bb
    clear SO
    have pC0 := (unhide KC).k.c0
    have pC1 := (unhide KC).k.c1
    rw [(unhide nC).1] at pC0
    rw [(unhide nC).2] at pC1
    go_wp2
    go_ret
    exact ⟨rfl, unhide B⟩
  rw [show crashD yD.room yD.ps keep = (yD.room, yD.ps.map (crashF keep)) from if_pos ok] at IC
  rw [decide_eq_true ok] at SO
  have pD0 := (unhide KD).k.c0
  have pD1 := (unhide KD).k.c1
  go_wp2_with fail
  refine ((unhide IC) _ (unhide KD).r).mono ?_
  rintro e u2 ⟨yC, eyC, rfl, oyC, bb⟩
  clear pD0 pD1
  replace B := hide ((unhide B).trans (bb.mono (unhide B).size))
  replace KD := hide ((unhide KD).step bb)
  clear bb
  clear IC
  have nC := hide (two eyC)
  have okC : OkD yC.room yC.ps := by rw [(unhide nC).1, (unhide nC).2]; exact ok_crash keep ok
  have lC : yC.ps.length ≤ 1048576 := by have := (ok_small okC).1; omega
  clear eyC
  have RC := hide (oyC.rd lC)
  clear oyC
  have bb := DiskH14.one_more u2 (.cells #[.int .i64 yC.room, .slice yC.a yC.ps.length yC.c] 26)
  have KC := hide (Kr.made (unhide RC) 26)
  clear RC
  replace B := hide ((unhide B).trans (bb.mono (unhide B).size))
  replace KD := hide ((unhide KD).step bb)
  clear bb
  have pD0 := (unhide KD).k.c0
  have pD1 := (unhide KD).k.c1
  go_wp2_with fail
  refine ((unhide SO) _ (unhide KD).r).mono ?_
  rintro e u3 ⟨rfl, bb⟩
  clear pD0 pD1
  replace B := hide ((unhide B).trans (bb.mono (unhide B).size))
  replace KD := hide ((unhide KD).step bb)
  replace KC := hide ((unhide KC).step bb)
  clear bb
  clear SO
  have zC := (ok_small okC).2
  have l22 := (ok_small ok).1
  generalize hbd : u1.heap.size = bD at *
  generalize hbc : u2.heap.size = bC at *
  clear hbd hbc
  have pD0 := (unhide KD).k.c0
  have pD1 := (unhide KD).k.c1
  go_wp2
  clear pD0 pD1
  go_loopw [6, 7, 8, 9, 10, 11, 12] (fun i _ _ _ _ _ _ wr => ∃ (m : Nat), i = .int .i64 m ∧ m ≤ yD.ps.length ∧ Hid (Below w.heap.size w wr) ∧ Hid (Kr wr bD yD) ∧ Hid (Kr wr bC yC)) (fun i _ _ _ _ _ _ _ => yD.ps.length - (intOf i).toNat)
  case atStart => exact ⟨0, rfl, by omega, B, KD, KC⟩
  case round =>
    clear B KD KC
    obtain ⟨m, rfl, hm, B, KD, KC⟩ := hrel
    by_cases t : m < yD.ps.length
    · skip
      have kt : (m : Int) < yD.ps.length := by omega
      obtain ⟨g, ea, lg, d0, d1, d2⟩ := SDk14.cells_of (unhide KD).r t
      have ix := ixF yD.c ea t
      have NX := sumZ_next t
      have LE := sumZ_le yD.ps (m + 1)
      have mem := elF_mem t
      have WZ := hide (PTab14.wf_names ok m t)
      have sz : (elF yD.ps m).2.1.size + (elF yD.ps m).2.2.size ≤ 1048576 := by omega
      generalize elF yD.ps m = q at *
      obtain ⟨z0, z1, z2⟩ := q
      simp only at d0 d1 d2 sz
      have cs : z1.size + z2.size ≤ 9223372036854775807 := by omega
      obtain ⟨j, hj, rd⟩ := crash_read keep ok mem
      obtain ⟨b1, b2, b3⟩ := cat_begin z1 z2 j hj
      have SY := hide (sync_read keep ok mem)
      simp only at rd b1 b2 b3 SY
      have wsz : (z1 ++ z2).size = z1.size + z2.size := ByteArray.size_append
      have IR := hide (show ∀ u, RdD u yC → Calls Try.prog 9 #[.agg #[.int .i64 yC.room, .slice yC.a yC.ps.length yC.c], .int .i64 z0] u fun e w' => e = .returned (.tuple #[.string (z1 ++ z2.extract 0 j), .bool true]) ∧ Below u.heap.size u w' from fun u hr => by
        have := IRd14.iDiskRead u yC z0 hr zC (unhide WZ)
        rwa [show readD yC.room yC.ps z0 = (z1 ++ z2.extract 0 j, true) by rw [(unhide nC).1, (unhide nC).2]; exact rd] at this)
      generalize z1 ++ z2.extract 0 j = s1 at *
      obtain ⟨wh, hwh⟩ : ∃ wh, z1 ++ z2 = wh := ⟨_, rfl⟩
      rw [hwh] at b2 b3 SY wsz
      have n1 : ¬ (s1.size : Int) < z1.size := by omega
      have n2 : ¬ (wh.size : Int) < s1.size := by omega
      have n3 : (s1.size : Int) ≤ wh.size := by omega
      have n4 : wh.size ≤ 9223372036854775807 := by omega
      clear rd NX LE mem hj lg ea
      have bb := one_more wr (.cells #[.int .i64 z0, .string z1, .string z2] 32)
      have KP := hide (Kf.made wr z0 z1 z2 32)
      have pD0 := (unhide KD).k.c0
      have pD1 := (unhide KD).k.c1
      replace B := hide ((unhide B).trans (bb.mono (unhide B).size))
      replace KD := hide ((unhide KD).step bb)
      replace KC := hide ((unhide KC).step bb)
      clear bb
      have pP0 := (unhide KP).c0
      have pP1 := (unhide KP).c1
      have pP2 := (unhide KP).c2
      have pC0 := (unhide KC).k.c0
      have pC1 := (unhide KC).k.c1
      go_wp2_with fail
      refine ((unhide IR) _ (unhide KC).r).mono ?_
      rintro e v1 ⟨rfl, bb⟩
      clear pP0 pP1 pP2 pC0 pC1
      clear pD0 pD1 IR ix d0 d1 d2
      replace B := hide ((unhide B).trans (bb.mono (unhide B).size))
      replace KD := hide ((unhide KD).step bb)
      replace KC := hide ((unhide KC).step bb)
      replace KP := hide ((unhide KP).step bb)
      clear bb
      obtain ⟨qs, es, okS, rdS⟩ := unhide SY
      clear SY
      have IS := hide (show ∀ u, RdD u yD → Calls Try.prog 10 #[.agg #[.int .i64 yD.room, .slice yD.a yD.ps.length yD.c], .int .i64 z0] u (ToldD ((yD.room, qs), 0) u) from fun u hr => by have := ISync14.iDiskSync u yD z0 hr zD; rwa [es] at this)
      clear es
      have pD0 := (unhide KD).k.c0
      have pD1 := (unhide KD).k.c1
      have pP0 := (unhide KP).c0
      have pP1 := (unhide KP).c1
      have pP2 := (unhide KP).c2
      go_wp2_with fail
      refine ((unhide IS) _ (unhide KD).r).mono ?_
      rintro e v2 ⟨yS, eyS, rfl, oyS, bb⟩
      clear pD0 pD1 pP0 pP1 pP2
      replace B := hide ((unhide B).trans (bb.mono (unhide B).size))
      replace KD := hide ((unhide KD).step bb)
      replace KC := hide ((unhide KC).step bb)
      replace KP := hide ((unhide KP).step bb)
      clear bb
      clear IS
      have nS := hide (two eyS)
      have lS : yS.ps.length ≤ 1048576 := by rw [(two eyS).2]; have := (ok_small okS).1; omega
      have zS : sumZ yS.ps ≤ 1048576 := by rw [(two eyS).2]; exact (ok_small okS).2
      have IT := hide (show ∀ u, RdD u yS → Calls Try.prog 7 #[.agg #[.int .i64 yS.room, .slice yS.a yS.ps.length yS.c], .int .i64 keep] u fun e w' => ∃ y : Dx, (y.room, y.ps) = (yD.room, qs.map (crashF keep)) ∧ e = .returned (.agg #[.int .i64 y.room, .slice y.a y.ps.length y.c]) ∧ OwD w' u.heap.size y ∧ Below u.heap.size u w' from fun u hr => by
        have := ICrash14.iDiskCrash u yS keep hr zS
        rwa [show crashD yS.room yS.ps keep = (yD.room, qs.map (crashF keep)) by rw [(unhide nS).1, (unhide nS).2]; exact if_pos okS] at this)
      have okT := ok_crash keep okS
      clear eyS
      have RS := hide (oyS.rd lS)
      clear oyS
      have bb := DiskH14.one_more v2 (.cells #[.int .i64 yS.room, .slice yS.a yS.ps.length yS.c] 26)
      have KS := hide (Kr.made (unhide RS) 26)
      clear RS
      replace B := hide ((unhide B).trans (bb.mono (unhide B).size))
      replace KD := hide ((unhide KD).step bb)
      replace KC := hide ((unhide KC).step bb)
      replace KP := hide ((unhide KP).step bb)
      clear bb
      have pS0 := (unhide KS).k.c0
      have pS1 := (unhide KS).k.c1
      have pP0 := (unhide KP).c0
      have pP1 := (unhide KP).c1
      have pP2 := (unhide KP).c2
      have K0 := And.intro pS0 (And.intro pS1 pP0)
      clear pS0 pS1 pP0 pP1 pP2
      go_wp2_with fail
      generalize v2.alloc (.cells #[.int .i64 yS.room, .slice yS.a yS.ps.length yS.c] 26) = V at *
      generalize v2.heap.size = bS at *
      generalize wr.heap.size = bP at *
      refine wp_region_held_drew (S := (fun w' => w'.cell? ⟨bS, 0, none⟩ = some (.int .i64 yS.room) ∧ w'.cell? ⟨bS, 1, none⟩ = some (.slice yS.a yS.ps.length yS.c) ∧ w'.cell? ⟨bP, 0, none⟩ = some (.int .i64 z0))) (by kernel_rfl) K0 (fun hHeld => ?_)
      refine wpAnyH_take (i := 0) (oi := oS0) (v := .agg #[.int .i64 yS.room, .slice yS.a yS.ps.length yS.c]) rfl (by kernel_rfl) (by kernel_rfl) (by kernel_rfl) (fun _ _ _ h => h) (Or.inl ⟨by rfl, fun w hSw => ?_⟩) hHeld ?_
      · (try dsimp only at hSw)
        unfold oS0
        go_simp
      try simp only [oS0, Act.put, List.setIfInBounds_toArray, List.set_cons_zero, List.set_cons_succ]
      refine wpAnyH_take (i := 1) (oi := oS1) (v := .int .i64 keep) rfl (by kernel_rfl) (by kernel_rfl) (by kernel_rfl) (fun _ _ _ h => h) (Or.inl ⟨by rfl, fun w hSw => ?_⟩) hHeld ?_
      · (try dsimp only at hSw)
        unfold oS1
        go_simp
      try simp only [oS1, Act.put, List.setIfInBounds_toArray, List.set_cons_zero, List.set_cons_succ]
      refine wpAnyH_take (i := 3) (oi := oS3) (v := .pointer (some ⟨bP, 0, none⟩)) rfl (by kernel_rfl) (by kernel_rfl) (by kernel_rfl) (fun _ _ _ h => h) (Or.inl ⟨by rfl, fun w hSw => ?_⟩) hHeld ?_
      · (try dsimp only at hSw)
        unfold oS3
        go_simp
      try simp only [oS3, Act.put, List.setIfInBounds_toArray, List.set_cons_zero, List.set_cons_succ]
      refine wpAnyH_take (i := 4) (oi := oS4) (v := .int .i64 z0) rfl (by kernel_rfl) (by kernel_rfl) (by kernel_rfl) (fun _ _ _ h => h) (Or.inl ⟨by rfl, fun w hSw => ?_⟩) hHeld ?_
      · (try dsimp only at hSw)
        unfold oS4
        go_simp
      try simp only [oS4, Act.put, List.setIfInBounds_toArray, List.set_cons_zero, List.set_cons_succ]
      refine wpAnyH_ready (rs := [2]) (by kernel_rfl) (by simp) ?_
      refine AllReadyH.cons (o := oS2) rfl (fun K hK => ?_) AllReadyH.nil
      unfold oS2
      go_simp
      go_wp2_with fail
      refine ((unhide IT) _ (show RdD V.drew yS from ((unhide KS).step (Below.refl _ _).drew).r)).mono ?_
      rintro e v3 ⟨yT, eyT, rfl, oyT, bb0⟩
      have bb := SOk14.below_of_drew bb0
      clear bb0
      replace B := hide ((unhide B).trans (bb.mono (unhide B).size))
      replace KD := hide ((unhide KD).step bb)
      replace KC := hide ((unhide KC).step bb)
      replace KP := hide ((unhide KP).step bb)
      replace KS := hide ((unhide KS).step bb)
      clear bb
      have nT := two eyT
      have RT := hide (oyT.rd (by rw [nT.2]; have := (ok_small okT).1; omega))
      have IU := hide (show ∀ u, RdD u yT → Calls Try.prog 9 #[.agg #[.int .i64 yT.room, .slice yT.a yT.ps.length yT.c], .int .i64 z0] u fun e w' => e = .returned (.tuple #[.string wh, .bool true]) ∧ Below u.heap.size u w' from fun u hr => by
        have := IRd14.iDiskRead u yT z0 hr (by rw [nT.2]; exact (ok_small okT).2) (unhide WZ)
        rwa [show readD yT.room yT.ps z0 = (wh, true) by rw [nT.1, nT.2]; exact rdS] at this)
      clear oyT eyT nT IT
      have K1 : v3.cell? ⟨bS, 0, none⟩ = some (.int .i64 yS.room) ∧ v3.cell? ⟨bS, 1, none⟩ = some (.slice yS.a yS.ps.length yS.c) ∧ v3.cell? ⟨bP, 0, none⟩ = some (.int .i64 z0) := ⟨(unhide KS).k.c0, (unhide KS).k.c1, (unhide KP).c0⟩
      go_wp2_with fail
      refine hK.out _ _ K1 (fun hHeld => ?_)
      clear hK K
      try simp only [oS2, Act.put, List.setIfInBounds_toArray, List.set_cons_zero, List.set_cons_succ]
      refine wpAnyH_ready (rs := [5]) (by kernel_rfl) (by simp) ?_
      refine AllReadyH.cons (o := oS5) rfl (fun K hK => ?_) AllReadyH.nil
      unfold oS5
      go_simp
      go_wp2_with fail
      refine ((unhide IU) _ (unhide RT)).mono ?_
      rintro e v4 ⟨rfl, bb⟩
      replace B := hide ((unhide B).trans (bb.mono (unhide B).size))
      replace KD := hide ((unhide KD).step bb)
      replace KC := hide ((unhide KC).step bb)
      replace KP := hide ((unhide KP).step bb)
      replace KS := hide ((unhide KS).step bb)
      clear bb
      clear RT IU
      have K2 : v4.cell? ⟨bS, 0, none⟩ = some (.int .i64 yS.room) ∧ v4.cell? ⟨bS, 1, none⟩ = some (.slice yS.a yS.ps.length yS.c) ∧ v4.cell? ⟨bP, 0, none⟩ = some (.int .i64 z0) := ⟨(unhide KS).k.c0, (unhide KS).k.c1, (unhide KP).c0⟩
      go_wp2_with fail
      refine hK.out _ _ K2 (fun hHeld => ?_)
      clear hK K
      try simp only [oS5, Act.put, List.setIfInBounds_toArray, List.set_cons_zero, List.set_cons_succ]
      refine wpAnyH_take (i := 6) (oi := oS6) (v := .tuple #[.string wh, .bool true]) rfl (by kernel_rfl) (by kernel_rfl) (by kernel_rfl) (fun _ _ _ h => h) (Or.inl ⟨by rfl, fun w hSw => ?_⟩) hHeld ?_
      · (try dsimp only at hSw)
        unfold oS6
        go_simp
      try simp only [oS6, Act.put, List.setIfInBounds_toArray, List.set_cons_zero, List.set_cons_succ]
      refine wpAnyH_take (i := 7) (oi := oS7) (v := .string wh) rfl (by kernel_rfl) (by kernel_rfl) (by kernel_rfl) (fun _ _ _ h => h) (Or.inl ⟨by rfl, fun w hSw => ?_⟩) hHeld ?_
      · (try dsimp only at hSw)
        unfold oS7
        go_simp
      try simp only [oS7, Act.put, List.setIfInBounds_toArray, List.set_cons_zero, List.set_cons_succ]
      refine wpAnyH_take (i := 8) (oi := oS8) (v := .bool true) rfl (by kernel_rfl) (by kernel_rfl) (by kernel_rfl) (fun _ _ _ h => h) (Or.inl ⟨by rfl, fun w hSw => ?_⟩) hHeld ?_
      · (try dsimp only at hSw)
        unfold oS8
        go_simp
      try simp only [oS8, Act.put, List.setIfInBounds_toArray, List.set_cons_zero, List.set_cons_succ]
      refine wpAnyH_take (i := 9) (oi := oS9) (v := .string wh) rfl (by kernel_rfl) (by kernel_rfl) (by kernel_rfl) (fun _ _ _ h => h) (Or.inl ⟨by rfl, fun w hSw => ?_⟩) hHeld ?_
      · (try dsimp only at hSw)
        unfold oS9
        go_simp
      try simp only [oS9, Act.put, List.setIfInBounds_toArray, List.set_cons_zero, List.set_cons_succ]
      refine wpAnyH_take (i := 10) (oi := oS10) (v := .bool true) rfl (by kernel_rfl) (by kernel_rfl) (by kernel_rfl) (fun _ _ _ h => h) (Or.inl ⟨by rfl, fun w hSw => ?_⟩) hHeld ?_
      · (try dsimp only at hSw)
        unfold oS10
        go_simp
      try simp only [oS10, Act.put, List.setIfInBounds_toArray, List.set_cons_zero, List.set_cons_succ]
      refine wpAnyH_done (by kernel_rfl) ?_ _
      clear K0 K1 K2
      go_wp2
      go_roundw
      case rel => exact ⟨m + 1, by go_num, by omega, B, KD, KC⟩
      case measure => simp [intOf]; omega
    · have e : m = yD.ps.length := by omega
      subst e
      have IO := hide (show ∀ u, RdD u yC → Calls Try.prog 11 #[.agg #[.int .i64 yC.room, .slice yC.a yC.ps.length yC.c]] u fun e w' => e = .returned (.bool true) ∧ Below u.heap.size u w' from fun u hr => by have := IOk14.iDiskOk u yC hr zC; rwa [decide_eq_true okC] at this)
      have nl : yC.ps.length = yD.ps.length := by rw [(unhide nC).2]; simp
      have NL := hide nl
      clear nl
      have pD0 := (unhide KD).k.c0
      have pD1 := (unhide KD).k.c1
      have pC0 := (unhide KC).k.c0
      have pC1 := (unhide KC).k.c1
      go_wp2_with fail
      refine ((unhide IO) _ (unhide KC).r).mono ?_
      rintro e v9 ⟨rfl, bb⟩
      replace B := hide ((unhide B).trans (bb.mono (unhide B).size))
      replace KD := hide ((unhide KD).step bb)
      replace KC := hide ((unhide KC).step bb)
      clear bb pD0 pD1 pC0 pC1
      have pD1 := (unhide KD).k.c1
      have pC1 := (unhide KC).k.c1
      rw [unhide NL] at pC1
      go_wp2
      go_ret
      exact ⟨rfl, unhide B⟩

set_option maxRecDepth 100000 in
theorem lifted (os : Os) (started : os.Started) (H : Type) (enc : TypeId × Value → H) :
    ReturnsInHanded {} Try.checked os 3 .any (Rows.fnDiskSpec.pre6 enc Try.prog Try.f3 Rows.fnDiskRow.domain false) (Rows.fnDiskSpec.post enc Try.prog Try.f3 false true false false) := by
  refine returnsInHanded_of_change (C := Try.checked) own started (by kernel_rfl) Try.func3
    (ChangeSpec.witness6 (enc := enc) (C := Try.checked) false ⟨#[], #[.slice none 0 0], []⟩ 8 (by kernel_rfl) (by kernel_rfl) (by kernel_rfl) (by kernel_rfl)) ?_
  intro W base args ds gs before hval0 hW hcnd _
  have hval : ∀ (j : Nat) t v, Try.f3.params[j]? = some t → args[j]? = some v → Value.okWide Try.prog W .any base t v := hval0
  have hW' := hW
  obtain ⟨p, q, hA0, hV, rfl, hfz, hnd⟩ := hW
  have hA : DataW.TrodAll enc Try.prog W 0 (fun _ => true) true Try.f3.params.toList args.toList ds p := hA0
  rw [Try.params3] at hA hval
  obtain ⟨v0, vs0, d0, ds0, p0, q0, hargs, rfl, rfl, h0, r0⟩ := trodAll_cons hA
  obtain ⟨rfl, rfl, rfl⟩ := trodAll_nil r0
  obtain rfl : args = #[v0] := by cases args; simp_all
  obtain ⟨rfl, rfl⟩ := trodVars_none hV
  obtain ⟨a0, len0, cap0, rfl⟩ := okWide_slice Try.underlying22 (hval 0 22 v0 rfl rfl)
  have k0 := h0
  have lt0 : ∀ x ∈ p0, x.block < W.heap.size := by obtain ⟨m, hm⟩ := k0; exact DataW.trod_lt m _ _ _ hm
  obtain ⟨z0, w0⟩ : ∃ zs, Ints.IsRow .u8 W a0 len0 cap0 zs := by
    obtain ⟨fuel, hf⟩ := h0
    rcases open_ints Try.underlying22 Try.underlying5 (by kernel_rfl) hf with ⟨hcs, _⟩ | ⟨x, l, c, zs, hcs, _, hl, hm, hz, _, hcell, hwz⟩
    · simp [Value.cells] at hcs
      obtain ⟨rfl, rfl, rfl⟩ := hcs
      exact ⟨[], .inl ⟨rfl, rfl, rfl, rfl⟩⟩
    · simp [Value.cells] at hcs
      obtain ⟨rfl, rfl, rfl⟩ := hcs
      exact ⟨zs, .inr ⟨_, rfl, hl, hm, by simpa using hz, hcell, hwz⟩⟩
  clear hA0 hval0
  refine (walk a0 len0 cap0 z0 W w0).mono fun e W' ⟨he, bel⟩ => ?_
  subst he
  exact ⟨_, rfl, _, _, _, [], _, [], hW', trodAll_mk1 (shut_bool Try.underlying4 _), (trodAll_cons_mk (Below.trod laidOut (by kernel_rfl) (of_decide_eq_true (by kernel_rfl)) k0 bel lt0) trodAll_mk0), rfl, bel.frame _, fun h => by cases h⟩

theorem over : Rows.fnDiskRow.holds Try.pinned (OpenSpec.ofChange Rows.fnDiskSpec) :=
  OpenClaim.holds_of_wide 3 Try.f3 rfl rfl rfl rfl rfl rfl rfl ⟨rfl, rfl, rfl, rfl, rfl⟩ rfl rfl rfl rfl rfl (by kernel_rfl) Try.func3 (by kernel_rfl)
    (of_decide_eq_true (by kernel_rfl)) (by unfold Func.isWrapper; first | (rw [if_pos (by decide +kernel)]; kernel_rfl) | (rw [if_neg (by decide +kernel)]; exact ⟨rfl, rfl⟩))
    (fun os started H enc _ => lifted os started H enc)

/-- The statement. -/
theorem proved : Rows.FnDiskSaid := over
#print axioms proved
end Go.Proofs.Ytejbbhjhinkcdaa.fnDisk
