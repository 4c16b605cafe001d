/- At any bytes the program's BooksRead answers as its model, writes into no argument, and its answer is its own. No condition. -/
import Derived.Test.YtefcigaalgfmiaaGreatDoorRows
import Derived.Test.YtefcigaalgfmiaaGreatDoorRG1
import Derived.Test.YtefcigaalgfmiaaGreatDoorRG2
import Derived.Test.YtefcigaalgfmiaaGreatDoorRG3
import Derived.Test.YtefcigaalgfmiaaGreatDoorRG4
import Derived.Test.YtefcigaalgfmiaaGreatDoorRG5
import Derived.Test.YtefcigaalgfmiaaGreatDoorRG6
import Derived.Test.YtefcigaalgfmiaaGreatDoorCards
import Derived.Test.YtefcigaalgfmiaaGreatDoorTie
import Derived.ShutString
import Derived.ChangeOld
import Derived.Below
namespace Go.Proofs.YtefcigaalgfmiaaGreatDoor.fnExactBooksRead
open Go.ChangeShapes Go.WideShapes Go.ChangeAt Go.RowKit
open Go.ChangeMaps (open_string shut_string)
set_option linter.unusedVariables false
set_option linter.unusedSimpArgs false

theorem own : ownKnob Tryz.prog.godebug = none := by kernel_rfl
theorem laidOut : laidOutB Tryz.prog = true := by kernel_rfl

open BMem Bks BHelp BkEq BMemV13 VB13 LawR13 SRead13
open IBalsFit (one_more)


set_option maxRecDepth 100000 in
set_option maxHeartbeats 8000000 in
theorem walk (a0 : Option Addr) (len0 cap0 : Nat) (z0 : List Int) (w : World) (w0 : Ints.IsRow .u8 w a0 len0 cap0 z0) (Ne : Nat) (ade : Nat → Addr) (E : Errs.Errs w 1 Ne ade) (hN : Ne ≤ w.heap.size) :
    Calls Tryz.prog 3 #[.slice a0 len0 cap0] w fun e w' => e = .returned (.bool true) ∧ Below w.heap.size w w' := by
  obtain ⟨hl, hr, hi, hm⟩ := Law11.row_bytes w0
  generalize z0.take len0 = zs at *
  have R0 := hide hr
  have IN := hide hi
  have HL := hide hl
  clear w0 hr hi hl
  by_cases s : (len0 : Int) ≤ 1048576
  case neg =>
    go_enter Tryz.func3, Tryz.ntmps3
    go_wp2
    go_ret
    exact ⟨rfl, Below.refl _ _⟩
  have h20 : len0 ≤ 1048576 := by omega
  clear hm
  have B := hide (Below.refl w.heap.size w)
  have SP := hide (fun u gl hg hr => sBooksRead u gl len0 zs (by rw [unhide HL]; exact h20) hg hr)
  have z0 : 0 < w.heap.size := Nat.lt_of_lt_of_le (E.lt 0 (by omega)).1 hN
  have IM := hide (fun u gl (b : Below w.heap.size w u) hg hr => IFace13.iBooksRead u gl len0 zs _ _ (by rw [unhide HL]; exact h20) (by rw [unhide HL]; exact Nat.le_refl _) hg hr ((b.cell (p := ⟨0, 0, none⟩) z0).trans (E.v 0 (by omega))))
  clear z0
  rw [unhide HL] at SP IM
  generalize readB zs = rb at *
  obtain ⟨rb, ok⟩ := rb
  have q1 : (ok != ok) = false := by simp
  go_enter Tryz.func3, Tryz.ntmps3
  go_wp2_with fail
  refine (ByteH.toByteS _ a0 len0 cap0 zs (unhide HL) (by omega) ((unhide R0).below (unhide B))).mono ?_
  rintro e u1 ⟨rfl, ox, bb⟩
  replace B := hide ((unhide B).trans (bb.mono (unhide B).size))
  have OX1 := hide ox
  clear bb ox
  go_wp2_with fail
  refine ((unhide SP) u1 _ (unhide OX1).lt.2 (Law11.atB (unhide OX1) (unhide IN))).mono ?_
  rintro e u2 ⟨y2, hy2, rfl, rw2, bb⟩
  have HY2 := hide (show y2.b = rb from hy2)
  have SMB := hide (show Small rb from by rw [← unhide HY2]; exact ⟨rw2.na, rw2.ni, rw2.nb, rw2.nl, rw2.nt⟩)
  replace B := hide ((unhide B).trans (bb.mono (unhide B).size))
  have BW := hide (unhide B).size
  have bw := one_more u2 (.cells #[.slice y2.aa y2.b.ac.length y2.ca, .slice y2.ai y2.b.ic.length y2.ci, .slice y2.ab y2.b.bs.length y2.cb, .slice y2.al y2.b.ls.length y2.cl, .slice y2.ats y2.b.ts.length y2.ct, .int .i64 y2.b.lot] 29)
  have UW := hide (up_of rw2)
  have RW := hide (rw2.below bw)
  have KW := hide (Kx.made u2 y2 29)
  replace B := hide ((unhide B).trans (bw.mono (unhide B).size))
  have z2 : (u2.alloc (.cells #[.slice y2.aa y2.b.ac.length y2.ca, .slice y2.ai y2.b.ic.length y2.ci, .slice y2.ab y2.b.bs.length y2.cb, .slice y2.al y2.b.ls.length y2.cl, .slice y2.ats y2.b.ts.length y2.ct, .int .i64 y2.b.lot] 29)).heap.size = u2.heap.size + 1 := by simp
  have Z2 := hide z2
  clear bb bw rw2 OX1 z2 hy2
  go_wp2_with fail
  refine (ByteH.toByteS _ a0 len0 cap0 zs (unhide HL) (by omega) ((unhide R0).below (unhide B))).mono ?_
  rintro e u3 ⟨rfl, ox, bb⟩
  replace B := hide ((unhide B).trans (bb.mono (unhide B).size))
  replace RW := hide ((unhide RW).below bb)
  replace KW := hide ((unhide KW).step bb)
  rw [unhide Z2] at ox ⊢
  have L3 := hide ox.lt
  have OX := hide ox
  clear bb ox
  go_wp2_with fail
  refine ((unhide IM) u3 _ (unhide B) (unhide OX).lt.2 (Law11.atB (unhide OX) (unhide IN))).mono ?_
  rintro e u4 ⟨y4, hy4, rfl, og, bb⟩
  have HY4 := hide (show y4.b = rb from hy4)
  replace B := hide ((unhide B).trans (bb.mono (unhide B).size))
  replace RW := hide ((unhide RW).below bb)
  replace KW := hide ((unhide KW).step bb)
  replace OX := hide ((unhide OX).below bb (unhide OX).lt.2)
  have bg := one_more u4 (.cells #[.slice y4.aa y4.b.ac.length y4.ca, .slice y4.ai y4.b.ic.length y4.ci, .slice y4.ab y4.b.bs.length y4.cb, .slice y4.al y4.b.ls.length y4.cl, .slice y4.ats y4.b.ts.length y4.ct, .int .i64 y4.b.lot] 29)
  have S4 := hide bb.size
  have BZ := hide (show w.heap.size ≤ u3.heap.size from by have := unhide BW; have := unhide L3; omega)
  have NG := hide (not_own og (Nat.le_refl _))
  have OG := hide (og.step bg)
  have KG := hide (Kx.made u4 y4 29)
  replace B := hide ((unhide B).trans (bg.mono (unhide B).size))
  replace RW := hide ((unhide RW).below bg)
  replace KW := hide ((unhide KW).step bg)
  replace OX := hide ((unhide OX).below bg (unhide OX).lt.2)
  clear bb bg og hy4
  have g0 := (unhide KG).c.c0
  have g1 := (unhide KG).c.c1
  have g2 := (unhide KG).c.c2
  have g3 := (unhide KG).c.c3
  have g4 := (unhide KG).c.c4
  have g5 := (unhide KG).c.c5
  have v0 := (unhide KW).c.c0
  have v1 := (unhide KW).c.c1
  have v2 := (unhide KW).c.c2
  have v3 := (unhide KW).c.c3
  have v4 := (unhide KW).c.c4
  have v5 := (unhide KW).c.c5
  go_wp2_with fail
  refine (eqBV _ y4 y2 (by rw [unhide HY2, unhide HY4]) ((unhide OG).rd (by rw [unhide HY4]; exact unhide SMB)) (unhide RW)).mono ?_
  rintro e u5 ⟨rfl, bb⟩
  clear g0 g1 g2 g3 g4 g5
  clear v0 v1 v2 v3 v4 v5
  replace B := hide ((unhide B).trans (bb.mono (unhide B).size))
  replace RW := hide ((unhide RW).below bb)
  replace KW := hide ((unhide KW).step bb)
  replace OX := hide ((unhide OX).below bb (unhide OX).lt.2)
  replace OG := hide ((unhide OG).step bb)
  replace KG := hide ((unhide KG).step bb)
  clear bb
  go_wp2_with fail
  refine (ByteH.toByteS _ a0 len0 cap0 zs (unhide HL) (by omega) ((unhide R0).below (unhide B))).mono ?_
  rintro e u6 ⟨rfl, oy, bb⟩
  replace B := hide ((unhide B).trans (bb.mono (unhide B).size))
  replace RW := hide ((unhide RW).below bb)
  replace KW := hide ((unhide KW).step bb)
  replace OX := hide ((unhide OX).below bb (unhide OX).lt.2)
  replace OG := hide ((unhide OG).step bb)
  replace KG := hide ((unhide KG).step bb)
  have OY := hide oy
  clear bb oy
  go_wp2_with fail
  refine (ByteH.eqByteS _ _ _ len0 _ _ zs (unhide HL) (by omega) (unhide OX).at (unhide OY).at).mono ?_
  rintro e u7 ⟨rfl, bb⟩
  replace B := hide ((unhide B).trans (bb.mono (unhide B).size))
  replace RW := hide ((unhide RW).below bb)
  replace KW := hide ((unhide KW).step bb)
  replace OX := hide ((unhide OX).below bb (unhide OX).lt.2)
  replace OG := hide ((unhide OG).step bb)
  replace KG := hide ((unhide KG).step bb)
  clear bb OY
  go_wp2_with fail
  refine (ByteH.markByteS _ _ _ len0 _ 1 zs (by omega) (by omega) (by omega) (unhide OX)).mono ?_
  rintro e u8 ⟨rfl, ox, gr⟩
  have l3 := unhide L3
  have s4 := unhide S4
  have kw := (unhide KW).lt
  have OXL := hide (unhide OX).lt
  replace RW := hide (rd_low (unhide RW) (unhide UW) ((Below.refl _ _).grown gr (by omega) (fun j hj => by cases hj; omega)))
  replace KW := hide ((unhide KW).kept gr (fun e => by injection e with e; omega))
  replace OG := hide (own_kept (unhide OG) gr (by omega))
  replace KG := hide ((unhide KG).kept gr (fun e => by injection e with e; omega))
  replace B := hide ((unhide B).grown gr (unhide B).size (fun j hj => by cases hj; have := unhide L3; have := (unhide BW); omega))
  clear gr ox OX l3 s4 kw OXL
  have k0 : ¬ (1 + (len0 : Int) < 0) := by omega
  have g0 := (unhide KG).c.c0
  have g1 := (unhide KG).c.c1
  have g2 := (unhide KG).c.c2
  have g3 := (unhide KG).c.c3
  have g4 := (unhide KG).c.c4
  have g5 := (unhide KG).c.c5
  have v0 := (unhide KW).c.c0
  have v1 := (unhide KW).c.c1
  have v2 := (unhide KW).c.c2
  have v3 := (unhide KW).c.c3
  have v4 := (unhide KW).c.c4
  have v5 := (unhide KW).c.c5
  go_wp2_with fail
  refine (eqBV _ y4 y2 (by rw [unhide HY2, unhide HY4]) ((unhide OG).rd (by rw [unhide HY4]; exact unhide SMB)) (unhide RW)).mono ?_
  rintro e u9 ⟨rfl, bb⟩
  clear g0 g1 g2 g3 g4 g5
  clear v0 v1 v2 v3 v4 v5
  replace B := hide ((unhide B).trans (bb.mono (unhide B).size))
  replace RW := hide ((unhide RW).below bb)
  replace KW := hide ((unhide KW).step bb)
  replace OG := hide ((unhide OG).step bb)
  replace KG := hide ((unhide KG).step bb)
  clear bb
  clear k0
  have g0 := (unhide KG).c.c0
  have g1 := (unhide KG).c.c1
  have g2 := (unhide KG).c.c2
  have g3 := (unhide KG).c.c3
  have g4 := (unhide KG).c.c4
  have g5 := (unhide KG).c.c5
  have SY := hide (show Small y4.b from by rw [unhide HY4]; exact unhide SMB)
  have EX := (e_bd (unhide SY)).2.2.2.2
  obtain ⟨ex, hex⟩ : ∃ ex, Hid (e5 y4.b = ex) := ⟨_, rfl⟩
  have ex0 : ¬ ex < 0 := by rw [← unhide hex]; omega
  have ex1 : (ex != ex) = false := by simp
  clear EX
  go_wp2_with fail
  refine (markBV _ u3.heap.size y4 (unhide OG) (by have := unhide S4; have := (unhide KG).lt; omega) (unhide SY)).mono ?_
  rintro e u10 ⟨he, om, tn⟩
  rw [unhide hex] at he
  subst he
  have bl := tn.below (unhide OG) (by have := unhide S4; have := (unhide KG).lt; omega)
  have ng := unhide NG
  replace RW := hide (rd_low (unhide RW) (up_mono (unhide UW) (by have := unhide L3; omega)) bl)
  replace KW := hide ((unhide KW).turn tn (low_ne (unhide OG).oa (by have := unhide L3; omega)) (low_ne (unhide OG).oi (by have := unhide L3; omega)) (low_ne (unhide OG).ob (by have := unhide L3; omega)) (low_ne (unhide OG).ol (by have := unhide L3; omega)) (low_ne (unhide OG).ot (by have := unhide L3; omega)))
  replace KG := hide ((unhide KG).turn tn ng.1 ng.2.1 ng.2.2.1 ng.2.2.2.1 ng.2.2.2.2)
  replace B := hide ((unhide B).trans (bl.mono (by have := unhide BZ; omega)))
  have OM := hide om
  clear g0 g1 g2 g3 g4 g5
  clear tn bl ng om OG
  have g0 := (unhide KG).c.c0
  have g1 := (unhide KG).c.c1
  have g2 := (unhide KG).c.c2
  have g3 := (unhide KG).c.c3
  have g4 := (unhide KG).c.c4
  have g5 := (unhide KG).c.c5
  go_wp2_with fail
  refine (heldBV _ _ y4 (unhide OM) (unhide SY)).mono ?_
  rintro e u11 ⟨he, bb⟩
  rw [unhide hex] at he
  subst he
  clear g0 g1 g2 g3 g4 g5
  replace B := hide ((unhide B).trans (bb.mono (unhide B).size))
  replace RW := hide ((unhide RW).below bb)
  replace KW := hide ((unhide KW).step bb)
  replace OM := hide ((unhide OM).step bb)
  replace KG := hide ((unhide KG).step bb)
  clear bb
  go_wp2_with fail
  refine (ByteH.toByteS _ a0 len0 cap0 zs (unhide HL) (by omega) ((unhide R0).below (unhide B))).mono ?_
  rintro e u12 ⟨rfl, ox, bb⟩
  replace B := hide ((unhide B).trans (bb.mono (unhide B).size))
  replace RW := hide ((unhide RW).below bb)
  replace KW := hide ((unhide KW).step bb)
  replace OM := hide ((unhide OM).step bb)
  replace KG := hide ((unhide KG).step bb)
  have OX12 := hide ox
  clear bb ox
  go_wp2_with fail
  refine ((unhide IM) u12 _ (unhide B) (unhide OX12).lt.2 (Law11.atB (unhide OX12) (unhide IN))).mono ?_
  rintro e u13 ⟨y6, hy6, rfl, oh, bb⟩
  have HY6 := hide (show y6.b = rb from hy6)
  replace B := hide ((unhide B).trans (bb.mono (unhide B).size))
  replace RW := hide ((unhide RW).below bb)
  replace KW := hide ((unhide KW).step bb)
  replace OM := hide ((unhide OM).step bb)
  replace KG := hide ((unhide KG).step bb)
  have bg := one_more u13 (.cells #[.slice y6.aa y6.b.ac.length y6.ca, .slice y6.ai y6.b.ic.length y6.ci, .slice y6.ab y6.b.bs.length y6.cb, .slice y6.al y6.b.ls.length y6.cl, .slice y6.ats y6.b.ts.length y6.ct, .int .i64 y6.b.lot] 29)
  have RH := hide ((oh.rd (by rw [unhide HY6]; exact unhide SMB)).below bg)
  have KH := hide (Kx.made u13 y6 29)
  replace B := hide ((unhide B).trans (bg.mono (unhide B).size))
  replace RW := hide ((unhide RW).below bg)
  replace KW := hide ((unhide KW).step bg)
  replace OM := hide ((unhide OM).step bg)
  replace KG := hide ((unhide KG).step bg)
  clear bb bg oh hy6 OX12
  have g0 := (unhide KH).c.c0
  have g1 := (unhide KH).c.c1
  have g2 := (unhide KH).c.c2
  have g3 := (unhide KH).c.c3
  have g4 := (unhide KH).c.c4
  have g5 := (unhide KH).c.c5
  have v0 := (unhide KW).c.c0
  have v1 := (unhide KW).c.c1
  have v2 := (unhide KW).c.c2
  have v3 := (unhide KW).c.c3
  have v4 := (unhide KW).c.c4
  have v5 := (unhide KW).c.c5
  go_wp2_with fail
  refine (eqBV _ y6 y2 (by rw [unhide HY2, unhide HY6]) (unhide RH) (unhide RW)).mono ?_
  rintro e u14 ⟨rfl, bb⟩
  clear g0 g1 g2 g3 g4 g5
  clear v0 v1 v2 v3 v4 v5
  replace B := hide ((unhide B).trans (bb.mono (unhide B).size))
  replace RW := hide ((unhide RW).below bb)
  replace KW := hide ((unhide KW).step bb)
  replace OM := hide ((unhide OM).step bb)
  replace KG := hide ((unhide KG).step bb)
  replace RH := hide ((unhide RH).below bb)
  replace KH := hide ((unhide KH).step bb)
  clear bb
  have g0 := (unhide KG).c.c0
  have g1 := (unhide KG).c.c1
  have g2 := (unhide KG).c.c2
  have g3 := (unhide KG).c.c3
  have g4 := (unhide KG).c.c4
  have g5 := (unhide KG).c.c5
  go_wp2_with fail
  refine (heldBV _ _ y4 (unhide OM) (unhide SY)).mono ?_
  rintro e u15 ⟨he, bb⟩
  rw [unhide hex] at he
  subst he
  clear g0 g1 g2 g3 g4 g5
  replace B := hide ((unhide B).trans (bb.mono (unhide B).size))
  replace RW := hide ((unhide RW).below bb)
  replace KW := hide ((unhide KW).step bb)
  replace OM := hide ((unhide OM).step bb)
  replace KG := hide ((unhide KG).step bb)
  clear bb
  go_wp2
  go_ret
  exact ⟨rfl, unhide B⟩

theorem cons {W : World} {x : String × DataW Unit} {l : List (String × DataW Unit)} {al : List Addr} (h : LaidE.Fits W (x :: l) al) : ∃ a r, al = a :: r ∧ (W.var? Tryz.prog x.1 = some #[.iface 161 (.pointer (some a))] ∧ ∃ c t, W.heap[a.block]? = some (.cells c t (0, 0))) ∧ LaidE.Fits W l r := by
  cases al with
  | nil => exact h.elim
  | cons a r => exact ⟨a, r, rfl, h.1, h.2⟩
theorem named : LaidE.Named Rows.fnExactBooksReadRow.laid := by
  intro x hx
  rcases List.mem_cons.1 hx with rfl | hx
  · exact ⟨⟨0, by kernel_rfl, by kernel_rfl⟩, _, rfl⟩
  · cases hx
theorem errs {W : World} (h : laidMetH Tryz.prog Rows.fnExactBooksReadRow.laid W) : ∃ a0 a1 a2 a3 a4, Errs.Errs W 1 W.heap.size (LaidE.at5 a0 a1 a2 a3 a4) ∧ LaidE.Holds W Rows.fnExactBooksReadSpec.vars [0] [.iface 161 (.pointer (some a0))] := by
  obtain ⟨al, hf, nd⟩ := LaidE.fits_laid named h
  obtain ⟨a0, r, rfl, ⟨v0, o0⟩, hf⟩ := cons hf
  obtain rfl : r = [] := by cases r with | nil => rfl | cons => exact hf.elim
  have vars : LaidE.Holds W Rows.fnExactBooksReadSpec.vars [0] [.iface 161 (.pointer (some a0))] := ⟨⟨by kernel_rfl, by kernel_rfl, v0, trivial⟩, trivial⟩
  refine ⟨a0, a0, a0, a0, a0, ⟨fun k hk => ?_, fun k hk => ?_, fun j k hj hk h => ?_, fun k hk => ?_⟩, vars⟩
  · rcases (show k = 0 by omega) with rfl
    · exact LaidE.cell_of (by kernel_rfl) v0
  · rcases (show k = 0 by omega) with rfl
    · exact ⟨LaidE.var_lt (by kernel_rfl) v0, LaidE.row_lt o0⟩
  · rcases (show j = 0 by omega) with rfl <;> rcases (show k = 0 by omega) with rfl <;> first | exact absurd rfl h | (intro e; have e : _ = _ := e; simp [LaidE.at5] at e; subst e; simp at nd)
  · rcases (show k = 0 by omega) with rfl
    · exact o0

set_option maxRecDepth 100000 in
theorem contract (H : Type) (enc : TypeId × Value → H) (W : World) (base : Nat) (args : Array Value) (ds gs : List (DataW H)) (before : List MemPlace)
    (hval0 : ∀ (j : Nat) t v, Tryz.f3.params[j]? = some t → args[j]? = some v → Value.okWide Tryz.prog W .any base t v)
    (hW : DataW.Whole enc Tryz.prog Tryz.f3.params.toList Rows.fnExactBooksReadSpec.vars false W args.toList ds gs before) (hL : laidMetH Tryz.prog Rows.fnExactBooksReadRow.laid W) :
    Calls Tryz.prog 3 args W fun e W' => ∃ v, e = .returned v ∧ Rows.fnExactBooksReadSpec.post enc Tryz.prog Tryz.f3 false true false false W args v W' := by
  have hval : ∀ (j : Nat) t v, Tryz.f3.params[j]? = some t → args[j]? = some v → Value.okWide Tryz.prog W .any base t v := hval0
  have hW' := hW
  obtain ⟨p, q, hA0, hV, rfl, hfz, hnd⟩ := hW
  have hA : DataW.TrodAll enc Tryz.prog W 0 (fun _ => true) true Tryz.f3.params.toList args.toList ds p := hA0
  rw [Tryz.params3] at hA hval
  obtain ⟨v0, vs0, d0, ds0, p0, q0, hargs, rfl, rfl, h0, r0⟩ := trodAll_cons hA
  obtain ⟨rfl, rfl, rfl⟩ := trodAll_nil r0
  obtain rfl : args = #[v0] := by cases args; simp_all
  obtain ⟨a0, a1, a2, a3, a4, HE, HH⟩ := errs hL
  obtain ⟨rfl, rfl⟩ := hV.unique (HH.read enc _)
  obtain ⟨a0, len0, cap0, rfl⟩ := okWide_slice Tryz.underlying22 (hval 0 22 v0 rfl rfl)
  have k0 := h0
  have lt0 : ∀ x ∈ p0, x.block < W.heap.size := by obtain ⟨m, hm⟩ := k0; exact DataW.trod_lt m _ _ _ hm
  obtain ⟨z0, w0⟩ : ∃ zs, Ints.IsRow .u8 W a0 len0 cap0 zs := by
    obtain ⟨fuel, hf⟩ := h0
    rcases open_ints Tryz.underlying22 Tryz.underlying5 (by kernel_rfl) hf with ⟨hcs, _⟩ | ⟨x, l, c, zs, hcs, _, hl, hm, hz, _, hcell, hwz⟩
    · simp [Value.cells] at hcs
      obtain ⟨rfl, rfl, rfl⟩ := hcs
      exact ⟨[], .inl ⟨rfl, rfl, rfl, rfl⟩⟩
    · simp [Value.cells] at hcs
      obtain ⟨rfl, rfl, rfl⟩ := hcs
      exact ⟨zs, .inr ⟨_, rfl, hl, hm, by simpa using hz, hcell, hwz⟩⟩
  clear hA0
  refine (walk a0 len0 cap0 z0 W w0 W.heap.size _ HE (Nat.le_refl _)).mono fun e W' ⟨he, bel⟩ => ?_
  subst he
  exact ⟨_, rfl, _, _, _, [], _, _, hW', trodAll_mk1 (shut_bool Tryz.underlying4 _), (trodAll_cons_mk (Below.trod laidOut (by kernel_rfl) (of_decide_eq_true (by kernel_rfl)) k0 bel lt0) trodAll_mk0), (HH.below bel).read enc _, bel.frame _, fun h => by cases h⟩

set_option maxRecDepth 100000 in
theorem laid_met (os : Os) : laidMet Tryz.prog Rows.fnExactBooksReadRow.laid ((let w0 := (World.holding Tryz.prog os ⟨#[.cells #[.string { data := #[116, 104, 101, 32, 98, 121, 116, 101, 115, 32, 97, 114, 101, 32, 111, 102, 32, 110, 111, 32, 98, 111, 111, 107, 115] }] 178], #[], []⟩); { w0 with heap := (w0.heap.modify 0 fun | .cells _ t z => .cells #[.iface 161 (.pointer (some ⟨6, 0, none⟩))] t z | o => o) } : World).forCall (fun _ _ => 0) ⟨#[], #[.slice none 0 0], []⟩).memory :=
  laidMet_of_run' 8 (by kernel_rfl) (by kernel_rfl)
set_option maxRecDepth 100000 in
theorem lifted (os : Os) (started : os.Started) (H : Type) (enc : TypeId × Value → H) (F : Stop.Interp) :
    ReturnsInHanded {} Tryz.checked os 3 .any ((OpenSpec.ofChange Rows.fnExactBooksReadSpec).preRow enc Tryz.prog Tryz.f3 Rows.fnExactBooksReadRow.domain false Rows.fnExactBooksReadRow.laid) (((OpenSpec.ofChange Rows.fnExactBooksReadSpec).at F).post enc Tryz.prog Tryz.f3 false true false false) := by
  refine returnsInHanded_of_row (C := Tryz.checked) (s := OpenSpec.ofChange Rows.fnExactBooksReadSpec) own started (by kernel_rfl) Tryz.func3
    (witness_row_at (enc := enc) (C := Tryz.checked) false (let w0 := (World.holding Tryz.prog os ⟨#[.cells #[.string { data := #[116, 104, 101, 32, 98, 121, 116, 101, 115, 32, 97, 114, 101, 32, 111, 102, 32, 110, 111, 32, 98, 111, 111, 107, 115] }] 178], #[], []⟩); { w0 with heap := (w0.heap.modify 0 fun | .cells _ t z => .cells #[.iface 161 (.pointer (some ⟨6, 0, none⟩))] t z | o => o) } : World) #[.slice none 0 0] rfl (by kernel_rfl) (by kernel_rfl) (by kernel_rfl)
      (OpenSpec.preRow_of_B rfl 8 (by kernel_rfl) (by kernel_rfl) (laid_met os))) ?_
  intro W base args ds gs before hval hW _ _ _ hL _ _
  exact contract H enc W base args ds gs before hval hW hL

theorem said : Rows.FnExactBooksReadSaid :=
  OpenClaim.holds_of_cond 3 Tryz.f3 rfl rfl rfl rfl rfl rfl rfl ⟨rfl, rfl, rfl, rfl, rfl⟩ rfl rfl rfl rfl rfl (by kernel_rfl) Tryz.func3 (by kernel_rfl)
    (of_decide_eq_true (by kernel_rfl)) (by unfold Func.isWrapper; first | (rw [if_pos (by decide +kernel)]; kernel_rfl) | (rw [if_neg (by decide +kernel)]; exact ⟨rfl, rfl⟩))
    (fun os started H enc _ F => by rw [OpenClaim.pre_eq_preRow]; exact lifted os started H enc F)

theorem plain (f : FuncId) (fn : Func) (hf : Tryz.pinned.checked.prog.funcNamed Rows.fnExactBooksReadRow.func = some f) (hfn : Tryz.pinned.checked.prog.funcs[f]? = some fn) :
    false = Tryz.pinned.checked.prog.looks [] ∧ ∀ (j : Nat) t, fn.params[j]? = some t → Tryz.pinned.checked.prog.wantsStandIn t = false := by
  obtain rfl : f = 3 := Option.some.inj ((show Tryz.prog.funcNamed Rows.fnExactBooksReadRow.func = some 3 by kernel_rfl).symm.trans hf) |>.symm
  obtain rfl : fn = Tryz.f3 := (Option.some.inj (Tryz.func3.symm.trans hfn)).symm
  refine ⟨by kernel_rfl, fun j t ht => ?_⟩
  have al : (Tryz.f3.params.all fun t => Tryz.prog.wantsStandIn t == false) = true := by kernel_rfl
  have q := Array.all_eq_true'.1 al t (Array.mem_of_getElem? ht)
  have q : Tryz.prog.wantsStandIn t = false := by simpa using q
  exact q

/-- The statement: the card. -/
theorem proved : Rows.FnExactBooksReadCardSaid :=
  Claim7.holds_tied_plain_at .later [] _ _ _ _ said (fun _ h => by cases h) (by kernel_rfl) (fun _ h => by cases h) fnExactBooksRead_row_tie rfl ⟨rfl, rfl⟩ (by kernel_rfl) rfl plain (by kernel_rfl)
#print axioms proved
end Go.Proofs.YtefcigaalgfmiaaGreatDoor.fnExactBooksRead
