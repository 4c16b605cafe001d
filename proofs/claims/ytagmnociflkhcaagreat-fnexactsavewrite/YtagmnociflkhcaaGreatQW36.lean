/- Texts of one proof, one behind the other: SaveH16, LawV16. -/
import Derived.Test.YtagmnociflkhcaaGreatRows
import Derived.Test.YtagmnociflkhcaaGreatQW0
import Derived.Test.YtagmnociflkhcaaGreatQW3
import Derived.Test.YtagmnociflkhcaaGreatQW9
import Derived.Test.YtagmnociflkhcaaGreatQW14
import Derived.Test.YtagmnociflkhcaaGreatQW31
import Derived.Test.YtagmnociflkhcaaGreatQW32
import Derived.Test.YtagmnociflkhcaaGreatQW35
set_option linter.unusedVariables false
set_option linter.unusedSimpArgs false
open Go.ChangeShapes Go.WideShapes Go.ChangeAt Go.RowKit
set_option maxRecDepth 100000
set_option maxHeartbeats 32000000
namespace Go.Proofs.YtagmnociflkhcaaGreat
namespace SaveH16
open BMem Bks BHelp BkEq
open IBalsFit (one_more)
open ILists (boxed)
open SSave16 (Sv)
open Bx16
theorem szBG(w:World)(y:Ix)(left:Int)(h0:0≤left)(h1:left≤1048576)(hf:Fits y.b):
  Calls Tryz.prog 21 #[.agg #[.slice y.aa y.b.ac.length y.ca,.slice y.ai y.b.ic.length y.ci,.slice y.ab y.b.bs.length y.cb,.slice y.al y.b.ls.length y.cl,.slice y.ats y.b.ts.length y.ct,.int .i64 y.b.lot],.int .i64 left] w fun e w'=>∃r,e= .returned (.int .i64 r)∧(r= -1∨(0≤r∧Small y.b))∧Below w.heap.size w w':=by
 obtain⟨fa,fi,fb,fl,ft⟩:=hf
 have B0:=zh ((Below.refl w.heap.size w).alloc (Nat.le_refl _) (.cells #[.slice y.aa y.b.ac.length y.ca,.slice y.ai y.b.ic.length y.ci,.slice y.ab y.b.bs.length y.cb,.slice y.al y.b.ls.length y.cl,.slice y.ats y.b.ts.length y.ct,.int .i64 y.b.lot] 28))
 go_enter Tryz.func21,Tryz.ntmps21
 go_wp2_with fail
 by_cases q0:(y.b.ac.length:Int)≤left
 rotate_left
 ·refine(AccountMark.sz_no _ _ _ left _ q0 (by omega) (by omega) fa).mono ?_
  rintro e u ⟨rfl,rfl⟩
  go_wp2
  go_ret
  exact⟨-1,rfl,.inl rfl,zu B0⟩
 refine(AccountMark.sz_yes _ _ _ left _ q0 (by omega)).mono ?_
 rintro e u0 ⟨rfl,rfl⟩
 obtain⟨m0,hm0⟩:∃m:Int,Hid (m=left-(y.b.ac.length:Int)):=⟨_,rfl⟩
 rw[←zu hm0]
 have M0:0≤m0∧m0≤1048576:=by have:=zu hm0;omega
 have Q0:=zh q0
 clear q0
 go_wp2_with fail
 by_cases q1:(y.b.ic.length:Int)≤m0
 rotate_left
 ·refine(InstrMark.sz_no _ _ _ m0 _ q1 (by omega) (by omega) fi).mono ?_
  rintro e u ⟨rfl,rfl⟩
  go_wp2
  go_ret
  exact⟨-1,rfl,.inl rfl,zu B0⟩
 refine(InstrMark.sz_yes _ _ _ m0 _ q1 (by omega)).mono ?_
 rintro e u1 ⟨rfl,rfl⟩
 obtain⟨m1,hm1⟩:∃m:Int,Hid (m=m0-(y.b.ic.length:Int)):=⟨_,rfl⟩
 rw[←zu hm1]
 have M1:0≤m1∧m1≤1048576:=by have:=zu hm1;omega
 have Q1:=zh q1
 clear q1
 go_wp2_with fail
 by_cases q2:(y.b.bs.length:Int)≤m1
 rotate_left
 ·refine(BalHelp.sz_no _ _ _ m1 _ q2 (by omega) (by omega) fb).mono ?_
  rintro e u ⟨rfl,rfl⟩
  go_wp2
  go_ret
  exact⟨-1,rfl,.inl rfl,zu B0⟩
 refine(BalHelp.sz_yes _ _ _ m1 _ q2 (by omega)).mono ?_
 rintro e u2 ⟨rfl,rfl⟩
 obtain⟨m2,hm2⟩:∃m:Int,Hid (m=m1-(y.b.bs.length:Int)):=⟨_,rfl⟩
 rw[←zu hm2]
 have M2:0≤m2∧m2≤1048576:=by have:=zu hm2;omega
 have Q2:=zh q2
 clear q2
 go_wp2_with fail
 by_cases q3:(y.b.ls.length:Int)≤m2
 rotate_left
 ·refine(LotHelp.sz_no _ _ _ m2 _ q3 (by omega) (by omega) fl).mono ?_
  rintro e u ⟨rfl,rfl⟩
  go_wp2
  go_ret
  exact⟨-1,rfl,.inl rfl,zu B0⟩
 refine(LotHelp.sz_yes _ _ _ m2 _ q3 (by omega)).mono ?_
 rintro e u3 ⟨rfl,rfl⟩
 obtain⟨m3,hm3⟩:∃m:Int,Hid (m=m2-(y.b.ls.length:Int)):=⟨_,rfl⟩
 rw[←zu hm3]
 have M3:0≤m3∧m3≤1048576:=by have:=zu hm3;omega
 have Q3:=zh q3
 clear q3
 go_wp2_with fail
 by_cases q4:(y.b.ts.length:Int)≤m3
 rotate_left
 ·refine(TradeHelp.sz_no _ _ _ m3 _ q4 (by omega) (by omega) ft).mono ?_
  rintro e u ⟨rfl,rfl⟩
  go_wp2
  go_ret
  exact⟨-1,rfl,.inl rfl,zu B0⟩
 refine(TradeHelp.sz_yes _ _ _ m3 _ q4 (by omega)).mono ?_
 rintro e u4 ⟨rfl,rfl⟩
 obtain⟨m4,hm4⟩:∃m:Int,Hid (m=m3-(y.b.ts.length:Int)):=⟨_,rfl⟩
 rw[←zu hm4]
 have M4:0≤m4∧m4≤1048576:=by have:=zu hm4;omega
 have Q4:=zh q4
 clear q4
 have SM:=zh (show Small y.b from by
  have a0:=zu Q0
  have a1:=zu Q1
  have a2:=zu Q2
  have a3:=zu Q3
  have a4:=zu Q4
  exact⟨by omega,by omega,by omega,by omega,by omega⟩)
 go_wp2
 go_ret
 exact⟨m4,rfl,.inr ⟨M4.1,zu SM⟩,zu B0⟩
def g1(s:Int)(b:Bk):Int:=s+2*(b.ac.length:Int)
def g2(s:Int)(b:Bk):Int:=g1 s b+2*(b.ic.length:Int)
def g3(s:Int)(b:Bk):Int:=g2 s b+3*(b.bs.length:Int)
def g4(s:Int)(b:Bk):Int:=g3 s b+5*(b.ls.length:Int)
def g5(s:Int)(b:Bk):Int:=g4 s b+8*(b.ts.length:Int)
theorem g_bd{s:Int}{b:Bk}(s0:0≤s)(s1:s≤10000000)(h:Small b):(0≤g1 s b∧g1 s b≤100000000)∧(0≤g2 s b∧g2 s b≤100000000)∧(0≤g3 s b∧g3 s b≤100000000)∧(0≤g4 s b∧g4 s b≤100000000)∧(0≤g5 s b∧g5 s b≤100000000):=by
 obtain⟨h1,h2,h3,h4,h5⟩:=h
 unfold g5 g4 g3 g2 g1
 omega
theorem markBG(w:World)(base:Nat)(x:Bx)(s:Int)(s0:0≤s)(s1:s≤10000000)(h:Ow w base x)(hs:Small x.b):
  Calls Tryz.prog 49 #[.agg #[.slice (some ⟨x.ga,0,none⟩) x.b.ac.length x.ca,.slice (some ⟨x.gi,0,none⟩) x.b.ic.length x.ci,.slice (some ⟨x.gb,0,none⟩) x.b.bs.length x.cb,.slice (some ⟨x.gl,0,none⟩) x.b.ls.length x.cl,.slice (some ⟨x.gt,0,none⟩) x.b.ts.length x.ct,.int .i64 x.b.lot],.int .i64 s] w fun e w'=>e= .returned (.int .i64 (g5 s x.b))∧Turn x w w':=by
 obtain⟨⟨l1,u1⟩,⟨l2,u2⟩,⟨l3,u3⟩,⟨l4,u4⟩,⟨l5,u5⟩⟩:=g_bd s0 s1 hs
 obtain⟨na,ni,nb,nl,nt⟩:=hs
 have xai:x.ga≠x.gi:=row_apart h.oa h.oi (by decide)
 have xab:x.ga≠x.gb:=row_apart h.oa h.ob (by decide)
 have xal:x.ga≠x.gl:=row_apart h.oa h.ol (by decide)
 have xat:x.ga≠x.gt:=row_apart h.oa h.ot (by decide)
 have xib:x.gi≠x.gb:=row_apart h.oi h.ob (by decide)
 have xil:x.gi≠x.gl:=row_apart h.oi h.ol (by decide)
 have xit:x.gi≠x.gt:=row_apart h.oi h.ot (by decide)
 have xbl:x.gb≠x.gl:=row_apart h.ob h.ol (by decide)
 have xbt:x.gb≠x.gt:=row_apart h.ob h.ot (by decide)
 have xlt:x.gl≠x.gt:=row_apart h.ol h.ot (by decide)
 have za:w.heap.size≠x.ga:=by have:=h.oa.lt;omega
 have Oa:=zh (h.oa.alloc (.cells #[.slice (some ⟨x.ga,0,none⟩) x.b.ac.length x.ca,.slice (some ⟨x.gi,0,none⟩) x.b.ic.length x.ci,.slice (some ⟨x.gb,0,none⟩) x.b.bs.length x.cb,.slice (some ⟨x.gl,0,none⟩) x.b.ls.length x.cl,.slice (some ⟨x.gt,0,none⟩) x.b.ts.length x.ct,.int .i64 x.b.lot] 40))
 have zi:w.heap.size≠x.gi:=by have:=h.oi.lt;omega
 have Oi:=zh (h.oi.alloc (.cells #[.slice (some ⟨x.ga,0,none⟩) x.b.ac.length x.ca,.slice (some ⟨x.gi,0,none⟩) x.b.ic.length x.ci,.slice (some ⟨x.gb,0,none⟩) x.b.bs.length x.cb,.slice (some ⟨x.gl,0,none⟩) x.b.ls.length x.cl,.slice (some ⟨x.gt,0,none⟩) x.b.ts.length x.ct,.int .i64 x.b.lot] 40))
 have zb:w.heap.size≠x.gb:=by have:=h.ob.lt;omega
 have Ob:=zh (h.ob.alloc (.cells #[.slice (some ⟨x.ga,0,none⟩) x.b.ac.length x.ca,.slice (some ⟨x.gi,0,none⟩) x.b.ic.length x.ci,.slice (some ⟨x.gb,0,none⟩) x.b.bs.length x.cb,.slice (some ⟨x.gl,0,none⟩) x.b.ls.length x.cl,.slice (some ⟨x.gt,0,none⟩) x.b.ts.length x.ct,.int .i64 x.b.lot] 40))
 have zl:w.heap.size≠x.gl:=by have:=h.ol.lt;omega
 have Ol:=zh (h.ol.alloc (.cells #[.slice (some ⟨x.ga,0,none⟩) x.b.ac.length x.ca,.slice (some ⟨x.gi,0,none⟩) x.b.ic.length x.ci,.slice (some ⟨x.gb,0,none⟩) x.b.bs.length x.cb,.slice (some ⟨x.gl,0,none⟩) x.b.ls.length x.cl,.slice (some ⟨x.gt,0,none⟩) x.b.ts.length x.ct,.int .i64 x.b.lot] 40))
 have zt:w.heap.size≠x.gt:=by have:=h.ot.lt;omega
 have Ot:=zh (h.ot.alloc (.cells #[.slice (some ⟨x.ga,0,none⟩) x.b.ac.length x.ca,.slice (some ⟨x.gi,0,none⟩) x.b.ic.length x.ci,.slice (some ⟨x.gb,0,none⟩) x.b.bs.length x.cb,.slice (some ⟨x.gl,0,none⟩) x.b.ls.length x.cl,.slice (some ⟨x.gt,0,none⟩) x.b.ts.length x.ct,.int .i64 x.b.lot] 40))
 have T0:=zh ((Turn.refl x w).alloc (.cells #[.slice (some ⟨x.ga,0,none⟩) x.b.ac.length x.ca,.slice (some ⟨x.gi,0,none⟩) x.b.ic.length x.ci,.slice (some ⟨x.gb,0,none⟩) x.b.bs.length x.cb,.slice (some ⟨x.gl,0,none⟩) x.b.ls.length x.cl,.slice (some ⟨x.gt,0,none⟩) x.b.ts.length x.ct,.int .i64 x.b.lot] 40))
 have C0:=zh (boxed w x 40)
 clear h
 go_enter Tryz.func49,Tryz.ntmps49
 go_wp2_with fail
 refine(AccountMark.markS _ base x.ga _ x.ca s x.b.ac na (by omega) (by omega) (zu Oa)).mono ?_
 rintro e w1 ⟨he,o,gr⟩
 replace he:e= .returned (.int .i64 (g1 s x.b)):=he
 subst he
 have T1:=zh ((zu T0).grown gr (by simp))
 have C1:=zh (show Cl w1 w.heap.size x from⟨gr.cell (zu C0).c0 (fun e=>za (by injection e)),gr.cell (zu C0).c1 (fun e=>za (by injection e)),gr.cell (zu C0).c2 (fun e=>za (by injection e)),gr.cell (zu C0).c3 (fun e=>za (by injection e)),gr.cell (zu C0).c4 (fun e=>za (by injection e)),gr.cell (zu C0).c5 (fun e=>za (by injection e))⟩)
 replace Oa:=zh o
 replace Oi:=zh ((zu Oi).kept gr (fun e=>xai (by injection e with e;exact e.symm)))
 replace Ob:=zh ((zu Ob).kept gr (fun e=>xab (by injection e with e;exact e.symm)))
 replace Ol:=zh ((zu Ol).kept gr (fun e=>xal (by injection e with e;exact e.symm)))
 replace Ot:=zh ((zu Ot).kept gr (fun e=>xat (by injection e with e;exact e.symm)))
 clear o gr
 have p1:=(zu C1).c1
 go_wp2_with fail
 refine(InstrMark.markS _ base x.gi _ x.ci (g1 s x.b) x.b.ic ni (by omega) (by omega) (zu Oi)).mono ?_
 rintro e w2 ⟨he,o,gr⟩
 replace he:e= .returned (.int .i64 (g2 s x.b)):=he
 subst he
 have T2:=zh ((zu T1).grown gr (by simp))
 have C2:=zh (show Cl w2 w.heap.size x from⟨gr.cell (zu C1).c0 (fun e=>zi (by injection e)),gr.cell (zu C1).c1 (fun e=>zi (by injection e)),gr.cell (zu C1).c2 (fun e=>zi (by injection e)),gr.cell (zu C1).c3 (fun e=>zi (by injection e)),gr.cell (zu C1).c4 (fun e=>zi (by injection e)),gr.cell (zu C1).c5 (fun e=>zi (by injection e))⟩)
 replace Oi:=zh o
 replace Oa:=zh ((zu Oa).kept gr (fun e=>xai (by injection e)))
 replace Ob:=zh ((zu Ob).kept gr (fun e=>xib (by injection e with e;exact e.symm)))
 replace Ol:=zh ((zu Ol).kept gr (fun e=>xil (by injection e with e;exact e.symm)))
 replace Ot:=zh ((zu Ot).kept gr (fun e=>xit (by injection e with e;exact e.symm)))
 clear o gr
 have p2:=(zu C2).c2
 go_wp2_with fail
 refine(BalHelp.markS _ base x.gb _ x.cb (g2 s x.b) x.b.bs nb (by omega) (by omega) (zu Ob)).mono ?_
 rintro e w3 ⟨he,o,gr⟩
 replace he:e= .returned (.int .i64 (g3 s x.b)):=he
 subst he
 have T3:=zh ((zu T2).grown gr (by simp))
 have C3:=zh (show Cl w3 w.heap.size x from⟨gr.cell (zu C2).c0 (fun e=>zb (by injection e)),gr.cell (zu C2).c1 (fun e=>zb (by injection e)),gr.cell (zu C2).c2 (fun e=>zb (by injection e)),gr.cell (zu C2).c3 (fun e=>zb (by injection e)),gr.cell (zu C2).c4 (fun e=>zb (by injection e)),gr.cell (zu C2).c5 (fun e=>zb (by injection e))⟩)
 replace Ob:=zh o
 replace Oa:=zh ((zu Oa).kept gr (fun e=>xab (by injection e)))
 replace Oi:=zh ((zu Oi).kept gr (fun e=>xib (by injection e)))
 replace Ol:=zh ((zu Ol).kept gr (fun e=>xbl (by injection e with e;exact e.symm)))
 replace Ot:=zh ((zu Ot).kept gr (fun e=>xbt (by injection e with e;exact e.symm)))
 clear o gr
 have p3:=(zu C3).c3
 go_wp2_with fail
 refine(LotHelp.markS _ base x.gl _ x.cl (g3 s x.b) x.b.ls nl (by omega) (by omega) (zu Ol)).mono ?_
 rintro e w4 ⟨he,o,gr⟩
 replace he:e= .returned (.int .i64 (g4 s x.b)):=he
 subst he
 have T4:=zh ((zu T3).grown gr (by simp))
 have C4:=zh (show Cl w4 w.heap.size x from⟨gr.cell (zu C3).c0 (fun e=>zl (by injection e)),gr.cell (zu C3).c1 (fun e=>zl (by injection e)),gr.cell (zu C3).c2 (fun e=>zl (by injection e)),gr.cell (zu C3).c3 (fun e=>zl (by injection e)),gr.cell (zu C3).c4 (fun e=>zl (by injection e)),gr.cell (zu C3).c5 (fun e=>zl (by injection e))⟩)
 replace Ol:=zh o
 replace Oa:=zh ((zu Oa).kept gr (fun e=>xal (by injection e)))
 replace Oi:=zh ((zu Oi).kept gr (fun e=>xil (by injection e)))
 replace Ob:=zh ((zu Ob).kept gr (fun e=>xbl (by injection e)))
 replace Ot:=zh ((zu Ot).kept gr (fun e=>xlt (by injection e with e;exact e.symm)))
 clear o gr
 have p4:=(zu C4).c4
 go_wp2_with fail
 refine(TradeHelp.markS _ base x.gt _ x.ct (g4 s x.b) x.b.ts nt (by omega) (by omega) (zu Ot)).mono ?_
 rintro e w5 ⟨he,o,gr⟩
 replace he:e= .returned (.int .i64 (g5 s x.b)):=he
 subst he
 have T5:=zh ((zu T4).grown gr (by simp))
 have C5:=zh (show Cl w5 w.heap.size x from⟨gr.cell (zu C4).c0 (fun e=>zt (by injection e)),gr.cell (zu C4).c1 (fun e=>zt (by injection e)),gr.cell (zu C4).c2 (fun e=>zt (by injection e)),gr.cell (zu C4).c3 (fun e=>zt (by injection e)),gr.cell (zu C4).c4 (fun e=>zt (by injection e)),gr.cell (zu C4).c5 (fun e=>zt (by injection e))⟩)
 replace Ot:=zh o
 replace Oa:=zh ((zu Oa).kept gr (fun e=>xat (by injection e)))
 replace Oi:=zh ((zu Oi).kept gr (fun e=>xit (by injection e)))
 replace Ob:=zh ((zu Ob).kept gr (fun e=>xbt (by injection e)))
 replace Ol:=zh ((zu Ol).kept gr (fun e=>xlt (by injection e)))
 clear o gr
 go_wp2
 go_ret
 exact⟨rfl,zu T5⟩
structure Si(W:World)(g:Nat)(f:Int)(y:Ix):Prop where
 f:W.cell? ⟨g,0,none⟩=some (.int .i64 f)
 c0:W.cell? ⟨g,1,none⟩=some (.slice y.aa y.b.ac.length y.ca)
 c1:W.cell? ⟨g,2,none⟩=some (.slice y.ai y.b.ic.length y.ci)
 c2:W.cell? ⟨g,3,none⟩=some (.slice y.ab y.b.bs.length y.cb)
 c3:W.cell? ⟨g,4,none⟩=some (.slice y.al y.b.ls.length y.cl)
 c4:W.cell? ⟨g,5,none⟩=some (.slice y.ats y.b.ts.length y.ct)
 c5:W.cell? ⟨g,6,none⟩=some (.int .i64 y.b.lot)
 lt:g<W.heap.size
theorem Si.step{W W':World}{g:Nat}{f:Int}{y:Ix}(h:Si W g f y)(k:Below W.heap.size W W'):Si W' g f y:=
 ⟨(k.cell (p:=⟨g,0,none⟩) h.lt).trans h.f,(k.cell (p:=⟨g,1,none⟩) h.lt).trans h.c0,(k.cell (p:=⟨g,2,none⟩) h.lt).trans h.c1,(k.cell (p:=⟨g,3,none⟩) h.lt).trans h.c2,(k.cell (p:=⟨g,4,none⟩) h.lt).trans h.c3,(k.cell (p:=⟨g,5,none⟩) h.lt).trans h.c4,(k.cell (p:=⟨g,6,none⟩) h.lt).trans h.c5,Nat.lt_of_lt_of_le h.lt k.size⟩
theorem Si.made(W:World)(f:Int)(y:Ix)(e:TypeId):Si (W.alloc (.cells #[.int .i64 f,.slice y.aa y.b.ac.length y.ca,.slice y.ai y.b.ic.length y.ci,.slice y.ab y.b.bs.length y.cb,.slice y.al y.b.ls.length y.cl,.slice y.ats y.b.ts.length y.ct,.int .i64 y.b.lot] e)) W.heap.size f y:=⟨by simp,by simp,by simp,by simp,by simp,by simp,by simp,by simp⟩
theorem szSv(w:World)(f:Int)(y:Ix)(left:Int)(h0:0≤left)(h1:left≤1048576)(hf:Fits y.b):
  Calls Tryz.prog 6 #[.agg #[.int .i64 f,.slice y.aa y.b.ac.length y.ca,.slice y.ai y.b.ic.length y.ci,.slice y.ab y.b.bs.length y.cb,.slice y.al y.b.ls.length y.cl,.slice y.ats y.b.ts.length y.ct,.int .i64 y.b.lot],.int .i64 left] w fun e w'=>∃r,e= .returned (.int .i64 r)∧(r= -1∨(0≤r∧Small y.b))∧Below w.heap.size w w':=by
 have I0:=zh (Si.made w f y 30)
 have B0:=zh (one_more w (.cells #[.int .i64 f,.slice y.aa y.b.ac.length y.ca,.slice y.ai y.b.ic.length y.ci,.slice y.ab y.b.bs.length y.cb,.slice y.al y.b.ls.length y.cl,.slice y.ats y.b.ts.length y.ct,.int .i64 y.b.lot] 30))
 have SZ:=zh (fun u=>szBG u y left h0 h1 hf)
 have c0:=(zu I0).c0
 have c1:=(zu I0).c1
 have c2:=(zu I0).c2
 have c3:=(zu I0).c3
 have c4:=(zu I0).c4
 have c5:=(zu I0).c5
 go_enter Tryz.func6,Tryz.ntmps6
 go_wp2_with fail
 refine(zu SZ _).mono ?_
 rintro e u ⟨r,rfl,hr,bb⟩
 have B1:=zh ((zu B0).trans (bb.mono (zu B0).size))
 have HR:=zh hr
 clear bb
 rcases hr with rfl|⟨r0,_⟩
 ·go_wp2
  go_ret
  exact⟨-1,rfl,.inl rfl,zu B1⟩
 ·have rn:¬r<0:=by omega
  go_wp2
  go_ret
  exact⟨r,rfl,zu HR,zu B1⟩
theorem turn_trans{x:Bx}{w u v:World}(h:Turn x w u)(k:Turn x u v):Turn x w v:=
 ⟨k.os.trans h.os,k.tape.trans h.tape,k.output.trans h.output,Nat.le_trans h.size k.size,fun i hi a b c d e=>(k.block i (Nat.lt_of_lt_of_le hi h.size) a b c d e).trans (h.block i hi a b c d e)⟩
theorem fin7{w u W:World}{x:Bx}{a0 a1 a2 a3 a4 a5 a6 b0 b1 b2 b3 b4 b5 b6:Value}(B:Below w.heap.size w u)(K1:Bx7 u w.heap.size (w.heap.size+1) a0 a1 a2 a3 a4 a5 a6)(K2:Bx7 u w.heap.size (w.heap.size+2) b0 b1 b2 b3 b4 b5 b6)(O:Ow u W.heap.size x)(f:Int)(us:W.heap.size≤u.heap.size)(s3:W.heap.size=w.heap.size+3):
  Ow ((((((((((((((u).setCell ⟨w.heap.size+1+1,1,none⟩ (.slice (some ⟨x.ga,0,none⟩) x.b.ac.length x.ca)).setCell ⟨w.heap.size+1+1,2,none⟩ (.slice (some ⟨x.gi,0,none⟩) x.b.ic.length x.ci)).setCell ⟨w.heap.size+1+1,3,none⟩ (.slice (some ⟨x.gb,0,none⟩) x.b.bs.length x.cb)).setCell ⟨w.heap.size+1+1,4,none⟩ (.slice (some ⟨x.gl,0,none⟩) x.b.ls.length x.cl)).setCell ⟨w.heap.size+1+1,5,none⟩ (.slice (some ⟨x.gt,0,none⟩) x.b.ts.length x.ct)).setCell ⟨w.heap.size+1+1,6,none⟩ (.int .i64 x.b.lot)).setCell ⟨w.heap.size+1,0,none⟩ (.int .i64 f)).setCell ⟨w.heap.size+1,1,none⟩ (.slice (some ⟨x.ga,0,none⟩) x.b.ac.length x.ca)).setCell ⟨w.heap.size+1,2,none⟩ (.slice (some ⟨x.gi,0,none⟩) x.b.ic.length x.ci)).setCell ⟨w.heap.size+1,3,none⟩ (.slice (some ⟨x.gb,0,none⟩) x.b.bs.length x.cb)).setCell ⟨w.heap.size+1,4,none⟩ (.slice (some ⟨x.gl,0,none⟩) x.b.ls.length x.cl)).setCell ⟨w.heap.size+1,5,none⟩ (.slice (some ⟨x.gt,0,none⟩) x.b.ts.length x.ct)).setCell ⟨w.heap.size+1,6,none⟩ (.int .i64 x.b.lot)) w.heap.size x∧Below w.heap.size w ((((((((((((((u).setCell ⟨w.heap.size+1+1,1,none⟩ (.slice (some ⟨x.ga,0,none⟩) x.b.ac.length x.ca)).setCell ⟨w.heap.size+1+1,2,none⟩ (.slice (some ⟨x.gi,0,none⟩) x.b.ic.length x.ci)).setCell ⟨w.heap.size+1+1,3,none⟩ (.slice (some ⟨x.gb,0,none⟩) x.b.bs.length x.cb)).setCell ⟨w.heap.size+1+1,4,none⟩ (.slice (some ⟨x.gl,0,none⟩) x.b.ls.length x.cl)).setCell ⟨w.heap.size+1+1,5,none⟩ (.slice (some ⟨x.gt,0,none⟩) x.b.ts.length x.ct)).setCell ⟨w.heap.size+1+1,6,none⟩ (.int .i64 x.b.lot)).setCell ⟨w.heap.size+1,0,none⟩ (.int .i64 f)).setCell ⟨w.heap.size+1,1,none⟩ (.slice (some ⟨x.ga,0,none⟩) x.b.ac.length x.ca)).setCell ⟨w.heap.size+1,2,none⟩ (.slice (some ⟨x.gi,0,none⟩) x.b.ic.length x.ci)).setCell ⟨w.heap.size+1,3,none⟩ (.slice (some ⟨x.gb,0,none⟩) x.b.bs.length x.cb)).setCell ⟨w.heap.size+1,4,none⟩ (.slice (some ⟨x.gl,0,none⟩) x.b.ls.length x.cl)).setCell ⟨w.heap.size+1,5,none⟩ (.slice (some ⟨x.gt,0,none⟩) x.b.ts.length x.ct)).setCell ⟨w.heap.size+1,6,none⟩ (.int .i64 x.b.lot))∧Bx7 ((((((((((((((u).setCell ⟨w.heap.size+1+1,1,none⟩ (.slice (some ⟨x.ga,0,none⟩) x.b.ac.length x.ca)).setCell ⟨w.heap.size+1+1,2,none⟩ (.slice (some ⟨x.gi,0,none⟩) x.b.ic.length x.ci)).setCell ⟨w.heap.size+1+1,3,none⟩ (.slice (some ⟨x.gb,0,none⟩) x.b.bs.length x.cb)).setCell ⟨w.heap.size+1+1,4,none⟩ (.slice (some ⟨x.gl,0,none⟩) x.b.ls.length x.cl)).setCell ⟨w.heap.size+1+1,5,none⟩ (.slice (some ⟨x.gt,0,none⟩) x.b.ts.length x.ct)).setCell ⟨w.heap.size+1+1,6,none⟩ (.int .i64 x.b.lot)).setCell ⟨w.heap.size+1,0,none⟩ (.int .i64 f)).setCell ⟨w.heap.size+1,1,none⟩ (.slice (some ⟨x.ga,0,none⟩) x.b.ac.length x.ca)).setCell ⟨w.heap.size+1,2,none⟩ (.slice (some ⟨x.gi,0,none⟩) x.b.ic.length x.ci)).setCell ⟨w.heap.size+1,3,none⟩ (.slice (some ⟨x.gb,0,none⟩) x.b.bs.length x.cb)).setCell ⟨w.heap.size+1,4,none⟩ (.slice (some ⟨x.gl,0,none⟩) x.b.ls.length x.cl)).setCell ⟨w.heap.size+1,5,none⟩ (.slice (some ⟨x.gt,0,none⟩) x.b.ts.length x.ct)).setCell ⟨w.heap.size+1,6,none⟩ (.int .i64 x.b.lot)) w.heap.size (w.heap.size+1) (.int .i64 f) (.slice (some ⟨x.ga,0,none⟩) x.b.ac.length x.ca) (.slice (some ⟨x.gi,0,none⟩) x.b.ic.length x.ci) (.slice (some ⟨x.gb,0,none⟩) x.b.bs.length x.cb) (.slice (some ⟨x.gl,0,none⟩) x.b.ls.length x.cl) (.slice (some ⟨x.gt,0,none⟩) x.b.ts.length x.ct) (.int .i64 x.b.lot):=by
 have s1:=K2.set1 (.slice (some ⟨x.ga,0,none⟩) x.b.ac.length x.ca)
 have s2:=s1.1.set2 (.slice (some ⟨x.gi,0,none⟩) x.b.ic.length x.ci)
 have s3:=s2.1.set3 (.slice (some ⟨x.gb,0,none⟩) x.b.bs.length x.cb)
 have s4:=s3.1.set4 (.slice (some ⟨x.gl,0,none⟩) x.b.ls.length x.cl)
 have s5:=s4.1.set5 (.slice (some ⟨x.gt,0,none⟩) x.b.ts.length x.ct)
 have s6:=s5.1.set6 (.int .i64 x.b.lot)
 have G2:=(grow_grow (grow_grow (grow_grow (grow_grow (grow_grow s1.2 s2.2) s3.2) s4.2) s5.2) s6.2)
 have L1:=K1.kept G2 (by simp)
 have t0:=L1.set0 (.int .i64 f)
 have t1:=t0.1.set1 (.slice (some ⟨x.ga,0,none⟩) x.b.ac.length x.ca)
 have t2:=t1.1.set2 (.slice (some ⟨x.gi,0,none⟩) x.b.ic.length x.ci)
 have t3:=t2.1.set3 (.slice (some ⟨x.gb,0,none⟩) x.b.bs.length x.cb)
 have t4:=t3.1.set4 (.slice (some ⟨x.gl,0,none⟩) x.b.ls.length x.cl)
 have t5:=t4.1.set5 (.slice (some ⟨x.gt,0,none⟩) x.b.ts.length x.ct)
 have t6:=t5.1.set6 (.int .i64 x.b.lot)
 have G1:=(grow_grow (grow_grow (grow_grow (grow_grow (grow_grow (grow_grow t0.2 t1.2) t2.2) t3.2) t4.2) t5.2) t6.2)
 refine⟨((O.kept G2 (fun g e=>by cases e;omega)).kept G1 (fun g e=>by cases e;omega)).rebase (by omega),grow_low (grow_low B G2 ⟨by omega,B.size⟩) G1 ⟨by omega,Nat.le_trans B.size G2.size⟩,t6.1⟩
theorem toSv(w:World)(f:Int)(y:Ix)(h:RdI w y)(hs:Small y.b):
  Calls Tryz.prog 8 #[.agg #[.int .i64 f,.slice y.aa y.b.ac.length y.ca,.slice y.ai y.b.ic.length y.ci,.slice y.ab y.b.bs.length y.cb,.slice y.al y.b.ls.length y.cl,.slice y.ats y.b.ts.length y.ct,.int .i64 y.b.lot]] w fun e w'=>∃x:Bx,x.b=y.b∧e= .returned (.agg #[.int .i64 f,.slice (some ⟨x.ga,0,none⟩) x.b.ac.length x.ca,.slice (some ⟨x.gi,0,none⟩) x.b.ic.length x.ci,.slice (some ⟨x.gb,0,none⟩) x.b.bs.length x.cb,.slice (some ⟨x.gl,0,none⟩) x.b.ls.length x.cl,.slice (some ⟨x.gt,0,none⟩) x.b.ts.length x.ct,.int .i64 x.b.lot])∧Ow w' w.heap.size x∧Below w.heap.size w w':=by
 have b1:=one_more w (.cells #[.int .i64 f,.slice y.aa y.b.ac.length y.ca,.slice y.ai y.b.ic.length y.ci,.slice y.ab y.b.bs.length y.cb,.slice y.al y.b.ls.length y.cl,.slice y.ats y.b.ts.length y.ct,.int .i64 y.b.lot] 30)
 have b2:=one_more (w.alloc (.cells #[.int .i64 f,.slice y.aa y.b.ac.length y.ca,.slice y.ai y.b.ic.length y.ci,.slice y.ab y.b.bs.length y.cb,.slice y.al y.b.ls.length y.cl,.slice y.ats y.b.ts.length y.ct,.int .i64 y.b.lot] 30)) (.cells #[.int .i64 0,.slice none 0 0,.slice none 0 0,.slice none 0 0,.slice none 0 0,.slice none 0 0,.int .i64 0] 42)
 have b3:=one_more ((w.alloc (.cells #[.int .i64 f,.slice y.aa y.b.ac.length y.ca,.slice y.ai y.b.ic.length y.ci,.slice y.ab y.b.bs.length y.cb,.slice y.al y.b.ls.length y.cl,.slice y.ats y.b.ts.length y.ct,.int .i64 y.b.lot] 30)).alloc (.cells #[.int .i64 0,.slice none 0 0,.slice none 0 0,.slice none 0 0,.slice none 0 0,.slice none 0 0,.int .i64 0] 42)) (.cells #[.int .i64 f,.slice none 0 0,.slice none 0 0,.slice none 0 0,.slice none 0 0,.slice none 0 0,.int .i64 0] 42)
 have I3:=zh (((Si.made w f y 30).step b2).step b3)
 have K1:=zh ((Bx7.made (w:=w.alloc (.cells #[.int .i64 f,.slice y.aa y.b.ac.length y.ca,.slice y.ai y.b.ic.length y.ci,.slice y.ab y.b.bs.length y.cb,.slice y.al y.b.ls.length y.cl,.slice y.ats y.b.ts.length y.ct,.int .i64 y.b.lot] 30)) (base:=w.heap.size) (g:=w.heap.size+1) (.int .i64 0) (.slice none 0 0) (.slice none 0 0) (.slice none 0 0) (.slice none 0 0) (.slice none 0 0) (.int .i64 0) (by simp) (by simp)).below b3 (by simp))
 have K2:=zh (Bx7.made (w:=((w.alloc (.cells #[.int .i64 f,.slice y.aa y.b.ac.length y.ca,.slice y.ai y.b.ic.length y.ci,.slice y.ab y.b.bs.length y.cb,.slice y.al y.b.ls.length y.cl,.slice y.ats y.b.ts.length y.ct,.int .i64 y.b.lot] 30)).alloc (.cells #[.int .i64 0,.slice none 0 0,.slice none 0 0,.slice none 0 0,.slice none 0 0,.slice none 0 0,.int .i64 0] 42))) (base:=w.heap.size) (g:=w.heap.size+2) (.int .i64 f) (.slice none 0 0) (.slice none 0 0) (.slice none 0 0) (.slice none 0 0) (.slice none 0 0) (.int .i64 0) (by simp;omega) (by simp))
 have B3:=zh ((b1.trans (b2.mono (by simp))).trans (b3.mono (by simp;omega)))
 have s3:(((w.alloc (.cells #[.int .i64 f,.slice y.aa y.b.ac.length y.ca,.slice y.ai y.b.ic.length y.ci,.slice y.ab y.b.bs.length y.cb,.slice y.al y.b.ls.length y.cl,.slice y.ats y.b.ts.length y.ct,.int .i64 y.b.lot] 30)).alloc (.cells #[.int .i64 0,.slice none 0 0,.slice none 0 0,.slice none 0 0,.slice none 0 0,.slice none 0 0,.int .i64 0] 42)).alloc (.cells #[.int .i64 f,.slice none 0 0,.slice none 0 0,.slice none 0 0,.slice none 0 0,.slice none 0 0,.int .i64 0] 42)).heap.size=w.heap.size+3:=by simp
 have R3:=zh (h.below (zu B3))
 have c0:=(Si.made w f y 30).f
 have d0:=(zu I3).c0
 have d1:=(zu I3).c1
 have d2:=(zu I3).c2
 have d3:=(zu I3).c3
 have d4:=(zu I3).c4
 have d5:=(zu I3).c5
 clear b1 b2 b3 h
 go_enter Tryz.func8,Tryz.ntmps8
 go_wp2_with fail
 clear c0 d0 d1 d2 d3 d4 d5
 generalize (((w.alloc (.cells #[.int .i64 f,.slice y.aa y.b.ac.length y.ca,.slice y.ai y.b.ic.length y.ci,.slice y.ab y.b.bs.length y.cb,.slice y.al y.b.ls.length y.cl,.slice y.ats y.b.ts.length y.ct,.int .i64 y.b.lot] 30)).alloc (.cells #[.int .i64 0,.slice none 0 0,.slice none 0 0,.slice none 0 0,.slice none 0 0,.slice none 0 0,.int .i64 0] 42)).alloc (.cells #[.int .i64 f,.slice none 0 0,.slice none 0 0,.slice none 0 0,.slice none 0 0,.slice none 0 0,.int .i64 0] 42))=W at *
 refine(toB W y (zu R3) hs).mono ?_
 rintro e u ⟨x,hx,rfl,ox,bb⟩
 have us:=bb.size
 replace K1:=zh ((zu K1).below bb (by omega))
 replace K2:=zh ((zu K2).below bb (by omega))
 have B4:=zh ((zu B3).trans (bb.mono (by omega)))
 have OX:=zh ox
 have HX:=zh hx
 clear bb ox hx I3 R3 B3
 have f0:=(zu K1).free 0
 have f1:=(zu K1).free 1
 have f2:=(zu K1).free 2
 have f3:=(zu K1).free 3
 have f4:=(zu K1).free 4
 have f5:=(zu K1).free 5
 have f6:=(zu K1).free 6
 have h0:=(zu K2).free 0
 have h1:=(zu K2).free 1
 have h2:=(zu K2).free 2
 have h3:=(zu K2).free 3
 have h4:=(zu K2).free 4
 have h5:=(zu K2).free 5
 have h6:=(zu K2).free 6
 have p0:=(zu K2).c0
 have p1:=(zu K2).c1
 have p2:=(zu K2).c2
 have p3:=(zu K2).c3
 have p4:=(zu K2).c4
 have p5:=(zu K2).c5
 have p6:=(zu K2).c6
 have q0:=(zu K1).c0
 have q1:=(zu K1).c1
 have q2:=(zu K1).c2
 have q3:=(zu K1).c3
 have q4:=(zu K1).c4
 have q5:=(zu K1).c5
 have q6:=(zu K1).c6
 have FIN:=zh (fin7 (zu B4) (zu K1) (zu K2) (zu OX) f us s3)
 clear K1 K2 B4 OX
 go_wp2
 clear f0 f1 f2 f3 f4 f5 f6 h0 h1 h2 h3 h4 h5 h6 p0 p1 p2 p3 p4 p5 p6 q0 q1 q2 q3 q4 q5 q6
 generalize (((((((((((((u).setCell ⟨w.heap.size+1+1,1,none⟩ (.slice (some ⟨x.ga,0,none⟩) x.b.ac.length x.ca)).setCell ⟨w.heap.size+1+1,2,none⟩ (.slice (some ⟨x.gi,0,none⟩) x.b.ic.length x.ci)).setCell ⟨w.heap.size+1+1,3,none⟩ (.slice (some ⟨x.gb,0,none⟩) x.b.bs.length x.cb)).setCell ⟨w.heap.size+1+1,4,none⟩ (.slice (some ⟨x.gl,0,none⟩) x.b.ls.length x.cl)).setCell ⟨w.heap.size+1+1,5,none⟩ (.slice (some ⟨x.gt,0,none⟩) x.b.ts.length x.ct)).setCell ⟨w.heap.size+1+1,6,none⟩ (.int .i64 x.b.lot)).setCell ⟨w.heap.size+1,0,none⟩ (.int .i64 f)).setCell ⟨w.heap.size+1,1,none⟩ (.slice (some ⟨x.ga,0,none⟩) x.b.ac.length x.ca)).setCell ⟨w.heap.size+1,2,none⟩ (.slice (some ⟨x.gi,0,none⟩) x.b.ic.length x.ci)).setCell ⟨w.heap.size+1,3,none⟩ (.slice (some ⟨x.gb,0,none⟩) x.b.bs.length x.cb)).setCell ⟨w.heap.size+1,4,none⟩ (.slice (some ⟨x.gl,0,none⟩) x.b.ls.length x.cl)).setCell ⟨w.heap.size+1,5,none⟩ (.slice (some ⟨x.gt,0,none⟩) x.b.ts.length x.ct)).setCell ⟨w.heap.size+1,6,none⟩ (.int .i64 x.b.lot)=U at *
 have r0:=(zu FIN).2.2.c0
 have r1:=(zu FIN).2.2.c1
 have r2:=(zu FIN).2.2.c2
 have r3:=(zu FIN).2.2.c3
 have r4:=(zu FIN).2.2.c4
 have r5:=(zu FIN).2.2.c5
 have r6:=(zu FIN).2.2.c6
 refine bodyPost_ret (v:= .agg #[.int .i64 f,.slice (some ⟨x.ga,0,none⟩) x.b.ac.length x.ca,.slice (some ⟨x.gi,0,none⟩) x.b.ic.length x.ci,.slice (some ⟨x.gb,0,none⟩) x.b.bs.length x.cb,.slice (some ⟨x.gl,0,none⟩) x.b.ls.length x.cl,.slice (some ⟨x.gt,0,none⟩) x.b.ts.length x.ct,.int .i64 x.b.lot]) (by simp[results,Tryz.results8,go_sem,r0,r1,r2,r3,r4,r5,r6]) rfl ?_
 exact⟨x,zu HX,rfl,(zu FIN).1,(zu FIN).2.1⟩
theorem eqSv(w:World)(f:Int)(x y:Bx)(hb:y.b=x.b)(hx:Rd w x)(hy:Rd w y):
  Calls Tryz.prog 10 #[.agg #[.int .i64 f,.slice (some ⟨x.ga,0,none⟩) x.b.ac.length x.ca,.slice (some ⟨x.gi,0,none⟩) x.b.ic.length x.ci,.slice (some ⟨x.gb,0,none⟩) x.b.bs.length x.cb,.slice (some ⟨x.gl,0,none⟩) x.b.ls.length x.cl,.slice (some ⟨x.gt,0,none⟩) x.b.ts.length x.ct,.int .i64 x.b.lot],.agg #[.int .i64 f,.slice (some ⟨y.ga,0,none⟩) y.b.ac.length y.ca,.slice (some ⟨y.gi,0,none⟩) y.b.ic.length y.ci,.slice (some ⟨y.gb,0,none⟩) y.b.bs.length y.cb,.slice (some ⟨y.gl,0,none⟩) y.b.ls.length y.cl,.slice (some ⟨y.gt,0,none⟩) y.b.ts.length y.ct,.int .i64 y.b.lot]] w fun e w'=>e= .returned (.bool true)∧Below w.heap.size w w':=by
 have S1:=zh (Sv.made hx (Below.refl _ w) f 42)
 have b2:=one_more (w.alloc (.cells #[.int .i64 f,.slice (some ⟨x.ga,0,none⟩) x.b.ac.length x.ca,.slice (some ⟨x.gi,0,none⟩) x.b.ic.length x.ci,.slice (some ⟨x.gb,0,none⟩) x.b.bs.length x.cb,.slice (some ⟨x.gl,0,none⟩) x.b.ls.length x.cl,.slice (some ⟨x.gt,0,none⟩) x.b.ts.length x.ct,.int .i64 x.b.lot] 42)) (.cells #[.int .i64 f,.slice (some ⟨y.ga,0,none⟩) y.b.ac.length y.ca,.slice (some ⟨y.gi,0,none⟩) y.b.ic.length y.ci,.slice (some ⟨y.gb,0,none⟩) y.b.bs.length y.cb,.slice (some ⟨y.gl,0,none⟩) y.b.ls.length y.cl,.slice (some ⟨y.gt,0,none⟩) y.b.ts.length y.ct,.int .i64 y.b.lot] 42)
 have S2:=zh ((zu S1).step b2)
 have t2:=Sv.made (hy.alloc (.cells #[.int .i64 f,.slice (some ⟨x.ga,0,none⟩) x.b.ac.length x.ca,.slice (some ⟨x.gi,0,none⟩) x.b.ic.length x.ci,.slice (some ⟨x.gb,0,none⟩) x.b.bs.length x.cb,.slice (some ⟨x.gl,0,none⟩) x.b.ls.length x.cl,.slice (some ⟨x.gt,0,none⟩) x.b.ts.length x.ct,.int .i64 x.b.lot] 42)) (zu S1).b f 42
 rw[show(w.alloc (.cells #[.int .i64 f,.slice (some ⟨x.ga,0,none⟩) x.b.ac.length x.ca,.slice (some ⟨x.gi,0,none⟩) x.b.ic.length x.ci,.slice (some ⟨x.gb,0,none⟩) x.b.bs.length x.cb,.slice (some ⟨x.gl,0,none⟩) x.b.ls.length x.cl,.slice (some ⟨x.gt,0,none⟩) x.b.ts.length x.ct,.int .i64 x.b.lot] 42)).heap.size=w.heap.size+1 by simp] at t2
 have T2:=zh t2
 clear b2 t2
 have c0:=(zu S2).f
 have c1:=(zu S2).c0
 have c2:=(zu S2).c1
 have c3:=(zu S2).c2
 have c4:=(zu S2).c3
 have c5:=(zu S2).c4
 have c6:=(zu S2).c5
 have d0:=(zu T2).f
 have d1:=(zu T2).c0
 have d2:=(zu T2).c1
 have d3:=(zu T2).c2
 have d4:=(zu T2).c3
 have d5:=(zu T2).c4
 have d6:=(zu T2).c5
 have ff:(f !=f)=false:=by simp
 have HB:=zh hb
 clear hx hy hb
 go_enter Tryz.func10,Tryz.ntmps10
 go_wp2_with fail
 refine(eqB _ x y (zu HB) (zu S2).r (zu T2).r).mono ?_
 rintro e u ⟨rfl,bb⟩
 have B2:=zh ((zu S2).b.trans (bb.mono (zu S2).b.size))
 clear bb
 go_wp2
 go_ret
 exact⟨rfl,zu B2⟩
theorem markSv(w:World)(base:Nat)(f:Int)(x:Bx)(s:Int)(s0:0≤s)(s1:s≤10000000)(h:Ow w base x)(hs:Small x.b):
  Calls Tryz.prog 17 #[.agg #[.int .i64 f,.slice (some ⟨x.ga,0,none⟩) x.b.ac.length x.ca,.slice (some ⟨x.gi,0,none⟩) x.b.ic.length x.ci,.slice (some ⟨x.gb,0,none⟩) x.b.bs.length x.cb,.slice (some ⟨x.gl,0,none⟩) x.b.ls.length x.cl,.slice (some ⟨x.gt,0,none⟩) x.b.ts.length x.ct,.int .i64 x.b.lot],.int .i64 s] w fun e w'=>∃r,0≤r∧e= .returned (.int .i64 r)∧Turn x w w':=by
 have b1:=one_more w (.cells #[.int .i64 f,.slice (some ⟨x.ga,0,none⟩) x.b.ac.length x.ca,.slice (some ⟨x.gi,0,none⟩) x.b.ic.length x.ci,.slice (some ⟨x.gb,0,none⟩) x.b.bs.length x.cb,.slice (some ⟨x.gl,0,none⟩) x.b.ls.length x.cl,.slice (some ⟨x.gt,0,none⟩) x.b.ts.length x.ct,.int .i64 x.b.lot] 42)
 have MK:=zh (markBG (w.alloc (.cells #[.int .i64 f,.slice (some ⟨x.ga,0,none⟩) x.b.ac.length x.ca,.slice (some ⟨x.gi,0,none⟩) x.b.ic.length x.ci,.slice (some ⟨x.gb,0,none⟩) x.b.bs.length x.cb,.slice (some ⟨x.gl,0,none⟩) x.b.ls.length x.cl,.slice (some ⟨x.gt,0,none⟩) x.b.ts.length x.ct,.int .i64 x.b.lot] 42)) base x s s0 s1 (h.below b1 (Nat.le_refl _)) hs)
 have C1:=zh (Sv.made (h.rd hs) (Below.refl _ w) f 42)
 have BD:=zh (g_bd s0 s1 hs).2.2.2.2.1
 have TB:=zh ((Turn.refl x w).alloc (.cells #[.int .i64 f,.slice (some ⟨x.ga,0,none⟩) x.b.ac.length x.ca,.slice (some ⟨x.gi,0,none⟩) x.b.ic.length x.ci,.slice (some ⟨x.gb,0,none⟩) x.b.bs.length x.cb,.slice (some ⟨x.gl,0,none⟩) x.b.ls.length x.cl,.slice (some ⟨x.gt,0,none⟩) x.b.ts.length x.ct,.int .i64 x.b.lot] 42))
 clear h hs b1
 have c1:=(zu C1).c0
 have c2:=(zu C1).c1
 have c3:=(zu C1).c2
 have c4:=(zu C1).c3
 have c5:=(zu C1).c4
 have c6:=(zu C1).c5
 go_enter Tryz.func17,Tryz.ntmps17
 go_wp2_with fail
 refine(zu MK).mono ?_
 rintro e u ⟨rfl,t⟩
 have T2:=zh (turn_trans (zu TB) t)
 clear t
 go_wp2
 go_ret
 exact⟨_,zu BD,rfl,zu T2⟩
end SaveH16
namespace LawV16
open BMem Bks BHelp BkEq SaveH16
open IBalsFit (one_more)
structure Ls(w W:World)(g:Nat)(f:Int)(y:Ix):Prop where
 r:RdI W y
 c:Si W g f y
 b:Below w.heap.size w W
theorem Ls.step{w W W':World}{g:Nat}{f:Int}{y:Ix}(h:Ls w W g f y)(k:Below W.heap.size W W'):Ls w W' g f y:=⟨h.r.below (k),h.c.step k,h.b.trans (k.mono h.b.size)⟩
theorem Ls.start{w:World}{f:Int}{y:Ix}(h:RdI w y)(e:TypeId):Ls w (w.alloc (.cells #[.int .i64 f,.slice y.aa y.b.ac.length y.ca,.slice y.ai y.b.ic.length y.ci,.slice y.ab y.b.bs.length y.cb,.slice y.al y.b.ls.length y.cl,.slice y.ats y.b.ts.length y.ct,.int .i64 y.b.lot] e)) w.heap.size f y:=⟨h.below (one_more _ _),Si.made w f y e,one_more _ _⟩
theorem two_cells{H:Type}{enc:TypeId×Value→H}{P:Program}{w:World}{base:Nat}{spare:Nat→Bool}{held:Bool}{e:TypeId}{f0 f1:Field}{fuel:Nat}{cs:List Value}{x:DataW H×List MemPlace}
  (he:P.underlying e=some (.struct #[f0,f1]))(hc:(P.cellsOf e==7&&P.cellsOf f0.type==1&&P.cellsOf f1.type==6&&f0.offset==0&&f1.offset==1)=true)
  (h:DataW.trod enc P w base spare held fuel e cs=some x):∃v0 v1 v2 v3 v4 v5 v6 k x0 x1,cs=[v0,v1,v2,v3,v4,v5,v6]∧DataW.trod enc P w base spare held k f0.type [v0]=some x0∧DataW.trod enc P w base spare held k f1.type [v1,v2,v3,v4,v5,v6]=some x1:=by
 simp at hc
 obtain⟨⟨⟨⟨ce,k0⟩,k1⟩,o0⟩,o1⟩:=hc
 obtain⟨xs,k,_,_,hl,hlen,hf⟩:=DataW.trod_struct he h
 rw[ce] at hl
 match xs,hlen,cs,hl with
 |[y0,y1],_,[v0,v1,v2,v3,v4,v5,v6],_=>
  have g0:=hf 0 f0 rfl
  have g1:=hf 1 f1 rfl
  simp[o0,k0] at g0
  simp[o1,k1] at g1
  exact⟨v0,v1,v2,v3,v4,v5,v6,k,_,_,rfl,g0,g1⟩
theorem open_save{H:Type}{enc:TypeId×Value→H}{w:World}{base b0':Nat}{spare:Nat→Bool}{held:Bool}{r:Reach}{v:Value}{d:DataW H}{p:List MemPlace}
  (hv:Value.okWide Tryz.prog w r b0' 30 v)(h:DataW.Trod enc Tryz.prog w base spare held 30 v d p):∃(f:Int) (y:Ix),v= .agg #[.int .i64 f,.slice y.aa y.b.ac.length y.ca,.slice y.ai y.b.ic.length y.ci,.slice y.ab y.b.bs.length y.cb,.slice y.al y.b.ls.length y.cl,.slice y.ats y.b.ts.length y.ct,.int .i64 y.b.lot]∧RdI w y∧Fits y.b:=by
 obtain⟨cs,rfl,_⟩:=okWide_struct Tryz.underlying30 hv
 obtain⟨fuel,hf⟩:=h
 obtain⟨u,v0,v1,v2,v3,v4,v5,k',xu,xb,e,gu,gb⟩:=two_cells (cs:=cs.toList) Tryz.underlying30 (by kernel_rfl) (by simpa[Value.cells] using hf)
 obtain⟨q0,q1,q2,q3,q4,q5,k,x0,x1,x2,x3,x4,x5,eq,g0,g1,g2,g3,g4,g5⟩:=OpensB.struct_cells Tryz.underlying28 (by kernel_rfl) gb
 simp only[List.cons.injEq,and_true] at eq
 obtain⟨rfl,rfl,rfl,rfl,rfl,rfl⟩:=eq
 obtain⟨a0,l0,c0,rfl⟩:=OpensB.slice_cell Tryz.underlying22 g0
 obtain⟨a1,l1,c1,rfl⟩:=OpensB.slice_cell Tryz.underlying23 g1
 obtain⟨a2,l2,c2,rfl⟩:=OpensB.slice_cell Tryz.underlying24 g2
 obtain⟨a3,l3,c3,rfl⟩:=OpensB.slice_cell Tryz.underlying25 g3
 obtain⟨a4,l4,c4,rfl⟩:=OpensB.slice_cell Tryz.underlying26 g4
 obtain⟨z,q,_⟩:=DataW.trod_int Tryz.underlying3 g5
 simp at q
 subst q
 obtain⟨f,q,_⟩:=DataW.trod_int Tryz.underlying3 gu
 simp at q
 subst q
 obtain⟨p0,rfl,m0,r0⟩:=Opens.open_pairs Tryz.underlying22 Tryz.underlying150 (by kernel_rfl) Tryz.underlying3 (a:=a0) (len:=l0) (cap:=c0) g0
 obtain⟨p1,rfl,m1,r1⟩:=Opens.open_pairs Tryz.underlying23 Tryz.underlying152 (by kernel_rfl) Tryz.underlying3 (a:=a1) (len:=l1) (cap:=c1) g1
 obtain⟨p2,rfl,m2,r2⟩:=Opens3.open_triples Tryz.underlying24 Tryz.underlying154 (by kernel_rfl) Tryz.underlying3 (a:=a2) (len:=l2) (cap:=c2) g2
 obtain⟨p3,rfl,m3,r3⟩:=Opens5.open_rows Tryz.underlying25 Tryz.underlying156 (by kernel_rfl) Tryz.underlying3 (a:=a3) (len:=l3) (cap:=c3) g3
 obtain⟨p4,rfl,m4,r4⟩:=Opens8.open_rows Tryz.underlying26 Tryz.underlying158 (by kernel_rfl) Tryz.underlying3 (a:=a4) (len:=l4) (cap:=c4) g4
 exact⟨f,⟨a0,c0,a1,c1,a2,c2,a3,c3,a4,c4,⟨p0,p1,p2,p3,p4,z⟩⟩,congrArg Value.agg (Array.ext' e),⟨r0,r1,r2,r3,r4⟩,⟨m0,m1,m2,m3,m4⟩⟩
end LawV16
end Go.Proofs.YtagmnociflkhcaaGreat
