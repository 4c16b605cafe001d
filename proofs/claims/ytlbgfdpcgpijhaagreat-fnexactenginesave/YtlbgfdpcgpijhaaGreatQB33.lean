/- Texts of one proof. -/
import Derived.Test.YtlbgfdpcgpijhaaGreatQB18
import Derived.Test.YtlbgfdpcgpijhaaGreatQB32
open Go.ChangeShapes Go.WideShapes Go.ChangeAt Go.RowKit
set_option linter.unusedVariables false
set_option linter.unusedSimpArgs false
set_option maxRecDepth 100000
set_option maxHeartbeats 32000000
namespace Go.Proofs.YtlbgfdpcgpijhaaGreat
namespace SaveH16
open BMem Bks BHelp BkEq
open IBalsFit (one_more)
open ILists (boxed)
open SSave16 (Sv)
open Bx16
theorem szBG(w:World)(y:Ix)(left:Int)(h0:0≤left)(h1:left≤1048576)(hf:Fits y.b):
  Calls Tryz.prog 24 #[.agg #[.slice y.aa y.b.ac.length y.ca,.slice y.ai y.b.ic.length y.ci,.slice y.ab y.b.bs.length y.cb,.slice y.al y.b.ls.length y.cl,.slice y.ats y.b.ts.length y.ct,.int .i64 y.b.lot],.int .i64 left] w fun e w'=>∃r,e= .returned (.int .i64 r)∧(r= -1∨(0≤r∧Small y.b))∧Below w.heap.size w w':=by
 obtain⟨fa,fi,fb,fl,ft⟩:=hf
 have B0:=zh ((Below.refl w.heap.size w).alloc (Nat.le_refl _) (.cells #[.slice y.aa y.b.ac.length y.ca,.slice y.ai y.b.ic.length y.ci,.slice y.ab y.b.bs.length y.cb,.slice y.al y.b.ls.length y.cl,.slice y.ats y.b.ts.length y.ct,.int .i64 y.b.lot] 31))
 go_enter Tryz.func24,Tryz.ntmps24
 go_wp2_with fail
 by_cases q0:(y.b.ac.length:Int)≤left
 rotate_left
 ·refine(AccountMark.sz_no _ _ _ left _ q0 (by omega) (by omega) fa).mono ?_
  rintro e u ⟨rfl,rfl⟩
  go_wp2
  go_ret
  exact⟨-1,rfl,.inl rfl,zu B0⟩
 refine(AccountMark.sz_yes _ _ _ left _ q0 (by omega)).mono ?_
 rintro e u0 ⟨rfl,rfl⟩
 obtain⟨m0,hm0⟩:∃m:Int,Hid (m=left-(y.b.ac.length:Int)):=⟨_,rfl⟩
 rw[←zu hm0]
 have M0:0≤m0∧m0≤1048576:=by have:=zu hm0;omega
 have Q0:=zh q0
 clear q0
 go_wp2_with fail
 by_cases q1:(y.b.ic.length:Int)≤m0
 rotate_left
 ·refine(InstrMark.sz_no _ _ _ m0 _ q1 (by omega) (by omega) fi).mono ?_
  rintro e u ⟨rfl,rfl⟩
  go_wp2
  go_ret
  exact⟨-1,rfl,.inl rfl,zu B0⟩
 refine(InstrMark.sz_yes _ _ _ m0 _ q1 (by omega)).mono ?_
 rintro e u1 ⟨rfl,rfl⟩
 obtain⟨m1,hm1⟩:∃m:Int,Hid (m=m0-(y.b.ic.length:Int)):=⟨_,rfl⟩
 rw[←zu hm1]
 have M1:0≤m1∧m1≤1048576:=by have:=zu hm1;omega
 have Q1:=zh q1
 clear q1
 go_wp2_with fail
 by_cases q2:(y.b.bs.length:Int)≤m1
 rotate_left
 ·refine(BalHelp.sz_no _ _ _ m1 _ q2 (by omega) (by omega) fb).mono ?_
  rintro e u ⟨rfl,rfl⟩
  go_wp2
  go_ret
  exact⟨-1,rfl,.inl rfl,zu B0⟩
 refine(BalHelp.sz_yes _ _ _ m1 _ q2 (by omega)).mono ?_
 rintro e u2 ⟨rfl,rfl⟩
 obtain⟨m2,hm2⟩:∃m:Int,Hid (m=m1-(y.b.bs.length:Int)):=⟨_,rfl⟩
 rw[←zu hm2]
 have M2:0≤m2∧m2≤1048576:=by have:=zu hm2;omega
 have Q2:=zh q2
 clear q2
 go_wp2_with fail
 by_cases q3:(y.b.ls.length:Int)≤m2
 rotate_left
 ·refine(LotHelp.sz_no _ _ _ m2 _ q3 (by omega) (by omega) fl).mono ?_
  rintro e u ⟨rfl,rfl⟩
  go_wp2
  go_ret
  exact⟨-1,rfl,.inl rfl,zu B0⟩
 refine(LotHelp.sz_yes _ _ _ m2 _ q3 (by omega)).mono ?_
 rintro e u3 ⟨rfl,rfl⟩
 obtain⟨m3,hm3⟩:∃m:Int,Hid (m=m2-(y.b.ls.length:Int)):=⟨_,rfl⟩
 rw[←zu hm3]
 have M3:0≤m3∧m3≤1048576:=by have:=zu hm3;omega
 have Q3:=zh q3
 clear q3
 go_wp2_with fail
 by_cases q4:(y.b.ts.length:Int)≤m3
 rotate_left
 ·refine(TradeHelp.sz_no _ _ _ m3 _ q4 (by omega) (by omega) ft).mono ?_
  rintro e u ⟨rfl,rfl⟩
  go_wp2
  go_ret
  exact⟨-1,rfl,.inl rfl,zu B0⟩
 refine(TradeHelp.sz_yes _ _ _ m3 _ q4 (by omega)).mono ?_
 rintro e u4 ⟨rfl,rfl⟩
 obtain⟨m4,hm4⟩:∃m:Int,Hid (m=m3-(y.b.ts.length:Int)):=⟨_,rfl⟩
 rw[←zu hm4]
 have M4:0≤m4∧m4≤1048576:=by have:=zu hm4;omega
 have Q4:=zh q4
 clear q4
 have SM:=zh (show Small y.b from by
  have a0:=zu Q0
  have a1:=zu Q1
  have a2:=zu Q2
  have a3:=zu Q3
  have a4:=zu Q4
  exact⟨by omega,by omega,by omega,by omega,by omega⟩)
 go_wp2
 go_ret
 exact⟨m4,rfl,.inr ⟨M4.1,zu SM⟩,zu B0⟩
def g1(s:Int)(b:Bk):Int:=s+2*(b.ac.length:Int)
def g2(s:Int)(b:Bk):Int:=g1 s b+2*(b.ic.length:Int)
def g3(s:Int)(b:Bk):Int:=g2 s b+3*(b.bs.length:Int)
def g4(s:Int)(b:Bk):Int:=g3 s b+5*(b.ls.length:Int)
def g5(s:Int)(b:Bk):Int:=g4 s b+8*(b.ts.length:Int)
theorem g_bd{s:Int}{b:Bk}(s0:0≤s)(s1:s≤10000000)(h:Small b):(0≤g1 s b∧g1 s b≤100000000)∧(0≤g2 s b∧g2 s b≤100000000)∧(0≤g3 s b∧g3 s b≤100000000)∧(0≤g4 s b∧g4 s b≤100000000)∧(0≤g5 s b∧g5 s b≤100000000):=by
 obtain⟨h1,h2,h3,h4,h5⟩:=h
 unfold g5 g4 g3 g2 g1
 omega
end SaveH16
namespace EBk17
open BMem Bks BHelp BkEq BMemV13 VB13 SaveH16
open SRead13L (row_step)
open IBalsFit (one_more)
structure OwMVS(s:Int)(w:World)(base:Nat)(x:Ix):Prop where
 oa:w.ownsRow base 108 2 (.slice x.aa x.b.ac.length x.ca) x.b.ac.length (Pairs.flat (AccountMark.marks s x.b.ac.length))
 oi:w.ownsRow base 109 2 (.slice x.ai x.b.ic.length x.ci) x.b.ic.length (Pairs.flat (InstrMark.marks (g1 s x.b) x.b.ic.length))
 ob:w.ownsRow base 111 3 (.slice x.ab x.b.bs.length x.cb) x.b.bs.length (Triples.flat3 (BalHelp.marks (g2 s x.b) x.b.bs.length))
 ol:w.ownsRow base 113 5 (.slice x.al x.b.ls.length x.cl) x.b.ls.length (Tup5.flat5 (LotHelp.marks (g3 s x.b) x.b.ls.length))
 ot:w.ownsRow base 115 8 (.slice x.ats x.b.ts.length x.ct) x.b.ts.length (Tup8.flat8 (TradeHelp.marks (g4 s x.b) x.b.ts.length))
theorem OwMVS.step{s:Int}{w w':World}{base:Nat}{x:Ix}(h:OwMVS s w base x)(k:Below w.heap.size w w'):OwMVS s w' base x:=⟨row_step h.oa k,row_step h.oi k,row_step h.ob k,row_step h.ol k,row_step h.ot k⟩
theorem markBVG(w:World)(base:Nat)(x:Ix)(s:Int)(s0:0≤s)(s1:s≤10000000)(h:OwV w base x)(hb:base≤w.heap.size)(hs:Small x.b):
  Calls Tryz.prog 41 #[.agg #[.slice x.aa x.b.ac.length x.ca,.slice x.ai x.b.ic.length x.ci,.slice x.ab x.b.bs.length x.cb,.slice x.al x.b.ls.length x.cl,.slice x.ats x.b.ts.length x.ct,.int .i64 x.b.lot],.int .i64 s] w fun e w'=>e= .returned (.int .i64 (g5 s x.b))∧OwMVS s w' base x∧TurnV x w w':=by
 obtain⟨⟨l1,u1⟩,⟨l2,u2⟩,⟨l3,u3⟩,⟨l4,u4⟩,⟨l5,u5⟩⟩:=g_bd s0 s1 hs
 obtain⟨na,ni,nb,nl,nt⟩:=hs
 have za:=zh (show some w.heap.size≠(Value.slice x.aa x.b.ac.length x.ca).ownBlock from fun e=>by have:=(World.ownsRow.lt h.oa _ e.symm).2;omega)
 have Oa:=zh (row_step h.oa (one_more w (.cells #[.slice x.aa x.b.ac.length x.ca,.slice x.ai x.b.ic.length x.ci,.slice x.ab x.b.bs.length x.cb,.slice x.al x.b.ls.length x.cl,.slice x.ats x.b.ts.length x.ct,.int .i64 x.b.lot] 45)))
 have zi:=zh (show some w.heap.size≠(Value.slice x.ai x.b.ic.length x.ci).ownBlock from fun e=>by have:=(World.ownsRow.lt h.oi _ e.symm).2;omega)
 have Oi:=zh (row_step h.oi (one_more w (.cells #[.slice x.aa x.b.ac.length x.ca,.slice x.ai x.b.ic.length x.ci,.slice x.ab x.b.bs.length x.cb,.slice x.al x.b.ls.length x.cl,.slice x.ats x.b.ts.length x.ct,.int .i64 x.b.lot] 45)))
 have zb:=zh (show some w.heap.size≠(Value.slice x.ab x.b.bs.length x.cb).ownBlock from fun e=>by have:=(World.ownsRow.lt h.ob _ e.symm).2;omega)
 have Ob:=zh (row_step h.ob (one_more w (.cells #[.slice x.aa x.b.ac.length x.ca,.slice x.ai x.b.ic.length x.ci,.slice x.ab x.b.bs.length x.cb,.slice x.al x.b.ls.length x.cl,.slice x.ats x.b.ts.length x.ct,.int .i64 x.b.lot] 45)))
 have zl:=zh (show some w.heap.size≠(Value.slice x.al x.b.ls.length x.cl).ownBlock from fun e=>by have:=(World.ownsRow.lt h.ol _ e.symm).2;omega)
 have Ol:=zh (row_step h.ol (one_more w (.cells #[.slice x.aa x.b.ac.length x.ca,.slice x.ai x.b.ic.length x.ci,.slice x.ab x.b.bs.length x.cb,.slice x.al x.b.ls.length x.cl,.slice x.ats x.b.ts.length x.ct,.int .i64 x.b.lot] 45)))
 have zt:=zh (show some w.heap.size≠(Value.slice x.ats x.b.ts.length x.ct).ownBlock from fun e=>by have:=(World.ownsRow.lt h.ot _ e.symm).2;omega)
 have Ot:=zh (row_step h.ot (one_more w (.cells #[.slice x.aa x.b.ac.length x.ca,.slice x.ai x.b.ic.length x.ci,.slice x.ab x.b.bs.length x.cb,.slice x.al x.b.ls.length x.cl,.slice x.ats x.b.ts.length x.ct,.int .i64 x.b.lot] 45)))
 have B0:=zh (show TurnV x w (w.alloc (.cells #[.slice x.aa x.b.ac.length x.ca,.slice x.ai x.b.ic.length x.ci,.slice x.ab x.b.bs.length x.cb,.slice x.al x.b.ls.length x.cl,.slice x.ats x.b.ts.length x.ct,.int .i64 x.b.lot] 45)) from TurnV.of (one_more _ _))
 have C0:=zh (boxedV w x 45)
 clear h
 go_enter Tryz.func41,Tryz.ntmps41
 go_wp2_with fail
 refine(markAccount _ base _ x.ca x.aa s x.b.ac na (by omega) (by omega) (zu Oa)).mono ?_
 rintro e w1 ⟨he,o,gr⟩
 replace he:e= .returned (.int .i64 (g1 s x.b)):=he
 subst he
 have B1:=zh ((zu B0).grown gr (.inl rfl))
 have C1:=zh (show ClV w1 w.heap.size x from⟨gr.cell (zu C0).c0 (zu za),gr.cell (zu C0).c1 (zu za),gr.cell (zu C0).c2 (zu za),gr.cell (zu C0).c3 (zu za),gr.cell (zu C0).c4 (zu za),gr.cell (zu C0).c5 (zu za)⟩)
 have Ni:=zh (other (zu Oi) (zu Oa) (by decide) gr)
 have Nb:=zh (other (zu Ob) (zu Oa) (by decide) gr)
 have Nl:=zh (other (zu Ol) (zu Oa) (by decide) gr)
 have Nt:=zh (other (zu Ot) (zu Oa) (by decide) gr)
 replace Oa:=zh o
 replace Oi:=Ni
 clear Ni
 replace Ob:=Nb
 clear Nb
 replace Ol:=Nl
 clear Nl
 replace Ot:=Nt
 clear Nt
 clear o gr
 have p1:=(zu C1).c1
 go_wp2_with fail
 refine(markInstr _ base _ x.ci x.ai (g1 s x.b) x.b.ic ni (by omega) (by omega) (zu Oi)).mono ?_
 rintro e w2 ⟨he,o,gr⟩
 replace he:e= .returned (.int .i64 (g2 s x.b)):=he
 subst he
 have B2:=zh ((zu B1).grown gr (.inr (.inl rfl)))
 have C2:=zh (show ClV w2 w.heap.size x from⟨gr.cell (zu C1).c0 (zu zi),gr.cell (zu C1).c1 (zu zi),gr.cell (zu C1).c2 (zu zi),gr.cell (zu C1).c3 (zu zi),gr.cell (zu C1).c4 (zu zi),gr.cell (zu C1).c5 (zu zi)⟩)
 have Na:=zh (other (zu Oa) (zu Oi) (by decide) gr)
 have Nb:=zh (other (zu Ob) (zu Oi) (by decide) gr)
 have Nl:=zh (other (zu Ol) (zu Oi) (by decide) gr)
 have Nt:=zh (other (zu Ot) (zu Oi) (by decide) gr)
 replace Oi:=zh o
 replace Oa:=Na
 clear Na
 replace Ob:=Nb
 clear Nb
 replace Ol:=Nl
 clear Nl
 replace Ot:=Nt
 clear Nt
 clear o gr
 have p2:=(zu C2).c2
 go_wp2_with fail
 refine(markBal _ base _ x.cb x.ab (g2 s x.b) x.b.bs nb (by omega) (by omega) (zu Ob)).mono ?_
 rintro e w3 ⟨he,o,gr⟩
 replace he:e= .returned (.int .i64 (g3 s x.b)):=he
 subst he
 have B3:=zh ((zu B2).grown gr (.inr (.inr (.inl rfl))))
 have C3:=zh (show ClV w3 w.heap.size x from⟨gr.cell (zu C2).c0 (zu zb),gr.cell (zu C2).c1 (zu zb),gr.cell (zu C2).c2 (zu zb),gr.cell (zu C2).c3 (zu zb),gr.cell (zu C2).c4 (zu zb),gr.cell (zu C2).c5 (zu zb)⟩)
 have Na:=zh (other (zu Oa) (zu Ob) (by decide) gr)
 have Ni:=zh (other (zu Oi) (zu Ob) (by decide) gr)
 have Nl:=zh (other (zu Ol) (zu Ob) (by decide) gr)
 have Nt:=zh (other (zu Ot) (zu Ob) (by decide) gr)
 replace Ob:=zh o
 replace Oa:=Na
 clear Na
 replace Oi:=Ni
 clear Ni
 replace Ol:=Nl
 clear Nl
 replace Ot:=Nt
 clear Nt
 clear o gr
 have p3:=(zu C3).c3
 go_wp2_with fail
 refine(markLot _ base _ x.cl x.al (g3 s x.b) x.b.ls nl (by omega) (by omega) (zu Ol)).mono ?_
 rintro e w4 ⟨he,o,gr⟩
 replace he:e= .returned (.int .i64 (g4 s x.b)):=he
 subst he
 have B4:=zh ((zu B3).grown gr (.inr (.inr (.inr (.inl rfl)))))
 have C4:=zh (show ClV w4 w.heap.size x from⟨gr.cell (zu C3).c0 (zu zl),gr.cell (zu C3).c1 (zu zl),gr.cell (zu C3).c2 (zu zl),gr.cell (zu C3).c3 (zu zl),gr.cell (zu C3).c4 (zu zl),gr.cell (zu C3).c5 (zu zl)⟩)
 have Na:=zh (other (zu Oa) (zu Ol) (by decide) gr)
 have Ni:=zh (other (zu Oi) (zu Ol) (by decide) gr)
 have Nb:=zh (other (zu Ob) (zu Ol) (by decide) gr)
 have Nt:=zh (other (zu Ot) (zu Ol) (by decide) gr)
 replace Ol:=zh o
 replace Oa:=Na
 clear Na
 replace Oi:=Ni
 clear Ni
 replace Ob:=Nb
 clear Nb
 replace Ot:=Nt
 clear Nt
 clear o gr
 have p4:=(zu C4).c4
 go_wp2_with fail
 refine(markTrade _ base _ x.ct x.ats (g4 s x.b) x.b.ts nt (by omega) (by omega) (zu Ot)).mono ?_
 rintro e w5 ⟨he,o,gr⟩
 replace he:e= .returned (.int .i64 (g5 s x.b)):=he
 subst he
 have B5:=zh ((zu B4).grown gr (.inr (.inr (.inr (.inr rfl)))))
 have C5:=zh (show ClV w5 w.heap.size x from⟨gr.cell (zu C4).c0 (zu zt),gr.cell (zu C4).c1 (zu zt),gr.cell (zu C4).c2 (zu zt),gr.cell (zu C4).c3 (zu zt),gr.cell (zu C4).c4 (zu zt),gr.cell (zu C4).c5 (zu zt)⟩)
 have Na:=zh (other (zu Oa) (zu Ot) (by decide) gr)
 have Ni:=zh (other (zu Oi) (zu Ot) (by decide) gr)
 have Nb:=zh (other (zu Ob) (zu Ot) (by decide) gr)
 have Nl:=zh (other (zu Ol) (zu Ot) (by decide) gr)
 replace Ot:=zh o
 replace Oa:=Na
 clear Na
 replace Oi:=Ni
 clear Ni
 replace Ob:=Nb
 clear Nb
 replace Ol:=Nl
 clear Nl
 clear o gr
 go_wp2
 go_ret
 exact⟨rfl,⟨zu Oa,zu Oi,zu Ob,zu Ol,zu Ot⟩,zu B5⟩
theorem heldBVG(w:World)(base:Nat)(x:Ix)(s:Int)(s0:0≤s)(s1:s≤10000000)(h:OwMVS s w base x)(hs:Small x.b):
  Calls Tryz.prog 43 #[.agg #[.slice x.aa x.b.ac.length x.ca,.slice x.ai x.b.ic.length x.ci,.slice x.ab x.b.bs.length x.cb,.slice x.al x.b.ls.length x.cl,.slice x.ats x.b.ts.length x.ct,.int .i64 x.b.lot],.int .i64 s] w fun e w'=>e= .returned (.int .i64 (g5 s x.b))∧Below w.heap.size w w':=by
 obtain⟨⟨l1,u1⟩,⟨l2,u2⟩,⟨l3,u3⟩,⟨l4,u4⟩,⟨l5,u5⟩⟩:=g_bd s0 s1 hs
 obtain⟨na,ni,nb,nl,nt⟩:=hs
 have B0:=zh (one_more w (.cells #[.slice x.aa x.b.ac.length x.ca,.slice x.ai x.b.ic.length x.ci,.slice x.ab x.b.bs.length x.cb,.slice x.al x.b.ls.length x.cl,.slice x.ats x.b.ts.length x.ct,.int .i64 x.b.lot] 45))
 have H0:=zh (h.step (one_more w (.cells #[.slice x.aa x.b.ac.length x.ca,.slice x.ai x.b.ic.length x.ci,.slice x.ab x.b.bs.length x.cb,.slice x.al x.b.ls.length x.cl,.slice x.ats x.b.ts.length x.ct,.int .i64 x.b.lot] 45)))
 have t1:¬g1 s x.b<0:=by omega
 have t2:¬g2 s x.b<0:=by omega
 have t3:¬g3 s x.b<0:=by omega
 have t4:¬g4 s x.b<0:=by omega
 have t5:¬g5 s x.b<0:=by omega
 clear h
 go_enter Tryz.func43,Tryz.ntmps43
 go_wp2_with fail
 refine(heldAccount _ base _ x.ca x.aa s na (by omega) (by omega) (zu H0).oa).mono ?_
 rintro e w1 ⟨he,rfl⟩
 replace he:e= .returned (.int .i64 (g1 s x.b)):=he
 subst he
 go_wp2_with fail
 refine(heldInstr _ base _ x.ci x.ai (g1 s x.b) ni (by omega) (by omega) (zu H0).oi).mono ?_
 rintro e w2 ⟨he,rfl⟩
 replace he:e= .returned (.int .i64 (g2 s x.b)):=he
 subst he
 go_wp2_with fail
 refine(heldBal _ base _ x.cb x.ab (g2 s x.b) nb (by omega) (by omega) (zu H0).ob).mono ?_
 rintro e w3 ⟨he,rfl⟩
 replace he:e= .returned (.int .i64 (g3 s x.b)):=he
 subst he
 go_wp2_with fail
 refine(heldLot _ base _ x.cl x.al (g3 s x.b) nl (by omega) (by omega) (zu H0).ol).mono ?_
 rintro e w4 ⟨he,rfl⟩
 replace he:e= .returned (.int .i64 (g4 s x.b)):=he
 subst he
 go_wp2_with fail
 refine(heldTrade _ base _ x.ct x.ats (g4 s x.b) nt (by omega) (by omega) (zu H0).ot).mono ?_
 rintro e w5 ⟨he,rfl⟩
 replace he:e= .returned (.int .i64 (g5 s x.b)):=he
 subst he
 go_wp2
 go_ret
 exact⟨rfl,zu B0⟩
end EBk17
namespace SEngOk17
open Fil14 OpensF14 DiskH14 DkH14 SDk14 SOk14 SRd14 EBx17 SSameZ17
open BMem (Bx Rd)
open Bks (Bk Ok)
open Lots (Says says_of)
open SegP15 (okS)
open SSg16 (sSegOk)
def NoLate(ps:List TF)(k:Nat):Prop:=∀i,i<k→(elF ps i).2.2.toList.isEmpty=true
def OkE(up:Bool)(room:Int)(ps:List TF)(b:Bk)(sg ct:Int):Prop:=OkD room ps∧(up=true→Ok b∧okS sg=true∧0≤ct∧ct≤6)∧(up=false→NoLate ps ps.length∧b=noB∧sg=0∧ct=0)
theorem late_next{ps:List TF}{k:Nat}(h:NoLate ps k)(e:(elF ps k).2.2.toList.isEmpty=true):NoLate ps (k+1):=fun i hi=>by
 by_cases q:i=k
 ·rw[q];exact e
 ·exact h i (by omega)
theorem sEngineOk(w:World)(up:Bool)(x:Dx)(z:Bx)(sg ct:Int)(vb v:Bool)(hr:RdD w x)(hz:sumZ x.ps≤1048576)(hy:Rd w z)(hb:Says vb (Ok z.b))(hv:Says v (OkE up x.room x.ps z.b sg ct)):
  Calls Tryz.prog 9 #[.agg #[.bool up,.int .i64 x.room,.slice x.a x.ps.length x.c,.slice (some ⟨z.ga,0,none⟩) z.b.ac.length z.ca,.slice (some ⟨z.gi,0,none⟩) z.b.ic.length z.ci,.slice (some ⟨z.gb,0,none⟩) z.b.bs.length z.cb,.slice (some ⟨z.gl,0,none⟩) z.b.ls.length z.cl,.slice (some ⟨z.gt,0,none⟩) z.b.ts.length z.ct,.int .i64 z.b.lot,.int .i64 sg,.int .i64 ct]] w fun e w'=>e= .returned (.bool v)∧Below w.heap.size w w':=by
 have G0:=zh (Eg.made hr hy (Below.refl _ _) up sg ct)
 have OK0:=zh (fun u (h:RdD u x)=>sDiskOk u x h hz)
 have BO:=zh (fun u (h:Rd u z)=>SBooksOk.sBooksOk u z vb h hb)
 have BS:=zh (fun u (h:Rd u z) b (q:Says b (z.b=noB))=>sSameZ u z b h q)
 have HB:=zh hb
 have HV:=zh (show v=true↔OkE up x.room x.ps z.b sg ct from hv)
 have h20:=hr.n
 clear hr hy hb hv
 have c1:=(zu G0).k.c1
 have c2:=(zu G0).k.c2
 have lt:=(zu G0).k.lt.2
 go_enter Tryz.func9,Tryz.ntmps9
 go_wp2_with fail
 generalize w.alloc (.cells #[.bool up,.int .i64 x.room,.slice x.a x.ps.length x.c,.slice (some ⟨z.ga,0,none⟩) z.b.ac.length z.ca,.slice (some ⟨z.gi,0,none⟩) z.b.ic.length z.ci,.slice (some ⟨z.gb,0,none⟩) z.b.bs.length z.cb,.slice (some ⟨z.gl,0,none⟩) z.b.ls.length z.cl,.slice (some ⟨z.gt,0,none⟩) z.b.ts.length z.ct,.int .i64 z.b.lot,.int .i64 sg,.int .i64 ct] 47)=W at *
 refine(zu OK0 _ (zu G0).r).mono ?_
 rintro e u ⟨rfl,b1⟩
 have G1:=zh ((zu G0).step b1)
 clear b1 G0 OK0
 clear c1 c2 lt
 by_cases ok:OkD x.room x.ps
 case neg=>
  have od:decide (OkD x.room x.ps)=false:=decide_eq_false ok
  have V:=zh (show v=false from by
   cases e:v with
   |false=>rfl
   |true=>exact absurd ((zu HV).1 e).1 ok)
  clear ok HV
  go_wp2
  go_ret
  exact⟨by rw[zu V];rfl,(zu G1).b⟩
 have od:decide (OkD x.room x.ps)=true:=decide_eq_true ok
 have OK:=zh ok
 clear ok
 cases up with
 |true=>
  have c0:=(zu G1).k.c0
  have c3:=(zu G1).k.c3
  have c4:=(zu G1).k.c4
  have c5:=(zu G1).k.c5
  have c6:=(zu G1).k.c6
  have c7:=(zu G1).k.c7
  have c8:=(zu G1).k.c8
  have lt:=(zu G1).k.lt.2
  go_wp2_with fail
  refine(zu BO _ (zu G1).rb).mono ?_
  rintro e u2 ⟨rfl,b2⟩
  have G2:=zh ((zu G1).step b2)
  clear b2 G1 c0
  clear c3 c4 c5 c6 c7 c8 lt
  cases vb with
  |false=>
   have V:=zh (show v=false from by
    cases e:v with
    |false=>rfl
    |true=>exact absurd (((zu HV).1 e).2.1 rfl).1 (fun h=>by have:=(zu HB).of h;simp at this))
   clear HV
   go_wp2
   go_ret
   exact⟨by rw[zu V];rfl,(zu G2).b⟩
  |true=>
  have OB:=zh ((zu HB).yes)
  obtain⟨sb,hs⟩:∃sb,okS sg=sb:=⟨_,rfl⟩
  have HS:=zh hs
  clear hs
  have c9:=(zu G2).k.c9
  have lt:=(zu G2).k.lt.2
  go_wp2_with fail
  refine(sSegOk _ sg sb (zu HS)).mono ?_
  rintro e u2 ⟨rfl,rfl⟩
  clear c9 lt
  cases sb with
  |false=>
   have V:=zh (show v=false from by
    cases e:v with
    |false=>rfl
    |true=>
     have:=(((zu HV).1 e).2.1 rfl).2.1
     rw[zu HS] at this
     exact absurd this (by simp))
   clear HV
   go_wp2
   go_ret
   exact⟨by rw[zu V];rfl,(zu G2).b⟩
  |true=>
  obtain⟨cb,hc⟩:∃cb,decide (0≤ct∧ct≤6)=cb:=⟨_,rfl⟩
  have HC:=zh hc
  clear hc
  have c10:=(zu G2).k.c10
  have lt:=(zu G2).k.lt.2
  go_wp2_with fail
  refine(sInB _ ct 0 6 cb (zu HC)).mono ?_
  rintro e u2 ⟨rfl,rfl⟩
  clear c10 lt
  have V:=zh (show v=cb from by
   cases cb with
   |false=>
    have nc:=of_decide_eq_false (zu HC)
    cases e:v with
    |false=>rfl
    |true=>exact absurd (((zu HV).1 e).2.1 rfl).2.2 nc
   |true=>exact(zu HV).2 ⟨zu OK,fun _=>⟨zu OB,zu HS,of_decide_eq_true (zu HC)⟩,fun h=>by simp at h⟩)
  clear HV
  go_wp2
  go_ret
  exact⟨by rw[zu V];rfl,(zu G2).b⟩
 |false=>
 have c0:=(zu G1).k.c0
 have lt:=(zu G1).k.lt.2
 go_wp2
 clear c0 lt
 go_loopw [3] (fun i wr=>∃(k:Nat),k≤x.ps.length∧i= .int .i64 k∧Hid (NoLate x.ps k)∧Hid (Eg w wr w.heap.size false x z sg ct)) (fun i _=>x.ps.length-(intOf i).toNat)
 case atStart=>exact⟨0,by omega,rfl,zh (fun j h=>absurd h (by omega)),G1⟩
 case round=>
  clear G1
  obtain⟨k,hk,rfl,HN,HG⟩:=hrel
  by_cases t:k<x.ps.length
  ·have kt:(k:Int)<x.ps.length:=by omega
   obtain⟨g,ea,lg,d0,d1,d2⟩:=cells_of (zu HG).r t
   have LN:=zh (fun e=>late_next (zu HN) (k:=k) e)
   have NV:=zh (show v=true→(elF x.ps k).2.2.toList.isEmpty=true from fun e=>(((zu HV).1 e).2.2 rfl).1 k t)
   generalize (elF x.ps k).2.2=s at *
   have c2:=(zu HG).k.c2
   have lt:=(zu HG).k.lt.2
   rw[ea] at c2
   clear d0 d1 HN
   obtain⟨eb,heb⟩:∃eb,s.toList.isEmpty=eb:=⟨_,rfl⟩
   rw[heb] at LN NV
   cases eb with
   |true=>
    have N:=zh ((zu LN) rfl)
    clear LN NV
    go_wp2
    go_roundw
    case rel=>exact⟨k+1,by omega,by go_num,N,HG⟩
    case measure=>simp[intOf];omega
   |false=>
    have V:=zh (show v=false from by
     cases e:v with
     |false=>rfl
     |true=>exact absurd ((zu NV) e) (by simp))
    clear LN NV HV
    go_wp2
    go_ret
    exact⟨by rw[zu V];rfl,(zu HG).b⟩
  ·have e:k=x.ps.length:=by omega
   have HN2:=zh (show NoLate x.ps x.ps.length from by rw[←e];exact zu HN)
   clear HN
   subst e
   obtain⟨nb,hnb⟩:=says_of (z.b=noB)
   have NB:=zh hnb
   clear hnb
   have c2:=(zu HG).k.c2
   have c3:=(zu HG).k.c3
   have c4:=(zu HG).k.c4
   have c5:=(zu HG).k.c5
   have c6:=(zu HG).k.c6
   have c7:=(zu HG).k.c7
   have c8:=(zu HG).k.c8
   have lt:=(zu HG).k.lt.2
   go_wp2_with fail
   refine(zu BS _ (zu HG).rb nb (zu NB)).mono ?_
   rintro e u2 ⟨rfl,b2⟩
   have G2:=zh ((zu HG).step b2)
   clear b2 HG
   clear c2 c3 c4 c5 c6 c7 c8 lt
   obtain⟨s0,hs0⟩:∃b,(sg==0)=b:=⟨_,rfl⟩
   obtain⟨s1,hs1⟩:∃b,(ct==0)=b:=⟨_,rfl⟩
   have V:=zh (show v=(nb&&s0&&s1) from by
    have A:v=true↔(nb=true∧s0=true∧s1=true):=by
     rw[zu HV,←hs0,←hs1]
     constructor
     ·rintro⟨_,_,h⟩
      obtain⟨_,h1,h2,h3⟩:=h rfl
      exact⟨(zu NB).of h1,by simp[h2],by simp[h3]⟩
     ·rintro⟨h1,h2,h3⟩
      subst h1
      exact⟨zu OK,fun h=>by simp at h,fun _=>⟨zu HN2,(zu NB).yes,by simpa using h2,by simpa using h3⟩⟩
    revert A;clear HV NB HN2;cases v<;>cases nb<;>cases s0<;>cases s1<;>simp)
   have c9:=(zu G2).k.c9
   have c10:=(zu G2).k.c10
   have lt:=(zu G2).k.lt.2
   clear HV NB HN2
   cases nb with
   |false=>
    go_wp2
    go_ret
    exact⟨by rw[zu V];rfl,(zu G2).b⟩
   |true=>
   cases s0 with
   |false=>
    go_wp2
    go_ret
    exact⟨by rw[zu V];rfl,(zu G2).b⟩
   |true=>
   go_wp2
   go_ret
   exact⟨by rw[zu V];simp,(zu G2).b⟩
end SEngOk17
end Go.Proofs.YtlbgfdpcgpijhaaGreat
