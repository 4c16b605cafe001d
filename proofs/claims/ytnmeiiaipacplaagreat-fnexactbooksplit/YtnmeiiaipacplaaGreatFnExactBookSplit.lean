/- At all books and numbers the program's BookSplit answers as its model, writes into no argument, and its answer owns its memory. No condition. -/
import Derived.Test.YtnmeiiaipacplaaGreatRows
import Derived.Test.YtnmeiiaipacplaaGreatSG1
import Derived.Test.YtnmeiiaipacplaaGreatSG2
import Derived.Test.YtnmeiiaipacplaaGreatSG3
import Derived.Test.YtnmeiiaipacplaaGreatSG4
import Derived.Test.YtnmeiiaipacplaaGreatSG5
import Derived.Test.YtnmeiiaipacplaaGreatSG6
import Derived.Test.YtnmeiiaipacplaaGreatSG7
import Derived.Test.YtnmeiiaipacplaaGreatSG8
import Derived.Test.YtnmeiiaipacplaaGreatSG9
import Derived.ShutString
import Derived.ChangeOld
import Derived.Below
namespace Go.Proofs.YtnmeiiaipacplaaGreat.fnExactBookSplit
open Go.ChangeShapes Go.WideShapes Go.ChangeAt Go.RowKit
open Go.ChangeMaps (open_string shut_string)
set_option linter.unusedVariables false
set_option linter.unusedSimpArgs false
theorem own:ownKnob Tryz.prog.godebug=none:=by kernel_rfl
theorem laidOut:laidOutB Tryz.prog=true:=by kernel_rfl
open BMem Bks BHelp BkEq LawB LawQ Ans
open BZero (eqB0 markB0 heldB0)
open Lots (Says says_of NoOk)
open IBalsFit (one_more)
open ILotsFit (below_of_drew)
open LawV NilB
open ICmdV (OwN)
theorem sc_small{i:Int}:∀{r:List (Int×Int)} {ls l1:List Tup5.T5} {c:Int},Split.ScAll i r ls l1 c→ls.length≤1048576→l1.length≤1048576
 |[],ls,l1,c,h,s=>by rw[h.1];exact s
 |p::r,ls,l1,c,⟨x,d,h,h'⟩,s=>by
  have sx:x.length≤1048576:=by
   obtain⟨R,ss,okS,bad,short,full,s1,s2,s3,s4,hR,hl1,hdd⟩:=h
   have:=SSplitB.scaled_len (short:=short) (full:=full) s1 hR
   rw[hl1];omega
  rcases h' with⟨_,rfl,_⟩|⟨_,h'⟩
  ·exact sx
  ·exact sc_small h' sx
theorem is_small{b b':Bk}{p n d y g c:Int}(h:Split.IsSplit b p n d y b' g c)(s:Small b):Small b':=by
 rcases h with⟨_,rfl,_⟩|⟨_,_,rfl,_⟩|⟨_,_,w1,w2,hv,ok,_,⟨_,rfl,_⟩|⟨_,_,rfl,_⟩|⟨_,_,q,r,f,_,⟨_,rfl,_⟩|⟨_,ps,_,b1,c1,hp,⟨_,rfl,_⟩|⟨_,ls,c2,hc,⟨_,rfl,_⟩|⟨_,rfl,_⟩⟩⟩⟩⟩
 all_goals try exact s
 have s1:=SIssue.posted_small hp s
 exact⟨s1.1,s1.2.1,s1.2.2.1,sc_small hc s1.2.2.2.1,s1.2.2.2.2⟩
set_option maxRecDepth 100000 in
set_option maxHeartbeats 8000000 in
theorem walk(y0:BHelp.Ix)(a1:Int)(a2:Int)(a3:Int)(a4:Int)(w:World)(r0:BHelp.RdI w y0)(f0:BkEq.Fits y0.b)(w1:(Lit.int .i64 a1).wf=true)(w2:(Lit.int .i64 a2).wf=true)(w3:(Lit.int .i64 a3).wf=true)(w4:(Lit.int .i64 a4).wf=true):
  Calls Tryz.prog 5 #[.agg #[.slice y0.aa y0.b.ac.length y0.ca,.slice y0.ai y0.b.ic.length y0.ci,.slice y0.ab y0.b.bs.length y0.cb,.slice y0.al y0.b.ls.length y0.cl,.slice y0.ats y0.b.ts.length y0.ct,.int .i64 y0.b.lot],.int .i64 a1,.int .i64 a2,.int .i64 a3,.int .i64 a4] w fun e w'=>e= .returned (.bool true)∧Below w.heap.size w w':=by
 have H:=zh r0
 have L0:=zh (LB.start r0 28)
 clear r0
 go_enter Tryz.func5,Tryz.ntmps5
 go_wp2_with fail
 refine(szB _ y0 f0).mono ?_
 rintro e u0 ⟨r,rfl,hr,bb⟩
 have L1:=zh ((zu L0).step bb)
 clear bb L0
 rcases hr with rfl|⟨r1,sm⟩
 ·go_wp2
  go_ret
  exact⟨rfl,(zu L1).b⟩
 have SM:=zh sm
 have rn:¬r<0:=by omega
 clear sm r1
 obtain⟨c0,c1,c2,c3,c4,c5⟩:=(zu L1).c
 go_wp2_with fail
 refine(toB _ y0 (zu L1).r (zu SM)).mono ?_
 rintro e u1 ⟨z0,hz0,rfl,oz0,bb⟩
 have L2:=zh ((zu L1).step bb)
 have RZ:=zh (oz0.rd (by rw[hz0];exact zu SM))
 have HZ:=zh hz0
 clear bb oz0 hz0 L1
 go_wp2_with fail
 refine(SSplitB.sSplit _ z0 a1 a2 a3 a4 (zu RZ)).mono ?_
 rintro e u2 (⟨N,rfl,bb⟩|⟨T,z,t,c,hP,rfl,oz,bb⟩)
 ·rw[zu HZ] at N
  have L3:=zh (((zu L2).step bb).step (one_more u2 (.cells #[.slice none 0 0,.slice none 0 0,.slice none 0 0,.slice none 0 0,.slice none 0 0,.int .i64 0] 36)))
  have hn:w.heap.size<u2.heap.size:=Nat.lt_of_lt_of_le (zu L2).s bb.size
  have Z3:=zh (Zv.made u2 36)
  have NN:=zh N
  clear bb N L2 RZ HZ c0 c1 c2 c3 c4 c5
  obtain⟨c0,c1,c2,c3,c4,c5⟩:=(zu L3).c
  go_wp2_with fail
  refine(toB _ y0 (zu L3).r (zu SM)).mono ?_
  rintro e u3 ⟨x,hx,rfl,ox,bb⟩
  have X4:=zh (show ZX w (u3.alloc (.cells #[.slice (some ⟨x.ga,0,none⟩) x.b.ac.length x.ca,.slice (some ⟨x.gi,0,none⟩) x.b.ic.length x.ci,.slice (some ⟨x.gb,0,none⟩) x.b.bs.length x.cb,.slice (some ⟨x.gl,0,none⟩) x.b.ls.length x.cl,.slice (some ⟨x.gt,0,none⟩) x.b.ts.length x.ct,.int .i64 x.b.lot] 36)) y0 x u2.heap.size u3.heap.size from⟨((zu L3).step bb).step (one_more _ _),((zu Z3).step bb).step (one_more _ _),Bv.made 36 rfl,ow_alloc (by simpa using ox) _,ow_up ox,hn⟩)
  have HX:=zh hx
  clear bb ox hx L3 Z3 hn c0 c1 c2 c3 c4 c5
  go_wp2_with fail
  refine(SplitTellI.iTell _ x a1 a2 a3 a4 ((zu X4).ox.rd (by rw[zu HX];exact zu SM))).mono ?_
  rintro e u4 ((⟨N,rfl,bb⟩|⟨T,g,t',c',hP,rfl,og,bb⟩)|⟨T,_⟩)
  rotate_left
  ·rw[zu HX] at T
   exact absurd T (zu NN)
  ·rw[zu HX] at T
   exact absurd T (zu NN)
  have X5:=zh (((zu X4).step bb).step (one_more u4 (.cells #[.slice none 0 0,.slice none 0 0,.slice none 0 0,.slice none 0 0,.slice none 0 0,.int .i64 0] 36)))
  have G5:=zh (Zv.made u4 36)
  have hg:u3.heap.size≤u4.heap.size:=by have:=bb.size;simp at this;omega
  clear bb N X4
  obtain⟨c0,c1,c2,c3,c4,c5,cl⟩:=(zu X5).zz
  go_wp2_with fail
  refine(eqB0 _).mono ?_
  rintro e u5 ⟨rfl,bb⟩
  have X6:=zh ((zu X5).step bb)
  have G6:=zh ((zu G5).step bb)
  clear bb X5 G5 c0 c1 c2 c3 c4 c5 cl
  go_wp2_with fail
  have K4:=cells12 (zu X6).l.c (zu X6).bx.c
  go_region_held3 (fun w'=>w'.cell? ⟨w.heap.size,0,none⟩=some (.slice y0.aa y0.b.ac.length y0.ca)∧w'.cell? ⟨w.heap.size,1,none⟩=some (.slice y0.ai y0.b.ic.length y0.ci)∧w'.cell? ⟨w.heap.size,2,none⟩=some (.slice y0.ab y0.b.bs.length y0.cb)∧w'.cell? ⟨w.heap.size,3,none⟩=some (.slice y0.al y0.b.ls.length y0.cl)∧w'.cell? ⟨w.heap.size,4,none⟩=some (.slice y0.ats y0.b.ts.length y0.ct)∧w'.cell? ⟨w.heap.size,5,none⟩=some (.int .i64 y0.b.lot)∧w'.cell? ⟨u3.heap.size,0,none⟩=some (.slice (some ⟨x.ga,0,none⟩) x.b.ac.length x.ca)∧w'.cell? ⟨u3.heap.size,1,none⟩=some (.slice (some ⟨x.gi,0,none⟩) x.b.ic.length x.ci)∧w'.cell? ⟨u3.heap.size,2,none⟩=some (.slice (some ⟨x.gb,0,none⟩) x.b.bs.length x.cb)∧w'.cell? ⟨u3.heap.size,3,none⟩=some (.slice (some ⟨x.gl,0,none⟩) x.b.ls.length x.cl)∧w'.cell? ⟨u3.heap.size,4,none⟩=some (.slice (some ⟨x.gt,0,none⟩) x.b.ts.length x.ct)∧w'.cell? ⟨u3.heap.size,5,none⟩=some (.int .i64 x.b.lot)) (first|exact K4|exact K5|exact K6)
   (first|(go_at_call 9;refine(toB u5.drew y0 (rdI_drew (zu X6).l.r) (zu SM)).mono ?_;rintro e u6 ⟨q,hqb,rfl,oq,bb⟩;have bW:Below u5.heap.size u5 u6:=below_of_drew bb;have X7:=zh ((zu X6).step bW);have G7:=zh ((zu G6).step bW);have K5:=cells12 (zu X7).l.c (zu X7).bx.c;have HQ:=zh hqb;have OQ:=zh oq;clear hqb oq bb bW)|(go_at_call 11;refine(eqB u6 x q (by rw[zu HQ,zu HX]) ((zu X7).ox.rd (by rw[zu HX];exact zu SM)) ((zu OQ).rd (by rw[zu HQ];exact zu SM))).mono ?_;rintro e u7 ⟨rfl,bb6⟩;have X8:=zh ((zu X7).step bb6);have G8:=zh ((zu G7).step bb6);have K6:=cells12 (zu X8).l.c (zu X8).bx.c;clear bb6))
  clear K4 K5 K6
  have EX:=(e_bd (b:=x.b) (by rw[zu HX];exact zu SM)).2.2.2.2
  obtain⟨ex,hex⟩:∃ex,Hid (e5 x.b=ex):=⟨_,rfl⟩
  have ex0:decide (ex<0)=false:=decide_eq_false (by rw[←zu hex];omega)
  clear EX
  obtain⟨c0,c1,c2,c3,c4,c5⟩:=(zu X8).bx.c
  go_wp2_with fail
  refine(markB _ _ x (zu X8).ox (by rw[zu HX];exact zu SM)).mono ?_
  rintro e u8 ⟨rfl,_,tn⟩
  rw[zu hex]
  have Y9:=zh ((zu X8).turn (zu H) (zu G8) hg tn)
  clear tn X6 X7 X8 G6 G7 G8 c0 c1 c2 c3 c4 c5
  obtain⟨c0,c1,c2,c3,c4,c5,cl⟩:=(zu Y9).zz
  obtain⟨d0,d1,d2,d3,d4,d5,dl⟩:=(zu Y9).zg
  go_wp2_with fail
  refine(eqB0 _).mono ?_
  rintro e u9 ⟨rfl,bb⟩
  have Y10:=zh ((zu Y9).step bb)
  clear bb Y9 c0 c1 c2 c3 c4 c5 cl d0 d1 d2 d3 d4 d5 dl
  obtain⟨d0,d1,d2,d3,d4,d5,dl⟩:=(zu Y10).zg
  go_wp2_with fail
  refine(markB0 _).mono ?_
  rintro e u10 ⟨rfl,bb⟩
  have Y11:=zh ((zu Y10).step bb)
  clear bb Y10 d0 d1 d2 d3 d4 d5 dl
  obtain⟨d0,d1,d2,d3,d4,d5,dl⟩:=(zu Y11).zg
  go_wp2_with fail
  refine(heldB0 _).mono ?_
  rintro e u11 ⟨rfl,bb⟩
  have Y12:=zh ((zu Y11).step bb)
  clear bb Y11 d0 d1 d2 d3 d4 d5 dl
  obtain⟨c0,c1,c2,c3,c4,c5⟩:=(zu Y12).l.c
  go_wp2_with fail
  refine(toB _ y0 (zu Y12).l.r (zu SM)).mono ?_
  rintro e u12 ⟨v,hv,rfl,ov,bb⟩
  have Y13:=zh ((zu Y12).step bb)
  have OV:=zh ov
  have HV:=zh hv
  clear bb ov hv Y12 c0 c1 c2 c3 c4 c5
  go_wp2_with fail
  refine(SplitTellI.iTell _ v a1 a2 a3 a4 ((zu OV).rd (by rw[zu HV];exact zu SM))).mono ?_
  rintro e u13 ((⟨N,rfl,bb⟩|⟨T,h,t2',c2',hP,rfl,oh,bb⟩)|⟨T,_⟩)
  rotate_left
  ·rw[zu HV] at T
   exact absurd T (zu NN)
  ·rw[zu HV] at T
   exact absurd T (zu NN)
  have Y14:=zh (((zu Y13).step bb).step (one_more u13 (.cells #[.slice none 0 0,.slice none 0 0,.slice none 0 0,.slice none 0 0,.slice none 0 0,.int .i64 0] 36)))
  clear bb N Y13
  obtain⟨c0,c1,c2,c3,c4,c5,cl⟩:=(zu Y14).zz
  go_wp2_with fail
  refine(eqB0 _).mono ?_
  rintro e u14 ⟨rfl,bb⟩
  have Y15:=zh ((zu Y14).step bb)
  clear bb Y14 c0 c1 c2 c3 c4 c5 cl
  obtain⟨d0,d1,d2,d3,d4,d5,dl⟩:=(zu Y15).zg
  go_wp2_with fail
  refine(heldB0 _).mono ?_
  rintro e u15 ⟨rfl,bb⟩
  have Y16:=zh ((zu Y15).step bb)
  clear bb Y15 d0 d1 d2 d3 d4 d5 dl
  go_wp2
  go_ret
  exact⟨rfl,(zu Y16).l.b⟩
 rw[zu HZ] at T hP
 have L3:=zh ((zu L2).step bb)
 have Q3:=zh (show QZ w (u2.alloc (.cells #[.slice (some ⟨z.ga,0,none⟩) z.b.ac.length z.ca,.slice (some ⟨z.gi,0,none⟩) z.b.ic.length z.ci,.slice (some ⟨z.gb,0,none⟩) z.b.bs.length z.cb,.slice (some ⟨z.gl,0,none⟩) z.b.ls.length z.cl,.slice (some ⟨z.gt,0,none⟩) z.b.ts.length z.ct,.int .i64 z.b.lot] 36)) y0 z u2.heap.size from⟨(zu L3).step (one_more _ _),Bv.made 36 rfl,ow_alloc (oz.rebase (zu L2).s) _,ow_up oz,(zu L3).s⟩)
 have PZ:=zh hP
 have TT:=zh T
 have SZ:=zh (is_small hP (zu SM))
 clear bb oz hP T L2 RZ HZ c0 c1 c2 c3 c4 c5 L3
 obtain⟨c0,c1,c2,c3,c4,c5⟩:=(zu Q3).l.c
 go_wp2_with fail
 refine(toB _ y0 (zu Q3).l.r (zu SM)).mono ?_
 rintro e u3 ⟨x,hx,rfl,ox,bb⟩
 have Q4:=zh (show QX w (u3.alloc (.cells #[.slice (some ⟨x.ga,0,none⟩) x.b.ac.length x.ca,.slice (some ⟨x.gi,0,none⟩) x.b.ic.length x.ci,.slice (some ⟨x.gb,0,none⟩) x.b.bs.length x.cb,.slice (some ⟨x.gl,0,none⟩) x.b.ls.length x.cl,.slice (some ⟨x.gt,0,none⟩) x.b.ts.length x.ct,.int .i64 x.b.lot] 36)) y0 z x u2.heap.size u3.heap.size from⟨((zu Q3).step bb).step (one_more _ _),Bv.made 36 rfl,ow_alloc (by simpa using ox) _,ow_up ox,by have:=bb.size;simp at this;omega⟩)
 have HX:=zh hx
 clear bb ox hx Q3 c0 c1 c2 c3 c4 c5
 go_wp2_with fail
 refine(SplitTellI.iTell _ x a1 a2 a3 a4 ((zu Q4).ox.rd (by rw[zu HX];exact zu SM))).mono ?_
 rintro e u4 ((⟨N,rfl,bb⟩|⟨T,g,t',c',hP,rfl,og,bb⟩)|⟨T,g,t',c',hP,rfl,og,bb⟩)
 ·exact absurd (by rw[zu HX];exact zu TT) N
 ·rw[zu HX] at hP
  obtain⟨hgz,rfl,rfl⟩:=hP.same (zu PZ)
  have Q5:=zh (show QG w (u4.alloc (.cells #[.slice (some ⟨g.ga,0,none⟩) g.b.ac.length g.ca,.slice (some ⟨g.gi,0,none⟩) g.b.ic.length g.ci,.slice (some ⟨g.gb,0,none⟩) g.b.bs.length g.cb,.slice (some ⟨g.gl,0,none⟩) g.b.ls.length g.cl,.slice (some ⟨g.gt,0,none⟩) g.b.ts.length g.ct,.int .i64 g.b.lot] 36)) y0 z x g u2.heap.size u3.heap.size u4.heap.size from⟨((zu Q4).step bb).step (one_more _ _),Bv.made 36 rfl,ow_alloc (by simpa using og) _,ow_up og,by have:=bb.size;simp at this;omega⟩)
  have GZ:=zh hgz
  have SG:=zh (show Small g.b from by rw[hgz];exact zu SZ)
  clear bb og hgz hP T Q4
  obtain⟨c0,c1,c2,c3,c4,c5⟩:=(zu Q5).q.q.bz.c
  have hq:(c' !=c')=false:=by simp
  have hq2:(t' !=t')=false:=by simp
  go_wp2_with fail
  refine(eqB _ g z (zu GZ).symm ((zu Q5).og.rd (zu SG)) ((zu Q5).q.q.oz.rd (zu SZ))).mono ?_
  rintro e u5 ⟨rfl,bb⟩
  have Q6:=zh ((zu Q5).step bb)
  clear bb Q5 c0 c1 c2 c3 c4 c5
  go_wp2_with fail
  have K4:=cells12 (zu Q6).q.q.l.c (zu Q6).q.bx.c
  clear hq hq2
  go_region_held3 (fun w'=>w'.cell? ⟨w.heap.size,0,none⟩=some (.slice y0.aa y0.b.ac.length y0.ca)∧w'.cell? ⟨w.heap.size,1,none⟩=some (.slice y0.ai y0.b.ic.length y0.ci)∧w'.cell? ⟨w.heap.size,2,none⟩=some (.slice y0.ab y0.b.bs.length y0.cb)∧w'.cell? ⟨w.heap.size,3,none⟩=some (.slice y0.al y0.b.ls.length y0.cl)∧w'.cell? ⟨w.heap.size,4,none⟩=some (.slice y0.ats y0.b.ts.length y0.ct)∧w'.cell? ⟨w.heap.size,5,none⟩=some (.int .i64 y0.b.lot)∧w'.cell? ⟨u3.heap.size,0,none⟩=some (.slice (some ⟨x.ga,0,none⟩) x.b.ac.length x.ca)∧w'.cell? ⟨u3.heap.size,1,none⟩=some (.slice (some ⟨x.gi,0,none⟩) x.b.ic.length x.ci)∧w'.cell? ⟨u3.heap.size,2,none⟩=some (.slice (some ⟨x.gb,0,none⟩) x.b.bs.length x.cb)∧w'.cell? ⟨u3.heap.size,3,none⟩=some (.slice (some ⟨x.gl,0,none⟩) x.b.ls.length x.cl)∧w'.cell? ⟨u3.heap.size,4,none⟩=some (.slice (some ⟨x.gt,0,none⟩) x.b.ts.length x.ct)∧w'.cell? ⟨u3.heap.size,5,none⟩=some (.int .i64 x.b.lot)) (first|exact K4|exact K5|exact K6)
   (first|(go_at_call 9;refine(toB u5.drew y0 (rdI_drew (zu Q6).q.q.l.r) (zu SM)).mono ?_;rintro e u6 ⟨q,hqb,rfl,oq,bb⟩;have bW:Below u5.heap.size u5 u6:=below_of_drew bb;have Q7:=zh ((zu Q6).step bW);have K5:=cells12 (zu Q7).q.q.l.c (zu Q7).q.bx.c;have HQ:=zh hqb;have OQ:=zh oq;clear hqb oq bb bW)|(go_at_call 11;refine(eqB u6 x q (by rw[zu HQ,zu HX]) ((zu Q7).q.ox.rd (by rw[zu HX];exact zu SM)) ((zu OQ).rd (by rw[zu HQ];exact zu SM))).mono ?_;rintro e u7 ⟨rfl,bb6⟩;have Q8:=zh ((zu Q7).step bb6);have K6:=cells12 (zu Q8).q.q.l.c (zu Q8).q.bx.c;clear bb6))
  clear K4 K5 K6
  have EX:=(e_bd (b:=x.b) (by rw[zu HX];exact zu SM)).2.2.2.2
  have EG:=(e_bd (zu SG)).2.2.2.2
  obtain⟨ex,hex⟩:∃ex,Hid (e5 x.b=ex):=⟨_,rfl⟩
  obtain⟨eg,heg⟩:∃eg,Hid (e5 g.b=eg):=⟨_,rfl⟩
  have ex0:decide (ex<0)=false:=decide_eq_false (by rw[←zu hex];omega)
  have eg0:decide (eg<0)=false:=decide_eq_false (by rw[←zu heg];omega)
  clear EX EG
  obtain⟨c0,c1,c2,c3,c4,c5⟩:=(zu Q8).q.bx.c
  go_wp2_with fail
  refine(markB _ _ x (zu Q8).q.ox (by rw[zu HX];exact zu SM)).mono ?_
  rintro e u8 ⟨rfl,_,tn⟩
  rw[zu hex]
  have Q9:=zh ((zu Q8).turn (zu H) tn)
  clear tn Q6 Q7 Q8 c0 c1 c2 c3 c4 c5
  obtain⟨c0,c1,c2,c3,c4,c5⟩:=(zu Q9).q.bz.c
  obtain⟨d0,d1,d2,d3,d4,d5⟩:=(zu Q9).bg.c
  have hq:(c' !=c')=false:=by simp
  have hq2:(t' !=t')=false:=by simp
  go_wp2_with fail
  refine(eqB _ g z (zu GZ).symm ((zu Q9).og.rd (zu SG)) ((zu Q9).q.oz.rd (zu SZ))).mono ?_
  rintro e u9 ⟨rfl,bb⟩
  have Q10:=zh ((zu Q9).step bb)
  clear bb Q9 c0 c1 c2 c3 c4 c5 d0 d1 d2 d3 d4 d5
  obtain⟨d0,d1,d2,d3,d4,d5⟩:=(zu Q10).bg.c
  go_wp2_with fail
  refine(markB _ _ g (zu Q10).og (zu SG)).mono ?_
  rintro e u10 ⟨rfl,om,tn⟩
  rw[zu heg]
  have Q11:=zh ((zu Q10).turn (zu H) tn om)
  clear tn om Q10 d0 d1 d2 d3 d4 d5
  obtain⟨d0,d1,d2,d3,d4,d5⟩:=(zu Q11).bg.c
  go_wp2_with fail
  refine(heldB _ _ g (zu Q11).og (zu SG)).mono ?_
  rintro e u11 ⟨rfl,bb⟩
  rw[zu heg]
  have Q12:=zh ((zu Q11).step bb)
  clear bb Q11 d0 d1 d2 d3 d4 d5
  have he:(eg !=eg)=false:=by simp
  obtain⟨c0,c1,c2,c3,c4,c5⟩:=(zu Q12).q.l.c
  go_wp2_with fail
  refine(toB _ y0 (zu Q12).q.l.r (zu SM)).mono ?_
  rintro e u12 ⟨v,hv,rfl,ov,bb⟩
  have Q13:=zh ((zu Q12).step bb)
  have OV:=zh ov
  have HV:=zh hv
  clear bb ov hv Q12 c0 c1 c2 c3 c4 c5
  go_wp2_with fail
  refine(SplitTellI.iTell _ v a1 a2 a3 a4 ((zu OV).rd (by rw[zu HV];exact zu SM))).mono ?_
  rintro e u13 ((⟨N,rfl,bb⟩|⟨T,h,t2',c2',hP,rfl,oh,bb⟩)|⟨T,h,t2',c2',hP,rfl,oh,bb⟩)
  ·exact absurd (by rw[zu HV];exact zu TT) N
  ·rw[zu HV] at hP
   obtain⟨hhz,rfl,rfl⟩:=hP.same (zu PZ)
   have Q14:=zh (((zu Q13).step bb).step (one_more u13 (.cells #[.slice (some ⟨h.ga,0,none⟩) h.b.ac.length h.ca,.slice (some ⟨h.gi,0,none⟩) h.b.ic.length h.ci,.slice (some ⟨h.gb,0,none⟩) h.b.bs.length h.cb,.slice (some ⟨h.gl,0,none⟩) h.b.ls.length h.cl,.slice (some ⟨h.gt,0,none⟩) h.b.ts.length h.ct,.int .i64 h.b.lot] 36)))
   have BH:=zh (Bv.made (w:=u13) (x:=h) 36 rfl)
   have OH:=zh (ow_alloc oh (.cells #[.slice (some ⟨h.ga,0,none⟩) h.b.ac.length h.ca,.slice (some ⟨h.gi,0,none⟩) h.b.ic.length h.ci,.slice (some ⟨h.gb,0,none⟩) h.b.bs.length h.cb,.slice (some ⟨h.gl,0,none⟩) h.b.ls.length h.cl,.slice (some ⟨h.gt,0,none⟩) h.b.ts.length h.ct,.int .i64 h.b.lot] 36))
   have HZ':=zh hhz
   have SH:=zh (show Small h.b from by rw[hhz];exact zu SZ)
   clear bb oh hhz hP T Q13
   obtain⟨c0,c1,c2,c3,c4,c5⟩:=(zu Q14).q.bz.c
   go_wp2_with fail
   refine(eqB _ h z (zu HZ').symm ((zu OH).rd (zu SH)) ((zu Q14).q.oz.rd (zu SZ))).mono ?_
   rintro e u14 ⟨rfl,bb⟩
   have Q15:=zh ((zu Q14).step bb)
   clear bb Q14 c0 c1 c2 c3 c4 c5
   obtain⟨d0,d1,d2,d3,d4,d5⟩:=(zu Q15).bg.c
   go_wp2_with fail
   refine(heldB _ _ g (zu Q15).og (zu SG)).mono ?_
   rintro e u15 ⟨rfl,bb⟩
   rw[zu heg]
   have Q16:=zh ((zu Q15).step bb)
   clear bb Q15 d0 d1 d2 d3 d4 d5
   go_wp2
   go_ret
   exact⟨rfl,(zu Q16).q.l.b⟩
  ·rw[zu HV] at hP
   obtain⟨hhz,rfl,rfl⟩:=hP.same (zu PZ)
   have Q14:=zh (((zu Q13).step bb).step (one_more u13 (.cells #[.slice (some ⟨h.ga,0,none⟩) h.b.ac.length h.ca,.slice (some ⟨h.gi,0,none⟩) h.b.ic.length h.ci,.slice (some ⟨h.gb,0,none⟩) h.b.bs.length h.cb,.slice none 0 0,.slice (some ⟨h.gt,0,none⟩) h.b.ts.length h.ct,.int .i64 h.b.lot] 36)))
   have BH:=zh (BvN.made (w:=u13) (x:=h) 36)
   have OH:=zh (oh.alloc (.cells #[.slice (some ⟨h.ga,0,none⟩) h.b.ac.length h.ca,.slice (some ⟨h.gi,0,none⟩) h.b.ic.length h.ci,.slice (some ⟨h.gb,0,none⟩) h.b.bs.length h.cb,.slice none 0 0,.slice (some ⟨h.gt,0,none⟩) h.b.ts.length h.ct,.int .i64 h.b.lot] 36))
   have HZ':=zh hhz
   have SH:=zh (show Small h.b from by rw[hhz];exact zu SZ)
   clear bb oh hhz hP T Q13
   obtain⟨c0,c1,c2,c3,c4,c5⟩:=(zu Q14).q.bz.c
   go_wp2_with fail
   refine(eqBn _ h z (zu HZ').symm (zu OH).nl (OwN.rd (zu OH) (zu SH)) ((zu Q14).q.oz.rd (zu SZ))).mono ?_
   rintro e u14 ⟨rfl,bb⟩
   have Q15:=zh ((zu Q14).step bb)
   clear bb Q14 c0 c1 c2 c3 c4 c5
   obtain⟨d0,d1,d2,d3,d4,d5⟩:=(zu Q15).bg.c
   go_wp2_with fail
   refine(heldB _ _ g (zu Q15).og (zu SG)).mono ?_
   rintro e u15 ⟨rfl,bb⟩
   rw[zu heg]
   have Q16:=zh ((zu Q15).step bb)
   clear bb Q15 d0 d1 d2 d3 d4 d5
   go_wp2
   go_ret
   exact⟨rfl,(zu Q16).q.l.b⟩
 ·rw[zu HX] at hP
  obtain⟨hgz,rfl,rfl⟩:=hP.same (zu PZ)
  have Q5:=zh (show QGN w (u4.alloc (.cells #[.slice (some ⟨g.ga,0,none⟩) g.b.ac.length g.ca,.slice (some ⟨g.gi,0,none⟩) g.b.ic.length g.ci,.slice (some ⟨g.gb,0,none⟩) g.b.bs.length g.cb,.slice none 0 0,.slice (some ⟨g.gt,0,none⟩) g.b.ts.length g.ct,.int .i64 g.b.lot] 36)) y0 z x g u2.heap.size u3.heap.size u4.heap.size from⟨((zu Q4).step bb).step (one_more _ _),BvN.made 36,(show OwN _ _ g from by simpa using og).alloc _,og.up,by have:=bb.size;simp at this;omega⟩)
  have GZ:=zh hgz
  have SG:=zh (show Small g.b from by rw[hgz];exact zu SZ)
  clear bb og hgz hP T Q4
  obtain⟨c0,c1,c2,c3,c4,c5⟩:=(zu Q5).q.q.bz.c
  have hq:(c' !=c')=false:=by simp
  have hq2:(t' !=t')=false:=by simp
  go_wp2_with fail
  refine(eqBn _ g z (zu GZ).symm (zu Q5).og.nl (OwN.rd (zu Q5).og (zu SG)) ((zu Q5).q.q.oz.rd (zu SZ))).mono ?_
  rintro e u5 ⟨rfl,bb⟩
  have Q6:=zh ((zu Q5).step bb)
  clear bb Q5 c0 c1 c2 c3 c4 c5
  go_wp2_with fail
  have K4:=cells12 (zu Q6).q.q.l.c (zu Q6).q.bx.c
  clear hq hq2
  go_region_held3 (fun w'=>w'.cell? ⟨w.heap.size,0,none⟩=some (.slice y0.aa y0.b.ac.length y0.ca)∧w'.cell? ⟨w.heap.size,1,none⟩=some (.slice y0.ai y0.b.ic.length y0.ci)∧w'.cell? ⟨w.heap.size,2,none⟩=some (.slice y0.ab y0.b.bs.length y0.cb)∧w'.cell? ⟨w.heap.size,3,none⟩=some (.slice y0.al y0.b.ls.length y0.cl)∧w'.cell? ⟨w.heap.size,4,none⟩=some (.slice y0.ats y0.b.ts.length y0.ct)∧w'.cell? ⟨w.heap.size,5,none⟩=some (.int .i64 y0.b.lot)∧w'.cell? ⟨u3.heap.size,0,none⟩=some (.slice (some ⟨x.ga,0,none⟩) x.b.ac.length x.ca)∧w'.cell? ⟨u3.heap.size,1,none⟩=some (.slice (some ⟨x.gi,0,none⟩) x.b.ic.length x.ci)∧w'.cell? ⟨u3.heap.size,2,none⟩=some (.slice (some ⟨x.gb,0,none⟩) x.b.bs.length x.cb)∧w'.cell? ⟨u3.heap.size,3,none⟩=some (.slice (some ⟨x.gl,0,none⟩) x.b.ls.length x.cl)∧w'.cell? ⟨u3.heap.size,4,none⟩=some (.slice (some ⟨x.gt,0,none⟩) x.b.ts.length x.ct)∧w'.cell? ⟨u3.heap.size,5,none⟩=some (.int .i64 x.b.lot)) (first|exact K4|exact K5|exact K6)
   (first|(go_at_call 9;refine(toB u5.drew y0 (rdI_drew (zu Q6).q.q.l.r) (zu SM)).mono ?_;rintro e u6 ⟨q,hqb,rfl,oq,bb⟩;have bW:Below u5.heap.size u5 u6:=below_of_drew bb;have Q7:=zh ((zu Q6).step bW);have K5:=cells12 (zu Q7).q.q.l.c (zu Q7).q.bx.c;have HQ:=zh hqb;have OQ:=zh oq;clear hqb oq bb bW)|(go_at_call 11;refine(eqB u6 x q (by rw[zu HQ,zu HX]) ((zu Q7).q.ox.rd (by rw[zu HX];exact zu SM)) ((zu OQ).rd (by rw[zu HQ];exact zu SM))).mono ?_;rintro e u7 ⟨rfl,bb6⟩;have Q8:=zh ((zu Q7).step bb6);have K6:=cells12 (zu Q8).q.q.l.c (zu Q8).q.bx.c;clear bb6))
  clear K4 K5 K6
  have EX:=(e_bd (b:=x.b) (by rw[zu HX];exact zu SM)).2.2.2.2
  have EG:=(e_bd (zu SG)).2.2.2.2
  obtain⟨ex,hex⟩:∃ex,Hid (e5 x.b=ex):=⟨_,rfl⟩
  obtain⟨eg,heg⟩:∃eg,Hid (e5 g.b=eg):=⟨_,rfl⟩
  have ex0:decide (ex<0)=false:=decide_eq_false (by rw[←zu hex];omega)
  have eg0:decide (eg<0)=false:=decide_eq_false (by rw[←zu heg];omega)
  clear EX EG
  obtain⟨c0,c1,c2,c3,c4,c5⟩:=(zu Q8).q.bx.c
  go_wp2_with fail
  refine(markB _ _ x (zu Q8).q.ox (by rw[zu HX];exact zu SM)).mono ?_
  rintro e u8 ⟨rfl,_,tn⟩
  rw[zu hex]
  have Q9:=zh ((zu Q8).turn (zu H) tn)
  clear tn Q6 Q7 Q8 c0 c1 c2 c3 c4 c5
  obtain⟨c0,c1,c2,c3,c4,c5⟩:=(zu Q9).q.bz.c
  obtain⟨d0,d1,d2,d3,d4,d5⟩:=(zu Q9).bg.c
  have hq:(c' !=c')=false:=by simp
  have hq2:(t' !=t')=false:=by simp
  go_wp2_with fail
  refine(eqBn _ g z (zu GZ).symm (zu Q9).og.nl (OwN.rd (zu Q9).og (zu SG)) ((zu Q9).q.oz.rd (zu SZ))).mono ?_
  rintro e u9 ⟨rfl,bb⟩
  have Q10:=zh ((zu Q9).step bb)
  clear bb Q9 c0 c1 c2 c3 c4 c5 d0 d1 d2 d3 d4 d5
  obtain⟨d0,d1,d2,d3,d4,d5⟩:=(zu Q10).bg.c
  go_wp2_with fail
  refine(markBn _ _ g (zu Q10).og (zu SG)).mono ?_
  rintro e u10 ⟨rfl,om,tn⟩
  rw[zu heg]
  have Q11:=zh ((zu Q10).turn (zu H) tn om)
  clear tn om Q10 d0 d1 d2 d3 d4 d5
  obtain⟨d0,d1,d2,d3,d4,d5⟩:=(zu Q11).bg.c
  go_wp2_with fail
  refine(heldBn _ _ g (zu Q11).og (zu SG)).mono ?_
  rintro e u11 ⟨rfl,bb⟩
  rw[zu heg]
  have Q12:=zh ((zu Q11).step bb)
  clear bb Q11 d0 d1 d2 d3 d4 d5
  have he:(eg !=eg)=false:=by simp
  obtain⟨c0,c1,c2,c3,c4,c5⟩:=(zu Q12).q.l.c
  go_wp2_with fail
  refine(toB _ y0 (zu Q12).q.l.r (zu SM)).mono ?_
  rintro e u12 ⟨v,hv,rfl,ov,bb⟩
  have Q13:=zh ((zu Q12).step bb)
  have OV:=zh ov
  have HV:=zh hv
  clear bb ov hv Q12 c0 c1 c2 c3 c4 c5
  go_wp2_with fail
  refine(SplitTellI.iTell _ v a1 a2 a3 a4 ((zu OV).rd (by rw[zu HV];exact zu SM))).mono ?_
  rintro e u13 ((⟨N,rfl,bb⟩|⟨T,h,t2',c2',hP,rfl,oh,bb⟩)|⟨T,h,t2',c2',hP,rfl,oh,bb⟩)
  ·exact absurd (by rw[zu HV];exact zu TT) N
  ·rw[zu HV] at hP
   obtain⟨hhz,rfl,rfl⟩:=hP.same (zu PZ)
   have Q14:=zh (((zu Q13).step bb).step (one_more u13 (.cells #[.slice (some ⟨h.ga,0,none⟩) h.b.ac.length h.ca,.slice (some ⟨h.gi,0,none⟩) h.b.ic.length h.ci,.slice (some ⟨h.gb,0,none⟩) h.b.bs.length h.cb,.slice (some ⟨h.gl,0,none⟩) h.b.ls.length h.cl,.slice (some ⟨h.gt,0,none⟩) h.b.ts.length h.ct,.int .i64 h.b.lot] 36)))
   have BH:=zh (Bv.made (w:=u13) (x:=h) 36 rfl)
   have OH:=zh (ow_alloc oh (.cells #[.slice (some ⟨h.ga,0,none⟩) h.b.ac.length h.ca,.slice (some ⟨h.gi,0,none⟩) h.b.ic.length h.ci,.slice (some ⟨h.gb,0,none⟩) h.b.bs.length h.cb,.slice (some ⟨h.gl,0,none⟩) h.b.ls.length h.cl,.slice (some ⟨h.gt,0,none⟩) h.b.ts.length h.ct,.int .i64 h.b.lot] 36))
   have HZ':=zh hhz
   have SH:=zh (show Small h.b from by rw[hhz];exact zu SZ)
   clear bb oh hhz hP T Q13
   obtain⟨c0,c1,c2,c3,c4,c5⟩:=(zu Q14).q.bz.c
   go_wp2_with fail
   refine(eqB _ h z (zu HZ').symm ((zu OH).rd (zu SH)) ((zu Q14).q.oz.rd (zu SZ))).mono ?_
   rintro e u14 ⟨rfl,bb⟩
   have Q15:=zh ((zu Q14).step bb)
   clear bb Q14 c0 c1 c2 c3 c4 c5
   obtain⟨d0,d1,d2,d3,d4,d5⟩:=(zu Q15).bg.c
   go_wp2_with fail
   refine(heldBn _ _ g (zu Q15).og (zu SG)).mono ?_
   rintro e u15 ⟨rfl,bb⟩
   rw[zu heg]
   have Q16:=zh ((zu Q15).step bb)
   clear bb Q15 d0 d1 d2 d3 d4 d5
   go_wp2
   go_ret
   exact⟨rfl,(zu Q16).q.l.b⟩
  ·rw[zu HV] at hP
   obtain⟨hhz,rfl,rfl⟩:=hP.same (zu PZ)
   have Q14:=zh (((zu Q13).step bb).step (one_more u13 (.cells #[.slice (some ⟨h.ga,0,none⟩) h.b.ac.length h.ca,.slice (some ⟨h.gi,0,none⟩) h.b.ic.length h.ci,.slice (some ⟨h.gb,0,none⟩) h.b.bs.length h.cb,.slice none 0 0,.slice (some ⟨h.gt,0,none⟩) h.b.ts.length h.ct,.int .i64 h.b.lot] 36)))
   have BH:=zh (BvN.made (w:=u13) (x:=h) 36)
   have OH:=zh (oh.alloc (.cells #[.slice (some ⟨h.ga,0,none⟩) h.b.ac.length h.ca,.slice (some ⟨h.gi,0,none⟩) h.b.ic.length h.ci,.slice (some ⟨h.gb,0,none⟩) h.b.bs.length h.cb,.slice none 0 0,.slice (some ⟨h.gt,0,none⟩) h.b.ts.length h.ct,.int .i64 h.b.lot] 36))
   have HZ':=zh hhz
   have SH:=zh (show Small h.b from by rw[hhz];exact zu SZ)
   clear bb oh hhz hP T Q13
   obtain⟨c0,c1,c2,c3,c4,c5⟩:=(zu Q14).q.bz.c
   go_wp2_with fail
   refine(eqBn _ h z (zu HZ').symm (zu OH).nl (OwN.rd (zu OH) (zu SH)) ((zu Q14).q.oz.rd (zu SZ))).mono ?_
   rintro e u14 ⟨rfl,bb⟩
   have Q15:=zh ((zu Q14).step bb)
   clear bb Q14 c0 c1 c2 c3 c4 c5
   obtain⟨d0,d1,d2,d3,d4,d5⟩:=(zu Q15).bg.c
   go_wp2_with fail
   refine(heldBn _ _ g (zu Q15).og (zu SG)).mono ?_
   rintro e u15 ⟨rfl,bb⟩
   rw[zu heg]
   have Q16:=zh ((zu Q15).step bb)
   clear bb Q15 d0 d1 d2 d3 d4 d5
   go_wp2
   go_ret
   exact⟨rfl,(zu Q16).q.l.b⟩
set_option maxRecDepth 100000 in
theorem lifted(os:Os)(started:os.Started)(H:Type)(enc:TypeId×Value→H):
  ReturnsInHanded {} Tryz.checked os 5 .any (Rows.fnExactBookSplitSpec.pre6 enc Tryz.prog Tryz.f5 Rows.fnExactBookSplitRow.domain false) (Rows.fnExactBookSplitSpec.post enc Tryz.prog Tryz.f5 false true false false):=by
 refine returnsInHanded_of_change (C:=Tryz.checked) own started (by kernel_rfl) Tryz.func5
  (ChangeSpec.witness6 (enc:=enc) (C:=Tryz.checked) false ⟨#[],#[.agg #[.slice none 0 0,.slice none 0 0,.slice none 0 0,.slice none 0 0,.slice none 0 0,.int .i64 0],.int .i64 0,.int .i64 0,.int .i64 0,.int .i64 0],[]⟩ 8 (by kernel_rfl) (by kernel_rfl) (by kernel_rfl) (by kernel_rfl)) ?_
 intro W base args ds gs before hval0 hW hcnd _
 have hval:∀(j:Nat) t v,Tryz.f5.params[j]?=some t→args[j]?=some v→Value.okWide Tryz.prog W .any base t v:=hval0
 have hW':=hW
 obtain⟨p,q,hA0,hV,rfl,hfz,hnd⟩:=hW
 have hA:DataW.TrodAll enc Tryz.prog W 0 (fun _=>true) true Tryz.f5.params.toList args.toList ds p:=hA0
 rw[Tryz.params5] at hA hval
 obtain⟨v0,vs0,d0,ds0,p0,q0,hargs,rfl,rfl,h0,r0⟩:=trodAll_cons hA
 obtain⟨v1,vs1,d1,ds1,p1,q1,rfl,rfl,rfl,h1,r1⟩:=trodAll_cons r0
 obtain⟨v2,vs2,d2,ds2,p2,q2,rfl,rfl,rfl,h2,r2⟩:=trodAll_cons r1
 obtain⟨v3,vs3,d3,ds3,p3,q3,rfl,rfl,rfl,h3,r3⟩:=trodAll_cons r2
 obtain⟨v4,vs4,d4,ds4,p4,q4,rfl,rfl,rfl,h4,r4⟩:=trodAll_cons r3
 obtain⟨rfl,rfl,rfl⟩:=trodAll_nil r4
 obtain rfl:args= #[v0,v1,v2,v3,v4]:=by cases args;simp_all
 obtain⟨rfl,rfl⟩:=trodVars_none hV
 have k0:=h0
 have lt0:∀x∈p0,x.block<W.heap.size:=by obtain⟨m,hm⟩:=k0;exact DataW.trod_lt m _ _ _ hm
 obtain⟨y0,rfl,rk0,f0⟩:=OpensB.open_books (hval 0 28 v0 rfl rfl) h0
 obtain⟨a1,rfl,rfl,rfl,w1⟩:=open_int Tryz.underlying3 (hval 1 3 v1 rfl rfl) h1
 obtain⟨a2,rfl,rfl,rfl,w2⟩:=open_int Tryz.underlying3 (hval 2 3 v2 rfl rfl) h2
 obtain⟨a3,rfl,rfl,rfl,w3⟩:=open_int Tryz.underlying3 (hval 3 3 v3 rfl rfl) h3
 obtain⟨a4,rfl,rfl,rfl,w4⟩:=open_int Tryz.underlying3 (hval 4 3 v4 rfl rfl) h4
 clear hA0 hval0
 refine(walk y0 a1 a2 a3 a4 W rk0 f0 w1 w2 w3 w4).mono fun e W' ⟨he,bel⟩=>?_
 subst he
 exact⟨_,rfl,_,_,_,[],_,[],hW',trodAll_mk1 (shut_bool Tryz.underlying4 _),(trodAll_cons_mk (Below.trod laidOut (by kernel_rfl) (of_decide_eq_true (by kernel_rfl)) k0 bel lt0) (trodAll_cons_mk (shut_int Tryz.underlying3 w1) (trodAll_cons_mk (shut_int Tryz.underlying3 w2) (trodAll_cons_mk (shut_int Tryz.underlying3 w3) (trodAll_cons_mk (shut_int Tryz.underlying3 w4) trodAll_mk0))))),rfl,bel.frame _,fun h=>by cases h⟩
theorem over:Rows.fnExactBookSplitRow.holds Tryz.pinned (OpenSpec.ofChange Rows.fnExactBookSplitSpec):=
 OpenClaim.holds_of_wide 5 Tryz.f5 rfl rfl rfl rfl rfl rfl rfl ⟨rfl,rfl,rfl,rfl,rfl⟩ rfl rfl rfl rfl rfl (by kernel_rfl) Tryz.func5 (by kernel_rfl)
  (of_decide_eq_true (by kernel_rfl)) (by unfold Func.isWrapper;first|(rw[if_pos (by decide+kernel)];kernel_rfl)|(rw[if_neg (by decide+kernel)];exact⟨rfl,rfl⟩))
  (fun os started H enc _=>lifted os started H enc)
theorem proved:Rows.FnExactBookSplitSaid:=over
#print axioms proved
end Go.Proofs.YtnmeiiaipacplaaGreat.fnExactBookSplit
