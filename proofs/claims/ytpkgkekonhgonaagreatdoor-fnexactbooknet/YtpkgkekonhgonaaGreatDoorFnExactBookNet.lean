/- At all books and numbers the program's BookNet answers as its model, writes into no argument, and its answer owns its memory. Condition (the card ties it to the program's text): the errors at package level that it names hold, when the call begins, what their own initialisers lay in them. -/
import Derived.Test.YtpkgkekonhgonaaGreatDoorRows
import Derived.Test.YtpkgkekonhgonaaGreatDoorBA1
import Derived.Test.YtpkgkekonhgonaaGreatDoorBA2
import Derived.Test.YtpkgkekonhgonaaGreatDoorBL3
import Derived.Test.YtpkgkekonhgonaaGreatDoorBL4
import Derived.Test.YtpkgkekonhgonaaGreatDoorBL5
import Derived.Test.YtpkgkekonhgonaaGreatDoorBL6
import Derived.Test.YtpkgkekonhgonaaGreatDoorBL7
import Derived.Test.YtpkgkekonhgonaaGreatDoorBN8
import Derived.Test.YtpkgkekonhgonaaGreatDoorCards
import Derived.Test.YtpkgkekonhgonaaGreatDoorTie
import Derived.ShutString
import Derived.ChangeOld
import Derived.Below
namespace Go.Proofs.YtpkgkekonhgonaaGreatDoor.fnExactBookNet
open Go.ChangeShapes Go.WideShapes Go.ChangeAt Go.RowKit
open Go.ChangeMaps (open_string shut_string)
set_option linter.unusedVariables false
set_option linter.unusedSimpArgs false
theorem own:ownKnob Tryz.prog.godebug=none:=by kernel_rfl
theorem laidOut:laidOutB Tryz.prog=true:=by kernel_rfl
open BMem Bks BHelp BkEq LawB LawQ LawN Ans
open Triples (Own3)
open BZero (eqB0 markB0 heldB0)
open Lots (Says says_of NoOk)
open IBalsFit (one_more)
open ILotsFit (below_of_drew)
theorem posted_small{b b':Bk}{ls:List Bals.T3}{c:Int}(h:IsPosted b ls b' c)(s:Small b):Small b':=SIssue.posted_small h s
theorem open_small{b b':Bk}{a i q cost c:Int}(h:IsOpen b a i q cost b' c)(s:Small b):Small b':=by
 rcases h with⟨h,rfl,_⟩|⟨_,rfl,_⟩
 ·have:=h.2.2.2.1
  obtain⟨a,b,c,d,e⟩:=s
  exact⟨a,b,c,by simp;omega,e⟩
 ·exact s
theorem take_small{b b':Bk}{a i q way k c:Int}(h:IsTake b a i q way b' k c)(s:Small b):Small b':=by
 rcases h with⟨h,rfl,_⟩|⟨_,rfl,_⟩
 ·have:=SCarry.taken_len h s
  obtain⟨a,b,c,d,e⟩:=s
  exact⟨a,b,c,by simp;omega,e⟩
 ·exact s
theorem state_small{b:Bk}(k:Nat)(s:Int)(h:Small b):Small {b with ts:=Trd.setState b.ts k s}:=by
 obtain⟨a,b,c,d,e⟩:=h
 exact⟨a,b,c,d,by simp only[Trd.set_len];exact e⟩
theorem settle_small{b b':Bk}{no way g c:Int}(h:Trd.IsSettle b no way b' g c)(s:Small b):Small b':=by
 rcases h with⟨_,rfl,_⟩|⟨k,_,⟨_,rfl,_⟩|⟨_,b1,c1,hp,⟨_,rfl,_⟩|⟨_,b2,k2,c2,ht,⟨_,rfl,_⟩|⟨_,b3,c3,ho,⟨_,rfl,_⟩|⟨_,rfl,_⟩⟩⟩⟩⟩
 ·exact s
 ·exact s
 ·exact s
 ·exact s
 ·exact s
 ·exact state_small k 2 (open_small ho (take_small ht (posted_small hp s)))
theorem steps_small{way:Int}:∀{nos:List Int} {b:Bk} {acc:Int} {b':Bk} {g c:Int},Net.Steps way nos b acc b' g c→Small b→Small b'
 |[],b,acc,b',g,c,h,s=>by
  obtain⟨rfl,_,_⟩:=h
  exact s
 |no::r,b,acc,b',g,c,h,s=>by
  obtain⟨b1,g1,c1,hs,⟨_,rfl,_⟩|⟨_,h⟩⟩:=h
  ·exact s
  ·exact steps_small h (settle_small hs s)
theorem is_small{b b':Bk}{lo hi fk t c:Int}{ls:List Bals.T3}(h:Net.IsNet b lo hi fk b' ls t c)(s:Small b):Small b':=by
 rcases h with⟨_,rfl,_⟩|⟨_,b2,g,c2,hs,⟨_,rfl,_⟩|⟨_,qs,ok,_,⟨_,rfl,_⟩|⟨_,rfl,_⟩⟩⟩
 ·exact s
 ·exact s
 ·exact s
 ·exact steps_small hs s
set_option maxRecDepth 100000 in
set_option maxHeartbeats 8000000 in
theorem walk(y0:BHelp.Ix)(a1:Int)(a2:Int)(a3:Int)(w:World)(r0:BHelp.RdI w y0)(f0:BkEq.Fits y0.b)(w1:(Lit.int .i64 a1).wf=true)(w2:(Lit.int .i64 a2).wf=true)(w3:(Lit.int .i64 a3).wf=true)(Ne:Nat)(ade:Nat→Addr)(E:Errs.Errs w 5 Ne ade)(hN:Ne≤w.heap.size):
  Calls Tryz.prog 4 #[.agg #[.slice y0.aa y0.b.ac.length y0.ca,.slice y0.ai y0.b.ic.length y0.ci,.slice y0.ab y0.b.bs.length y0.cb,.slice y0.al y0.b.ls.length y0.cl,.slice y0.ats y0.b.ts.length y0.ct,.int .i64 y0.b.lot],.int .i64 a1,.int .i64 a2,.int .i64 a3] w fun e w'=>e= .returned (.bool true)∧Below w.heap.size w w':=by
 have HE:=zh E
 clear E
 have H:=zh r0
 have L0:=zh (LB.start r0 28)
 clear r0
 go_enter Tryz.func4,Tryz.ntmps4
 go_wp2_with fail
 refine(szB _ y0 f0).mono ?_
 rintro e u0 ⟨r,rfl,hr,bb⟩
 have L1:=zh ((zu L0).step bb)
 clear bb L0
 rcases hr with rfl|⟨r1,sm⟩
 ·go_wp2
  go_ret
  exact⟨rfl,(zu L1).b⟩
 have SM:=zh sm
 have rn:¬r<0:=by omega
 clear sm r1
 obtain⟨c0,c1,c2,c3,c4,c5⟩:=(zu L1).c
 go_wp2_with fail
 refine(toB _ y0 (zu L1).r (zu SM)).mono ?_
 rintro e u1 ⟨z0,hz0,rfl,oz0,bb⟩
 have L2:=zh ((zu L1).step bb)
 have RZ:=zh (oz0.rd (by rw[hz0];exact zu SM))
 have HZ:=zh hz0
 clear bb oz0 hz0 L1
 go_wp2_with fail
 refine(SNet.sNet _ z0 a1 a2 a3 (zu RZ)).mono ?_
 rintro e u2 (⟨N,gw,cw,rfl,ow,bb⟩|⟨T,z,ls,t,c,gw,cw,hP,ll,rfl,oz,ow,bb⟩)
 ·rw[zu HZ] at N
  have L3:=zh (((zu L2).step bb).step (one_more u2 (.cells #[.slice none 0 0,.slice none 0 0,.slice none 0 0,.slice none 0 0,.slice none 0 0,.int .i64 0] 40)))
  have hn:w.heap.size<u2.heap.size:=Nat.lt_of_lt_of_le (zu L2).s bb.size
  have Z3:=zh (Zv.made u2 40)
  have hw2:=ow.lt
  have hw1:=(zu L2).s
  have OW:=zh ((ow.rebase (base':=w.heap.size+1) (by omega)).alloc (.cells #[.slice none 0 0,.slice none 0 0,.slice none 0 0,.slice none 0 0,.slice none 0 0,.int .i64 0] 40))
  clear ow
  have NN:=zh N
  clear bb N L2 RZ HZ c0 c1 c2 c3 c4 c5
  obtain⟨c0,c1,c2,c3,c4,c5⟩:=(zu L3).c
  go_wp2_with fail
  refine(toB _ y0 (zu L3).r (zu SM)).mono ?_
  rintro e u3 ⟨x,hx,rfl,ox,bb⟩
  have X4:=zh (show ZX w (u3.alloc (.cells #[.slice (some ⟨x.ga,0,none⟩) x.b.ac.length x.ca,.slice (some ⟨x.gi,0,none⟩) x.b.ic.length x.ci,.slice (some ⟨x.gb,0,none⟩) x.b.bs.length x.cb,.slice (some ⟨x.gl,0,none⟩) x.b.ls.length x.cl,.slice (some ⟨x.gt,0,none⟩) x.b.ts.length x.ct,.int .i64 x.b.lot] 40)) y0 x u2.heap.size u3.heap.size from⟨((zu L3).step bb).step (one_more _ _),((zu Z3).step bb).step (one_more _ _),Bv.made 40 rfl,ow_alloc (by simpa using ox) _,ow_up ox,hn⟩)
  have OW:=zh (((zu OW).below bb (zu OW).lt.2).alloc (.cells #[.slice (some ⟨x.ga,0,none⟩) x.b.ac.length x.ca,.slice (some ⟨x.gi,0,none⟩) x.b.ic.length x.ci,.slice (some ⟨x.gb,0,none⟩) x.b.bs.length x.cb,.slice (some ⟨x.gl,0,none⟩) x.b.ls.length x.cl,.slice (some ⟨x.gt,0,none⟩) x.b.ts.length x.ct,.int .i64 x.b.lot] 40))
  have LX:=zh (ow_lo ox)
  have s23:u2.heap.size+1≤u3.heap.size:=by have:=bb.size;simpa using this
  have HX:=zh hx
  clear bb ox hx L3 Z3 hn c0 c1 c2 c3 c4 c5
  go_wp2_with fail
  refine(NetTellI.iTell _ x a1 a2 a3 Ne ade ((zu X4).ox.rd (by rw[zu HX];exact zu SM)) ((zu HE).below (zu X4).l.b hN) (by have:=(zu X4).l.b.size;omega)).mono ?_
  rintro e u4 (⟨N,gg,cg,rfl,og,bb⟩|⟨T,g,ls,t',c',gg,cg,hP,ll,rfl,ob,og,bb⟩)
  rotate_left
  ·rw[zu HX] at T
   exact absurd T (zu NN)
  have X5:=zh (((zu X4).step bb).step (one_more u4 (.cells #[.slice none 0 0,.slice none 0 0,.slice none 0 0,.slice none 0 0,.slice none 0 0,.int .i64 0] 40)))
  have G5:=zh (Zv.made u4 40)
  have hg:u3.heap.size≤u4.heap.size:=by have:=bb.size;simp at this;omega
  have OW:=zh (((zu OW).below bb (zu OW).lt.2).alloc (.cells #[.slice none 0 0,.slice none 0 0,.slice none 0 0,.slice none 0 0,.slice none 0 0,.int .i64 0] 40))
  have gg1:u3.heap.size+1≤gg:=by have:=og.lt.1;simpa using this
  have gg2:=og.lt.2
  have OG:=zh (og.alloc (.cells #[.slice none 0 0,.slice none 0 0,.slice none 0 0,.slice none 0 0,.slice none 0 0,.int .i64 0] 40))
  clear og
  clear bb N X4
  obtain⟨c0,c1,c2,c3,c4,c5,cl⟩:=(zu X5).zz
  go_wp2_with fail
  refine(eqB0 _).mono ?_
  rintro e u5 ⟨rfl,bb⟩
  have X6:=zh ((zu X5).step bb)
  have G6:=zh ((zu G5).step bb)
  have OW:=zh ((zu OW).below bb (zu OW).lt.2)
  have OG:=zh ((zu OG).below bb (zu OG).lt.2)
  clear bb X5 G5 c0 c1 c2 c3 c4 c5 cl
  go_wp2_with fail
  refine(LegHelp.eqS _ gg gw 0 cg cw [] rfl (by omega) (zu OG).lt.2 (zu OW).lt.2 (zu OG).at (zu OW).at).mono ?_
  rintro e u5l ⟨rfl,bb⟩
  have X6:=zh ((zu X6).step bb)
  have G6:=zh ((zu G6).step bb)
  have OW:=zh ((zu OW).below bb (zu OW).lt.2)
  have OG:=zh ((zu OG).below bb (zu OG).lt.2)
  clear bb
  go_wp2_with fail
  have K4:=cells12 (zu X6).l.c (zu X6).bx.c
  go_region_held3 (fun w'=>w'.cell? ⟨w.heap.size,0,none⟩=some (.slice y0.aa y0.b.ac.length y0.ca)∧w'.cell? ⟨w.heap.size,1,none⟩=some (.slice y0.ai y0.b.ic.length y0.ci)∧w'.cell? ⟨w.heap.size,2,none⟩=some (.slice y0.ab y0.b.bs.length y0.cb)∧w'.cell? ⟨w.heap.size,3,none⟩=some (.slice y0.al y0.b.ls.length y0.cl)∧w'.cell? ⟨w.heap.size,4,none⟩=some (.slice y0.ats y0.b.ts.length y0.ct)∧w'.cell? ⟨w.heap.size,5,none⟩=some (.int .i64 y0.b.lot)∧w'.cell? ⟨u3.heap.size,0,none⟩=some (.slice (some ⟨x.ga,0,none⟩) x.b.ac.length x.ca)∧w'.cell? ⟨u3.heap.size,1,none⟩=some (.slice (some ⟨x.gi,0,none⟩) x.b.ic.length x.ci)∧w'.cell? ⟨u3.heap.size,2,none⟩=some (.slice (some ⟨x.gb,0,none⟩) x.b.bs.length x.cb)∧w'.cell? ⟨u3.heap.size,3,none⟩=some (.slice (some ⟨x.gl,0,none⟩) x.b.ls.length x.cl)∧w'.cell? ⟨u3.heap.size,4,none⟩=some (.slice (some ⟨x.gt,0,none⟩) x.b.ts.length x.ct)∧w'.cell? ⟨u3.heap.size,5,none⟩=some (.int .i64 x.b.lot)) (first|exact K4|exact K5|exact K6)
   (first|(go_at_call 7;refine(toB u5l.drew y0 (rdI_drew (zu X6).l.r) (zu SM)).mono ?_;rintro e u6 ⟨q,hqb,rfl,oq,bb⟩;have bW:Below u5l.heap.size u5l u6:=below_of_drew bb;have X7:=zh ((zu X6).step bW);have G7:=zh ((zu G6).step bW);have OW7:=zh ((zu OW).below bW (zu OW).lt.2);have OG7:=zh ((zu OG).below bW (zu OG).lt.2);have K5:=cells12 (zu X7).l.c (zu X7).bx.c;have HQ:=zh hqb;have OQ:=zh oq;clear hqb oq bb bW)|(go_at_call 11;refine(eqB u6 x q (by rw[zu HQ,zu HX]) ((zu X7).ox.rd (by rw[zu HX];exact zu SM)) ((zu OQ).rd (by rw[zu HQ];exact zu SM))).mono ?_;rintro e u7 ⟨rfl,bb6⟩;have X8:=zh ((zu X7).step bb6);have G8:=zh ((zu G7).step bb6);have OW8:=zh ((zu OW7).below bb6 (zu OW7).lt.2);have OG8:=zh ((zu OG7).below bb6 (zu OG7).lt.2);have K6:=cells12 (zu X8).l.c (zu X8).bx.c;clear bb6))
  clear K4 K5 K6
  have EX:=(e_bd (b:=x.b) (by rw[zu HX];exact zu SM)).2.2.2.2
  obtain⟨ex,hex⟩:∃ex,Hid (e5 x.b=ex):=⟨_,rfl⟩
  have ex0:decide (ex<0)=false:=decide_eq_false (by rw[←zu hex];omega)
  clear EX
  obtain⟨c0,c1,c2,c3,c4,c5⟩:=(zu X8).bx.c
  go_wp2_with fail
  refine(markB _ _ x (zu X8).ox (by rw[zu HX];exact zu SM)).mono ?_
  rintro e u8 ⟨rfl,_,tn⟩
  rw[zu hex]
  have Y9:=zh ((zu X8).turn (zu H) (zu G8) hg tn)
  have UX:=(zu X8).ux
  have LX8:=ow_lo (zu X8).ox
  have OW:=zh (own3_turn (zu OW8) tn (.inl ⟨u2.heap.size+1,by omega,LX8⟩))
  have OG:=zh (own3_turn (zu OG8) tn (.inr ⟨u3.heap.size,by omega,UX⟩))
  clear UX LX8 OW7 OG7 OW8 OG8
  clear tn X6 X7 X8 G6 G7 G8 c0 c1 c2 c3 c4 c5
  obtain⟨c0,c1,c2,c3,c4,c5,cl⟩:=(zu Y9).zz
  obtain⟨d0,d1,d2,d3,d4,d5,dl⟩:=(zu Y9).zg
  go_wp2_with fail
  refine(eqB0 _).mono ?_
  rintro e u9 ⟨rfl,bb⟩
  have Y10:=zh ((zu Y9).step bb)
  have OW:=zh ((zu OW).below bb (zu OW).lt.2)
  have OG:=zh ((zu OG).below bb (zu OG).lt.2)
  clear bb Y9 c0 c1 c2 c3 c4 c5 cl d0 d1 d2 d3 d4 d5 dl
  go_wp2_with fail
  refine(LegHelp.eqS _ gg gw 0 cg cw [] rfl (by omega) (zu OG).lt.2 (zu OW).lt.2 (zu OG).at (zu OW).at).mono ?_
  rintro e u9l ⟨rfl,bb⟩
  have Y10:=zh ((zu Y10).step bb)
  have OW:=zh ((zu OW).below bb (zu OW).lt.2)
  have OG:=zh ((zu OG).below bb (zu OG).lt.2)
  clear bb
  obtain⟨d0,d1,d2,d3,d4,d5,dl⟩:=(zu Y10).zg
  go_wp2_with fail
  refine(markB0 _).mono ?_
  rintro e u10 ⟨rfl,bb⟩
  have Y11:=zh ((zu Y10).step bb)
  have OW:=zh ((zu OW).below bb (zu OW).lt.2)
  have OG:=zh ((zu OG).below bb (zu OG).lt.2)
  clear bb Y10 d0 d1 d2 d3 d4 d5 dl
  go_wp2_with fail
  refine(LegHelp.markS _ _ gg 0 cg 1 [] (by omega) (by omega) (by omega) (zu OG)).mono ?_
  rintro e u10l ⟨rfl,om,gr⟩
  have Y11:=zh (ZG_grown (zu H) (zu Y11) gr (by omega) (by omega) (by omega))
  have OW:=zh ((zu OW).kept gr (fun e=>by injection e;omega))
  have OG:=zh om
  rw[show(1:Int)+3*((0:Nat):Int)=1 from rfl]
  clear om gr
  obtain⟨d0,d1,d2,d3,d4,d5,dl⟩:=(zu Y11).zg
  go_wp2_with fail
  refine(heldB0 _).mono ?_
  rintro e u11 ⟨rfl,bb⟩
  have Y12:=zh ((zu Y11).step bb)
  have OW:=zh ((zu OW).below bb (zu OW).lt.2)
  have OG:=zh ((zu OG).below bb (zu OG).lt.2)
  clear bb Y11 d0 d1 d2 d3 d4 d5 dl
  go_wp2_with fail
  refine(LegHeld.heldS _ gg 0 cg 1 (by omega) (by omega) (by omega) (zu OG).at).mono ?_
  rintro e u11l ⟨rfl,rfl⟩
  rw[show(1:Int)+3*((0:Nat):Int)=1 from rfl]
  obtain⟨c0,c1,c2,c3,c4,c5⟩:=(zu Y12).l.c
  go_wp2_with fail
  refine(toB _ y0 (zu Y12).l.r (zu SM)).mono ?_
  rintro e u12 ⟨v,hv,rfl,ov,bb⟩
  have Y13:=zh ((zu Y12).step bb)
  have OW:=zh ((zu OW).below bb (zu OW).lt.2)
  have OG:=zh ((zu OG).below bb (zu OG).lt.2)
  have OV:=zh ov
  have HV:=zh hv
  clear bb ov hv Y12 c0 c1 c2 c3 c4 c5
  go_wp2_with fail
  refine(NetTellI.iTell _ v a1 a2 a3 Ne ade ((zu OV).rd (by rw[zu HV];exact zu SM)) ((zu HE).below (zu Y13).l.b hN) (by have:=(zu Y13).l.b.size;omega)).mono ?_
  rintro e u13 (⟨N,gh,ch,rfl,oh,bb⟩|⟨T,h,ls,t2,c2',gh,ch,hP,ll,rfl,oq2,oh,bb⟩)
  rotate_left
  ·rw[zu HV] at T
   exact absurd T (zu NN)
  have Y14:=zh (((zu Y13).step bb).step (one_more u13 (.cells #[.slice none 0 0,.slice none 0 0,.slice none 0 0,.slice none 0 0,.slice none 0 0,.int .i64 0] 40)))
  have OW:=zh (((zu OW).below bb (zu OW).lt.2).alloc (.cells #[.slice none 0 0,.slice none 0 0,.slice none 0 0,.slice none 0 0,.slice none 0 0,.int .i64 0] 40))
  have OG:=zh (((zu OG).below bb (zu OG).lt.2).alloc (.cells #[.slice none 0 0,.slice none 0 0,.slice none 0 0,.slice none 0 0,.slice none 0 0,.int .i64 0] 40))
  have OH:=zh (oh.alloc (.cells #[.slice none 0 0,.slice none 0 0,.slice none 0 0,.slice none 0 0,.slice none 0 0,.int .i64 0] 40))
  clear bb N Y13 oh
  obtain⟨c0,c1,c2,c3,c4,c5,cl⟩:=(zu Y14).zz
  go_wp2_with fail
  refine(eqB0 _).mono ?_
  rintro e u14 ⟨rfl,bb⟩
  have Y15:=zh ((zu Y14).step bb)
  have OW:=zh ((zu OW).below bb (zu OW).lt.2)
  have OG:=zh ((zu OG).below bb (zu OG).lt.2)
  have OH:=zh ((zu OH).below bb (zu OH).lt.2)
  clear bb Y14 c0 c1 c2 c3 c4 c5 cl
  go_wp2_with fail
  refine(LegHelp.eqS _ gh gw 0 ch cw [] rfl (by omega) (zu OH).lt.2 (zu OW).lt.2 (zu OH).at (zu OW).at).mono ?_
  rintro e u14l ⟨rfl,bb⟩
  have Y15:=zh ((zu Y15).step bb)
  have OG:=zh ((zu OG).below bb (zu OG).lt.2)
  clear bb
  obtain⟨d0,d1,d2,d3,d4,d5,dl⟩:=(zu Y15).zg
  go_wp2_with fail
  refine(heldB0 _).mono ?_
  rintro e u15 ⟨rfl,bb⟩
  have Y16:=zh ((zu Y15).step bb)
  have OG:=zh ((zu OG).below bb (zu OG).lt.2)
  clear bb Y15 d0 d1 d2 d3 d4 d5 dl
  go_wp2_with fail
  refine(LegHeld.heldS _ gg 0 cg 1 (by omega) (by omega) (by omega) (zu OG).at).mono ?_
  rintro e u15l ⟨rfl,rfl⟩
  rw[show(1:Int)+3*((0:Nat):Int)=1 from rfl]
  go_wp2
  go_ret
  exact⟨rfl,(zu Y16).l.b⟩
 rw[zu HZ] at T hP
 have L3:=zh ((zu L2).step bb)
 have Q3:=zh (show QZ w (u2.alloc (.cells #[.slice (some ⟨z.ga,0,none⟩) z.b.ac.length z.ca,.slice (some ⟨z.gi,0,none⟩) z.b.ic.length z.ci,.slice (some ⟨z.gb,0,none⟩) z.b.bs.length z.cb,.slice (some ⟨z.gl,0,none⟩) z.b.ls.length z.cl,.slice (some ⟨z.gt,0,none⟩) z.b.ts.length z.ct,.int .i64 z.b.lot] 40)) y0 z u2.heap.size from⟨(zu L3).step (one_more _ _),Bv.made 40 rfl,ow_alloc (oz.rebase (zu L2).s) _,ow_up oz,(zu L3).s⟩)
 have hw2:=ow.lt
 have hw1:=(zu L2).s
 have OW:=zh ((ow.rebase (base':=w.heap.size+1) (by omega)).alloc (.cells #[.slice (some ⟨z.ga,0,none⟩) z.b.ac.length z.ca,.slice (some ⟨z.gi,0,none⟩) z.b.ic.length z.ci,.slice (some ⟨z.gb,0,none⟩) z.b.bs.length z.cb,.slice (some ⟨z.gl,0,none⟩) z.b.ls.length z.cl,.slice (some ⟨z.gt,0,none⟩) z.b.ts.length z.ct,.int .i64 z.b.lot] 40))
 have l20:ls.length≤1048576:=by omega
 have l12:=ll
 clear ow ll
 have PZ:=zh hP
 have TT:=zh T
 have SZ:=zh (is_small hP (zu SM))
 clear bb oz hP T L2 RZ HZ c0 c1 c2 c3 c4 c5 L3
 obtain⟨c0,c1,c2,c3,c4,c5⟩:=(zu Q3).l.c
 go_wp2_with fail
 refine(toB _ y0 (zu Q3).l.r (zu SM)).mono ?_
 rintro e u3 ⟨x,hx,rfl,ox,bb⟩
 have Q4:=zh (show QX w (u3.alloc (.cells #[.slice (some ⟨x.ga,0,none⟩) x.b.ac.length x.ca,.slice (some ⟨x.gi,0,none⟩) x.b.ic.length x.ci,.slice (some ⟨x.gb,0,none⟩) x.b.bs.length x.cb,.slice (some ⟨x.gl,0,none⟩) x.b.ls.length x.cl,.slice (some ⟨x.gt,0,none⟩) x.b.ts.length x.ct,.int .i64 x.b.lot] 40)) y0 z x u2.heap.size u3.heap.size from⟨((zu Q3).step bb).step (one_more _ _),Bv.made 40 rfl,ow_alloc (by simpa using ox) _,ow_up ox,by have:=bb.size;simp at this;omega⟩)
 have OW:=zh (((zu OW).below bb (zu OW).lt.2).alloc (.cells #[.slice (some ⟨x.ga,0,none⟩) x.b.ac.length x.ca,.slice (some ⟨x.gi,0,none⟩) x.b.ic.length x.ci,.slice (some ⟨x.gb,0,none⟩) x.b.bs.length x.cb,.slice (some ⟨x.gl,0,none⟩) x.b.ls.length x.cl,.slice (some ⟨x.gt,0,none⟩) x.b.ts.length x.ct,.int .i64 x.b.lot] 40))
 have s23:u2.heap.size+1≤u3.heap.size:=by have:=bb.size;simpa using this
 have HX:=zh hx
 clear bb ox hx Q3 c0 c1 c2 c3 c4 c5
 go_wp2_with fail
 refine(NetTellI.iTell _ x a1 a2 a3 Ne ade ((zu Q4).ox.rd (by rw[zu HX];exact zu SM)) ((zu HE).below (zu Q4).q.l.b hN) (by have:=(zu Q4).q.l.b.size;omega)).mono ?_
 rintro e u4 (⟨N,_,_,rfl,_,bb⟩|⟨T,g,ls',t',c',gg,cg,hP,_,rfl,og,ol,bb⟩)
 ·exact absurd (by rw[zu HX];exact zu TT) N
 rw[zu HX] at hP
 obtain⟨hgz,rfl,rfl,rfl⟩:=hP.same (zu PZ)
 have gg1:u3.heap.size+1≤gg:=by have:=ol.lt.1;simpa using this
 have gg2:=ol.lt.2
 have OFF:=zh (off_legs og ol)
 have OW:=zh (((zu OW).below bb (zu OW).lt.2).alloc (.cells #[.slice (some ⟨g.ga,0,none⟩) g.b.ac.length g.ca,.slice (some ⟨g.gi,0,none⟩) g.b.ic.length g.ci,.slice (some ⟨g.gb,0,none⟩) g.b.bs.length g.cb,.slice (some ⟨g.gl,0,none⟩) g.b.ls.length g.cl,.slice (some ⟨g.gt,0,none⟩) g.b.ts.length g.ct,.int .i64 g.b.lot] 40))
 have OG:=zh (ol.alloc (.cells #[.slice (some ⟨g.ga,0,none⟩) g.b.ac.length g.ca,.slice (some ⟨g.gi,0,none⟩) g.b.ic.length g.ci,.slice (some ⟨g.gb,0,none⟩) g.b.bs.length g.cb,.slice (some ⟨g.gl,0,none⟩) g.b.ls.length g.cl,.slice (some ⟨g.gt,0,none⟩) g.b.ts.length g.ct,.int .i64 g.b.lot] 40))
 clear ol
 have Q5:=zh (show QG w (u4.alloc (.cells #[.slice (some ⟨g.ga,0,none⟩) g.b.ac.length g.ca,.slice (some ⟨g.gi,0,none⟩) g.b.ic.length g.ci,.slice (some ⟨g.gb,0,none⟩) g.b.bs.length g.cb,.slice (some ⟨g.gl,0,none⟩) g.b.ls.length g.cl,.slice (some ⟨g.gt,0,none⟩) g.b.ts.length g.ct,.int .i64 g.b.lot] 40)) y0 z x g u2.heap.size u3.heap.size u4.heap.size from⟨((zu Q4).step bb).step (one_more _ _),Bv.made 40 rfl,ow_alloc (by simpa using og) _,ow_up og,by have:=bb.size;simp at this;omega⟩)
 have GZ:=zh hgz
 have SG:=zh (show Small g.b from by rw[hgz];exact zu SZ)
 clear bb og hgz hP T Q4
 obtain⟨c0,c1,c2,c3,c4,c5⟩:=(zu Q5).q.q.bz.c
 have hq:(c' !=c')=false:=by simp
 have hq2:(t' !=t')=false:=by simp
 go_wp2_with fail
 refine(eqB _ g z (zu GZ).symm ((zu Q5).og.rd (zu SG)) ((zu Q5).q.q.oz.rd (zu SZ))).mono ?_
 rintro e u5 ⟨rfl,bb⟩
 have Q6:=zh ((zu Q5).step bb)
 have OW:=zh ((zu OW).below bb (zu OW).lt.2)
 have OG:=zh ((zu OG).below bb (zu OG).lt.2)
 clear bb Q5 c0 c1 c2 c3 c4 c5
 go_wp2_with fail
 refine(LegHelp.eqS _ gg gw ls'.length cg cw ls' rfl l20 (zu OG).lt.2 (zu OW).lt.2 (zu OG).at (zu OW).at).mono ?_
 rintro e u5l ⟨rfl,bb⟩
 have Q6:=zh ((zu Q6).step bb)
 have OW:=zh ((zu OW).below bb (zu OW).lt.2)
 have OG:=zh ((zu OG).below bb (zu OG).lt.2)
 clear bb
 go_wp2_with fail
 have K4:=cells12 (zu Q6).q.q.l.c (zu Q6).q.bx.c
 clear hq hq2
 go_region_held3 (fun w'=>w'.cell? ⟨w.heap.size,0,none⟩=some (.slice y0.aa y0.b.ac.length y0.ca)∧w'.cell? ⟨w.heap.size,1,none⟩=some (.slice y0.ai y0.b.ic.length y0.ci)∧w'.cell? ⟨w.heap.size,2,none⟩=some (.slice y0.ab y0.b.bs.length y0.cb)∧w'.cell? ⟨w.heap.size,3,none⟩=some (.slice y0.al y0.b.ls.length y0.cl)∧w'.cell? ⟨w.heap.size,4,none⟩=some (.slice y0.ats y0.b.ts.length y0.ct)∧w'.cell? ⟨w.heap.size,5,none⟩=some (.int .i64 y0.b.lot)∧w'.cell? ⟨u3.heap.size,0,none⟩=some (.slice (some ⟨x.ga,0,none⟩) x.b.ac.length x.ca)∧w'.cell? ⟨u3.heap.size,1,none⟩=some (.slice (some ⟨x.gi,0,none⟩) x.b.ic.length x.ci)∧w'.cell? ⟨u3.heap.size,2,none⟩=some (.slice (some ⟨x.gb,0,none⟩) x.b.bs.length x.cb)∧w'.cell? ⟨u3.heap.size,3,none⟩=some (.slice (some ⟨x.gl,0,none⟩) x.b.ls.length x.cl)∧w'.cell? ⟨u3.heap.size,4,none⟩=some (.slice (some ⟨x.gt,0,none⟩) x.b.ts.length x.ct)∧w'.cell? ⟨u3.heap.size,5,none⟩=some (.int .i64 x.b.lot)) (first|exact K4|exact K5|exact K6)
  (first|(go_at_call 7;refine(toB u5l.drew y0 (rdI_drew (zu Q6).q.q.l.r) (zu SM)).mono ?_;rintro e u6 ⟨q,hqb,rfl,oq,bb⟩;have bW:Below u5l.heap.size u5l u6:=below_of_drew bb;have Q7:=zh ((zu Q6).step bW);have OW7:=zh ((zu OW).below bW (zu OW).lt.2);have OG7:=zh ((zu OG).below bW (zu OG).lt.2);have K5:=cells12 (zu Q7).q.q.l.c (zu Q7).q.bx.c;have HQ:=zh hqb;have OQ:=zh oq;clear hqb oq bb bW)|(go_at_call 11;refine(eqB u6 x q (by rw[zu HQ,zu HX]) ((zu Q7).q.ox.rd (by rw[zu HX];exact zu SM)) ((zu OQ).rd (by rw[zu HQ];exact zu SM))).mono ?_;rintro e u7 ⟨rfl,bb6⟩;have Q8:=zh ((zu Q7).step bb6);have OW8:=zh ((zu OW7).below bb6 (zu OW7).lt.2);have OG8:=zh ((zu OG7).below bb6 (zu OG7).lt.2);have K6:=cells12 (zu Q8).q.q.l.c (zu Q8).q.bx.c;clear bb6))
 clear K4 K5 K6
 have EX:=(e_bd (b:=x.b) (by rw[zu HX];exact zu SM)).2.2.2.2
 have EG:=(e_bd (zu SG)).2.2.2.2
 have EGH:=zh EG
 obtain⟨ex,hex⟩:∃ex,Hid (e5 x.b=ex):=⟨_,rfl⟩
 obtain⟨eg,heg⟩:∃eg,Hid (e5 g.b=eg):=⟨_,rfl⟩
 have ex0:decide (ex<0)=false:=decide_eq_false (by rw[←zu hex];omega)
 have eg0:decide (eg<0)=false:=decide_eq_false (by rw[←zu heg];omega)
 have eg1:0≤eg:=by rw[←zu heg];omega
 have eg2:eg≤100000000:=by rw[←zu heg];omega
 clear EX EG
 obtain⟨c0,c1,c2,c3,c4,c5⟩:=(zu Q8).q.bx.c
 go_wp2_with fail
 refine(markB _ _ x (zu Q8).q.ox (by rw[zu HX];exact zu SM)).mono ?_
 rintro e u8 ⟨rfl,_,tn⟩
 rw[zu hex]
 have Q9:=zh ((zu Q8).turn (zu H) tn)
 have UX:=(zu Q8).q.ux
 have LX8:=ow_lo (zu Q8).q.ox
 have OW:=zh (own3_turn (zu OW8) tn (.inl ⟨u2.heap.size+1,by omega,LX8⟩))
 have OG:=zh (own3_turn (zu OG8) tn (.inr ⟨u3.heap.size,by omega,UX⟩))
 clear UX LX8 OW7 OG7 OW8 OG8
 clear tn Q6 Q7 Q8 c0 c1 c2 c3 c4 c5
 obtain⟨c0,c1,c2,c3,c4,c5⟩:=(zu Q9).q.bz.c
 obtain⟨d0,d1,d2,d3,d4,d5⟩:=(zu Q9).bg.c
 have hq:(c' !=c')=false:=by simp
 have hq2:(t' !=t')=false:=by simp
 go_wp2_with fail
 refine(eqB _ g z (zu GZ).symm ((zu Q9).og.rd (zu SG)) ((zu Q9).q.oz.rd (zu SZ))).mono ?_
 rintro e u9 ⟨rfl,bb⟩
 have Q10:=zh ((zu Q9).step bb)
 have OW:=zh ((zu OW).below bb (zu OW).lt.2)
 have OG:=zh ((zu OG).below bb (zu OG).lt.2)
 clear bb Q9 c0 c1 c2 c3 c4 c5 d0 d1 d2 d3 d4 d5
 go_wp2_with fail
 refine(LegHelp.eqS _ gg gw ls'.length cg cw ls' rfl l20 (zu OG).lt.2 (zu OW).lt.2 (zu OG).at (zu OW).at).mono ?_
 rintro e u9l ⟨rfl,bb⟩
 have Q10:=zh ((zu Q10).step bb)
 have OW:=zh ((zu OW).below bb (zu OW).lt.2)
 have OG:=zh ((zu OG).below bb (zu OG).lt.2)
 clear bb
 obtain⟨d0,d1,d2,d3,d4,d5⟩:=(zu Q10).bg.c
 go_wp2_with fail
 refine(markB _ _ g (zu Q10).og (zu SG)).mono ?_
 rintro e u10 ⟨rfl,om,tn⟩
 rw[zu heg]
 have LG:=ow_lo (zu Q10).og
 have pg1:=(zu Q10).k
 have Q11:=zh ((zu Q10).turn (zu H) tn om)
 have OW:=zh (own3_turn (zu OW) tn (.inl ⟨u2.heap.size+1,by omega,LG⟩))
 have OG:=zh (own3_off (zu OG) tn (zu OFF))
 clear LG
 clear tn om Q10 d0 d1 d2 d3 d4 d5
 go_wp2_with fail
 refine(LegHelp.markS _ _ gg ls'.length cg eg ls' l20 eg1 eg2 (zu OG)).mono ?_
 rintro e u10l ⟨rfl,om,gr⟩
 have Q11:=zh (QH_grown (zu H) (zu Q11) gr (by omega) (by omega) (zu OFF))
 have OW:=zh ((zu OW).kept gr (fun e=>by injection e;omega))
 have OG:=zh om
 obtain⟨m,hm⟩:∃m,Hid (eg+3*(ls'.length:Int)=m):=⟨_,rfl⟩
 have m0:decide (m<0)=false:=decide_eq_false (by rw[←zu hm];omega)
 have mm:(m !=m)=false:=by simp
 rw[zu hm]
 clear om gr
 obtain⟨d0,d1,d2,d3,d4,d5⟩:=(zu Q11).bg.c
 go_wp2_with fail
 refine(heldB _ _ g (zu Q11).og (zu SG)).mono ?_
 rintro e u11 ⟨rfl,bb⟩
 rw[zu heg]
 have Q12:=zh ((zu Q11).step bb)
 have OW:=zh ((zu OW).below bb (zu OW).lt.2)
 have OG:=zh ((zu OG).below bb (zu OG).lt.2)
 clear bb Q11 d0 d1 d2 d3 d4 d5
 go_wp2_with fail
 refine(LegHeld.heldS _ gg ls'.length cg eg l20 eg1 eg2 (zu OG).at).mono ?_
 rintro e u11l ⟨rfl,rfl⟩
 rw[zu hm]
 obtain⟨c0,c1,c2,c3,c4,c5⟩:=(zu Q12).q.l.c
 go_wp2_with fail
 refine(toB _ y0 (zu Q12).q.l.r (zu SM)).mono ?_
 rintro e u12 ⟨v,hv,rfl,ov,bb⟩
 have Q13:=zh ((zu Q12).step bb)
 have OW:=zh ((zu OW).below bb (zu OW).lt.2)
 have OG:=zh ((zu OG).below bb (zu OG).lt.2)
 have OV:=zh ov
 have HV:=zh hv
 clear bb ov hv Q12 c0 c1 c2 c3 c4 c5
 go_wp2_with fail
 refine(NetTellI.iTell _ v a1 a2 a3 Ne ade ((zu OV).rd (by rw[zu HV];exact zu SM)) ((zu HE).below (zu Q13).q.l.b hN) (by have:=(zu Q13).q.l.b.size;omega)).mono ?_
 rintro e u13 (⟨N,_,_,rfl,_,bb⟩|⟨T,h,ls2,t2',c2',gh,ch,hP,_,rfl,oh,olh,bb⟩)
 ·exact absurd (by rw[zu HV];exact zu TT) N
 rw[zu HV] at hP
 obtain⟨hhz,rfl,rfl,rfl⟩:=hP.same (zu PZ)
 have OW:=zh (((zu OW).below bb (zu OW).lt.2).alloc (.cells #[.slice (some ⟨h.ga,0,none⟩) h.b.ac.length h.ca,.slice (some ⟨h.gi,0,none⟩) h.b.ic.length h.ci,.slice (some ⟨h.gb,0,none⟩) h.b.bs.length h.cb,.slice (some ⟨h.gl,0,none⟩) h.b.ls.length h.cl,.slice (some ⟨h.gt,0,none⟩) h.b.ts.length h.ct,.int .i64 h.b.lot] 40))
 have OG:=zh (((zu OG).below bb (zu OG).lt.2).alloc (.cells #[.slice (some ⟨h.ga,0,none⟩) h.b.ac.length h.ca,.slice (some ⟨h.gi,0,none⟩) h.b.ic.length h.ci,.slice (some ⟨h.gb,0,none⟩) h.b.bs.length h.cb,.slice (some ⟨h.gl,0,none⟩) h.b.ls.length h.cl,.slice (some ⟨h.gt,0,none⟩) h.b.ts.length h.ct,.int .i64 h.b.lot] 40))
 have OLH:=zh (olh.alloc (.cells #[.slice (some ⟨h.ga,0,none⟩) h.b.ac.length h.ca,.slice (some ⟨h.gi,0,none⟩) h.b.ic.length h.ci,.slice (some ⟨h.gb,0,none⟩) h.b.bs.length h.cb,.slice (some ⟨h.gl,0,none⟩) h.b.ls.length h.cl,.slice (some ⟨h.gt,0,none⟩) h.b.ts.length h.ct,.int .i64 h.b.lot] 40))
 clear olh
 have Q14:=zh (((zu Q13).step bb).step (one_more u13 (.cells #[.slice (some ⟨h.ga,0,none⟩) h.b.ac.length h.ca,.slice (some ⟨h.gi,0,none⟩) h.b.ic.length h.ci,.slice (some ⟨h.gb,0,none⟩) h.b.bs.length h.cb,.slice (some ⟨h.gl,0,none⟩) h.b.ls.length h.cl,.slice (some ⟨h.gt,0,none⟩) h.b.ts.length h.ct,.int .i64 h.b.lot] 40)))
 have BH:=zh (Bv.made (w:=u13) (x:=h) 40 rfl)
 have OH:=zh (ow_alloc oh (.cells #[.slice (some ⟨h.ga,0,none⟩) h.b.ac.length h.ca,.slice (some ⟨h.gi,0,none⟩) h.b.ic.length h.ci,.slice (some ⟨h.gb,0,none⟩) h.b.bs.length h.cb,.slice (some ⟨h.gl,0,none⟩) h.b.ls.length h.cl,.slice (some ⟨h.gt,0,none⟩) h.b.ts.length h.ct,.int .i64 h.b.lot] 40))
 have HZ':=zh hhz
 have SH:=zh (show Small h.b from by rw[hhz];exact zu SZ)
 clear bb oh hhz hP T Q13
 obtain⟨c0,c1,c2,c3,c4,c5⟩:=(zu Q14).q.bz.c
 go_wp2_with fail
 refine(eqB _ h z (zu HZ').symm ((zu OH).rd (zu SH)) ((zu Q14).q.oz.rd (zu SZ))).mono ?_
 rintro e u14 ⟨rfl,bb⟩
 have Q15:=zh ((zu Q14).step bb)
 have OW:=zh ((zu OW).below bb (zu OW).lt.2)
 have OG:=zh ((zu OG).below bb (zu OG).lt.2)
 have OLH:=zh ((zu OLH).below bb (zu OLH).lt.2)
 clear bb Q14 c0 c1 c2 c3 c4 c5
 go_wp2_with fail
 refine(LegHelp.eqS _ gh gw ls2.length ch cw ls2 rfl l20 (zu OLH).lt.2 (zu OW).lt.2 (zu OLH).at (zu OW).at).mono ?_
 rintro e u14l ⟨rfl,bb⟩
 have Q15:=zh ((zu Q15).step bb)
 have OG:=zh ((zu OG).below bb (zu OG).lt.2)
 clear bb
 obtain⟨d0,d1,d2,d3,d4,d5⟩:=(zu Q15).bg.c
 go_wp2_with fail
 refine(heldB _ _ g (zu Q15).og (zu SG)).mono ?_
 rintro e u15 ⟨rfl,bb⟩
 rw[zu heg]
 have Q16:=zh ((zu Q15).step bb)
 have OG:=zh ((zu OG).below bb (zu OG).lt.2)
 clear bb Q15 d0 d1 d2 d3 d4 d5
 go_wp2_with fail
 refine(LegHeld.heldS _ gg ls2.length cg eg l20 eg1 eg2 (zu OG).at).mono ?_
 rintro e u15l ⟨rfl,rfl⟩
 rw[zu hm]
 go_wp2
 go_ret
 exact⟨rfl,(zu Q16).q.l.b⟩
theorem cons{W:World}{x:String×DataW Unit}{l:List (String×DataW Unit)}{al:List Addr}(h:LaidE.Fits W (x::l) al):∃a r,al=a::r∧(W.var? Tryz.prog x.1=some #[.iface 290 (.pointer (some a))]∧∃c t,W.heap[a.block]?=some (.cells c t (0,0)))∧LaidE.Fits W l r:=by
 cases al with
 |nil=>exact h.elim
 |cons a r=>exact⟨a,r,rfl,h.1,h.2⟩
theorem named:LaidE.Named Rows.fnExactBookNetRow.laid:=by
 intro x hx
 rcases List.mem_cons.1 hx with rfl|hx
 ·exact⟨⟨1,by kernel_rfl,by kernel_rfl⟩,_,rfl⟩
 rcases List.mem_cons.1 hx with rfl|hx
 ·exact⟨⟨2,by kernel_rfl,by kernel_rfl⟩,_,rfl⟩
 rcases List.mem_cons.1 hx with rfl|hx
 ·exact⟨⟨4,by kernel_rfl,by kernel_rfl⟩,_,rfl⟩
 rcases List.mem_cons.1 hx with rfl|hx
 ·exact⟨⟨0,by kernel_rfl,by kernel_rfl⟩,_,rfl⟩
 rcases List.mem_cons.1 hx with rfl|hx
 ·exact⟨⟨3,by kernel_rfl,by kernel_rfl⟩,_,rfl⟩
 ·cases hx
theorem errs{W:World}(h:laidMetH Tryz.prog Rows.fnExactBookNetRow.laid W):∃a0 a1 a2 a3 a4,Errs.Errs W 5 W.heap.size (LaidE.at5 a0 a1 a2 a3 a4)∧LaidE.Holds W Rows.fnExactBookNetSpec.vars [1,3,0,2,4] [.iface 290 (.pointer (some a1)),.iface 290 (.pointer (some a3)),.iface 290 (.pointer (some a0)),.iface 290 (.pointer (some a2)),.iface 290 (.pointer (some a4))]:=by
 obtain⟨al,hf,nd⟩:=LaidE.fits_laid named h
 obtain⟨a1,r,rfl,⟨v1,o1⟩,hf⟩:=cons hf
 obtain⟨a2,r,rfl,⟨v2,o2⟩,hf⟩:=cons hf
 obtain⟨a4,r,rfl,⟨v4,o4⟩,hf⟩:=cons hf
 obtain⟨a0,r,rfl,⟨v0,o0⟩,hf⟩:=cons hf
 obtain⟨a3,r,rfl,⟨v3,o3⟩,hf⟩:=cons hf
 obtain rfl:r=[]:=by cases r with|nil=>rfl|cons=>exact hf.elim
 have vars:LaidE.Holds W Rows.fnExactBookNetSpec.vars [1,3,0,2,4] [.iface 290 (.pointer (some a1)),.iface 290 (.pointer (some a3)),.iface 290 (.pointer (some a0)),.iface 290 (.pointer (some a2)),.iface 290 (.pointer (some a4))]:=⟨⟨by kernel_rfl,by kernel_rfl,v1,trivial⟩,⟨by kernel_rfl,by kernel_rfl,v3,trivial⟩,⟨by kernel_rfl,by kernel_rfl,v0,trivial⟩,⟨by kernel_rfl,by kernel_rfl,v2,trivial⟩,⟨by kernel_rfl,by kernel_rfl,v4,trivial⟩,trivial⟩
 refine⟨a0,a1,a2,a3,a4,⟨fun k hk=>?_,fun k hk=>?_,fun j k hj hk h=>?_,fun k hk=>?_⟩,vars⟩
 ·rcases(show k=0∨k=1∨k=2∨k=3∨k=4 by omega) with rfl|rfl|rfl|rfl|rfl
  ·exact LaidE.cell_of (by kernel_rfl) v0
  ·exact LaidE.cell_of (by kernel_rfl) v1
  ·exact LaidE.cell_of (by kernel_rfl) v2
  ·exact LaidE.cell_of (by kernel_rfl) v3
  ·exact LaidE.cell_of (by kernel_rfl) v4
 ·rcases(show k=0∨k=1∨k=2∨k=3∨k=4 by omega) with rfl|rfl|rfl|rfl|rfl
  ·exact⟨LaidE.var_lt (by kernel_rfl) v0,LaidE.row_lt o0⟩
  ·exact⟨LaidE.var_lt (by kernel_rfl) v1,LaidE.row_lt o1⟩
  ·exact⟨LaidE.var_lt (by kernel_rfl) v2,LaidE.row_lt o2⟩
  ·exact⟨LaidE.var_lt (by kernel_rfl) v3,LaidE.row_lt o3⟩
  ·exact⟨LaidE.var_lt (by kernel_rfl) v4,LaidE.row_lt o4⟩
 ·rcases(show j=0∨j=1∨j=2∨j=3∨j=4 by omega) with rfl|rfl|rfl|rfl|rfl<;>rcases(show k=0∨k=1∨k=2∨k=3∨k=4 by omega) with rfl|rfl|rfl|rfl|rfl<;>first|exact absurd rfl h|(intro e;have e:_=_:=e;simp[LaidE.at5] at e;subst e;simp at nd)
 ·rcases(show k=0∨k=1∨k=2∨k=3∨k=4 by omega) with rfl|rfl|rfl|rfl|rfl
  ·exact o0
  ·exact o1
  ·exact o2
  ·exact o3
  ·exact o4
set_option maxRecDepth 100000 in
theorem contract(H:Type)(enc:TypeId×Value→H)(W:World)(base:Nat)(args:Array Value)(ds gs:List (DataW H))(before:List MemPlace)
  (hval0:∀(j:Nat) t v,Tryz.f4.params[j]?=some t→args[j]?=some v→Value.okWide Tryz.prog W .any base t v)
  (hW:DataW.Whole enc Tryz.prog Tryz.f4.params.toList Rows.fnExactBookNetSpec.vars false W args.toList ds gs before)(hL:laidMetH Tryz.prog Rows.fnExactBookNetRow.laid W):
  Calls Tryz.prog 4 args W fun e W'=>∃v,e= .returned v∧Rows.fnExactBookNetSpec.post enc Tryz.prog Tryz.f4 false true false false W args v W':=by
 have hval:∀(j:Nat) t v,Tryz.f4.params[j]?=some t→args[j]?=some v→Value.okWide Tryz.prog W .any base t v:=hval0
 have hW':=hW
 obtain⟨p,q,hA0,hV,rfl,hfz,hnd⟩:=hW
 have hA:DataW.TrodAll enc Tryz.prog W 0 (fun _=>true) true Tryz.f4.params.toList args.toList ds p:=hA0
 rw[Tryz.params4] at hA hval
 obtain⟨v0,vs0,d0,ds0,p0,q0,hargs,rfl,rfl,h0,r0⟩:=trodAll_cons hA
 obtain⟨v1,vs1,d1,ds1,p1,q1,rfl,rfl,rfl,h1,r1⟩:=trodAll_cons r0
 obtain⟨v2,vs2,d2,ds2,p2,q2,rfl,rfl,rfl,h2,r2⟩:=trodAll_cons r1
 obtain⟨v3,vs3,d3,ds3,p3,q3,rfl,rfl,rfl,h3,r3⟩:=trodAll_cons r2
 obtain⟨rfl,rfl,rfl⟩:=trodAll_nil r3
 obtain rfl:args= #[v0,v1,v2,v3]:=by cases args;simp_all
 obtain⟨a0,a1,a2,a3,a4,HE,HH⟩:=errs hL
 obtain⟨rfl,rfl⟩:=hV.unique (HH.read enc _)
 have k0:=h0
 have lt0:∀x∈p0,x.block<W.heap.size:=by obtain⟨m,hm⟩:=k0;exact DataW.trod_lt m _ _ _ hm
 obtain⟨y0,rfl,rk0,f0⟩:=OpensB.open_books (hval 0 28 v0 rfl rfl) h0
 obtain⟨a1,rfl,rfl,rfl,w1⟩:=open_int Tryz.underlying3 (hval 1 3 v1 rfl rfl) h1
 obtain⟨a2,rfl,rfl,rfl,w2⟩:=open_int Tryz.underlying3 (hval 2 3 v2 rfl rfl) h2
 obtain⟨a3,rfl,rfl,rfl,w3⟩:=open_int Tryz.underlying3 (hval 3 3 v3 rfl rfl) h3
 clear hA0
 refine(walk y0 a1 a2 a3 W rk0 f0 w1 w2 w3 W.heap.size _ HE (Nat.le_refl _)).mono fun e W' ⟨he,bel⟩=>?_
 subst he
 exact⟨_,rfl,_,_,_,[],_,_,hW',trodAll_mk1 (shut_bool Tryz.underlying4 _),(trodAll_cons_mk (Below.trod laidOut (by kernel_rfl) (of_decide_eq_true (by kernel_rfl)) k0 bel lt0) (trodAll_cons_mk (shut_int Tryz.underlying3 w1) (trodAll_cons_mk (shut_int Tryz.underlying3 w2) (trodAll_cons_mk (shut_int Tryz.underlying3 w3) trodAll_mk0)))),(HH.below bel).read enc _,bel.frame _,fun h=>by cases h⟩
set_option maxRecDepth 100000 in
theorem laid_met(os:Os):laidMet Tryz.prog Rows.fnExactBookNetRow.laid ((let w0:=(World.holding Tryz.prog os ⟨#[.cells #[.string {data:= #[116,104,101,114,101,32,105,115,32,110,111,32,115,117,99,104,32,116,114,97,100,101]}] 314,.cells #[.string {data:= #[97,32,116,114,97,100,101,32,105,115,32,110,111,116,32,111,112,101,110]}] 314,.cells #[.string {data:= #[97,32,104,111,108,100,101,114,32,104,97,115,32,116,111,111,32,108,105,116,116,108,101]}] 314,.cells #[.string {data:= #[116,104,101,114,101,32,105,115,32,110,111,32,114,111,111,109]}] 314,.cells #[.string {data:= #[97,32,115,117,109,32,105,115,32,110,111,32,97,109,111,117,110,116]}] 314],#[],[]⟩);{w0 with heap:=(((((w0.heap.modify 1 fun| .cells _ t z=> .cells #[.iface 290 (.pointer (some ⟨10,0,none⟩))] t z|o=>o).modify 2 fun| .cells _ t z=> .cells #[.iface 290 (.pointer (some ⟨11,0,none⟩))] t z|o=>o).modify 4 fun| .cells _ t z=> .cells #[.iface 290 (.pointer (some ⟨12,0,none⟩))] t z|o=>o).modify 0 fun| .cells _ t z=> .cells #[.iface 290 (.pointer (some ⟨13,0,none⟩))] t z|o=>o).modify 3 fun| .cells _ t z=> .cells #[.iface 290 (.pointer (some ⟨14,0,none⟩))] t z|o=>o)}:World).forCall (fun _ _=>0) ⟨#[],#[.agg #[.slice none 0 0,.slice none 0 0,.slice none 0 0,.slice none 0 0,.slice none 0 0,.int .i64 0],.int .i64 0,.int .i64 0,.int .i64 0],[]⟩).memory:=
 laidMet_of_run' 8 (by kernel_rfl) (by kernel_rfl)
set_option maxRecDepth 100000 in
theorem lifted(os:Os)(started:os.Started)(H:Type)(enc:TypeId×Value→H)(F:Stop.Interp):
  ReturnsInHanded {} Tryz.checked os 4 .any ((OpenSpec.ofChange Rows.fnExactBookNetSpec).preRow enc Tryz.prog Tryz.f4 Rows.fnExactBookNetRow.domain false Rows.fnExactBookNetRow.laid) (((OpenSpec.ofChange Rows.fnExactBookNetSpec).at F).post enc Tryz.prog Tryz.f4 false true false false):=by
 refine returnsInHanded_of_row (C:=Tryz.checked) (s:=OpenSpec.ofChange Rows.fnExactBookNetSpec) own started (by kernel_rfl) Tryz.func4
  (witness_row_at (enc:=enc) (C:=Tryz.checked) false (let w0:=(World.holding Tryz.prog os ⟨#[.cells #[.string {data:= #[116,104,101,114,101,32,105,115,32,110,111,32,115,117,99,104,32,116,114,97,100,101]}] 314,.cells #[.string {data:= #[97,32,116,114,97,100,101,32,105,115,32,110,111,116,32,111,112,101,110]}] 314,.cells #[.string {data:= #[97,32,104,111,108,100,101,114,32,104,97,115,32,116,111,111,32,108,105,116,116,108,101]}] 314,.cells #[.string {data:= #[116,104,101,114,101,32,105,115,32,110,111,32,114,111,111,109]}] 314,.cells #[.string {data:= #[97,32,115,117,109,32,105,115,32,110,111,32,97,109,111,117,110,116]}] 314],#[],[]⟩);{w0 with heap:=(((((w0.heap.modify 1 fun| .cells _ t z=> .cells #[.iface 290 (.pointer (some ⟨10,0,none⟩))] t z|o=>o).modify 2 fun| .cells _ t z=> .cells #[.iface 290 (.pointer (some ⟨11,0,none⟩))] t z|o=>o).modify 4 fun| .cells _ t z=> .cells #[.iface 290 (.pointer (some ⟨12,0,none⟩))] t z|o=>o).modify 0 fun| .cells _ t z=> .cells #[.iface 290 (.pointer (some ⟨13,0,none⟩))] t z|o=>o).modify 3 fun| .cells _ t z=> .cells #[.iface 290 (.pointer (some ⟨14,0,none⟩))] t z|o=>o)}:World) #[.agg #[.slice none 0 0,.slice none 0 0,.slice none 0 0,.slice none 0 0,.slice none 0 0,.int .i64 0],.int .i64 0,.int .i64 0,.int .i64 0] rfl (by kernel_rfl) (by kernel_rfl) (by kernel_rfl)
   (OpenSpec.preRow_of_B rfl 8 (by kernel_rfl) (by kernel_rfl) (laid_met os))) ?_
 intro W base args ds gs before hval hW _ _ _ hL _ _
 exact contract H enc W base args ds gs before hval hW hL
theorem said:Rows.FnExactBookNetSaid:=
 OpenClaim.holds_of_cond 4 Tryz.f4 rfl rfl rfl rfl rfl rfl rfl ⟨rfl,rfl,rfl,rfl,rfl⟩ rfl rfl rfl rfl rfl (by kernel_rfl) Tryz.func4 (by kernel_rfl)
  (of_decide_eq_true (by kernel_rfl)) (by unfold Func.isWrapper;first|(rw[if_pos (by decide+kernel)];kernel_rfl)|(rw[if_neg (by decide+kernel)];exact⟨rfl,rfl⟩))
  (fun os started H enc _ F=>by rw[OpenClaim.pre_eq_preRow];exact lifted os started H enc F)
theorem plain(f:FuncId)(fn:Func)(hf:Tryz.pinned.checked.prog.funcNamed Rows.fnExactBookNetRow.func=some f)(hfn:Tryz.pinned.checked.prog.funcs[f]?=some fn):
  true=Tryz.pinned.checked.prog.looks []∧∀(j:Nat) t,fn.params[j]?=some t→Tryz.pinned.checked.prog.wantsStandIn t=false:=by
 obtain rfl:f=4:=Option.some.inj ((show Tryz.prog.funcNamed Rows.fnExactBookNetRow.func=some 4 by kernel_rfl).symm.trans hf)|>.symm
 obtain rfl:fn=Tryz.f4:=(Option.some.inj (Tryz.func4.symm.trans hfn)).symm
 refine⟨by kernel_rfl,fun j t ht=>?_⟩
 have al:(Tryz.f4.params.all fun t=>Tryz.prog.wantsStandIn t==false)=true:=by kernel_rfl
 have q:=Array.all_eq_true'.1 al t (Array.mem_of_getElem? ht)
 have q:Tryz.prog.wantsStandIn t=false:=by simpa using q
 exact q
theorem proved:Rows.FnExactBookNetCardSaid:=
 Claim7.holds_tied_plain_at .later [] _ _ _ _ said (fun _ h=>by cases h) (by kernel_rfl) (fun _ h=>by cases h) fnExactBookNet_row_tie rfl ⟨rfl,rfl⟩ (by kernel_rfl) rfl plain (by kernel_rfl)
#print axioms proved
end Go.Proofs.YtpkgkekonhgonaaGreatDoor.fnExactBookNet
