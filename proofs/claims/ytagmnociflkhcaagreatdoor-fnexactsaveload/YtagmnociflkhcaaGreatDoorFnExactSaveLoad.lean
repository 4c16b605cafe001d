/- At any disk the program's SaveLoad answers as its model, writes into no argument, and its answer is its own. No condition. -/
import Derived.Test.YtagmnociflkhcaaGreatDoorRows
import Derived.Test.YtagmnociflkhcaaGreatDoorQL0
import Derived.Test.YtagmnociflkhcaaGreatDoorQL1
import Derived.Test.YtagmnociflkhcaaGreatDoorQL2
import Derived.Test.YtagmnociflkhcaaGreatDoorQL3
import Derived.Test.YtagmnociflkhcaaGreatDoorQL4
import Derived.Test.YtagmnociflkhcaaGreatDoorQL5
import Derived.Test.YtagmnociflkhcaaGreatDoorQL6
import Derived.Test.YtagmnociflkhcaaGreatDoorQL7
import Derived.Test.YtagmnociflkhcaaGreatDoorQL8
import Derived.Test.YtagmnociflkhcaaGreatDoorQL9
import Derived.Test.YtagmnociflkhcaaGreatDoorQL10
import Derived.Test.YtagmnociflkhcaaGreatDoorQL11
import Derived.Test.YtagmnociflkhcaaGreatDoorQL12
import Derived.Test.YtagmnociflkhcaaGreatDoorQL13
import Derived.Test.YtagmnociflkhcaaGreatDoorQL14
import Derived.Test.YtagmnociflkhcaaGreatDoorQL15
import Derived.Test.YtagmnociflkhcaaGreatDoorQL16
import Derived.Test.YtagmnociflkhcaaGreatDoorQL17
import Derived.Test.YtagmnociflkhcaaGreatDoorQL18
import Derived.Test.YtagmnociflkhcaaGreatDoorQL19
import Derived.Test.YtagmnociflkhcaaGreatDoorQL20
import Derived.Test.YtagmnociflkhcaaGreatDoorQL21
import Derived.Test.YtagmnociflkhcaaGreatDoorQL22
import Derived.Test.YtagmnociflkhcaaGreatDoorQL23
import Derived.Test.YtagmnociflkhcaaGreatDoorQL24
import Derived.Test.YtagmnociflkhcaaGreatDoorQL25
import Derived.Test.YtagmnociflkhcaaGreatDoorQL26
import Derived.Test.YtagmnociflkhcaaGreatDoorQL27
import Derived.Test.YtagmnociflkhcaaGreatDoorQL28
import Derived.Test.YtagmnociflkhcaaGreatDoorQL29
import Derived.Test.YtagmnociflkhcaaGreatDoorQL30
import Derived.Test.YtagmnociflkhcaaGreatDoorQL31
import Derived.Test.YtagmnociflkhcaaGreatDoorQL32
import Derived.Test.YtagmnociflkhcaaGreatDoorQL33
import Derived.Test.YtagmnociflkhcaaGreatDoorQL34
import Derived.Test.YtagmnociflkhcaaGreatDoorQL35
import Derived.Test.YtagmnociflkhcaaGreatDoorQL36
import Derived.Test.YtagmnociflkhcaaGreatDoorQL37
import Derived.Test.YtagmnociflkhcaaGreatDoorQL38
import Derived.Test.YtagmnociflkhcaaGreatDoorQL39
import Derived.Test.YtagmnociflkhcaaGreatDoorQL40
import Derived.Test.YtagmnociflkhcaaGreatDoorQL41
import Derived.Test.YtagmnociflkhcaaGreatDoorQL42
import Derived.Test.YtagmnociflkhcaaGreatDoorQL43
import Derived.Test.YtagmnociflkhcaaGreatDoorQL44
import Derived.Test.YtagmnociflkhcaaGreatDoorQL45
import Derived.Test.YtagmnociflkhcaaGreatDoorQL46
import Derived.Test.YtagmnociflkhcaaGreatDoorQL47
import Derived.Test.YtagmnociflkhcaaGreatDoorCards
import Derived.Test.YtagmnociflkhcaaGreatDoorTie
import Derived.ShutString
import Derived.ChangeOld
import Derived.Below
namespace Go.Proofs.YtagmnociflkhcaaGreatDoor.fnExactSaveLoad
open Go.ChangeShapes Go.WideShapes Go.ChangeAt Go.RowKit
open Go.ChangeMaps (open_string shut_string)
set_option linter.unusedVariables false
set_option linter.unusedSimpArgs false
theorem own:ownKnob Tryz.prog.godebug=none:=by kernel_rfl
theorem laidOut:laidOutB Tryz.prog=true:=by kernel_rfl
open Fil14 OpensF14 DiskH14 DkH14 SDk14 SOk14 SRd14 SCom14 Law14 LawX16 SLoad16
open BMem (Small)
open BHelp (Ix)
open BkEq (e5 e_bd)
open Bks (Bk)
open BMemV13 (RdV)
open VB13 (OwV OwMV TurnV)
open LawR13 (up_of up_mono rd_low not_own)
abbrev oB0:Oper:={dst:=some 41,op:=Go.Op.load 39 (Go.Operand.tmp 6),type:=39,pos:= "exact.go:4531",after:= #[],guard:=none}
abbrev oB1:Oper:={dst:=some 42,op:=Go.Op.load 24 (Go.Operand.tmp 1),type:=24,pos:= "exact.go:4531",after:= #[],guard:=none}
abbrev oB2:Oper:={dst:=some 43,op:=Go.Op.call {callee:=Go.Callee.value (Go.Operand.func 6),args:= #[Go.Operand.tmp 42],argTypes:= #[24]},type:=39,pos:= "exact.go:4531",after:= #[{on:=1,ground:=Go.Ground.data}],guard:=none}
abbrev oB3:Oper:={dst:=some 44,op:=Go.Op.call {callee:=Go.Callee.value (Go.Operand.func 9),args:= #[Go.Operand.tmp 41,Go.Operand.tmp 43],argTypes:= #[39,39]},type:=4,pos:= "exact.go:4531",after:= #[{on:=0,ground:=Go.Ground.data},{on:=2,ground:=Go.Ground.data},{on:=2,ground:=Go.Ground.chain}],guard:=none}
abbrev oB4:Oper:={dst:=some 45,op:=Go.Op.unOp Go.UnOp.not 4 (Go.Operand.tmp 44),type:=4,pos:= "exact.go:4531",after:= #[{on:=3,ground:=Go.Ground.data}],guard:=none}
set_option maxRecDepth 100000 in
set_option maxHeartbeats 8000000 in
theorem walk(n0:Int)(a0:Option Addr)(len0 cap0:Nat)(z0:List Fil14.TF)(w:World)(l0:z0.length=len0)(g0:len0≤9223372036854775807)(w0:Fil14.ReadsF w a0 z0)(f0:OpensF14.FitF z0)(Ne:Nat)(ade:Nat→Addr)(E:Errs.Errs w 1 Ne ade)(hN:Ne≤w.heap.size):
  Calls Tryz.prog 3 #[.agg #[.int .i64 n0,.slice a0 len0 cap0]] w fun e w'=>e= .returned (.bool true)∧Below w.heap.size w w':=by
 have H:=zh w0
 have L:=zh (La.start (k:=n0) (len:=len0) (cap:=cap0) w0 24)
 clear w0
 have c0:=(zu L).c0
 have c1:=(zu L).c1
 have cl:=(zu L).s
 go_enter Tryz.func3,Tryz.ntmps3
 go_wp2_with fail
 refine(szD _ n0 a0 len0 cap0 z0 l0 g0 (zu L).r f0).mono ?_
 rintro e u0 ⟨r,rfl,hr,bb⟩
 replace L:=zh ((zu L).step bb)
 clear bb
 clear c0 c1 cl
 rcases hr with rfl|⟨r1,l20,sz⟩
 ·go_wp2
  go_ret
  exact⟨rfl,(zu L).b⟩
 have rn:¬r<0:=by omega
 clear r1
 have SP:=zh (fun u (x:Dx) (h1:x.room=n0) (h2:x.ps=z0) (hr:RdD u x)=>show Calls Tryz.prog 5 #[.agg #[.int .i64 x.room,.slice x.a x.ps.length x.c]] u (LoadSaid (loadD n0 z0) u) from by have:=sSaveLoad u x hr (by rw[h2];exact sz);rw[h1,h2] at this;rw[h1,h2];exact this)
 have w00:0<w.heap.size:=Nat.lt_of_lt_of_le (E.lt 0 (by omega)).1 hN
 have IM:=zh (fun u (x:Dx) (b:Below w.heap.size w u) (h1:x.room=n0) (h2:x.ps=z0) (hr:RdD u x)=>show Calls Tryz.prog 7 #[.agg #[.int .i64 x.room,.slice x.a x.ps.length x.c]] u (LoadOwn (loadD n0 z0) u) from by have:=ISaveLoad16.iSaveLoad u x _ _ hr (by rw[h2];exact sz) ((b.cell (p:=⟨0,0,none⟩) w00).trans (E.v 0 (by omega)));rw[h1,h2] at this;rw[h1,h2];exact this)
 generalize loadD n0 z0=rr at *
 obtain⟨⟨rf,rk⟩,ok⟩:=rr
 have q1:(ok !=ok)=false:=by simp
 have c0:=(zu L).c0
 have c1:=(zu L).c1
 have cl:=(zu L).s
 go_wp2_with fail
 refine(toD _ n0 a0 len0 cap0 z0 l0 l20 (zu L).r).mono ?_
 rintro e u1 ⟨x1,xr,xp,rfl,ox,bb⟩
 replace L:=zh ((zu L).step bb)
 have Ex1:=zh (And.intro xr xp)
 have O1:=zh ox
 clear bb ox xr xp
 clear c0 c1 cl
 go_wp2_with fail
 refine((zu SP) u1 x1 (zu Ex1).1 (zu Ex1).2 (OwD.rd (zu O1) (by rw[(zu Ex1).2];omega))).mono ?_
 rintro e u2 ⟨y2,hy2,rfl,rw2,bb⟩
 replace L:=zh ((zu L).step bb)
 have HY2:=zh (show y2.b=rk from hy2)
 have SMB:=zh (show Small rk from by rw[←zu HY2];exact⟨rw2.na,rw2.ni,rw2.nb,rw2.nl,rw2.nt⟩)
 have bw:=one_more u2 (.cells #[.int .i64 rf,.slice y2.aa y2.b.ac.length y2.ca,.slice y2.ai y2.b.ic.length y2.ci,.slice y2.ab y2.b.bs.length y2.cb,.slice y2.al y2.b.ls.length y2.cl,.slice y2.ats y2.b.ts.length y2.ct,.int .i64 y2.b.lot] 34)
 have UW:=zh (up_of rw2)
 have RW:=zh (rw2.below bw)
 have KW:=zh (Kv.made u2 rf y2 34)
 have z2:(u2.alloc (.cells #[.int .i64 rf,.slice y2.aa y2.b.ac.length y2.ca,.slice y2.ai y2.b.ic.length y2.ci,.slice y2.ab y2.b.bs.length y2.cb,.slice y2.al y2.b.ls.length y2.cl,.slice y2.ats y2.b.ts.length y2.ct,.int .i64 y2.b.lot] 34)).heap.size=u2.heap.size+1:=by simp
 have Z2:=zh z2
 have ZL:=zh (show w.heap.size<u2.heap.size+1 from by have:=(zu L).s;omega)
 replace L:=zh ((zu L).step bw)
 clear bb bw rw2 O1 Ex1 z2 hy2
 have c0:=(zu L).c0
 have c1:=(zu L).c1
 have cl:=(zu L).s
 go_wp2_with fail
 refine(toD _ n0 a0 len0 cap0 z0 l0 l20 (zu L).r).mono ?_
 rintro e u3 ⟨x3,xr,xp,rfl,ox,bb⟩
 replace L:=zh ((zu L).step bb)
 replace RW:=zh ((zu RW).below bb)
 replace KW:=zh ((zu KW).step bb)
 have Ex3:=zh (And.intro xr xp)
 rw[zu Z2] at ox
 have LOX:=zh (fun g e=>(own_lt ox (g:=g) e).1)
 have UX:=zh (fun g e=>(own_lt ox (g:=g) e).2)
 have z3:u2.heap.size+1≤u3.heap.size:=by have:=bb.size;rw[zu Z2] at this;exact this
 have bx:=one_more u3 (.cells #[.int .i64 x3.room,.slice x3.a x3.ps.length x3.c] 39)
 have Z3:=zh (show(u3.alloc (.cells #[.int .i64 x3.room,.slice x3.a x3.ps.length x3.c] 39)).heap.size=u3.heap.size+1 by simp)
 have KX:=zh (Kd.made u3 x3 39)
 have OX:=zh (ox.step bx)
 replace L:=zh ((zu L).step bx)
 replace RW:=zh ((zu RW).below bx)
 replace KW:=zh ((zu KW).step bx)
 clear bx
 clear bb ox xr xp
 clear c0 c1 cl
 have g0:=(zu KX).c0
 have g1:=(zu KX).c1
 have gl:=(zu KX).lt
 go_wp2_with fail
 refine((zu IM) _ x3 (zu L).b (zu Ex3).1 (zu Ex3).2 (OwD.rd (zu OX) (by rw[(zu Ex3).2];omega))).mono ?_
 rintro e u4 ⟨y4,hy4,rfl,og,bb⟩
 rw[zu Z3] at og
 replace L:=zh ((zu L).step bb)
 replace RW:=zh ((zu RW).below bb)
 replace KW:=zh ((zu KW).step bb)
 replace OX:=zh ((zu OX).step bb)
 replace KX:=zh ((zu KX).step bb)
 have HY4:=zh (show y4.b=rk from hy4)
 have bg:=one_more u4 (.cells #[.int .i64 rf,.slice y4.aa y4.b.ac.length y4.ca,.slice y4.ai y4.b.ic.length y4.ci,.slice y4.ab y4.b.bs.length y4.cb,.slice y4.al y4.b.ls.length y4.cl,.slice y4.ats y4.b.ts.length y4.ct,.int .i64 y4.b.lot] 34)
 have z4:u3.heap.size+1≤u4.heap.size:=by have:=bb.size;rw[zu Z3] at this;exact this
 have NG:=zh (not_own og (Nat.le_refl _))
 have OG:=zh (og.step bg)
 have KG:=zh (Kv.made u4 rf y4 34)
 replace L:=zh ((zu L).step bg)
 replace RW:=zh ((zu RW).below bg)
 replace KW:=zh ((zu KW).step bg)
 replace OX:=zh ((zu OX).step bg)
 replace KX:=zh ((zu KX).step bg)
 clear bb bg og hy4 g0 g1 gl
 have g0:=(zu KG).f
 have g1:=(zu KG).c0
 have g2:=(zu KG).c1
 have g3:=(zu KG).c2
 have g4:=(zu KG).c3
 have g5:=(zu KG).c4
 have g6:=(zu KG).c5
 have gl:=(zu KG).lt
 have v0:=(zu KW).f
 have v1:=(zu KW).c0
 have v2:=(zu KW).c1
 have v3:=(zu KW).c2
 have v4:=(zu KW).c3
 have v5:=(zu KW).c4
 have v6:=(zu KW).c5
 have vl:=(zu KW).lt
 go_wp2_with fail
 refine(LoadH16.eqSvV _ rf y4 y2 (by rw[zu HY2,zu HY4]) ((zu OG).rd (by rw[zu HY4];exact zu SMB)) (zu RW)).mono ?_
 rintro e u5 ⟨rfl,bb⟩
 clear g0 g1 g2 g3 g4 g5 g6 gl
 clear v0 v1 v2 v3 v4 v5 v6 vl
 replace L:=zh ((zu L).step bb)
 replace RW:=zh ((zu RW).below bb)
 replace KW:=zh ((zu KW).step bb)
 replace OX:=zh ((zu OX).step bb)
 replace KX:=zh ((zu KX).step bb)
 replace OG:=zh ((zu OG).step bb)
 replace KG:=zh ((zu KG).step bb)
 clear bb
 have K0:u5.cell? ⟨u3.heap.size,0,none⟩=some (.int .i64 x3.room)∧u5.cell? ⟨u3.heap.size,1,none⟩=some (.slice x3.a x3.ps.length x3.c)∧u5.cell? ⟨w.heap.size,0,none⟩=some (.int .i64 n0)∧u5.cell? ⟨w.heap.size,1,none⟩=some (.slice a0 len0 cap0):=⟨(zu KX).c0,(zu KX).c1,(zu L).c0,(zu L).c1⟩
 go_wp2_with fail
 refine wp_region_held_drew (S:=(fun w'=>w'.cell? ⟨u3.heap.size,0,none⟩=some (.int .i64 x3.room)∧w'.cell? ⟨u3.heap.size,1,none⟩=some (.slice x3.a x3.ps.length x3.c)∧w'.cell? ⟨w.heap.size,0,none⟩=some (.int .i64 n0)∧w'.cell? ⟨w.heap.size,1,none⟩=some (.slice a0 len0 cap0))) (by kernel_rfl) K0 (fun hHeld=>?_)
 refine tk 0 oB0 (.agg #[.int .i64 x3.room,.slice x3.a x3.ps.length x3.c]) rfl (by kernel_rfl) (fun _ _ _ h=>h) (by rfl) (fun w hSw=>?_) hHeld ?_
 ·(try dsimp only at hSw)
  unfold oB0
  go_simp
 try simp only[oB0,Act.put,zA,zB,zC]
 refine tk 1 oB1 (.agg #[.int .i64 n0,.slice a0 len0 cap0]) rfl (by kernel_rfl) (fun _ _ _ h=>h) (by rfl) (fun w hSw=>?_) hHeld ?_
 ·(try dsimp only at hSw)
  unfold oB1
  go_simp
 try simp only[oB1,Act.put,zA,zB,zC]
 refine wpAnyH_ready (rs:=[2]) (by kernel_rfl) (by simp) ?_
 refine AllReadyH.cons (o:=oB2) rfl (fun K hK=>?_) AllReadyH.nil
 unfold oB2
 go_simp
 go_wp2_with fail
 refine(toD u5.drew n0 a0 len0 cap0 z0 l0 l20 (show ReadsF u5.drew a0 z0 from(zu L).r)).mono ?_
 rintro e u6 ⟨x6,xr,xp,rfl,ox,b6⟩
 have b7:Below u5.heap.size u5 u6:=⟨b6.os,b6.tape,b6.output,b6.size,b6.block⟩
 replace L:=zh ((zu L).step b7)
 replace RW:=zh ((zu RW).below b7)
 replace KW:=zh ((zu KW).step b7)
 replace OX:=zh ((zu OX).step b7)
 replace KX:=zh ((zu KX).step b7)
 replace OG:=zh ((zu OG).step b7)
 replace KG:=zh ((zu KG).step b7)
 have E6:=zh (And.intro xr xp)
 have O6:=zh ox
 have K1:u6.cell? ⟨u3.heap.size,0,none⟩=some (.int .i64 x3.room)∧u6.cell? ⟨u3.heap.size,1,none⟩=some (.slice x3.a x3.ps.length x3.c)∧u6.cell? ⟨w.heap.size,0,none⟩=some (.int .i64 n0)∧u6.cell? ⟨w.heap.size,1,none⟩=some (.slice a0 len0 cap0):=⟨(zu KX).c0,(zu KX).c1,(zu L).c0,(zu L).c1⟩
 clear b6 b7 ox xr xp
 go_wp2_with fail
 refine hK.out _ _ K1 (fun hHeld=>?_)
 clear hK K
 try simp only[oB2,Act.put,zA,zB,zC]
 refine wpAnyH_ready (rs:=[3]) (by kernel_rfl) (by simp) ?_
 refine AllReadyH.cons (o:=oB3) rfl (fun K hK=>?_) AllReadyH.nil
 unfold oB3
 go_simp
 go_wp2_with fail
 refine(eqD u6 x3 x6 (by rw[(zu E6).1,(zu Ex3).1]) (by rw[(zu E6).2,(zu Ex3).2]) (OwD.rd (zu OX) (by rw[(zu Ex3).2];omega)) (OwD.rd (zu O6) (by rw[(zu E6).2];omega))).mono ?_
 rintro e u7 ⟨rfl,bb⟩
 replace L:=zh ((zu L).step bb)
 replace RW:=zh ((zu RW).below bb)
 replace KW:=zh ((zu KW).step bb)
 replace OX:=zh ((zu OX).step bb)
 replace KX:=zh ((zu KX).step bb)
 replace OG:=zh ((zu OG).step bb)
 replace KG:=zh ((zu KG).step bb)
 have K2:u7.cell? ⟨u3.heap.size,0,none⟩=some (.int .i64 x3.room)∧u7.cell? ⟨u3.heap.size,1,none⟩=some (.slice x3.a x3.ps.length x3.c)∧u7.cell? ⟨w.heap.size,0,none⟩=some (.int .i64 n0)∧u7.cell? ⟨w.heap.size,1,none⟩=some (.slice a0 len0 cap0):=⟨(zu KX).c0,(zu KX).c1,(zu L).c0,(zu L).c1⟩
 clear bb O6 E6
 go_wp2_with fail
 refine hK.out _ _ K2 (fun hHeld=>?_)
 clear hK K
 try simp only[oB3,Act.put,zA,zB,zC]
 refine tk 4 oB4 (.bool false) rfl (by kernel_rfl) (fun _ _ _ h=>h) (by rfl) (fun w hSw=>?_) hHeld ?_
 ·(try dsimp only at hSw)
  unfold oB4
  go_simp
 try simp only[oB4,Act.put,zA,zB,zC]
 refine wpAnyH_done (by kernel_rfl) ?_ _
 clear K0 K1 K2
 have g0:=(zu KX).c0
 have g1:=(zu KX).c1
 have gl:=(zu KX).lt
 have s1:=(zu KW).lt
 have sL:=(zu L).s
 have sB:=(zu L).b.size
 have ZW:=zh (show w.heap.size<u2.heap.size+1 from by have:=zu ZL;omega)
 go_wp2_with fail
 refine(markD _ (u2.heap.size+1) x3 (by rw[(zu Ex3).2];omega) (by omega) (zu OX)).mono ?_
 rintro e u8 ⟨rfl,_,tn⟩
 have bl:=tn.below (zu OX) (by omega)
 replace L:=zh (La.turn (zu H) (zu L) bl (by have:=zu ZW;omega))
 replace RW:=zh (rd_low (zu RW) (up_mono (zu UW) (by omega)) bl)
 replace KW:=zh ((zu KW).low bl (by omega))
 replace OG:=zh (ownV_turnD (zu OG) tn (fun g hg e=>by have:=(zu UX) g e.symm;omega))
 replace KG:=zh ((zu KG).of (tn.block _ (zu KG).lt (fun e=>by have:=(zu UX) _ e.symm;omega)) tn.size)
 clear g0 g1 gl tn bl OX KX s1 sL sB
 have k0:¬(1+3*(x3.ps.length:Int))<0:=by omega
 have g0:=(zu KG).f
 have g1:=(zu KG).c0
 have g2:=(zu KG).c1
 have g3:=(zu KG).c2
 have g4:=(zu KG).c3
 have g5:=(zu KG).c4
 have g6:=(zu KG).c5
 have gl:=(zu KG).lt
 have v0:=(zu KW).f
 have v1:=(zu KW).c0
 have v2:=(zu KW).c1
 have v3:=(zu KW).c2
 have v4:=(zu KW).c3
 have v5:=(zu KW).c4
 have v6:=(zu KW).c5
 have vl:=(zu KW).lt
 go_wp2_with fail
 refine(LoadH16.eqSvV _ rf y4 y2 (by rw[zu HY2,zu HY4]) ((zu OG).rd (by rw[zu HY4];exact zu SMB)) (zu RW)).mono ?_
 rintro e u9 ⟨rfl,bb⟩
 clear g0 g1 g2 g3 g4 g5 g6 gl
 clear v0 v1 v2 v3 v4 v5 v6 vl
 replace L:=zh ((zu L).step bb)
 replace RW:=zh ((zu RW).below bb)
 replace KW:=zh ((zu KW).step bb)
 replace OG:=zh ((zu OG).step bb)
 replace KG:=zh ((zu KG).step bb)
 clear bb
 clear k0
 have SY:=zh (show Small y4.b from by rw[zu HY4];exact zu SMB)
 have EX:=(e_bd (zu SY)).2.2.2.2
 obtain⟨ex,hex⟩:∃ex,Hid (e5 y4.b=ex):=⟨_,rfl⟩
 have ex0:¬ex<0:=by rw[←zu hex];omega
 have ex1:(ex !=ex)=false:=by simp
 clear EX
 have g0:=(zu KG).f
 have g1:=(zu KG).c0
 have g2:=(zu KG).c1
 have g3:=(zu KG).c2
 have g4:=(zu KG).c3
 have g5:=(zu KG).c4
 have g6:=(zu KG).c5
 have gl:=(zu KG).lt
 go_wp2_with fail
 refine(LoadH16.markSvV _ (u3.heap.size+1) rf y4 (zu OG) (by omega) (zu SY)).mono ?_
 rintro e u10 ⟨he,om,tn⟩
 rw[zu hex] at he
 subst he
 have bl:=tn.below (zu OG) (by omega)
 have ng:=zu NG
 replace L:=zh (La.turn (zu H) (zu L) bl (by have:=zu ZW;omega))
 replace RW:=zh (rd_low (zu RW) (up_mono (zu UW) (by omega)) bl)
 replace KW:=zh ((zu KW).low bl (by omega))
 replace KG:=zh ((zu KG).of (tn.block _ (zu KG).lt ng.1 ng.2.1 ng.2.2.1 ng.2.2.2.1 ng.2.2.2.2) tn.size)
 have OM:=zh om
 clear g0 g1 g2 g3 g4 g5 g6 gl
 clear tn bl ng om OG
 have g0:=(zu KG).f
 have g1:=(zu KG).c0
 have g2:=(zu KG).c1
 have g3:=(zu KG).c2
 have g4:=(zu KG).c3
 have g5:=(zu KG).c4
 have g6:=(zu KG).c5
 have gl:=(zu KG).lt
 go_wp2_with fail
 refine(LoadH16.heldSvV _ _ rf y4 (zu OM) (zu SY)).mono ?_
 rintro e u11 ⟨he,bb⟩
 rw[zu hex] at he
 subst he
 clear g0 g1 g2 g3 g4 g5 g6 gl
 replace L:=zh ((zu L).step bb)
 replace RW:=zh ((zu RW).below bb)
 replace KW:=zh ((zu KW).step bb)
 replace OM:=zh ((zu OM).step bb)
 replace KG:=zh ((zu KG).step bb)
 clear bb
 have c0:=(zu L).c0
 have c1:=(zu L).c1
 have cl:=(zu L).s
 go_wp2_with fail
 refine(toD _ n0 a0 len0 cap0 z0 l0 l20 (zu L).r).mono ?_
 rintro e u12 ⟨x12,xr,xp,rfl,ox,bb⟩
 replace L:=zh ((zu L).step bb)
 replace RW:=zh ((zu RW).below bb)
 replace KW:=zh ((zu KW).step bb)
 replace OM:=zh ((zu OM).step bb)
 replace KG:=zh ((zu KG).step bb)
 have Ex12:=zh (And.intro xr xp)
 have O12:=zh ox
 clear bb ox xr xp
 clear c0 c1 cl
 go_wp2_with fail
 refine((zu IM) u12 x12 (zu L).b (zu Ex12).1 (zu Ex12).2 (OwD.rd (zu O12) (by rw[(zu Ex12).2];omega))).mono ?_
 rintro e u13 ⟨y6,hy6,rfl,oh,bb⟩
 replace L:=zh ((zu L).step bb)
 replace RW:=zh ((zu RW).below bb)
 replace KW:=zh ((zu KW).step bb)
 replace OM:=zh ((zu OM).step bb)
 replace KG:=zh ((zu KG).step bb)
 have HY6:=zh (show y6.b=rk from hy6)
 have bg:=one_more u13 (.cells #[.int .i64 rf,.slice y6.aa y6.b.ac.length y6.ca,.slice y6.ai y6.b.ic.length y6.ci,.slice y6.ab y6.b.bs.length y6.cb,.slice y6.al y6.b.ls.length y6.cl,.slice y6.ats y6.b.ts.length y6.ct,.int .i64 y6.b.lot] 34)
 have RH:=zh ((oh.rd (by rw[zu HY6];exact zu SMB)).below bg)
 have KH:=zh (Kv.made u13 rf y6 34)
 replace L:=zh ((zu L).step bg)
 replace RW:=zh ((zu RW).below bg)
 replace KW:=zh ((zu KW).step bg)
 replace OM:=zh ((zu OM).step bg)
 replace KG:=zh ((zu KG).step bg)
 clear bb bg oh hy6 O12 Ex12
 have g0:=(zu KH).f
 have g1:=(zu KH).c0
 have g2:=(zu KH).c1
 have g3:=(zu KH).c2
 have g4:=(zu KH).c3
 have g5:=(zu KH).c4
 have g6:=(zu KH).c5
 have gl:=(zu KH).lt
 have v0:=(zu KW).f
 have v1:=(zu KW).c0
 have v2:=(zu KW).c1
 have v3:=(zu KW).c2
 have v4:=(zu KW).c3
 have v5:=(zu KW).c4
 have v6:=(zu KW).c5
 have vl:=(zu KW).lt
 go_wp2_with fail
 refine(LoadH16.eqSvV _ rf y6 y2 (by rw[zu HY2,zu HY6]) (zu RH) (zu RW)).mono ?_
 rintro e u14 ⟨rfl,bb⟩
 clear g0 g1 g2 g3 g4 g5 g6 gl
 clear v0 v1 v2 v3 v4 v5 v6 vl
 replace L:=zh ((zu L).step bb)
 replace RW:=zh ((zu RW).below bb)
 replace KW:=zh ((zu KW).step bb)
 replace OM:=zh ((zu OM).step bb)
 replace KG:=zh ((zu KG).step bb)
 replace RH:=zh ((zu RH).below bb)
 replace KH:=zh ((zu KH).step bb)
 clear bb
 have g0:=(zu KG).f
 have g1:=(zu KG).c0
 have g2:=(zu KG).c1
 have g3:=(zu KG).c2
 have g4:=(zu KG).c3
 have g5:=(zu KG).c4
 have g6:=(zu KG).c5
 have gl:=(zu KG).lt
 go_wp2_with fail
 refine(LoadH16.heldSvV _ _ rf y4 (zu OM) (zu SY)).mono ?_
 rintro e u15 ⟨he,bb⟩
 rw[zu hex] at he
 subst he
 clear g0 g1 g2 g3 g4 g5 g6 gl
 replace L:=zh ((zu L).step bb)
 replace RW:=zh ((zu RW).below bb)
 replace KW:=zh ((zu KW).step bb)
 replace OM:=zh ((zu OM).step bb)
 replace KG:=zh ((zu KG).step bb)
 replace RH:=zh ((zu RH).below bb)
 replace KH:=zh ((zu KH).step bb)
 clear bb
 go_wp2
 go_ret
 exact⟨rfl,(zu L).b⟩
theorem cons{W:World}{x:String×DataW Unit}{l:List (String×DataW Unit)}{al:List Addr}(h:LaidE.Fits W (x::l) al):∃a r,al=a::r∧(W.var? Tryz.prog x.1=some #[.iface 201 (.pointer (some a))]∧∃c t,W.heap[a.block]?=some (.cells c t (0,0)))∧LaidE.Fits W l r:=by
 cases al with
 |nil=>exact h.elim
 |cons a r=>exact⟨a,r,rfl,h.1,h.2⟩
theorem named:LaidE.Named Rows.fnExactSaveLoadRow.laid:=by
 intro x hx
 rcases List.mem_cons.1 hx with rfl|hx
 ·exact⟨⟨0,by kernel_rfl,by kernel_rfl⟩,_,rfl⟩
 ·cases hx
theorem errs{W:World}(h:laidMetH Tryz.prog Rows.fnExactSaveLoadRow.laid W):∃a0 a1 a2 a3 a4,Errs.Errs W 1 W.heap.size (LaidE.at5 a0 a1 a2 a3 a4)∧LaidE.Holds W Rows.fnExactSaveLoadSpec.vars [0] [.iface 201 (.pointer (some a0))]:=by
 obtain⟨al,hf,nd⟩:=LaidE.fits_laid named h
 obtain⟨a0,r,rfl,⟨v0,o0⟩,hf⟩:=cons hf
 obtain rfl:r=[]:=by cases r with|nil=>rfl|cons=>exact hf.elim
 have vars:LaidE.Holds W Rows.fnExactSaveLoadSpec.vars [0] [.iface 201 (.pointer (some a0))]:=⟨⟨by kernel_rfl,by kernel_rfl,v0,trivial⟩,trivial⟩
 refine⟨a0,a0,a0,a0,a0,⟨fun k hk=>?_,fun k hk=>?_,fun j k hj hk h=>?_,fun k hk=>?_⟩,vars⟩
 ·rcases(show k=0 by omega) with rfl
  ·exact LaidE.cell_of (by kernel_rfl) v0
 ·rcases(show k=0 by omega) with rfl
  ·exact⟨LaidE.var_lt (by kernel_rfl) v0,LaidE.row_lt o0⟩
 ·rcases(show j=0 by omega) with rfl<;>rcases(show k=0 by omega) with rfl<;>first|exact absurd rfl h|(intro e;have e:_=_:=e;simp[LaidE.at5] at e;subst e;simp at nd)
 ·rcases(show k=0 by omega) with rfl
  ·exact o0
set_option maxRecDepth 100000 in
theorem contract(H:Type)(enc:TypeId×Value→H)(W:World)(base:Nat)(args:Array Value)(ds gs:List (DataW H))(before:List MemPlace)
  (hval0:∀(j:Nat) t v,Tryz.f3.params[j]?=some t→args[j]?=some v→Value.okWide Tryz.prog W .any base t v)
  (hW:DataW.Whole enc Tryz.prog Tryz.f3.params.toList Rows.fnExactSaveLoadSpec.vars false W args.toList ds gs before)(hL:laidMetH Tryz.prog Rows.fnExactSaveLoadRow.laid W):
  Calls Tryz.prog 3 args W fun e W'=>∃v,e= .returned v∧Rows.fnExactSaveLoadSpec.post enc Tryz.prog Tryz.f3 false true false false W args v W':=by
 have hval:∀(j:Nat) t v,Tryz.f3.params[j]?=some t→args[j]?=some v→Value.okWide Tryz.prog W .any base t v:=hval0
 have hW':=hW
 obtain⟨p,q,hA0,hV,rfl,hfz,hnd⟩:=hW
 have hA:DataW.TrodAll enc Tryz.prog W 0 (fun _=>true) true Tryz.f3.params.toList args.toList ds p:=hA0
 rw[Tryz.params3] at hA hval
 obtain⟨v0,vs0,d0,ds0,p0,q0,hargs,rfl,rfl,h0,r0⟩:=trodAll_cons hA
 obtain⟨rfl,rfl,rfl⟩:=trodAll_nil r0
 obtain rfl:args= #[v0]:=by cases args;simp_all
 obtain⟨a0,a1,a2,a3,a4,HE,HH⟩:=errs hL
 obtain⟨rfl,rfl⟩:=hV.unique (HH.read enc _)
 have k0:=h0
 have lt0:∀x∈p0,x.block<W.heap.size:=by obtain⟨m,hm⟩:=k0;exact DataW.trod_lt m _ _ _ hm
 obtain⟨n0,a0,len0,cap0,z0,rfl,l0,g0,w0,f0,_⟩:=OpensF14.open_disk (hval 0 24 v0 rfl rfl) h0
 clear hA0
 refine(walk n0 a0 len0 cap0 z0 W l0 g0 w0 f0 W.heap.size _ HE (Nat.le_refl _)).mono fun e W' ⟨he,bel⟩=>?_
 subst he
 exact⟨_,rfl,_,_,_,[],_,_,hW',trodAll_mk1 (shut_bool Tryz.underlying4 _),(trodAll_cons_mk (Below.trod laidOut (by kernel_rfl) (of_decide_eq_true (by kernel_rfl)) k0 bel lt0) trodAll_mk0),(HH.below bel).read enc _,bel.frame _,fun h=>by cases h⟩
set_option maxRecDepth 100000 in
theorem laid_met(os:Os):laidMet Tryz.prog Rows.fnExactSaveLoadRow.laid ((let w0:=(World.holding Tryz.prog os ⟨#[.cells #[.string {data:= #[116,104,101,32,98,121,116,101,115,32,97,114,101,32,111,102,32,110,111,32,98,111,111,107,115]}] 217],#[],[]⟩);{w0 with heap:=(w0.heap.modify 0 fun| .cells _ t z=> .cells #[.iface 201 (.pointer (some ⟨6,0,none⟩))] t z|o=>o)}:World).forCall (fun _ _=>0) ⟨#[],#[.agg #[.int .i64 0,.slice none 0 0]],[]⟩).memory:=
 laidMet_of_run' 8 (by kernel_rfl) (by kernel_rfl)
set_option maxRecDepth 100000 in
theorem lifted(os:Os)(started:os.Started)(H:Type)(enc:TypeId×Value→H)(F:Stop.Interp):
  ReturnsInHanded {} Tryz.checked os 3 .any ((OpenSpec.ofChange Rows.fnExactSaveLoadSpec).preRow enc Tryz.prog Tryz.f3 Rows.fnExactSaveLoadRow.domain false Rows.fnExactSaveLoadRow.laid) (((OpenSpec.ofChange Rows.fnExactSaveLoadSpec).at F).post enc Tryz.prog Tryz.f3 false true false false):=by
 refine returnsInHanded_of_row (C:=Tryz.checked) (s:=OpenSpec.ofChange Rows.fnExactSaveLoadSpec) own started (by kernel_rfl) Tryz.func3
  (witness_row_at (enc:=enc) (C:=Tryz.checked) false (let w0:=(World.holding Tryz.prog os ⟨#[.cells #[.string {data:= #[116,104,101,32,98,121,116,101,115,32,97,114,101,32,111,102,32,110,111,32,98,111,111,107,115]}] 217],#[],[]⟩);{w0 with heap:=(w0.heap.modify 0 fun| .cells _ t z=> .cells #[.iface 201 (.pointer (some ⟨6,0,none⟩))] t z|o=>o)}:World) #[.agg #[.int .i64 0,.slice none 0 0]] rfl (by kernel_rfl) (by kernel_rfl) (by kernel_rfl)
   (OpenSpec.preRow_of_B rfl 8 (by kernel_rfl) (by kernel_rfl) (laid_met os))) ?_
 intro W base args ds gs before hval hW _ _ _ hL _ _
 exact contract H enc W base args ds gs before hval hW hL
theorem said:Rows.FnExactSaveLoadSaid:=
 OpenClaim.holds_of_cond 3 Tryz.f3 rfl rfl rfl rfl rfl rfl rfl ⟨rfl,rfl,rfl,rfl,rfl⟩ rfl rfl rfl rfl rfl (by kernel_rfl) Tryz.func3 (by kernel_rfl)
  (of_decide_eq_true (by kernel_rfl)) (by unfold Func.isWrapper;first|(rw[if_pos (by decide+kernel)];kernel_rfl)|(rw[if_neg (by decide+kernel)];exact⟨rfl,rfl⟩))
  (fun os started H enc _ F=>by rw[OpenClaim.pre_eq_preRow];exact lifted os started H enc F)
theorem plain(f:FuncId)(fn:Func)(hf:Tryz.pinned.checked.prog.funcNamed Rows.fnExactSaveLoadRow.func=some f)(hfn:Tryz.pinned.checked.prog.funcs[f]?=some fn):
  false=Tryz.pinned.checked.prog.looks []∧∀(j:Nat) t,fn.params[j]?=some t→Tryz.pinned.checked.prog.wantsStandIn t=false:=by
 obtain rfl:f=3:=Option.some.inj ((show Tryz.prog.funcNamed Rows.fnExactSaveLoadRow.func=some 3 by kernel_rfl).symm.trans hf)|>.symm
 obtain rfl:fn=Tryz.f3:=(Option.some.inj (Tryz.func3.symm.trans hfn)).symm
 refine⟨by kernel_rfl,fun j t ht=>?_⟩
 have al:(Tryz.f3.params.all fun t=>Tryz.prog.wantsStandIn t==false)=true:=by kernel_rfl
 have q:=Array.all_eq_true'.1 al t (Array.mem_of_getElem? ht)
 have q:Tryz.prog.wantsStandIn t=false:=by simpa using q
 exact q
theorem proved:Rows.FnExactSaveLoadCardSaid:=
 Claim7.holds_tied_plain_at .later [] _ _ _ _ said (fun _ h=>by cases h) (by kernel_rfl) (fun _ h=>by cases h) fnExactSaveLoad_row_tie rfl ⟨rfl,rfl⟩ (by kernel_rfl) rfl plain (by kernel_rfl)
#print axioms proved
end Go.Proofs.YtagmnociflkhcaaGreatDoor.fnExactSaveLoad
