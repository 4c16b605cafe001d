/- At all saves the program's SavePack answers as its model, and writes into no argument. No condition. -/
import Derived.Test.YtagmnociflkhcaaGreatRows
import Derived.Test.YtagmnociflkhcaaGreatQW0
import Derived.Test.YtagmnociflkhcaaGreatQW1
import Derived.Test.YtagmnociflkhcaaGreatQW2
import Derived.Test.YtagmnociflkhcaaGreatQW3
import Derived.Test.YtagmnociflkhcaaGreatQW4
import Derived.Test.YtagmnociflkhcaaGreatQW5
import Derived.Test.YtagmnociflkhcaaGreatQW6
import Derived.Test.YtagmnociflkhcaaGreatQW7
import Derived.Test.YtagmnociflkhcaaGreatQW8
import Derived.Test.YtagmnociflkhcaaGreatQW9
import Derived.Test.YtagmnociflkhcaaGreatQW10
import Derived.Test.YtagmnociflkhcaaGreatQW11
import Derived.Test.YtagmnociflkhcaaGreatQW12
import Derived.Test.YtagmnociflkhcaaGreatQW13
import Derived.Test.YtagmnociflkhcaaGreatQW14
import Derived.Test.YtagmnociflkhcaaGreatQW15
import Derived.Test.YtagmnociflkhcaaGreatQW16
import Derived.Test.YtagmnociflkhcaaGreatQW17
import Derived.Test.YtagmnociflkhcaaGreatQW18
import Derived.Test.YtagmnociflkhcaaGreatQW19
import Derived.Test.YtagmnociflkhcaaGreatQW20
import Derived.Test.YtagmnociflkhcaaGreatQW21
import Derived.Test.YtagmnociflkhcaaGreatQW22
import Derived.Test.YtagmnociflkhcaaGreatQW23
import Derived.Test.YtagmnociflkhcaaGreatQW24
import Derived.Test.YtagmnociflkhcaaGreatQW25
import Derived.Test.YtagmnociflkhcaaGreatQW26
import Derived.Test.YtagmnociflkhcaaGreatQW27
import Derived.Test.YtagmnociflkhcaaGreatQW28
import Derived.Test.YtagmnociflkhcaaGreatQW29
import Derived.Test.YtagmnociflkhcaaGreatQW30
import Derived.Test.YtagmnociflkhcaaGreatQW31
import Derived.Test.YtagmnociflkhcaaGreatQW32
import Derived.Test.YtagmnociflkhcaaGreatQW33
import Derived.Test.YtagmnociflkhcaaGreatQW34
import Derived.Test.YtagmnociflkhcaaGreatQW35
import Derived.Test.YtagmnociflkhcaaGreatQW36
import Derived.Test.YtagmnociflkhcaaGreatQW37
import Derived.Test.YtagmnociflkhcaaGreatQW38
import Derived.Test.YtagmnociflkhcaaGreatQW39
import Derived.Test.YtagmnociflkhcaaGreatQW40
import Derived.Test.YtagmnociflkhcaaGreatQW41
import Derived.Test.YtagmnociflkhcaaGreatQW42
import Derived.Test.YtagmnociflkhcaaGreatQW43
import Derived.Test.YtagmnociflkhcaaGreatQW44
import Derived.Test.YtagmnociflkhcaaGreatQW45
import Derived.Test.YtagmnociflkhcaaGreatQW46
import Derived.Test.YtagmnociflkhcaaGreatQW47
import Derived.Test.YtagmnociflkhcaaGreatQW48
import Derived.Test.YtagmnociflkhcaaGreatQW49
import Derived.Test.YtagmnociflkhcaaGreatQW50
import Derived.ShutString
import Derived.ChangeOld
import Derived.Below
namespace Go.Proofs.YtagmnociflkhcaaGreat.fnExactSavePack
open Go.ChangeShapes Go.WideShapes Go.ChangeAt Go.RowKit
open Go.ChangeMaps (open_string shut_string)
set_option linter.unusedVariables false
set_option linter.unusedSimpArgs false
theorem own:ownKnob Tryz.prog.godebug=none:=by kernel_rfl
theorem laidOut:laidOutB Tryz.prog=true:=by kernel_rfl
open BMem Bks BHelp BkEq SaveH16 LawV16 SSave16
open Lots (Says says_of)
open IBalsFit (one_more)
abbrev oZ0:Oper:={dst:=some 35,op:=Go.Op.load 42 (Go.Operand.tmp 6),type:=42,pos:= "exact.go:4512",after:= #[],guard:=none}
abbrev oZ1:Oper:={dst:=some 36,op:=Go.Op.load 30 (Go.Operand.tmp 1),type:=30,pos:= "exact.go:4512",after:= #[],guard:=none}
abbrev oZ2:Oper:={dst:=some 37,op:=Go.Op.call {callee:=Go.Callee.value (Go.Operand.func 8),args:= #[Go.Operand.tmp 36],argTypes:= #[30]},type:=42,pos:= "exact.go:4512",after:= #[{on:=1,ground:=Go.Ground.data}],guard:=none}
abbrev oZ3:Oper:={dst:=some 38,op:=Go.Op.call {callee:=Go.Callee.value (Go.Operand.func 10),args:= #[Go.Operand.tmp 35,Go.Operand.tmp 37],argTypes:= #[42,42]},type:=4,pos:= "exact.go:4512",after:= #[{on:=0,ground:=Go.Ground.data},{on:=2,ground:=Go.Ground.data},{on:=2,ground:=Go.Ground.chain}],guard:=none}
abbrev oZ4:Oper:={dst:=some 39,op:=Go.Op.unOp Go.UnOp.not 4 (Go.Operand.tmp 38),type:=4,pos:= "exact.go:4512",after:= #[{on:=3,ground:=Go.Ground.data}],guard:=none}
set_option maxRecDepth 100000 in
set_option maxHeartbeats 8000000 in
theorem walk(n0:Int)(y0:BHelp.Ix)(w:World)(r0:BHelp.RdI w y0)(f0:BkEq.Fits y0.b):
  Calls Tryz.prog 3 #[.agg #[.int .i64 n0,.slice y0.aa y0.b.ac.length y0.ca,.slice y0.ai y0.b.ic.length y0.ci,.slice y0.ab y0.b.bs.length y0.cb,.slice y0.al y0.b.ls.length y0.cl,.slice y0.ats y0.b.ts.length y0.ct,.int .i64 y0.b.lot]] w fun e w'=>e= .returned (.bool true)∧Below w.heap.size w w':=by
 obtain⟨ok,OK⟩:=says_of (Ok y0.b)
 have HO:=zh OK
 have L:=zh (Ls.start (f:=n0) r0 30)
 clear r0 OK
 have c0:=(zu L).c.f
 have c1:=(zu L).c.c0
 have c2:=(zu L).c.c1
 have c3:=(zu L).c.c2
 have c4:=(zu L).c.c3
 have c5:=(zu L).c.c4
 have c6:=(zu L).c.c5
 go_enter Tryz.func3,Tryz.ntmps3
 go_wp2_with fail
 refine(szSv _ n0 y0 1048576 (by decide) (by decide) f0).mono ?_
 rintro e u0 ⟨r,rfl,hr,bb⟩
 replace L:=zh ((zu L).step bb)
 clear bb
 clear c0 c1 c2 c3 c4 c5 c6
 rcases hr with rfl|⟨r1,sm⟩
 ·go_wp2
  go_ret
  exact⟨rfl,(zu L).b⟩
 have SM:=zh sm
 have rn:¬r<0:=by omega
 clear sm r1
 have SP:=zh (fun u (z:Bx) (hz:z.b=y0.b) (h:Rd u z)=>show Calls Tryz.prog 7 #[.agg #[.int .i64 n0,.slice (some ⟨z.ga,0,none⟩) z.b.ac.length z.ca,.slice (some ⟨z.gi,0,none⟩) z.b.ic.length z.ci,.slice (some ⟨z.gb,0,none⟩) z.b.bs.length z.cb,.slice (some ⟨z.gl,0,none⟩) z.b.ls.length z.cl,.slice (some ⟨z.gt,0,none⟩) z.b.ts.length z.ct,.int .i64 z.b.lot]] u fun e w'=>e= .returned (.tuple #[.string (saveD n0 y0.b ok).1,.bool (saveD n0 y0.b ok).2])∧Below u.heap.size u w' from by have:=sSavePack u z n0 ok h (by rw[hz];exact zu HO);rw[hz] at this⊢;exact this)
 have IM:=zh (fun u (z:Bx) (hz:z.b=y0.b) (h:Rd u z)=>show Calls Tryz.prog 9 #[.agg #[.int .i64 n0,.slice (some ⟨z.ga,0,none⟩) z.b.ac.length z.ca,.slice (some ⟨z.gi,0,none⟩) z.b.ic.length z.ci,.slice (some ⟨z.gb,0,none⟩) z.b.bs.length z.cb,.slice (some ⟨z.gl,0,none⟩) z.b.ls.length z.cl,.slice (some ⟨z.gt,0,none⟩) z.b.ts.length z.ct,.int .i64 z.b.lot]] u fun e w'=>e= .returned (.tuple #[.string (saveD n0 y0.b ok).1,.bool (saveD n0 y0.b ok).2])∧Below u.heap.size u w' from by have:=ISave16.iSavePack u z n0 ok h (by rw[hz];exact zu HO);rw[hz] at this⊢;exact this)
 generalize saveD n0 y0.b ok=rr at *
 obtain⟨rs,rb⟩:=rr
 have q1:(rb !=rb)=false:=by simp
 have c0:=(zu L).c.f
 have c1:=(zu L).c.c0
 have c2:=(zu L).c.c1
 have c3:=(zu L).c.c2
 have c4:=(zu L).c.c3
 have c5:=(zu L).c.c4
 have c6:=(zu L).c.c5
 go_wp2_with fail
 refine(toSv _ n0 y0 (zu L).r (zu SM)).mono ?_
 rintro e u1 ⟨x1,hx,rfl,ox,bb⟩
 replace L:=zh ((zu L).step bb)
 have E1:=zh hx
 have R1:=zh (ox.rd (by rw[hx];exact zu SM))
 clear bb ox hx c0 c1 c2 c3 c4 c5 c6
 go_wp2_with fail
 refine((zu SP) u1 x1 (zu E1) (zu R1)).mono ?_
 rintro e u2 ⟨rfl,bb⟩
 replace L:=zh ((zu L).step bb)
 clear bb E1 R1 SP
 have c0:=(zu L).c.f
 have c1:=(zu L).c.c0
 have c2:=(zu L).c.c1
 have c3:=(zu L).c.c2
 have c4:=(zu L).c.c3
 have c5:=(zu L).c.c4
 have c6:=(zu L).c.c5
 go_wp2_with fail
 refine(toSv _ n0 y0 (zu L).r (zu SM)).mono ?_
 rintro e u3 ⟨x3,hx,rfl,ox,bb⟩
 replace L:=zh ((zu L).step bb)
 have E3:=zh hx
 have R3:=zh (ox.rd (by rw[hx];exact zu SM))
 clear bb ox hx c0 c1 c2 c3 c4 c5 c6
 have bx:=one_more u3 (.cells #[.int .i64 n0,.slice (some ⟨x3.ga,0,none⟩) x3.b.ac.length x3.ca,.slice (some ⟨x3.gi,0,none⟩) x3.b.ic.length x3.ci,.slice (some ⟨x3.gb,0,none⟩) x3.b.bs.length x3.cb,.slice (some ⟨x3.gl,0,none⟩) x3.b.ls.length x3.cl,.slice (some ⟨x3.gt,0,none⟩) x3.b.ts.length x3.ct,.int .i64 x3.b.lot] 42)
 have KX:=zh (Sv.made (zu R3) (zu L).b n0 42)
 replace L:=zh ((zu L).step bx)
 clear bx R3
 have g0:=(zu KX).f
 have g1:=(zu KX).c0
 have g2:=(zu KX).c1
 have g3:=(zu KX).c2
 have g4:=(zu KX).c3
 have g5:=(zu KX).c4
 have g6:=(zu KX).c5
 have gl:=(zu KX).lt
 go_wp2_with fail
 refine((zu IM) _ x3 (zu E3) (zu KX).r).mono ?_
 rintro e u4 ⟨rfl,bb⟩
 replace L:=zh ((zu L).step bb)
 replace KX:=zh ((zu KX).step bb)
 clear bb gl IM g0 g1 g2 g3 g4 g5 g6
 have K0:u4.cell? ⟨u3.heap.size,0,none⟩=some (.int .i64 n0)∧u4.cell? ⟨u3.heap.size,1,none⟩=some (.slice (some ⟨x3.ga,0,none⟩) x3.b.ac.length x3.ca)∧u4.cell? ⟨u3.heap.size,2,none⟩=some (.slice (some ⟨x3.gi,0,none⟩) x3.b.ic.length x3.ci)∧u4.cell? ⟨u3.heap.size,3,none⟩=some (.slice (some ⟨x3.gb,0,none⟩) x3.b.bs.length x3.cb)∧u4.cell? ⟨u3.heap.size,4,none⟩=some (.slice (some ⟨x3.gl,0,none⟩) x3.b.ls.length x3.cl)∧u4.cell? ⟨u3.heap.size,5,none⟩=some (.slice (some ⟨x3.gt,0,none⟩) x3.b.ts.length x3.ct)∧u4.cell? ⟨u3.heap.size,6,none⟩=some (.int .i64 x3.b.lot)∧u4.cell? ⟨w.heap.size,0,none⟩=some (.int .i64 n0)∧u4.cell? ⟨w.heap.size,1,none⟩=some (.slice y0.aa y0.b.ac.length y0.ca)∧u4.cell? ⟨w.heap.size,2,none⟩=some (.slice y0.ai y0.b.ic.length y0.ci)∧u4.cell? ⟨w.heap.size,3,none⟩=some (.slice y0.ab y0.b.bs.length y0.cb)∧u4.cell? ⟨w.heap.size,4,none⟩=some (.slice y0.al y0.b.ls.length y0.cl)∧u4.cell? ⟨w.heap.size,5,none⟩=some (.slice y0.ats y0.b.ts.length y0.ct)∧u4.cell? ⟨w.heap.size,6,none⟩=some (.int .i64 y0.b.lot):=⟨(zu KX).f,(zu KX).c0,(zu KX).c1,(zu KX).c2,(zu KX).c3,(zu KX).c4,(zu KX).c5,(zu L).c.f,(zu L).c.c0,(zu L).c.c1,(zu L).c.c2,(zu L).c.c3,(zu L).c.c4,(zu L).c.c5⟩
 go_wp2_with fail
 refine wp_region_held_drew (S:=(fun w'=>w'.cell? ⟨u3.heap.size,0,none⟩=some (.int .i64 n0)∧w'.cell? ⟨u3.heap.size,1,none⟩=some (.slice (some ⟨x3.ga,0,none⟩) x3.b.ac.length x3.ca)∧w'.cell? ⟨u3.heap.size,2,none⟩=some (.slice (some ⟨x3.gi,0,none⟩) x3.b.ic.length x3.ci)∧w'.cell? ⟨u3.heap.size,3,none⟩=some (.slice (some ⟨x3.gb,0,none⟩) x3.b.bs.length x3.cb)∧w'.cell? ⟨u3.heap.size,4,none⟩=some (.slice (some ⟨x3.gl,0,none⟩) x3.b.ls.length x3.cl)∧w'.cell? ⟨u3.heap.size,5,none⟩=some (.slice (some ⟨x3.gt,0,none⟩) x3.b.ts.length x3.ct)∧w'.cell? ⟨u3.heap.size,6,none⟩=some (.int .i64 x3.b.lot)∧w'.cell? ⟨w.heap.size,0,none⟩=some (.int .i64 n0)∧w'.cell? ⟨w.heap.size,1,none⟩=some (.slice y0.aa y0.b.ac.length y0.ca)∧w'.cell? ⟨w.heap.size,2,none⟩=some (.slice y0.ai y0.b.ic.length y0.ci)∧w'.cell? ⟨w.heap.size,3,none⟩=some (.slice y0.ab y0.b.bs.length y0.cb)∧w'.cell? ⟨w.heap.size,4,none⟩=some (.slice y0.al y0.b.ls.length y0.cl)∧w'.cell? ⟨w.heap.size,5,none⟩=some (.slice y0.ats y0.b.ts.length y0.ct)∧w'.cell? ⟨w.heap.size,6,none⟩=some (.int .i64 y0.b.lot))) (by kernel_rfl) K0 (fun hHeld=>?_)
 refine tk 0 oZ0 (.agg #[.int .i64 n0,.slice (some ⟨x3.ga,0,none⟩) x3.b.ac.length x3.ca,.slice (some ⟨x3.gi,0,none⟩) x3.b.ic.length x3.ci,.slice (some ⟨x3.gb,0,none⟩) x3.b.bs.length x3.cb,.slice (some ⟨x3.gl,0,none⟩) x3.b.ls.length x3.cl,.slice (some ⟨x3.gt,0,none⟩) x3.b.ts.length x3.ct,.int .i64 x3.b.lot]) rfl (by kernel_rfl) (fun _ _ _ h=>h) (by rfl) (fun w hSw=>?_) hHeld ?_
 ·(try dsimp only at hSw)
  unfold oZ0
  go_simp
 try simp only[oZ0,Act.put,zA,zB,zC]
 refine tk 1 oZ1 (.agg #[.int .i64 n0,.slice y0.aa y0.b.ac.length y0.ca,.slice y0.ai y0.b.ic.length y0.ci,.slice y0.ab y0.b.bs.length y0.cb,.slice y0.al y0.b.ls.length y0.cl,.slice y0.ats y0.b.ts.length y0.ct,.int .i64 y0.b.lot]) rfl (by kernel_rfl) (fun _ _ _ h=>h) (by rfl) (fun w hSw=>?_) hHeld ?_
 ·(try dsimp only at hSw)
  unfold oZ1
  go_simp
 try simp only[oZ1,Act.put,zA,zB,zC]
 refine wpAnyH_ready (rs:=[2]) (by kernel_rfl) (by simp) ?_
 refine AllReadyH.cons (o:=oZ2) rfl (fun K hK=>?_) AllReadyH.nil
 unfold oZ2
 go_simp
 go_wp2_with fail
 refine(toSv u4.drew n0 y0 ((zu L).r.below ((Below.refl _ _).drew)) (zu SM)).mono ?_
 rintro e u6 ⟨x6,hx,rfl,ox,b6⟩
 have b7:Below u4.heap.size u4 u6:=⟨b6.os,b6.tape,b6.output,b6.size,b6.block⟩
 replace L:=zh ((zu L).step b7)
 replace KX:=zh ((zu KX).step b7)
 have E6:=zh hx
 have R6:=zh (ox.rd (by rw[hx];exact zu SM))
 have K1:u6.cell? ⟨u3.heap.size,0,none⟩=some (.int .i64 n0)∧u6.cell? ⟨u3.heap.size,1,none⟩=some (.slice (some ⟨x3.ga,0,none⟩) x3.b.ac.length x3.ca)∧u6.cell? ⟨u3.heap.size,2,none⟩=some (.slice (some ⟨x3.gi,0,none⟩) x3.b.ic.length x3.ci)∧u6.cell? ⟨u3.heap.size,3,none⟩=some (.slice (some ⟨x3.gb,0,none⟩) x3.b.bs.length x3.cb)∧u6.cell? ⟨u3.heap.size,4,none⟩=some (.slice (some ⟨x3.gl,0,none⟩) x3.b.ls.length x3.cl)∧u6.cell? ⟨u3.heap.size,5,none⟩=some (.slice (some ⟨x3.gt,0,none⟩) x3.b.ts.length x3.ct)∧u6.cell? ⟨u3.heap.size,6,none⟩=some (.int .i64 x3.b.lot)∧u6.cell? ⟨w.heap.size,0,none⟩=some (.int .i64 n0)∧u6.cell? ⟨w.heap.size,1,none⟩=some (.slice y0.aa y0.b.ac.length y0.ca)∧u6.cell? ⟨w.heap.size,2,none⟩=some (.slice y0.ai y0.b.ic.length y0.ci)∧u6.cell? ⟨w.heap.size,3,none⟩=some (.slice y0.ab y0.b.bs.length y0.cb)∧u6.cell? ⟨w.heap.size,4,none⟩=some (.slice y0.al y0.b.ls.length y0.cl)∧u6.cell? ⟨w.heap.size,5,none⟩=some (.slice y0.ats y0.b.ts.length y0.ct)∧u6.cell? ⟨w.heap.size,6,none⟩=some (.int .i64 y0.b.lot):=⟨(zu KX).f,(zu KX).c0,(zu KX).c1,(zu KX).c2,(zu KX).c3,(zu KX).c4,(zu KX).c5,(zu L).c.f,(zu L).c.c0,(zu L).c.c1,(zu L).c.c2,(zu L).c.c3,(zu L).c.c4,(zu L).c.c5⟩
 clear b6 b7 ox hx
 go_wp2_with fail
 refine hK.out _ _ K1 (fun hHeld=>?_)
 clear hK K
 try simp only[oZ2,Act.put,zA,zB,zC]
 refine wpAnyH_ready (rs:=[3]) (by kernel_rfl) (by simp) ?_
 refine AllReadyH.cons (o:=oZ3) rfl (fun K hK=>?_) AllReadyH.nil
 unfold oZ3
 go_simp
 go_wp2_with fail
 refine(eqSv u6 n0 x3 x6 (by rw[zu E6,zu E3]) (zu KX).r (zu R6)).mono ?_
 rintro e u7 ⟨rfl,bb⟩
 replace L:=zh ((zu L).step bb)
 replace KX:=zh ((zu KX).step bb)
 have K2:u7.cell? ⟨u3.heap.size,0,none⟩=some (.int .i64 n0)∧u7.cell? ⟨u3.heap.size,1,none⟩=some (.slice (some ⟨x3.ga,0,none⟩) x3.b.ac.length x3.ca)∧u7.cell? ⟨u3.heap.size,2,none⟩=some (.slice (some ⟨x3.gi,0,none⟩) x3.b.ic.length x3.ci)∧u7.cell? ⟨u3.heap.size,3,none⟩=some (.slice (some ⟨x3.gb,0,none⟩) x3.b.bs.length x3.cb)∧u7.cell? ⟨u3.heap.size,4,none⟩=some (.slice (some ⟨x3.gl,0,none⟩) x3.b.ls.length x3.cl)∧u7.cell? ⟨u3.heap.size,5,none⟩=some (.slice (some ⟨x3.gt,0,none⟩) x3.b.ts.length x3.ct)∧u7.cell? ⟨u3.heap.size,6,none⟩=some (.int .i64 x3.b.lot)∧u7.cell? ⟨w.heap.size,0,none⟩=some (.int .i64 n0)∧u7.cell? ⟨w.heap.size,1,none⟩=some (.slice y0.aa y0.b.ac.length y0.ca)∧u7.cell? ⟨w.heap.size,2,none⟩=some (.slice y0.ai y0.b.ic.length y0.ci)∧u7.cell? ⟨w.heap.size,3,none⟩=some (.slice y0.ab y0.b.bs.length y0.cb)∧u7.cell? ⟨w.heap.size,4,none⟩=some (.slice y0.al y0.b.ls.length y0.cl)∧u7.cell? ⟨w.heap.size,5,none⟩=some (.slice y0.ats y0.b.ts.length y0.ct)∧u7.cell? ⟨w.heap.size,6,none⟩=some (.int .i64 y0.b.lot):=⟨(zu KX).f,(zu KX).c0,(zu KX).c1,(zu KX).c2,(zu KX).c3,(zu KX).c4,(zu KX).c5,(zu L).c.f,(zu L).c.c0,(zu L).c.c1,(zu L).c.c2,(zu L).c.c3,(zu L).c.c4,(zu L).c.c5⟩
 clear bb R6 E6
 go_wp2_with fail
 refine hK.out _ _ K2 (fun hHeld=>?_)
 clear hK K
 try simp only[oZ3,Act.put,zA,zB,zC]
 refine tk 4 oZ4 (.bool false) rfl (by kernel_rfl) (fun _ _ _ h=>h) (by rfl) (fun w hSw=>?_) hHeld ?_
 ·(try dsimp only at hSw)
  unfold oZ4
  go_simp
 try simp only[oZ4,Act.put,zA,zB,zC]
 refine wpAnyH_done (by kernel_rfl) ?_ _
 clear K0 K1 K2
 go_wp2
 go_ret
 exact⟨rfl,(zu L).b⟩
set_option maxRecDepth 100000 in
theorem lifted(os:Os)(started:os.Started)(H:Type)(enc:TypeId×Value→H):
  ReturnsInHanded {} Tryz.checked os 3 .any (Rows.fnExactSavePackSpec.pre6 enc Tryz.prog Tryz.f3 Rows.fnExactSavePackRow.domain false) (Rows.fnExactSavePackSpec.post enc Tryz.prog Tryz.f3 false true false false):=by
 refine returnsInHanded_of_change (C:=Tryz.checked) own started (by kernel_rfl) Tryz.func3
  (ChangeSpec.witness6 (enc:=enc) (C:=Tryz.checked) false ⟨#[],#[.agg #[.int .i64 0,.slice none 0 0,.slice none 0 0,.slice none 0 0,.slice none 0 0,.slice none 0 0,.int .i64 0]],[]⟩ 8 (by kernel_rfl) (by kernel_rfl) (by kernel_rfl) (by kernel_rfl)) ?_
 intro W base args ds gs before hval0 hW hcnd _
 have hval:∀(j:Nat) t v,Tryz.f3.params[j]?=some t→args[j]?=some v→Value.okWide Tryz.prog W .any base t v:=hval0
 have hW':=hW
 obtain⟨p,q,hA0,hV,rfl,hfz,hnd⟩:=hW
 have hA:DataW.TrodAll enc Tryz.prog W 0 (fun _=>true) true Tryz.f3.params.toList args.toList ds p:=hA0
 rw[Tryz.params3] at hA hval
 obtain⟨v0,vs0,d0,ds0,p0,q0,hargs,rfl,rfl,h0,r0⟩:=trodAll_cons hA
 obtain⟨rfl,rfl,rfl⟩:=trodAll_nil r0
 obtain rfl:args= #[v0]:=by cases args;simp_all
 obtain⟨rfl,rfl⟩:=trodVars_none hV
 have k0:=h0
 have lt0:∀x∈p0,x.block<W.heap.size:=by obtain⟨m,hm⟩:=k0;exact DataW.trod_lt m _ _ _ hm
 obtain⟨n0,y0,rfl,rk0,f0⟩:=LawV16.open_save (hval 0 30 v0 rfl rfl) h0
 clear hA0 hval0
 refine(walk n0 y0 W rk0 f0).mono fun e W' ⟨he,bel⟩=>?_
 subst he
 exact⟨_,rfl,_,_,_,[],_,[],hW',trodAll_mk1 (shut_bool Tryz.underlying4 _),(trodAll_cons_mk (Below.trod laidOut (by kernel_rfl) (of_decide_eq_true (by kernel_rfl)) k0 bel lt0) trodAll_mk0),rfl,bel.frame _,fun h=>by cases h⟩
theorem over:Rows.fnExactSavePackRow.holds Tryz.pinned (OpenSpec.ofChange Rows.fnExactSavePackSpec):=
 OpenClaim.holds_of_wide 3 Tryz.f3 rfl rfl rfl rfl rfl rfl rfl ⟨rfl,rfl,rfl,rfl,rfl⟩ rfl rfl rfl rfl rfl (by kernel_rfl) Tryz.func3 (by kernel_rfl)
  (of_decide_eq_true (by kernel_rfl)) (by unfold Func.isWrapper;first|(rw[if_pos (by decide+kernel)];kernel_rfl)|(rw[if_neg (by decide+kernel)];exact⟨rfl,rfl⟩))
  (fun os started H enc _=>lifted os started H enc)
theorem proved:Rows.FnExactSavePackSaid:=over
#print axioms proved
end Go.Proofs.YtagmnociflkhcaaGreat.fnExactSavePack
