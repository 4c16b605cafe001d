/- At any arguments the program's SaveStep answers as its model, writes into no argument, and its answer is its own. No condition. -/
import Derived.Test.YtagmnociflkhcaaGreatRows
import Derived.Test.YtagmnociflkhcaaGreatQW0
import Derived.Test.YtagmnociflkhcaaGreatQW1
import Derived.Test.YtagmnociflkhcaaGreatQW2
import Derived.Test.YtagmnociflkhcaaGreatQW3
import Derived.Test.YtagmnociflkhcaaGreatQW4
import Derived.Test.YtagmnociflkhcaaGreatQW5
import Derived.Test.YtagmnociflkhcaaGreatQW6
import Derived.Test.YtagmnociflkhcaaGreatQW7
import Derived.Test.YtagmnociflkhcaaGreatQW8
import Derived.Test.YtagmnociflkhcaaGreatQW9
import Derived.Test.YtagmnociflkhcaaGreatQW10
import Derived.Test.YtagmnociflkhcaaGreatQW11
import Derived.Test.YtagmnociflkhcaaGreatQW12
import Derived.Test.YtagmnociflkhcaaGreatQW13
import Derived.Test.YtagmnociflkhcaaGreatQW14
import Derived.Test.YtagmnociflkhcaaGreatQW15
import Derived.Test.YtagmnociflkhcaaGreatQW16
import Derived.Test.YtagmnociflkhcaaGreatQW17
import Derived.Test.YtagmnociflkhcaaGreatQW18
import Derived.Test.YtagmnociflkhcaaGreatQW19
import Derived.Test.YtagmnociflkhcaaGreatQW20
import Derived.Test.YtagmnociflkhcaaGreatQW21
import Derived.Test.YtagmnociflkhcaaGreatQW22
import Derived.Test.YtagmnociflkhcaaGreatQW23
import Derived.Test.YtagmnociflkhcaaGreatQW24
import Derived.Test.YtagmnociflkhcaaGreatQW25
import Derived.Test.YtagmnociflkhcaaGreatQW26
import Derived.Test.YtagmnociflkhcaaGreatQW27
import Derived.Test.YtagmnociflkhcaaGreatQW28
import Derived.Test.YtagmnociflkhcaaGreatQW29
import Derived.Test.YtagmnociflkhcaaGreatQW30
import Derived.Test.YtagmnociflkhcaaGreatQW31
import Derived.Test.YtagmnociflkhcaaGreatQW32
import Derived.Test.YtagmnociflkhcaaGreatQW33
import Derived.Test.YtagmnociflkhcaaGreatQW34
import Derived.Test.YtagmnociflkhcaaGreatQW35
import Derived.Test.YtagmnociflkhcaaGreatQW36
import Derived.Test.YtagmnociflkhcaaGreatQW37
import Derived.Test.YtagmnociflkhcaaGreatQW38
import Derived.Test.YtagmnociflkhcaaGreatQW39
import Derived.Test.YtagmnociflkhcaaGreatQW40
import Derived.Test.YtagmnociflkhcaaGreatQW41
import Derived.Test.YtagmnociflkhcaaGreatQW42
import Derived.Test.YtagmnociflkhcaaGreatQW43
import Derived.Test.YtagmnociflkhcaaGreatQW44
import Derived.Test.YtagmnociflkhcaaGreatQW45
import Derived.Test.YtagmnociflkhcaaGreatQW46
import Derived.Test.YtagmnociflkhcaaGreatQW47
import Derived.Test.YtagmnociflkhcaaGreatQW48
import Derived.Test.YtagmnociflkhcaaGreatQW49
import Derived.Test.YtagmnociflkhcaaGreatQW50
import Derived.ShutString
import Derived.ChangeOld
import Derived.Below
namespace Go.Proofs.YtagmnociflkhcaaGreat.fnExactSaveStep
open Go.ChangeShapes Go.WideShapes Go.ChangeAt Go.RowKit
open Go.ChangeMaps (open_string shut_string)
set_option linter.unusedVariables false
set_option linter.unusedSimpArgs false
theorem own:ownKnob Tryz.prog.godebug=none:=by kernel_rfl
theorem laidOut:laidOutB Tryz.prog=true:=by kernel_rfl
open Fil14 OpensF14 DiskH14 DkH14 SCom14 Law14 SDk14 SOk14 SRd14 SStep16 SWrite16 LawV16 LawW16 SaveH16
open BMem (Bx Rd Ow)
open Bks (Bk Ok)
open BHelp (Ix RdI Turn Up Lo ow_up ow_lo)
open SSave16 (saveD)
open Lots (Says says_of)
abbrev oA0:Oper:={dst:=some 30,op:=Go.Op.load 48 (Go.Operand.tmp 3),type:=48,pos:= "exact.go:4575",after:= #[],guard:=none}
abbrev oA1:Oper:={dst:=some 31,op:=Go.Op.call {callee:=Go.Callee.value (Go.Operand.func 13),args:= #[Go.Operand.tmp 30],argTypes:= #[48]},type:=52,pos:= "exact.go:4575",after:= #[{on:=0,ground:=Go.Ground.data}],guard:=none}
abbrev oA2:Oper:={dst:=some 32,op:=Go.Op.load 30 (Go.Operand.tmp 4),type:=30,pos:= "exact.go:4575",after:= #[],guard:=none}
abbrev oA3:Oper:={dst:=some 33,op:=Go.Op.call {callee:=Go.Callee.value (Go.Operand.func 8),args:= #[Go.Operand.tmp 32],argTypes:= #[30]},type:=42,pos:= "exact.go:4575",after:= #[{on:=2,ground:=Go.Ground.data},{on:=1,ground:=Go.Ground.chain}],guard:=none}
abbrev oA4:Oper:={dst:=some 34,op:=Go.Op.move (Go.Operand.tmp 2),type:=3,pos:= "exact.go:4575",after:= #[],guard:=none}
abbrev oA5:Oper:={dst:=some 35,op:=Go.Op.call {callee:=Go.Callee.value (Go.Operand.func 12),args:= #[Go.Operand.tmp 31,Go.Operand.tmp 33,Go.Operand.tmp 34],argTypes:= #[52,42,3]},type:=53,pos:= "exact.go:4575",after:= #[{on:=1,ground:=Go.Ground.data},{on:=3,ground:=Go.Ground.data},{on:=4,ground:=Go.Ground.data},{on:=3,ground:=Go.Ground.chain}],guard:=none}
abbrev oA6:Oper:={dst:=some 29,op:=Go.Op.move (Go.Operand.tmp 35),type:=53,pos:= "exact.go:4575",after:= #[{on:=5,ground:=Go.Ground.data}],guard:=none}
abbrev oA7:Oper:={dst:=some 36,op:=Go.Op.extract (Go.Operand.tmp 29) 0,type:=52,pos:= "exact.go:4575",after:= #[{on:=6,ground:=Go.Ground.data}],guard:=none}
abbrev oA8:Oper:={dst:=some 37,op:=Go.Op.extract (Go.Operand.tmp 29) 1,type:=3,pos:= "exact.go:4575",after:= #[{on:=6,ground:=Go.Ground.data},{on:=10,ground:=Go.Ground.gcOnly Go.Departure.lateStores}],guard:=none}
abbrev oA9:Oper:={dst:=some 8,op:=Go.Op.alloc 52,type:=0,pos:= "exact.go:4575",after:= #[],guard:=none}
abbrev oA10:Oper:={dst:=none,op:=Go.Op.store 52 (Go.Operand.tmp 8) (Go.Operand.tmp 36),type:=0,pos:= "exact.go:4575",after:= #[{on:=9,ground:=Go.Ground.data},{on:=7,ground:=Go.Ground.data},{on:=5,ground:=Go.Ground.chain},{on:=0,ground:=Go.Ground.phase},{on:=1,ground:=Go.Ground.phase},{on:=2,ground:=Go.Ground.phase},{on:=3,ground:=Go.Ground.phase},{on:=4,ground:=Go.Ground.phase},{on:=5,ground:=Go.Ground.phase},{on:=6,ground:=Go.Ground.phase},{on:=7,ground:=Go.Ground.phase},{on:=8,ground:=Go.Ground.textOnly Go.Departure.lateStores},{on:=9,ground:=Go.Ground.phase}],guard:=none}
abbrev oA11:Oper:={dst:=some 9,op:=Go.Op.assign (Go.Operand.tmp 37),type:=3,pos:= "exact.go:4575",after:= #[{on:=8,ground:=Go.Ground.data},{on:=10,ground:=Go.Ground.chain},{on:=0,ground:=Go.Ground.phase},{on:=1,ground:=Go.Ground.phase},{on:=2,ground:=Go.Ground.phase},{on:=3,ground:=Go.Ground.phase},{on:=4,ground:=Go.Ground.phase},{on:=5,ground:=Go.Ground.phase},{on:=6,ground:=Go.Ground.phase},{on:=7,ground:=Go.Ground.phase},{on:=8,ground:=Go.Ground.phase},{on:=9,ground:=Go.Ground.phase},{on:=10,ground:=Go.Ground.phase}],guard:=none}
abbrev oB0:Oper:={dst:=some 58,op:=Go.Op.load 52 (Go.Operand.tmp 10),type:=52,pos:= "exact.go:4582",after:= #[],guard:=none}
abbrev oB1:Oper:={dst:=some 59,op:=Go.Op.load 48 (Go.Operand.tmp 3),type:=48,pos:= "exact.go:4582",after:= #[],guard:=none}
abbrev oB2:Oper:={dst:=some 60,op:=Go.Op.call {callee:=Go.Callee.value (Go.Operand.func 13),args:= #[Go.Operand.tmp 59],argTypes:= #[48]},type:=52,pos:= "exact.go:4582",after:= #[{on:=1,ground:=Go.Ground.data}],guard:=none}
abbrev oB3:Oper:={dst:=some 61,op:=Go.Op.call {callee:=Go.Callee.value (Go.Operand.func 15),args:= #[Go.Operand.tmp 58,Go.Operand.tmp 60],argTypes:= #[52,52]},type:=4,pos:= "exact.go:4582",after:= #[{on:=0,ground:=Go.Ground.data},{on:=2,ground:=Go.Ground.data},{on:=2,ground:=Go.Ground.chain}],guard:=none}
abbrev oB4:Oper:={dst:=some 62,op:=Go.Op.unOp Go.UnOp.not 4 (Go.Operand.tmp 61),type:=4,pos:= "exact.go:4582",after:= #[{on:=3,ground:=Go.Ground.data}],guard:=none}
abbrev oC0:Oper:={dst:=some 63,op:=Go.Op.load 42 (Go.Operand.tmp 11),type:=42,pos:= "exact.go:4585",after:= #[],guard:=none}
abbrev oC1:Oper:={dst:=some 64,op:=Go.Op.load 30 (Go.Operand.tmp 4),type:=30,pos:= "exact.go:4585",after:= #[],guard:=none}
abbrev oC2:Oper:={dst:=some 65,op:=Go.Op.call {callee:=Go.Callee.value (Go.Operand.func 8),args:= #[Go.Operand.tmp 64],argTypes:= #[30]},type:=42,pos:= "exact.go:4585",after:= #[{on:=1,ground:=Go.Ground.data}],guard:=none}
abbrev oC3:Oper:={dst:=some 66,op:=Go.Op.call {callee:=Go.Callee.value (Go.Operand.func 10),args:= #[Go.Operand.tmp 63,Go.Operand.tmp 65],argTypes:= #[42,42]},type:=4,pos:= "exact.go:4585",after:= #[{on:=0,ground:=Go.Ground.data},{on:=2,ground:=Go.Ground.data},{on:=2,ground:=Go.Ground.chain}],guard:=none}
abbrev oC4:Oper:={dst:=some 67,op:=Go.Op.unOp Go.UnOp.not 4 (Go.Operand.tmp 66),type:=4,pos:= "exact.go:4585",after:= #[{on:=3,ground:=Go.Ground.data}],guard:=none}
abbrev oD0:Oper:={dst:=some 99,op:=Go.Op.load 48 (Go.Operand.tmp 3),type:=48,pos:= "exact.go:4604",after:= #[],guard:=none}
abbrev oD1:Oper:={dst:=some 100,op:=Go.Op.call {callee:=Go.Callee.value (Go.Operand.func 13),args:= #[Go.Operand.tmp 99],argTypes:= #[48]},type:=52,pos:= "exact.go:4604",after:= #[{on:=0,ground:=Go.Ground.data}],guard:=none}
abbrev oD2:Oper:={dst:=some 101,op:=Go.Op.load 30 (Go.Operand.tmp 4),type:=30,pos:= "exact.go:4604",after:= #[],guard:=none}
abbrev oD3:Oper:={dst:=some 102,op:=Go.Op.call {callee:=Go.Callee.value (Go.Operand.func 8),args:= #[Go.Operand.tmp 101],argTypes:= #[30]},type:=42,pos:= "exact.go:4604",after:= #[{on:=2,ground:=Go.Ground.data},{on:=1,ground:=Go.Ground.chain}],guard:=none}
abbrev oD4:Oper:={dst:=some 103,op:=Go.Op.move (Go.Operand.tmp 2),type:=3,pos:= "exact.go:4604",after:= #[],guard:=none}
abbrev oD5:Oper:={dst:=some 104,op:=Go.Op.call {callee:=Go.Callee.value (Go.Operand.func 14),args:= #[Go.Operand.tmp 100,Go.Operand.tmp 102,Go.Operand.tmp 103],argTypes:= #[52,42,3]},type:=53,pos:= "exact.go:4604",after:= #[{on:=1,ground:=Go.Ground.data},{on:=3,ground:=Go.Ground.data},{on:=4,ground:=Go.Ground.data},{on:=3,ground:=Go.Ground.chain}],guard:=none}
abbrev oD6:Oper:={dst:=some 98,op:=Go.Op.move (Go.Operand.tmp 104),type:=53,pos:= "exact.go:4604",after:= #[{on:=5,ground:=Go.Ground.data}],guard:=none}
abbrev oD7:Oper:={dst:=some 105,op:=Go.Op.extract (Go.Operand.tmp 98) 0,type:=52,pos:= "exact.go:4604",after:= #[{on:=6,ground:=Go.Ground.data}],guard:=none}
abbrev oD8:Oper:={dst:=some 106,op:=Go.Op.extract (Go.Operand.tmp 98) 1,type:=3,pos:= "exact.go:4604",after:= #[{on:=6,ground:=Go.Ground.data},{on:=10,ground:=Go.Ground.gcOnly Go.Departure.lateStores}],guard:=none}
abbrev oD9:Oper:={dst:=some 17,op:=Go.Op.alloc 52,type:=0,pos:= "exact.go:4604",after:= #[],guard:=none}
abbrev oD10:Oper:={dst:=none,op:=Go.Op.store 52 (Go.Operand.tmp 17) (Go.Operand.tmp 105),type:=0,pos:= "exact.go:4604",after:= #[{on:=9,ground:=Go.Ground.data},{on:=7,ground:=Go.Ground.data},{on:=5,ground:=Go.Ground.chain},{on:=0,ground:=Go.Ground.phase},{on:=1,ground:=Go.Ground.phase},{on:=2,ground:=Go.Ground.phase},{on:=3,ground:=Go.Ground.phase},{on:=4,ground:=Go.Ground.phase},{on:=5,ground:=Go.Ground.phase},{on:=6,ground:=Go.Ground.phase},{on:=7,ground:=Go.Ground.phase},{on:=8,ground:=Go.Ground.textOnly Go.Departure.lateStores},{on:=9,ground:=Go.Ground.phase}],guard:=none}
abbrev oD11:Oper:={dst:=some 18,op:=Go.Op.assign (Go.Operand.tmp 106),type:=3,pos:= "exact.go:4604",after:= #[{on:=8,ground:=Go.Ground.data},{on:=10,ground:=Go.Ground.chain},{on:=0,ground:=Go.Ground.phase},{on:=1,ground:=Go.Ground.phase},{on:=2,ground:=Go.Ground.phase},{on:=3,ground:=Go.Ground.phase},{on:=4,ground:=Go.Ground.phase},{on:=5,ground:=Go.Ground.phase},{on:=6,ground:=Go.Ground.phase},{on:=7,ground:=Go.Ground.phase},{on:=8,ground:=Go.Ground.phase},{on:=9,ground:=Go.Ground.phase},{on:=10,ground:=Go.Ground.phase}],guard:=none}
set_option maxRecDepth 100000 in
set_option maxHeartbeats 8000000 in
theorem walk(n0:Int)(a0:Option Addr)(len0 cap0:Nat)(z0:List Fil14.TF)(n1:Int)(y1:BHelp.Ix)(a2:Int)(w:World)(l0:z0.length=len0)(g0:len0≤9223372036854775807)(w0:Fil14.ReadsF w a0 z0)(f0:OpensF14.FitF z0)(r1:BHelp.RdI w y1)(f1:BkEq.Fits y1.b)(w2:(Lit.int .i64 a2).wf=true):
  Calls Tryz.prog 4 #[.agg #[.int .i64 n0,.slice a0 len0 cap0],.agg #[.int .i64 n1,.slice y1.aa y1.b.ac.length y1.ca,.slice y1.ai y1.b.ic.length y1.ci,.slice y1.ab y1.b.bs.length y1.cb,.slice y1.al y1.b.ls.length y1.cl,.slice y1.ats y1.b.ts.length y1.ct,.int .i64 y1.b.lot],.int .i64 a2] w fun e w'=>e= .returned (.bool true)∧Below w.heap.size w w':=by
 obtain⟨ok,OK⟩:=says_of (Ok y1.b)
 have HO:=zh OK
 have H:=zh w0
 have HR:=zh r1
 have bs:=one_more (w.alloc (.cells #[.int .i64 n0,.slice a0 len0 cap0] 48)) (.cells #[.int .i64 n1,.slice y1.aa y1.b.ac.length y1.ca,.slice y1.ai y1.b.ic.length y1.ci,.slice y1.ab y1.b.bs.length y1.cb,.slice y1.al y1.b.ls.length y1.cl,.slice y1.ats y1.b.ts.length y1.ct,.int .i64 y1.b.lot] 30)
 have L:=zh ((La.start (k:=n0) (len:=len0) (cap:=cap0) w0 48).step bs)
 have m1:=Si.made (w.alloc (.cells #[.int .i64 n0,.slice a0 len0 cap0] 48)) n1 y1 30
 rw[show(w.alloc (.cells #[.int .i64 n0,.slice a0 len0 cap0] 48)).heap.size=w.heap.size+1 by simp] at m1
 have M:=zh (show Ls w _ (w.heap.size+1) n1 y1 from⟨(r1.below (one_more w _)).below bs,m1,(zu L).b⟩)
 clear w0 r1 OK bs m1
 have c0:=(zu L).c0
 have c1:=(zu L).c1
 have cl:=(zu L).s
 go_enter Tryz.func4,Tryz.ntmps4
 go_wp2_with fail
 refine(szD _ n0 a0 len0 cap0 z0 l0 g0 (zu L).r f0).mono ?_
 rintro e u0 ⟨r,rfl,hr,bb⟩
 replace L:=zh ((zu L).step bb)
 replace M:=zh ((zu M).step bb)
 clear bb c0 c1 cl
 rcases hr with rfl|⟨rq,l20,sz⟩
 ·go_wp2
  go_ret
  exact⟨rfl,(zu L).b⟩
 have rn:¬r<0:=by omega
 have RQ:=zh rq
 clear rq
 have d0:=(zu M).c.f
 have d1:=(zu M).c.c0
 have d2:=(zu M).c.c1
 have d3:=(zu M).c.c2
 have d4:=(zu M).c.c3
 have d5:=(zu M).c.c4
 have d6:=(zu M).c.c5
 have dl:=(zu M).c.lt
 go_wp2_with fail
 refine(szSv _ n1 y1 r (zu RQ).1 (zu RQ).2 f1).mono ?_
 rintro e u0 ⟨q,rfl,hq,bb⟩
 replace L:=zh ((zu L).step bb)
 replace M:=zh ((zu M).step bb)
 clear bb RQ rn d0 d1 d2 d3 d4 d5 d6 dl
 rcases hq with rfl|⟨qq,sm⟩
 ·go_wp2
  go_ret
  exact⟨rfl,(zu L).b⟩
 have SM:=zh sm
 have qn:¬q<0:=by omega
 clear sm qq
 have SP:=zh (fun u (x:Dx) (z:Bx) (h1:x.room=n0) (h2:x.ps=z0) (h3:z.b=y1.b) (hr:RdD u x) (hz:Rd u z)=>show Calls Tryz.prog 12 #[.agg #[.int .i64 x.room,.slice x.a x.ps.length x.c],.agg #[.int .i64 n1,.slice (some ⟨z.ga,0,none⟩) z.b.ac.length z.ca,.slice (some ⟨z.gi,0,none⟩) z.b.ic.length z.ci,.slice (some ⟨z.gb,0,none⟩) z.b.bs.length z.cb,.slice (some ⟨z.gl,0,none⟩) z.b.ls.length z.cl,.slice (some ⟨z.gt,0,none⟩) z.b.ts.length z.ct,.int .i64 z.b.lot],.int .i64 a2] u (ToldD (stepD n0 z0 (saveD n1 y1.b ok) a2) u) from by have:=sSaveStep u x z n1 a2 ok hr (by rw[h2];exact sz) hz (by rw[h3];exact zu HO);rw[h1,h2,h3] at this⊢;exact this)
 have IM:=zh (fun u (x:Dx) (z:Bx) (h1:x.room=n0) (h2:x.ps=z0) (h3:z.b=y1.b) (hr:RdD u x) (hz:Rd u z)=>show Calls Tryz.prog 14 #[.agg #[.int .i64 x.room,.slice x.a x.ps.length x.c],.agg #[.int .i64 n1,.slice (some ⟨z.ga,0,none⟩) z.b.ac.length z.ca,.slice (some ⟨z.gi,0,none⟩) z.b.ic.length z.ci,.slice (some ⟨z.gb,0,none⟩) z.b.bs.length z.cb,.slice (some ⟨z.gl,0,none⟩) z.b.ls.length z.cl,.slice (some ⟨z.gt,0,none⟩) z.b.ts.length z.ct,.int .i64 z.b.lot],.int .i64 a2] u (ToldD (stepD n0 z0 (saveD n1 y1.b ok) a2) u) from by have:=ISaveStep16.iSaveStep u x z n1 a2 ok hr (by rw[h2];exact sz) hz (by rw[h3];exact zu HO);rw[h1,h2,h3] at this⊢;exact this)
 have LEN:=zh (len_step (room:=n0) (ps:=z0) (saveD n1 y1.b ok) a2 (by omega))
 generalize (stepD n0 z0 (saveD n1 y1.b ok) a2)=rr at *
 obtain⟨⟨rm,rp⟩,rc⟩:=rr
 have q1:(rc !=rc)=false:=by simp
 try simp only at LEN
 clear HO
 have g0x:w.heap.size+2≤u0.heap.size:=by have:=(zu M).c.lt;omega
 go_wp2_with fail
 refine reg_rest (α:=Nat×Dx×Bx×Dx) (fun a x=>(((((((((((a.put (some 30) (.agg #[.int .i64 n0,.slice a0 len0 cap0])).put (some 31) (.agg #[.int .i64 x.2.1.room,.slice x.2.1.a x.2.1.ps.length x.2.1.c])).put (some 32) (.agg #[.int .i64 n1,.slice y1.aa y1.b.ac.length y1.ca,.slice y1.ai y1.b.ic.length y1.ci,.slice y1.ab y1.b.bs.length y1.cb,.slice y1.al y1.b.ls.length y1.cl,.slice y1.ats y1.b.ts.length y1.ct,.int .i64 y1.b.lot])).put (some 33) (.agg #[.int .i64 n1,.slice (some ⟨x.2.2.1.ga,0,none⟩) x.2.2.1.b.ac.length x.2.2.1.ca,.slice (some ⟨x.2.2.1.gi,0,none⟩) x.2.2.1.b.ic.length x.2.2.1.ci,.slice (some ⟨x.2.2.1.gb,0,none⟩) x.2.2.1.b.bs.length x.2.2.1.cb,.slice (some ⟨x.2.2.1.gl,0,none⟩) x.2.2.1.b.ls.length x.2.2.1.cl,.slice (some ⟨x.2.2.1.gt,0,none⟩) x.2.2.1.b.ts.length x.2.2.1.ct,.int .i64 x.2.2.1.b.lot])).put (some 34) (.int .i64 a2)).put (some 35) (.tuple #[.agg #[.int .i64 x.2.2.2.room,.slice x.2.2.2.a x.2.2.2.ps.length x.2.2.2.c],.int .i64 rc])).put (some 29) (.tuple #[.agg #[.int .i64 x.2.2.2.room,.slice x.2.2.2.a x.2.2.2.ps.length x.2.2.2.c],.int .i64 rc])).put (some 36) (.agg #[.int .i64 x.2.2.2.room,.slice x.2.2.2.a x.2.2.2.ps.length x.2.2.2.c])).put (some 37) (.int .i64 rc)).put (some 8) (.pointer (some ⟨x.1,0,none⟩))).put (some 9) (.int .i64 rc))) (fun(x:Nat×Dx×Bx×Dx) U=>Hid (La w U n0 a0 len0 cap0 z0∧Ls w U (w.heap.size+1) n1 y1∧Kd U x.1 x.2.2.2∧RdD U x.2.2.2∧(x.2.2.2.room=rm∧x.2.2.2.ps=rp)∧w.heap.size+2≤x.1)) ?_ ?_
 ·rintro⟨g8,x1,z1,y2⟩ U hf
  have L:=zh (zu hf).1
  have M:=zh (zu hf).2.1
  have KW:=zh (zu hf).2.2.1
  have RW:=zh (zu hf).2.2.2.1
  have Y2:=zh (zu hf).2.2.2.2.1
  have w8:=(zu hf).2.2.2.2.2
  clear hf
  simp only at KW RW Y2 w8
  try simp only[Act.put,zA,zB,zC]
  have UW:=zh (fun g e=>((zu RW).r g e).1)
  have gU:g8<U.heap.size:=(zu KW).lt
  have wU:w.heap.size+1<U.heap.size:=(zu M).c.lt
  have c0:=(zu L).c0
  have c1:=(zu L).c1
  have cl:=(zu L).s
  go_wp2_with fail
  refine(toD _ n0 a0 len0 cap0 z0 l0 l20 (zu L).r).mono ?_
  rintro e u3 ⟨x3,xr,xp,rfl,ox,bb⟩
  replace L:=zh ((zu L).step bb)
  replace M:=zh ((zu M).step bb)
  replace RW:=zh ((zu RW).below bb)
  replace KW:=zh ((zu KW).step bb)
  have E3:=zh (And.intro xr xp)
  have z3:U.heap.size≤u3.heap.size:=bb.size
  have UX:=zh (fun g e=>(own_lt ox (g:=g) e).2)
  have bx:=one_more u3 (.cells #[.int .i64 x3.room,.slice x3.a x3.ps.length x3.c] 52)
  have Z3:=zh (show(u3.alloc (.cells #[.int .i64 x3.room,.slice x3.a x3.ps.length x3.c] 52)).heap.size=u3.heap.size+1 by simp)
  have KX:=zh (Kd.made u3 x3 52)
  have OX:=zh (ox.step bx)
  replace L:=zh ((zu L).step bx)
  replace M:=zh ((zu M).step bx)
  replace RW:=zh ((zu RW).below bx)
  replace KW:=zh ((zu KW).step bx)
  clear bb bx ox xr xp c0 c1 cl
  have d0:=(zu M).c.f
  have d1:=(zu M).c.c0
  have d2:=(zu M).c.c1
  have d3:=(zu M).c.c2
  have d4:=(zu M).c.c3
  have d5:=(zu M).c.c4
  have d6:=(zu M).c.c5
  have dl:=(zu M).c.lt
  go_wp2_with fail
  refine(toSv _ n1 y1 (zu M).r (zu SM)).mono ?_
  rintro e u5 ⟨z5,hz,rfl,oz,bb⟩
  rw[zu Z3] at oz
  replace L:=zh ((zu L).step bb)
  replace M:=zh ((zu M).step bb)
  replace RW:=zh ((zu RW).below bb)
  replace KW:=zh ((zu KW).step bb)
  replace OX:=zh ((zu OX).step bb)
  replace KX:=zh ((zu KX).step bb)
  have z5s:u3.heap.size+1≤u5.heap.size:=by have:=bb.size;rw[zu Z3] at this;exact this
  have E5:=zh hz
  have UPZ:=zh (ow_up oz)
  have LOZ:=zh (ow_lo oz)
  have bx:=one_more u5 (.cells #[.int .i64 n1,.slice (some ⟨z5.ga,0,none⟩) z5.b.ac.length z5.ca,.slice (some ⟨z5.gi,0,none⟩) z5.b.ic.length z5.ci,.slice (some ⟨z5.gb,0,none⟩) z5.b.bs.length z5.cb,.slice (some ⟨z5.gl,0,none⟩) z5.b.ls.length z5.cl,.slice (some ⟨z5.gt,0,none⟩) z5.b.ts.length z5.ct,.int .i64 z5.b.lot] 42)
  have Z5:=zh (show(u5.alloc (.cells #[.int .i64 n1,.slice (some ⟨z5.ga,0,none⟩) z5.b.ac.length z5.ca,.slice (some ⟨z5.gi,0,none⟩) z5.b.ic.length z5.ci,.slice (some ⟨z5.gb,0,none⟩) z5.b.bs.length z5.cb,.slice (some ⟨z5.gl,0,none⟩) z5.b.ls.length z5.cl,.slice (some ⟨z5.gt,0,none⟩) z5.b.ts.length z5.ct,.int .i64 z5.b.lot] 42)).heap.size=u5.heap.size+1 by simp)
  have KS:=zh (Bs.made u5 n1 z5 42)
  have OS:=zh (oz.below bx (Nat.le_refl _))
  replace L:=zh ((zu L).step bx)
  replace M:=zh ((zu M).step bx)
  replace RW:=zh ((zu RW).below bx)
  replace KW:=zh ((zu KW).step bx)
  replace OX:=zh ((zu OX).step bx)
  replace KX:=zh ((zu KX).step bx)
  clear bb bx oz hz d0 d1 d2 d3 d4 d5 d6 dl
  have g0:=(zu KX).c0
  have g1:=(zu KX).c1
  have gl:=(zu KX).lt
  have k0:=(zu KS).f
  have k1:=(zu KS).c0
  have k2:=(zu KS).c1
  have k3:=(zu KS).c2
  have k4:=(zu KS).c3
  have k5:=(zu KS).c4
  have k6:=(zu KS).c5
  have kl:=(zu KS).lt
  go_wp2_with fail
  refine((zu IM) _ x3 z5 (zu E3).1 (zu E3).2 (zu E5) (OwD.rd (zu OX) (by rw[(zu E3).2];omega)) ((zu OS).rd (by rw[zu E5];exact zu SM))).mono ?_
  rintro e u4 ⟨y4,hy4,rfl,og,bb⟩
  rw[zu Z5] at og
  replace L:=zh ((zu L).step bb)
  replace M:=zh ((zu M).step bb)
  replace RW:=zh ((zu RW).below bb)
  replace KW:=zh ((zu KW).step bb)
  replace OX:=zh ((zu OX).step bb)
  replace KX:=zh ((zu KX).step bb)
  replace OS:=zh ((zu OS).below bb (Nat.le_refl _))
  replace KS:=zh ((zu KS).step bb)
  obtain⟨hm4,hp4⟩:y4.room=rm∧y4.ps=rp:=by simpa using hy4
  have Y4:=zh (And.intro hm4 hp4)
  have bg:=one_more u4 (.cells #[.int .i64 y4.room,.slice y4.a y4.ps.length y4.c] 52)
  have z4:u5.heap.size+1≤u4.heap.size:=by have:=bb.size;rw[zu Z5] at this;exact this
  have UG:=zh (fun g e=>(own_lt og (g:=g) e).2)
  have OG:=zh (OwD.step og bg)
  have KG:=zh (Kd.made u4 y4 52)
  replace L:=zh ((zu L).step bg)
  replace M:=zh ((zu M).step bg)
  replace RW:=zh ((zu RW).below bg)
  replace KW:=zh ((zu KW).step bg)
  replace OX:=zh ((zu OX).step bg)
  replace KX:=zh ((zu KX).step bg)
  replace OS:=zh ((zu OS).below bg (Nat.le_refl _))
  replace KS:=zh ((zu KS).step bg)
  clear bb bg og hy4 hm4 hp4 g0 g1 gl k0 k1 k2 k3 k4 k5 k6 kl
  have g0:=(zu KG).c0
  have g1:=(zu KG).c1
  have v0:=(zu KW).c0
  have v1:=(zu KW).c1
  have gl:=(zu KG).lt
  have vl:=(zu KW).lt
  go_wp2_with fail
  refine(eqD _ y4 y2 (by rw[(zu Y2).1,(zu Y4).1]) (by rw[(zu Y2).2,(zu Y4).2]) (OwD.rd (zu OG) (by rw[(zu Y4).2];exact zu LEN)) (zu RW)).mono ?_
  rintro e u6 ⟨rfl,bb⟩
  clear g0 g1 v0 v1 gl vl
  replace L:=zh ((zu L).step bb)
  replace M:=zh ((zu M).step bb)
  replace RW:=zh ((zu RW).below bb)
  replace KW:=zh ((zu KW).step bb)
  replace OX:=zh ((zu OX).step bb)
  replace KX:=zh ((zu KX).step bb)
  replace OS:=zh ((zu OS).below bb (Nat.le_refl _))
  replace KS:=zh ((zu KS).step bb)
  replace OG:=zh ((zu OG).step bb)
  replace KG:=zh ((zu KG).step bb)
  clear bb
  have K0:u6.cell? ⟨u3.heap.size,0,none⟩=some (.int .i64 x3.room)∧u6.cell? ⟨u3.heap.size,1,none⟩=some (.slice x3.a x3.ps.length x3.c)∧u6.cell? ⟨w.heap.size,0,none⟩=some (.int .i64 n0)∧u6.cell? ⟨w.heap.size,1,none⟩=some (.slice a0 len0 cap0):=⟨(zu KX).c0,(zu KX).c1,(zu L).c0,(zu L).c1⟩
  go_wp2_with fail
  refine wp_region_held_drew (S:=(fun w'=>w'.cell? ⟨u3.heap.size,0,none⟩=some (.int .i64 x3.room)∧w'.cell? ⟨u3.heap.size,1,none⟩=some (.slice x3.a x3.ps.length x3.c)∧w'.cell? ⟨w.heap.size,0,none⟩=some (.int .i64 n0)∧w'.cell? ⟨w.heap.size,1,none⟩=some (.slice a0 len0 cap0))) (by kernel_rfl) K0 (fun hHeld=>?_)
  refine tk 0 oB0 (.agg #[.int .i64 x3.room,.slice x3.a x3.ps.length x3.c]) rfl (by kernel_rfl) (fun _ _ _ h=>h) (by rfl) (fun w hSw=>?_) hHeld ?_
  ·(try dsimp only at hSw)
   unfold oB0
   go_simp
  try simp only[oB0,Act.put,zA,zB,zC]
  refine tk 1 oB1 (.agg #[.int .i64 n0,.slice a0 len0 cap0]) rfl (by kernel_rfl) (fun _ _ _ h=>h) (by rfl) (fun w hSw=>?_) hHeld ?_
  ·(try dsimp only at hSw)
   unfold oB1
   go_simp
  try simp only[oB1,Act.put,zA,zB,zC]
  refine wpAnyH_ready (rs:=[2]) (by kernel_rfl) (by simp) ?_
  refine AllReadyH.cons (o:=oB2) rfl (fun K hK=>?_) AllReadyH.nil
  unfold oB2
  go_simp
  go_wp2_with fail
  refine(toD u6.drew n0 a0 len0 cap0 z0 l0 l20 (show ReadsF u6.drew a0 z0 from(zu L).r)).mono ?_
  rintro e u7 ⟨x6,xr,xp,rfl,ox,b6⟩
  have b7:Below u6.heap.size u6 u7:=⟨b6.os,b6.tape,b6.output,b6.size,b6.block⟩
  replace L:=zh ((zu L).step b7)
  replace M:=zh ((zu M).step b7)
  replace RW:=zh ((zu RW).below b7)
  replace KW:=zh ((zu KW).step b7)
  replace OX:=zh ((zu OX).step b7)
  replace KX:=zh ((zu KX).step b7)
  replace OS:=zh ((zu OS).below b7 (Nat.le_refl _))
  replace KS:=zh ((zu KS).step b7)
  replace OG:=zh ((zu OG).step b7)
  replace KG:=zh ((zu KG).step b7)
  have E6:=zh (And.intro xr xp)
  have O6:=zh ox
  have K1:u7.cell? ⟨u3.heap.size,0,none⟩=some (.int .i64 x3.room)∧u7.cell? ⟨u3.heap.size,1,none⟩=some (.slice x3.a x3.ps.length x3.c)∧u7.cell? ⟨w.heap.size,0,none⟩=some (.int .i64 n0)∧u7.cell? ⟨w.heap.size,1,none⟩=some (.slice a0 len0 cap0):=⟨(zu KX).c0,(zu KX).c1,(zu L).c0,(zu L).c1⟩
  clear b6 b7 ox xr xp
  go_wp2_with fail
  refine hK.out _ _ K1 (fun hHeld=>?_)
  clear hK K
  try simp only[oB2,Act.put,zA,zB,zC]
  refine wpAnyH_ready (rs:=[3]) (by kernel_rfl) (by simp) ?_
  refine AllReadyH.cons (o:=oB3) rfl (fun K hK=>?_) AllReadyH.nil
  unfold oB3
  go_simp
  go_wp2_with fail
  refine(eqD u7 x3 x6 (by rw[(zu E6).1,(zu E3).1]) (by rw[(zu E6).2,(zu E3).2]) (OwD.rd (zu OX) (by rw[(zu E3).2];omega)) (OwD.rd (zu O6) (by rw[(zu E6).2];omega))).mono ?_
  rintro e u9 ⟨rfl,bb⟩
  replace L:=zh ((zu L).step bb)
  replace M:=zh ((zu M).step bb)
  replace RW:=zh ((zu RW).below bb)
  replace KW:=zh ((zu KW).step bb)
  replace OX:=zh ((zu OX).step bb)
  replace KX:=zh ((zu KX).step bb)
  replace OS:=zh ((zu OS).below bb (Nat.le_refl _))
  replace KS:=zh ((zu KS).step bb)
  replace OG:=zh ((zu OG).step bb)
  replace KG:=zh ((zu KG).step bb)
  have K2:u9.cell? ⟨u3.heap.size,0,none⟩=some (.int .i64 x3.room)∧u9.cell? ⟨u3.heap.size,1,none⟩=some (.slice x3.a x3.ps.length x3.c)∧u9.cell? ⟨w.heap.size,0,none⟩=some (.int .i64 n0)∧u9.cell? ⟨w.heap.size,1,none⟩=some (.slice a0 len0 cap0):=⟨(zu KX).c0,(zu KX).c1,(zu L).c0,(zu L).c1⟩
  clear bb O6 E6
  go_wp2_with fail
  refine hK.out _ _ K2 (fun hHeld=>?_)
  clear hK K
  try simp only[oB3,Act.put,zA,zB,zC]
  refine tk 4 oB4 (.bool false) rfl (by kernel_rfl) (fun _ _ _ h=>h) (by rfl) (fun w hSw=>?_) hHeld ?_
  ·(try dsimp only at hSw)
   unfold oB4
   go_simp
  try simp only[oB4,Act.put,zA,zB,zC]
  refine wpAnyH_done (by kernel_rfl) ?_ _
  clear K0 K1 K2
  have K0:u9.cell? ⟨u5.heap.size,0,none⟩=some (.int .i64 n1)∧u9.cell? ⟨u5.heap.size,1,none⟩=some (.slice (some ⟨z5.ga,0,none⟩) z5.b.ac.length z5.ca)∧u9.cell? ⟨u5.heap.size,2,none⟩=some (.slice (some ⟨z5.gi,0,none⟩) z5.b.ic.length z5.ci)∧u9.cell? ⟨u5.heap.size,3,none⟩=some (.slice (some ⟨z5.gb,0,none⟩) z5.b.bs.length z5.cb)∧u9.cell? ⟨u5.heap.size,4,none⟩=some (.slice (some ⟨z5.gl,0,none⟩) z5.b.ls.length z5.cl)∧u9.cell? ⟨u5.heap.size,5,none⟩=some (.slice (some ⟨z5.gt,0,none⟩) z5.b.ts.length z5.ct)∧u9.cell? ⟨u5.heap.size,6,none⟩=some (.int .i64 z5.b.lot)∧u9.cell? ⟨w.heap.size+1,0,none⟩=some (.int .i64 n1)∧u9.cell? ⟨w.heap.size+1,1,none⟩=some (.slice y1.aa y1.b.ac.length y1.ca)∧u9.cell? ⟨w.heap.size+1,2,none⟩=some (.slice y1.ai y1.b.ic.length y1.ci)∧u9.cell? ⟨w.heap.size+1,3,none⟩=some (.slice y1.ab y1.b.bs.length y1.cb)∧u9.cell? ⟨w.heap.size+1,4,none⟩=some (.slice y1.al y1.b.ls.length y1.cl)∧u9.cell? ⟨w.heap.size+1,5,none⟩=some (.slice y1.ats y1.b.ts.length y1.ct)∧u9.cell? ⟨w.heap.size+1,6,none⟩=some (.int .i64 y1.b.lot):=⟨(zu KS).f,(zu KS).c0,(zu KS).c1,(zu KS).c2,(zu KS).c3,(zu KS).c4,(zu KS).c5,(zu M).c.f,(zu M).c.c0,(zu M).c.c1,(zu M).c.c2,(zu M).c.c3,(zu M).c.c4,(zu M).c.c5⟩
  go_wp2_with fail
  refine wp_region_held_drew (S:=(fun w'=>w'.cell? ⟨u5.heap.size,0,none⟩=some (.int .i64 n1)∧w'.cell? ⟨u5.heap.size,1,none⟩=some (.slice (some ⟨z5.ga,0,none⟩) z5.b.ac.length z5.ca)∧w'.cell? ⟨u5.heap.size,2,none⟩=some (.slice (some ⟨z5.gi,0,none⟩) z5.b.ic.length z5.ci)∧w'.cell? ⟨u5.heap.size,3,none⟩=some (.slice (some ⟨z5.gb,0,none⟩) z5.b.bs.length z5.cb)∧w'.cell? ⟨u5.heap.size,4,none⟩=some (.slice (some ⟨z5.gl,0,none⟩) z5.b.ls.length z5.cl)∧w'.cell? ⟨u5.heap.size,5,none⟩=some (.slice (some ⟨z5.gt,0,none⟩) z5.b.ts.length z5.ct)∧w'.cell? ⟨u5.heap.size,6,none⟩=some (.int .i64 z5.b.lot)∧w'.cell? ⟨w.heap.size+1,0,none⟩=some (.int .i64 n1)∧w'.cell? ⟨w.heap.size+1,1,none⟩=some (.slice y1.aa y1.b.ac.length y1.ca)∧w'.cell? ⟨w.heap.size+1,2,none⟩=some (.slice y1.ai y1.b.ic.length y1.ci)∧w'.cell? ⟨w.heap.size+1,3,none⟩=some (.slice y1.ab y1.b.bs.length y1.cb)∧w'.cell? ⟨w.heap.size+1,4,none⟩=some (.slice y1.al y1.b.ls.length y1.cl)∧w'.cell? ⟨w.heap.size+1,5,none⟩=some (.slice y1.ats y1.b.ts.length y1.ct)∧w'.cell? ⟨w.heap.size+1,6,none⟩=some (.int .i64 y1.b.lot))) (by kernel_rfl) K0 (fun hHeld=>?_)
  refine tk 0 oC0 (.agg #[.int .i64 n1,.slice (some ⟨z5.ga,0,none⟩) z5.b.ac.length z5.ca,.slice (some ⟨z5.gi,0,none⟩) z5.b.ic.length z5.ci,.slice (some ⟨z5.gb,0,none⟩) z5.b.bs.length z5.cb,.slice (some ⟨z5.gl,0,none⟩) z5.b.ls.length z5.cl,.slice (some ⟨z5.gt,0,none⟩) z5.b.ts.length z5.ct,.int .i64 z5.b.lot]) rfl (by kernel_rfl) (fun _ _ _ h=>h) (by rfl) (fun w hSw=>?_) hHeld ?_
  ·(try dsimp only at hSw)
   unfold oC0
   go_simp
  try simp only[oC0,Act.put,zA,zB,zC]
  refine tk 1 oC1 (.agg #[.int .i64 n1,.slice y1.aa y1.b.ac.length y1.ca,.slice y1.ai y1.b.ic.length y1.ci,.slice y1.ab y1.b.bs.length y1.cb,.slice y1.al y1.b.ls.length y1.cl,.slice y1.ats y1.b.ts.length y1.ct,.int .i64 y1.b.lot]) rfl (by kernel_rfl) (fun _ _ _ h=>h) (by rfl) (fun w hSw=>?_) hHeld ?_
  ·(try dsimp only at hSw)
   unfold oC1
   go_simp
  try simp only[oC1,Act.put,zA,zB,zC]
  refine wpAnyH_ready (rs:=[2]) (by kernel_rfl) (by simp) ?_
  refine AllReadyH.cons (o:=oC2) rfl (fun K hK=>?_) AllReadyH.nil
  unfold oC2
  go_simp
  go_wp2_with fail
  refine(toSv u9.drew n1 y1 ((zu M).r.below (Below.refl _ _).drew) (zu SM)).mono ?_
  rintro e u10 ⟨z6,hz,rfl,oz,b6⟩
  have b7:Below u9.heap.size u9 u10:=⟨b6.os,b6.tape,b6.output,b6.size,b6.block⟩
  replace L:=zh ((zu L).step b7)
  replace M:=zh ((zu M).step b7)
  replace RW:=zh ((zu RW).below b7)
  replace KW:=zh ((zu KW).step b7)
  replace OX:=zh ((zu OX).step b7)
  replace KX:=zh ((zu KX).step b7)
  replace OS:=zh ((zu OS).below b7 (Nat.le_refl _))
  replace KS:=zh ((zu KS).step b7)
  replace OG:=zh ((zu OG).step b7)
  replace KG:=zh ((zu KG).step b7)
  have E6:=zh hz
  have R6:=zh (oz.rd (by rw[hz];exact zu SM))
  have K1:u10.cell? ⟨u5.heap.size,0,none⟩=some (.int .i64 n1)∧u10.cell? ⟨u5.heap.size,1,none⟩=some (.slice (some ⟨z5.ga,0,none⟩) z5.b.ac.length z5.ca)∧u10.cell? ⟨u5.heap.size,2,none⟩=some (.slice (some ⟨z5.gi,0,none⟩) z5.b.ic.length z5.ci)∧u10.cell? ⟨u5.heap.size,3,none⟩=some (.slice (some ⟨z5.gb,0,none⟩) z5.b.bs.length z5.cb)∧u10.cell? ⟨u5.heap.size,4,none⟩=some (.slice (some ⟨z5.gl,0,none⟩) z5.b.ls.length z5.cl)∧u10.cell? ⟨u5.heap.size,5,none⟩=some (.slice (some ⟨z5.gt,0,none⟩) z5.b.ts.length z5.ct)∧u10.cell? ⟨u5.heap.size,6,none⟩=some (.int .i64 z5.b.lot)∧u10.cell? ⟨w.heap.size+1,0,none⟩=some (.int .i64 n1)∧u10.cell? ⟨w.heap.size+1,1,none⟩=some (.slice y1.aa y1.b.ac.length y1.ca)∧u10.cell? ⟨w.heap.size+1,2,none⟩=some (.slice y1.ai y1.b.ic.length y1.ci)∧u10.cell? ⟨w.heap.size+1,3,none⟩=some (.slice y1.ab y1.b.bs.length y1.cb)∧u10.cell? ⟨w.heap.size+1,4,none⟩=some (.slice y1.al y1.b.ls.length y1.cl)∧u10.cell? ⟨w.heap.size+1,5,none⟩=some (.slice y1.ats y1.b.ts.length y1.ct)∧u10.cell? ⟨w.heap.size+1,6,none⟩=some (.int .i64 y1.b.lot):=⟨(zu KS).f,(zu KS).c0,(zu KS).c1,(zu KS).c2,(zu KS).c3,(zu KS).c4,(zu KS).c5,(zu M).c.f,(zu M).c.c0,(zu M).c.c1,(zu M).c.c2,(zu M).c.c3,(zu M).c.c4,(zu M).c.c5⟩
  clear b6 b7 oz hz
  go_wp2_with fail
  refine hK.out _ _ K1 (fun hHeld=>?_)
  clear hK K
  try simp only[oC2,Act.put,zA,zB,zC]
  refine wpAnyH_ready (rs:=[3]) (by kernel_rfl) (by simp) ?_
  refine AllReadyH.cons (o:=oC3) rfl (fun K hK=>?_) AllReadyH.nil
  unfold oC3
  go_simp
  go_wp2_with fail
  refine(eqSv u10 n1 z5 z6 (by rw[zu E6,zu E5]) ((zu OS).rd (by rw[zu E5];exact zu SM)) (zu R6)).mono ?_
  rintro e u11 ⟨rfl,bb⟩
  replace L:=zh ((zu L).step bb)
  replace M:=zh ((zu M).step bb)
  replace RW:=zh ((zu RW).below bb)
  replace KW:=zh ((zu KW).step bb)
  replace OX:=zh ((zu OX).step bb)
  replace KX:=zh ((zu KX).step bb)
  replace OS:=zh ((zu OS).below bb (Nat.le_refl _))
  replace KS:=zh ((zu KS).step bb)
  replace OG:=zh ((zu OG).step bb)
  replace KG:=zh ((zu KG).step bb)
  have K2:u11.cell? ⟨u5.heap.size,0,none⟩=some (.int .i64 n1)∧u11.cell? ⟨u5.heap.size,1,none⟩=some (.slice (some ⟨z5.ga,0,none⟩) z5.b.ac.length z5.ca)∧u11.cell? ⟨u5.heap.size,2,none⟩=some (.slice (some ⟨z5.gi,0,none⟩) z5.b.ic.length z5.ci)∧u11.cell? ⟨u5.heap.size,3,none⟩=some (.slice (some ⟨z5.gb,0,none⟩) z5.b.bs.length z5.cb)∧u11.cell? ⟨u5.heap.size,4,none⟩=some (.slice (some ⟨z5.gl,0,none⟩) z5.b.ls.length z5.cl)∧u11.cell? ⟨u5.heap.size,5,none⟩=some (.slice (some ⟨z5.gt,0,none⟩) z5.b.ts.length z5.ct)∧u11.cell? ⟨u5.heap.size,6,none⟩=some (.int .i64 z5.b.lot)∧u11.cell? ⟨w.heap.size+1,0,none⟩=some (.int .i64 n1)∧u11.cell? ⟨w.heap.size+1,1,none⟩=some (.slice y1.aa y1.b.ac.length y1.ca)∧u11.cell? ⟨w.heap.size+1,2,none⟩=some (.slice y1.ai y1.b.ic.length y1.ci)∧u11.cell? ⟨w.heap.size+1,3,none⟩=some (.slice y1.ab y1.b.bs.length y1.cb)∧u11.cell? ⟨w.heap.size+1,4,none⟩=some (.slice y1.al y1.b.ls.length y1.cl)∧u11.cell? ⟨w.heap.size+1,5,none⟩=some (.slice y1.ats y1.b.ts.length y1.ct)∧u11.cell? ⟨w.heap.size+1,6,none⟩=some (.int .i64 y1.b.lot):=⟨(zu KS).f,(zu KS).c0,(zu KS).c1,(zu KS).c2,(zu KS).c3,(zu KS).c4,(zu KS).c5,(zu M).c.f,(zu M).c.c0,(zu M).c.c1,(zu M).c.c2,(zu M).c.c3,(zu M).c.c4,(zu M).c.c5⟩
  clear bb R6 E6
  go_wp2_with fail
  refine hK.out _ _ K2 (fun hHeld=>?_)
  clear hK K
  try simp only[oC3,Act.put,zA,zB,zC]
  refine tk 4 oC4 (.bool false) rfl (by kernel_rfl) (fun _ _ _ h=>h) (by rfl) (fun w hSw=>?_) hHeld ?_
  ·(try dsimp only at hSw)
   unfold oC4
   go_simp
  try simp only[oC4,Act.put,zA,zB,zC]
  refine wpAnyH_done (by kernel_rfl) ?_ _
  clear K0 K1 K2
  have g0:=(zu KX).c0
  have g1:=(zu KX).c1
  have gl:=(zu KX).lt
  go_wp2_with fail
  refine(markD _ U.heap.size x3 (by rw[(zu E3).2];omega) (by have:=(zu KX).lt;omega) (zu OX)).mono ?_
  rintro e u12 ⟨rfl,_,tn⟩
  have bl:=tn.below (zu OX) (by have:=(zu KX).lt;omega)
  replace L:=zh (La.turn (zu H) (zu L) bl (by omega))
  replace M:=zh (Ls.low (zu HR) (zu M) bl (by omega) (by omega))
  replace RW:=zh (rd_low (zu RW) bl (fun g e=>(zu UW) g e))
  replace KW:=zh (kd_low (zu KW) bl gU)
  replace OS:=zh (ow_turnD (zu OS) tn (fun g hg e=>by have:=(zu UX) g e.symm;omega))
  replace KS:=zh ((zu KS).of (tn.block _ (zu KS).lt (fun e=>by have:=(zu UX) _ e.symm;omega)) tn.size)
  replace OG:=zh (own_turn (zu OG) tn (fun g e q=>by have:=(own_lt (zu OG) e).1;have:=(zu UX) g q.symm;omega))
  replace KG:=zh ((zu KG).turn tn (fun e=>by have:=(zu UX) _ e.symm;omega))
  clear g0 g1 gl tn bl OX KX
  have lx:(1+3*(x3.ps.length:Int))≤10000000:=by rw[(zu E3).2];omega
  have k0:=(zu KS).f
  have k1:=(zu KS).c0
  have k2:=(zu KS).c1
  have k3:=(zu KS).c2
  have k4:=(zu KS).c3
  have k5:=(zu KS).c4
  have k6:=(zu KS).c5
  have kl:=(zu KS).lt
  go_wp2_with fail
  refine(markSv _ (u3.heap.size+1) n1 z5 (1+3*(x3.ps.length:Int)) (by omega) lx (zu OS) (by rw[zu E5];exact zu SM)).mono ?_
  rintro e u13 ⟨k9,k90,rfl,tz⟩
  have bl:=tz.below (B:=u3.heap.size+1) (by have:=(zu KS).lt;omega) (zu LOZ)
  replace L:=zh (La.turn (zu H) (zu L) bl (by omega))
  replace M:=zh (Ls.low (zu HR) (zu M) bl (by omega) (by omega))
  replace RW:=zh (rd_low (zu RW) bl (fun g e=>by have:=(zu UW) g e;omega))
  replace KW:=zh (kd_low (zu KW) bl (by omega))
  replace OG:=zh (own_turnB (zu OG) tz (zu UPZ) (by omega))
  replace KG:=zh (kd_turnB (zu KG) tz (zu UPZ) (by omega))
  clear tz bl OS KS lx k0 k1 k2 k3 k4 k5 k6 kl
  have k0:¬k9<0:=by omega
  have g0:=(zu KG).c0
  have g1:=(zu KG).c1
  have v0:=(zu KW).c0
  have v1:=(zu KW).c1
  have gl:=(zu KG).lt
  have vl:=(zu KW).lt
  go_wp2_with fail
  refine(eqD _ y4 y2 (by rw[(zu Y2).1,(zu Y4).1]) (by rw[(zu Y2).2,(zu Y4).2]) (OwD.rd (zu OG) (by rw[(zu Y4).2];exact zu LEN)) (zu RW)).mono ?_
  rintro e u14 ⟨rfl,bb⟩
  clear g0 g1 v0 v1 gl vl
  replace L:=zh ((zu L).step bb)
  replace M:=zh ((zu M).step bb)
  replace RW:=zh ((zu RW).below bb)
  replace KW:=zh ((zu KW).step bb)
  replace OG:=zh ((zu OG).step bb)
  replace KG:=zh ((zu KG).step bb)
  clear bb
  clear k0
  have g0:=(zu KG).c0
  have g1:=(zu KG).c1
  have gl:=(zu KG).lt
  go_wp2_with fail
  refine(markD _ (u5.heap.size+1) y4 (by rw[(zu Y4).2];exact zu LEN) (by have:=(zu KG).lt;omega) (zu OG)).mono ?_
  rintro e u15 ⟨rfl,om,tn⟩
  have bl:=tn.below (zu OG) (by have:=(zu KG).lt;omega)
  replace L:=zh (La.turn (zu H) (zu L) bl (by omega))
  replace M:=zh (Ls.low (zu HR) (zu M) bl (by omega) (by omega))
  replace RW:=zh (rd_low (zu RW) bl (fun g e=>by have:=(zu UW) g e;omega))
  replace KW:=zh (kd_low (zu KW) bl (by omega))
  replace KG:=zh ((zu KG).turn tn (fun e=>by have:=(zu UG) _ e.symm;omega))
  have OM:=zh om
  clear g0 g1 gl tn bl om OG
  have k1:¬(1+3*(y4.ps.length:Int)<0):=by omega
  have k2:((1+3*(y4.ps.length:Int)) !=(1+3*(y4.ps.length:Int)))=false:=by simp
  have g0:=(zu KG).c0
  have g1:=(zu KG).c1
  have gl:=(zu KG).lt
  go_wp2_with fail
  refine(heldD _ _ y4 (by rw[(zu Y4).2];exact zu LEN) (zu OM)).mono ?_
  rintro e u16 ⟨rfl,bb⟩
  clear g0 g1 gl
  replace L:=zh ((zu L).step bb)
  replace M:=zh ((zu M).step bb)
  replace RW:=zh ((zu RW).below bb)
  replace KW:=zh ((zu KW).step bb)
  replace OM:=zh ((zu OM).step bb)
  replace KG:=zh ((zu KG).step bb)
  clear bb
  have UM:=zh (fun(g:Nat) e=>(om_lt (zu OM) (g:=g) e).2)
  have gK:=(zu KG).lt
  have gu4:u4.heap.size<u16.heap.size:=gK
  have g0x:w.heap.size+2≤u16.heap.size:=by have:=(zu M).c.lt;omega
  go_wp2_with fail
  refine reg_rest (α:=Nat×Dx×Bx×Dx) (fun a x=>(((((((((((a.put (some 99) (.agg #[.int .i64 n0,.slice a0 len0 cap0])).put (some 100) (.agg #[.int .i64 x.2.1.room,.slice x.2.1.a x.2.1.ps.length x.2.1.c])).put (some 101) (.agg #[.int .i64 n1,.slice y1.aa y1.b.ac.length y1.ca,.slice y1.ai y1.b.ic.length y1.ci,.slice y1.ab y1.b.bs.length y1.cb,.slice y1.al y1.b.ls.length y1.cl,.slice y1.ats y1.b.ts.length y1.ct,.int .i64 y1.b.lot])).put (some 102) (.agg #[.int .i64 n1,.slice (some ⟨x.2.2.1.ga,0,none⟩) x.2.2.1.b.ac.length x.2.2.1.ca,.slice (some ⟨x.2.2.1.gi,0,none⟩) x.2.2.1.b.ic.length x.2.2.1.ci,.slice (some ⟨x.2.2.1.gb,0,none⟩) x.2.2.1.b.bs.length x.2.2.1.cb,.slice (some ⟨x.2.2.1.gl,0,none⟩) x.2.2.1.b.ls.length x.2.2.1.cl,.slice (some ⟨x.2.2.1.gt,0,none⟩) x.2.2.1.b.ts.length x.2.2.1.ct,.int .i64 x.2.2.1.b.lot])).put (some 103) (.int .i64 a2)).put (some 104) (.tuple #[.agg #[.int .i64 x.2.2.2.room,.slice x.2.2.2.a x.2.2.2.ps.length x.2.2.2.c],.int .i64 rc])).put (some 98) (.tuple #[.agg #[.int .i64 x.2.2.2.room,.slice x.2.2.2.a x.2.2.2.ps.length x.2.2.2.c],.int .i64 rc])).put (some 105) (.agg #[.int .i64 x.2.2.2.room,.slice x.2.2.2.a x.2.2.2.ps.length x.2.2.2.c])).put (some 106) (.int .i64 rc)).put (some 17) (.pointer (some ⟨x.1,0,none⟩))).put (some 18) (.int .i64 rc))) (fun(x:Nat×Dx×Bx×Dx) U=>Hid (La w U n0 a0 len0 cap0 z0∧Ls w U (w.heap.size+1) n1 y1∧Kd U x.1 x.2.2.2∧RdD U x.2.2.2∧(x.2.2.2.room=rm∧x.2.2.2.ps=rp)∧w.heap.size+2≤x.1∧RdD U y2∧Kd U g8 y2∧OmD U (u5.heap.size+1) y4∧Kd U u4.heap.size y4)) ?_ ?_
  ·rintro⟨h8,x17,z17,y6⟩ V hf
   have L:=zh (zu hf).1
   have KH:=zh (zu hf).2.2.1
   have RH:=zh (zu hf).2.2.2.1
   have Y6:=zh (zu hf).2.2.2.2.1
   have RW:=zh (zu hf).2.2.2.2.2.2.1
   have KW:=zh (zu hf).2.2.2.2.2.2.2.1
   have OM:=zh (zu hf).2.2.2.2.2.2.2.2.1
   have KG:=zh (zu hf).2.2.2.2.2.2.2.2.2
   clear hf
   simp only at KH RH Y6
   try simp only[Act.put,zA,zB,zC]
   have g0:=(zu KH).c0
   have g1:=(zu KH).c1
   have v0:=(zu KW).c0
   have v1:=(zu KW).c1
   have gl:=(zu KH).lt
   have vl:=(zu KW).lt
   go_wp2_with fail
   refine(eqD _ y6 y2 (by rw[(zu Y2).1,(zu Y6).1]) (by rw[(zu Y2).2,(zu Y6).2]) (zu RH) (zu RW)).mono ?_
   rintro e u18 ⟨rfl,bb⟩
   clear g0 g1 v0 v1 gl vl
   replace L:=zh ((zu L).step bb)
   replace RW:=zh ((zu RW).below bb)
   replace KW:=zh ((zu KW).step bb)
   replace OM:=zh ((zu OM).step bb)
   replace KG:=zh ((zu KG).step bb)
   replace RH:=zh ((zu RH).below bb)
   replace KH:=zh ((zu KH).step bb)
   clear bb
   have g0:=(zu KG).c0
   have g1:=(zu KG).c1
   have gl:=(zu KG).lt
   go_wp2_with fail
   refine(heldD _ _ y4 (by rw[(zu Y4).2];exact zu LEN) (zu OM)).mono ?_
   rintro e u19 ⟨rfl,bb⟩
   clear g0 g1 gl
   replace L:=zh ((zu L).step bb)
   replace RW:=zh ((zu RW).below bb)
   replace KW:=zh ((zu KW).step bb)
   replace OM:=zh ((zu OM).step bb)
   replace KG:=zh ((zu KG).step bb)
   clear bb
   go_wp2
   go_ret
   exact⟨rfl,(zu L).b⟩
  ·refine wp_region_held_drew (S:=(fun w'=>w'.cell? ⟨w.heap.size,0,none⟩=some (.int .i64 n0)∧w'.cell? ⟨w.heap.size,1,none⟩=some (.slice a0 len0 cap0)∧w'.cell? ⟨w.heap.size+1,0,none⟩=some (.int .i64 n1)∧w'.cell? ⟨w.heap.size+1,1,none⟩=some (.slice y1.aa y1.b.ac.length y1.ca)∧w'.cell? ⟨w.heap.size+1,2,none⟩=some (.slice y1.ai y1.b.ic.length y1.ci)∧w'.cell? ⟨w.heap.size+1,3,none⟩=some (.slice y1.ab y1.b.bs.length y1.cb)∧w'.cell? ⟨w.heap.size+1,4,none⟩=some (.slice y1.al y1.b.ls.length y1.cl)∧w'.cell? ⟨w.heap.size+1,5,none⟩=some (.slice y1.ats y1.b.ts.length y1.ct)∧w'.cell? ⟨w.heap.size+1,6,none⟩=some (.int .i64 y1.b.lot))) (by kernel_rfl) ⟨(zu L).c0,(zu L).c1,(zu M).c.f,(zu M).c.c0,(zu M).c.c1,(zu M).c.c2,(zu M).c.c3,(zu M).c.c4,(zu M).c.c5⟩ (fun hHeld=>?_)
   refine tk 0 oD0 (.agg #[.int .i64 n0,.slice a0 len0 cap0]) rfl (by kernel_rfl) (fun _ _ _ h=>h) (by rfl) (fun w hSw=>?_) hHeld ?_
   ·(try dsimp only at hSw)
    unfold oD0
    go_simp
   try simp only[oD0,Act.put,zA,zB,zC]
   refine tk 2 oD2 (.agg #[.int .i64 n1,.slice y1.aa y1.b.ac.length y1.ca,.slice y1.ai y1.b.ic.length y1.ci,.slice y1.ab y1.b.bs.length y1.cb,.slice y1.al y1.b.ls.length y1.cl,.slice y1.ats y1.b.ts.length y1.ct,.int .i64 y1.b.lot]) rfl (by kernel_rfl) (fun _ _ _ h=>h) (by rfl) (fun w hSw=>?_) hHeld ?_
   ·(try dsimp only at hSw)
    unfold oD2
    go_simp
   try simp only[oD2,Act.put,zA,zB,zC]
   refine tk 4 oD4 (.int .i64 a2) rfl (by kernel_rfl) (fun _ _ _ h=>h) (by rfl) (fun w hSw=>?_) hHeld ?_
   ·(try dsimp only at hSw)
    unfold oD4
    go_simp
   try simp only[oD4,Act.put,zA,zB,zC]
   refine wpAnyH_ready (rs:=[1,9]) (by kernel_rfl) (by simp) ?_
   refine AllReadyH.cons (o:=oD1) rfl (fun K hK=>?_) (AllReadyH.cons (o:=oD9) rfl (fun K hK=>?_) AllReadyH.nil)
   ·unfold oD1
    go_simp
    go_wp2_with fail
    first|refine(toD u16 n0 a0 len0 cap0 z0 l0 l20 (zu L).r).mono ?_|refine(toD u16.drew n0 a0 len0 cap0 z0 l0 l20 (show ReadsF u16.drew a0 z0 from(zu L).r)).mono ?_
    rintro e v1 ⟨x1,xr,xp,rfl,ox,b6⟩
    have b7:Below u16.heap.size u16 v1:=⟨b6.os,b6.tape,b6.output,b6.size,b6.block⟩
    have sv1:u16.heap.size≤v1.heap.size:=b6.size
    replace L:=zh ((zu L).step b7)
    replace M:=zh ((zu M).step b7)
    replace RW:=zh ((zu RW).below b7)
    replace KW:=zh ((zu KW).step b7)
    replace OM:=zh ((zu OM).step b7)
    replace KG:=zh ((zu KG).step b7)
    have E1:=zh (And.intro xr xp)
    have R1:=zh (OwD.rd ox (by rw[xp];omega))
    clear ox xr xp b6
    clear b7
    go_wp2_with fail
    refine hK.out _ _ ⟨(zu L).c0,(zu L).c1,(zu M).c.f,(zu M).c.c0,(zu M).c.c1,(zu M).c.c2,(zu M).c.c3,(zu M).c.c4,(zu M).c.c5⟩ (fun hHeld=>?_)
    clear hK K
    try simp only[oD1,Act.put,zA,zB,zC]
    refine wpAnyH_ready (rs:=[3,9]) (by kernel_rfl) (by simp) ?_
    refine AllReadyH.cons (o:=oD3) rfl (fun K hK=>?_) (AllReadyH.cons (o:=oD9) rfl (fun K hK=>?_) AllReadyH.nil)
    ·unfold oD3
     go_simp
     go_wp2_with fail
     first|refine(toSv v1 n1 y1 (zu M).r (zu SM)).mono ?_|refine(toSv v1.drew n1 y1 ((zu M).r.below (Below.refl _ _).drew) (zu SM)).mono ?_
     rintro e v2 ⟨z1,hz,rfl,oz,b6⟩
     have b7:Below v1.heap.size v1 v2:=⟨b6.os,b6.tape,b6.output,b6.size,b6.block⟩
     have sv2:v1.heap.size≤v2.heap.size:=b6.size
     replace L:=zh ((zu L).step b7)
     replace M:=zh ((zu M).step b7)
     replace RW:=zh ((zu RW).below b7)
     replace KW:=zh ((zu KW).step b7)
     replace OM:=zh ((zu OM).step b7)
     replace KG:=zh ((zu KG).step b7)
     replace R1:=zh ((zu R1).below b7)
     have E2:=zh hz
     have R2:=zh (oz.rd (by rw[hz];exact zu SM))
     clear oz hz b6
     clear b7
     go_wp2_with fail
     refine hK.out _ _ ⟨(zu L).c0,(zu L).c1,(zu M).c.f,(zu M).c.c0,(zu M).c.c1,(zu M).c.c2,(zu M).c.c3,(zu M).c.c4,(zu M).c.c5⟩ (fun hHeld=>?_)
     clear hK K
     try simp only[oD3,Act.put,zA,zB,zC]
     refine wpAnyH_ready (rs:=[5,9]) (by kernel_rfl) (by simp) ?_
     refine AllReadyH.cons (o:=oD5) rfl (fun K hK=>?_) (AllReadyH.cons (o:=oD9) rfl (fun K hK=>?_) AllReadyH.nil)
     ·unfold oD5
      go_simp
      go_wp2_with fail
      first|refine((zu IM) v2 x1 z1 (zu E1).1 (zu E1).2 (zu E2) (zu R1) (zu R2)).mono ?_|refine((zu IM) v2.drew x1 z1 (zu E1).1 (zu E1).2 (zu E2) ((zu R1).below (Below.refl _ _).drew) ((zu R2).below (Below.refl _ _).drew)).mono ?_
      rintro e v3 ⟨yq,hy2,rfl,oy,b6⟩
      have b7:Below v2.heap.size v2 v3:=⟨b6.os,b6.tape,b6.output,b6.size,b6.block⟩
      have sv3:v2.heap.size≤v3.heap.size:=b6.size
      replace L:=zh ((zu L).step b7)
      replace M:=zh ((zu M).step b7)
      replace RW:=zh ((zu RW).below b7)
      replace KW:=zh ((zu KW).step b7)
      replace OM:=zh ((zu OM).step b7)
      replace KG:=zh ((zu KG).step b7)
      replace R1:=zh ((zu R1).below b7)
      replace R2:=zh ((zu R2).below b7)
      obtain⟨hm2,hp2⟩:yq.room=rm∧yq.ps=rp:=by simpa using hy2
      have Y2:=zh (And.intro hm2 hp2)
      have RY:=zh (OwD.rd oy (by rw[hp2];exact zu LEN))
      have LY:=zh (fun(g:Nat) (e:(Value.slice yq.a yq.ps.length yq.c).ownBlock=some g)=>show v2.heap.size≤g∧g<v3.heap.size from own_lt oy e)
      clear oy hy2 hm2 hp2 b6
      clear b7
      go_wp2_with fail
      refine hK.out _ _ ⟨(zu L).c0,(zu L).c1,(zu M).c.f,(zu M).c.c0,(zu M).c.c1,(zu M).c.c2,(zu M).c.c3,(zu M).c.c4,(zu M).c.c5⟩ (fun hHeld=>?_)
      clear hK K
      try simp only[oD5,Act.put,zA,zB,zC]
      refine tk 6 oD6 (.tuple #[.agg #[.int .i64 yq.room,.slice yq.a yq.ps.length yq.c],.int .i64 rc]) rfl (by kernel_rfl) (fun _ _ _ h=>h) (by rfl) (fun w hSw=>?_) hHeld ?_
      ·(try dsimp only at hSw)
       unfold oD6
       go_simp
      try simp only[oD6,Act.put,zA,zB,zC]
      refine tk 7 oD7 (.agg #[.int .i64 yq.room,.slice yq.a yq.ps.length yq.c]) rfl (by kernel_rfl) (fun _ _ _ h=>h) (by rfl) (fun w hSw=>?_) hHeld ?_
      ·(try dsimp only at hSw)
       unfold oD7
       go_simp
      try simp only[oD7,Act.put,zA,zB,zC]
      refine tk 8 oD8 (.int .i64 rc) rfl (by kernel_rfl) (fun _ _ _ h=>h) (by rfl) (fun w hSw=>?_) hHeld ?_
      ·(try dsimp only at hSw)
       unfold oD8
       go_simp
      try simp only[oD8,Act.put,zA,zB,zC]
      refine wpAnyH_ready (rs:=[9]) (by kernel_rfl) (by simp) ?_
      refine AllReadyH.cons (o:=oD9) rfl (fun K hK=>?_) AllReadyH.nil
      unfold oD9
      go_simp
      have ba:=one_more v3 (.cells #[.int .i64 0,.slice none 0 0] 52)
      have BA:=zh (Bc.made (w:=v3) (base:=w.heap.size) (g:=v3.heap.size) (.int .i64 0) (.slice none 0 0) (zu L).b.size rfl)
      have GA:w.heap.size+2≤v3.heap.size:=by have:=(zu M).c.lt;omega
      replace L:=zh ((zu L).step ba)
      replace M:=zh ((zu M).step ba)
      replace RW:=zh ((zu RW).below ba)
      replace KW:=zh ((zu KW).step ba)
      replace OM:=zh ((zu OM).step ba)
      replace KG:=zh ((zu KG).step ba)
      replace R1:=zh ((zu R1).below ba)
      replace R2:=zh ((zu R2).below ba)
      replace RY:=zh ((zu RY).below ba)
      clear ba
      generalize hV:v3.alloc (.cells #[.int .i64 0,.slice none 0 0] 52)=v4 at *
      refine hK.out _ _ ⟨(zu L).c0,(zu L).c1,(zu M).c.f,(zu M).c.c0,(zu M).c.c1,(zu M).c.c2,(zu M).c.c3,(zu M).c.c4,(zu M).c.c5⟩ (fun hHeld=>?_)
      clear hK K
      try simp only[oD9,Act.put,zA,zB,zC]
      have bi:=boxed_in (y:=yq) (zu BA)
      have lo:=low_of bi.1 (zu BA).lt.2
      have FF:=zh (show La w _ n0 a0 len0 cap0 z0∧Ls w _ (w.heap.size+1) n1 y1∧Kd _ (v3.heap.size) yq∧RdD _ yq∧(yq.room=rm∧yq.ps=rp)∧w.heap.size+2≤v3.heap.size∧RdD _ y2∧Kd _ g8 y2∧OmD _ (u5.heap.size+1) y4∧Kd _ u4.heap.size y4 from⟨La.turn (zu H) (zu L) lo (by omega),Ls.low (zu HR) (zu M) lo (by omega) (by omega),bi.2,rd_kept (zu RY) bi.1 (fun g e=>by have:=(zu LY) g (by rw[e];rfl);omega),zu Y2,by omega,rd_low (zu RW) lo (fun g e=>by have:=(zu UW) g e;omega),kd_low (zu KW) lo (by omega),om_low (zu OM) lo (fun g e=>by have:=(zu UM) g e;omega),kd_low (zu KG) lo (by omega)⟩)
      have f0:=(zu BA).free 0
      have f1:=(zu BA).free 1
      have b0:=(zu BA).c0
      have b1:=(zu BA).c1
      refine wpAnyH_ready (rs:=[10]) (by kernel_rfl) (by simp) ?_
      refine AllReadyH.cons (o:=oD10) rfl (fun K hK=>?_) AllReadyH.nil
      unfold oD10
      go_simp
      refine hK.out _ _ ⟨(zu FF).1.c0,(zu FF).1.c1,(zu FF).2.1.c.f,(zu FF).2.1.c.c0,(zu FF).2.1.c.c1,(zu FF).2.1.c.c2,(zu FF).2.1.c.c3,(zu FF).2.1.c.c4,(zu FF).2.1.c.c5⟩ (fun hHeld=>?_)
      clear hK K
      try simp only[oD10,Act.put,zA,zB,zC]
      refine tk 11 oD11 (.int .i64 rc) rfl (by kernel_rfl) (fun _ _ _ h=>h) (by rfl) (fun w hSw=>?_) hHeld ?_
      ·(try dsimp only at hSw)
       unfold oD11
       go_simp
      try simp only[oD11,Act.put,zA,zB,zC]
      refine wpAnyH_done (by kernel_rfl) ?_ _
      exact⟨(v3.heap.size,x1,z1,yq),rfl,FF⟩
     ·unfold oD9
      go_simp
      have ba:=one_more v2 (.cells #[.int .i64 0,.slice none 0 0] 52)
      have BA:=zh (Bc.made (w:=v2) (base:=w.heap.size) (g:=v2.heap.size) (.int .i64 0) (.slice none 0 0) (zu L).b.size rfl)
      have GA:w.heap.size+2≤v2.heap.size:=by have:=(zu M).c.lt;omega
      replace L:=zh ((zu L).step ba)
      replace M:=zh ((zu M).step ba)
      replace RW:=zh ((zu RW).below ba)
      replace KW:=zh ((zu KW).step ba)
      replace OM:=zh ((zu OM).step ba)
      replace KG:=zh ((zu KG).step ba)
      replace R1:=zh ((zu R1).below ba)
      replace R2:=zh ((zu R2).below ba)
      clear ba
      generalize hV:v2.alloc (.cells #[.int .i64 0,.slice none 0 0] 52)=v5 at *
      refine hK.out _ _ ⟨(zu L).c0,(zu L).c1,(zu M).c.f,(zu M).c.c0,(zu M).c.c1,(zu M).c.c2,(zu M).c.c3,(zu M).c.c4,(zu M).c.c5⟩ (fun hHeld=>?_)
      clear hK K
      try simp only[oD9,Act.put,zA,zB,zC]
      refine wpAnyH_ready (rs:=[5]) (by kernel_rfl) (by simp) ?_
      refine AllReadyH.cons (o:=oD5) rfl (fun K hK=>?_) AllReadyH.nil
      unfold oD5
      go_simp
      have lbx:=(zu BA).lt.2
      go_wp2_with fail
      first|refine((zu IM) v5 x1 z1 (zu E1).1 (zu E1).2 (zu E2) (zu R1) (zu R2)).mono ?_|refine((zu IM) v5.drew x1 z1 (zu E1).1 (zu E1).2 (zu E2) ((zu R1).below (Below.refl _ _).drew) ((zu R2).below (Below.refl _ _).drew)).mono ?_
      rintro e v6 ⟨yq,hy2,rfl,oy,b6⟩
      have b7:Below v5.heap.size v5 v6:=⟨b6.os,b6.tape,b6.output,b6.size,b6.block⟩
      have sv6:v5.heap.size≤v6.heap.size:=b6.size
      replace L:=zh ((zu L).step b7)
      replace M:=zh ((zu M).step b7)
      replace RW:=zh ((zu RW).below b7)
      replace KW:=zh ((zu KW).step b7)
      replace OM:=zh ((zu OM).step b7)
      replace KG:=zh ((zu KG).step b7)
      replace R1:=zh ((zu R1).below b7)
      replace R2:=zh ((zu R2).below b7)
      replace BA:=zh ((zu BA).below b7 (zu BA).lt.2)
      obtain⟨hm2,hp2⟩:yq.room=rm∧yq.ps=rp:=by simpa using hy2
      have Y2:=zh (And.intro hm2 hp2)
      have RY:=zh (OwD.rd oy (by rw[hp2];exact zu LEN))
      have LY:=zh (fun(g:Nat) (e:(Value.slice yq.a yq.ps.length yq.c).ownBlock=some g)=>show v5.heap.size≤g∧g<v6.heap.size from own_lt oy e)
      clear oy hy2 hm2 hp2 b6
      clear b7
      go_wp2_with fail
      refine hK.out _ _ ⟨(zu L).c0,(zu L).c1,(zu M).c.f,(zu M).c.c0,(zu M).c.c1,(zu M).c.c2,(zu M).c.c3,(zu M).c.c4,(zu M).c.c5⟩ (fun hHeld=>?_)
      clear hK K
      try simp only[oD5,Act.put,zA,zB,zC]
      refine tk 6 oD6 (.tuple #[.agg #[.int .i64 yq.room,.slice yq.a yq.ps.length yq.c],.int .i64 rc]) rfl (by kernel_rfl) (fun _ _ _ h=>h) (by rfl) (fun w hSw=>?_) hHeld ?_
      ·(try dsimp only at hSw)
       unfold oD6
       go_simp
      try simp only[oD6,Act.put,zA,zB,zC]
      refine tk 7 oD7 (.agg #[.int .i64 yq.room,.slice yq.a yq.ps.length yq.c]) rfl (by kernel_rfl) (fun _ _ _ h=>h) (by rfl) (fun w hSw=>?_) hHeld ?_
      ·(try dsimp only at hSw)
       unfold oD7
       go_simp
      try simp only[oD7,Act.put,zA,zB,zC]
      refine tk 8 oD8 (.int .i64 rc) rfl (by kernel_rfl) (fun _ _ _ h=>h) (by rfl) (fun w hSw=>?_) hHeld ?_
      ·(try dsimp only at hSw)
       unfold oD8
       go_simp
      try simp only[oD8,Act.put,zA,zB,zC]
      have bi:=boxed_in (y:=yq) (zu BA)
      have lo:=low_of bi.1 (zu BA).lt.2
      have FF:=zh (show La w _ n0 a0 len0 cap0 z0∧Ls w _ (w.heap.size+1) n1 y1∧Kd _ (v2.heap.size) yq∧RdD _ yq∧(yq.room=rm∧yq.ps=rp)∧w.heap.size+2≤v2.heap.size∧RdD _ y2∧Kd _ g8 y2∧OmD _ (u5.heap.size+1) y4∧Kd _ u4.heap.size y4 from⟨La.turn (zu H) (zu L) lo (by omega),Ls.low (zu HR) (zu M) lo (by omega) (by omega),bi.2,rd_kept (zu RY) bi.1 (fun g e=>by have:=(zu LY) g (by rw[e];rfl);omega),zu Y2,by omega,rd_low (zu RW) lo (fun g e=>by have:=(zu UW) g e;omega),kd_low (zu KW) lo (by omega),om_low (zu OM) lo (fun g e=>by have:=(zu UM) g e;omega),kd_low (zu KG) lo (by omega)⟩)
      have f0:=(zu BA).free 0
      have f1:=(zu BA).free 1
      have b0:=(zu BA).c0
      have b1:=(zu BA).c1
      refine wpAnyH_ready (rs:=[10]) (by kernel_rfl) (by simp) ?_
      refine AllReadyH.cons (o:=oD10) rfl (fun K hK=>?_) AllReadyH.nil
      unfold oD10
      go_simp
      refine hK.out _ _ ⟨(zu FF).1.c0,(zu FF).1.c1,(zu FF).2.1.c.f,(zu FF).2.1.c.c0,(zu FF).2.1.c.c1,(zu FF).2.1.c.c2,(zu FF).2.1.c.c3,(zu FF).2.1.c.c4,(zu FF).2.1.c.c5⟩ (fun hHeld=>?_)
      clear hK K
      try simp only[oD10,Act.put,zA,zB,zC]
      refine tk 11 oD11 (.int .i64 rc) rfl (by kernel_rfl) (fun _ _ _ h=>h) (by rfl) (fun w hSw=>?_) hHeld ?_
      ·(try dsimp only at hSw)
       unfold oD11
       go_simp
      try simp only[oD11,Act.put,zA,zB,zC]
      refine wpAnyH_done (by kernel_rfl) ?_ _
      exact⟨(v2.heap.size,x1,z1,yq),rfl,FF⟩
    ·unfold oD9
     go_simp
     have ba:=one_more v1 (.cells #[.int .i64 0,.slice none 0 0] 52)
     have BA:=zh (Bc.made (w:=v1) (base:=w.heap.size) (g:=v1.heap.size) (.int .i64 0) (.slice none 0 0) (zu L).b.size rfl)
     have GA:w.heap.size+2≤v1.heap.size:=by have:=(zu M).c.lt;omega
     replace L:=zh ((zu L).step ba)
     replace M:=zh ((zu M).step ba)
     replace RW:=zh ((zu RW).below ba)
     replace KW:=zh ((zu KW).step ba)
     replace OM:=zh ((zu OM).step ba)
     replace KG:=zh ((zu KG).step ba)
     replace R1:=zh ((zu R1).below ba)
     clear ba
     generalize hV:v1.alloc (.cells #[.int .i64 0,.slice none 0 0] 52)=v7 at *
     refine hK.out _ _ ⟨(zu L).c0,(zu L).c1,(zu M).c.f,(zu M).c.c0,(zu M).c.c1,(zu M).c.c2,(zu M).c.c3,(zu M).c.c4,(zu M).c.c5⟩ (fun hHeld=>?_)
     clear hK K
     try simp only[oD9,Act.put,zA,zB,zC]
     refine wpAnyH_ready (rs:=[3]) (by kernel_rfl) (by simp) ?_
     refine AllReadyH.cons (o:=oD3) rfl (fun K hK=>?_) AllReadyH.nil
     unfold oD3
     go_simp
     go_wp2_with fail
     first|refine(toSv v7 n1 y1 (zu M).r (zu SM)).mono ?_|refine(toSv v7.drew n1 y1 ((zu M).r.below (Below.refl _ _).drew) (zu SM)).mono ?_
     rintro e v8 ⟨z1,hz,rfl,oz,b6⟩
     have b7:Below v7.heap.size v7 v8:=⟨b6.os,b6.tape,b6.output,b6.size,b6.block⟩
     have sv8:v7.heap.size≤v8.heap.size:=b6.size
     replace L:=zh ((zu L).step b7)
     replace M:=zh ((zu M).step b7)
     replace RW:=zh ((zu RW).below b7)
     replace KW:=zh ((zu KW).step b7)
     replace OM:=zh ((zu OM).step b7)
     replace KG:=zh ((zu KG).step b7)
     replace R1:=zh ((zu R1).below b7)
     replace BA:=zh ((zu BA).below b7 (zu BA).lt.2)
     have E2:=zh hz
     have R2:=zh (oz.rd (by rw[hz];exact zu SM))
     clear oz hz b6
     clear b7
     go_wp2_with fail
     refine hK.out _ _ ⟨(zu L).c0,(zu L).c1,(zu M).c.f,(zu M).c.c0,(zu M).c.c1,(zu M).c.c2,(zu M).c.c3,(zu M).c.c4,(zu M).c.c5⟩ (fun hHeld=>?_)
     clear hK K
     try simp only[oD3,Act.put,zA,zB,zC]
     refine wpAnyH_ready (rs:=[5]) (by kernel_rfl) (by simp) ?_
     refine AllReadyH.cons (o:=oD5) rfl (fun K hK=>?_) AllReadyH.nil
     unfold oD5
     go_simp
     have lbx:=(zu BA).lt.2
     go_wp2_with fail
     first|refine((zu IM) v8 x1 z1 (zu E1).1 (zu E1).2 (zu E2) (zu R1) (zu R2)).mono ?_|refine((zu IM) v8.drew x1 z1 (zu E1).1 (zu E1).2 (zu E2) ((zu R1).below (Below.refl _ _).drew) ((zu R2).below (Below.refl _ _).drew)).mono ?_
     rintro e v9 ⟨yq,hy2,rfl,oy,b6⟩
     have b7:Below v8.heap.size v8 v9:=⟨b6.os,b6.tape,b6.output,b6.size,b6.block⟩
     have sv9:v8.heap.size≤v9.heap.size:=b6.size
     replace L:=zh ((zu L).step b7)
     replace M:=zh ((zu M).step b7)
     replace RW:=zh ((zu RW).below b7)
     replace KW:=zh ((zu KW).step b7)
     replace OM:=zh ((zu OM).step b7)
     replace KG:=zh ((zu KG).step b7)
     replace R1:=zh ((zu R1).below b7)
     replace R2:=zh ((zu R2).below b7)
     replace BA:=zh ((zu BA).below b7 (zu BA).lt.2)
     obtain⟨hm2,hp2⟩:yq.room=rm∧yq.ps=rp:=by simpa using hy2
     have Y2:=zh (And.intro hm2 hp2)
     have RY:=zh (OwD.rd oy (by rw[hp2];exact zu LEN))
     have LY:=zh (fun(g:Nat) (e:(Value.slice yq.a yq.ps.length yq.c).ownBlock=some g)=>show v8.heap.size≤g∧g<v9.heap.size from own_lt oy e)
     clear oy hy2 hm2 hp2 b6
     clear b7
     go_wp2_with fail
     refine hK.out _ _ ⟨(zu L).c0,(zu L).c1,(zu M).c.f,(zu M).c.c0,(zu M).c.c1,(zu M).c.c2,(zu M).c.c3,(zu M).c.c4,(zu M).c.c5⟩ (fun hHeld=>?_)
     clear hK K
     try simp only[oD5,Act.put,zA,zB,zC]
     refine tk 6 oD6 (.tuple #[.agg #[.int .i64 yq.room,.slice yq.a yq.ps.length yq.c],.int .i64 rc]) rfl (by kernel_rfl) (fun _ _ _ h=>h) (by rfl) (fun w hSw=>?_) hHeld ?_
     ·(try dsimp only at hSw)
      unfold oD6
      go_simp
     try simp only[oD6,Act.put,zA,zB,zC]
     refine tk 7 oD7 (.agg #[.int .i64 yq.room,.slice yq.a yq.ps.length yq.c]) rfl (by kernel_rfl) (fun _ _ _ h=>h) (by rfl) (fun w hSw=>?_) hHeld ?_
     ·(try dsimp only at hSw)
      unfold oD7
      go_simp
     try simp only[oD7,Act.put,zA,zB,zC]
     refine tk 8 oD8 (.int .i64 rc) rfl (by kernel_rfl) (fun _ _ _ h=>h) (by rfl) (fun w hSw=>?_) hHeld ?_
     ·(try dsimp only at hSw)
      unfold oD8
      go_simp
     try simp only[oD8,Act.put,zA,zB,zC]
     have bi:=boxed_in (y:=yq) (zu BA)
     have lo:=low_of bi.1 (zu BA).lt.2
     have FF:=zh (show La w _ n0 a0 len0 cap0 z0∧Ls w _ (w.heap.size+1) n1 y1∧Kd _ (v1.heap.size) yq∧RdD _ yq∧(yq.room=rm∧yq.ps=rp)∧w.heap.size+2≤v1.heap.size∧RdD _ y2∧Kd _ g8 y2∧OmD _ (u5.heap.size+1) y4∧Kd _ u4.heap.size y4 from⟨La.turn (zu H) (zu L) lo (by omega),Ls.low (zu HR) (zu M) lo (by omega) (by omega),bi.2,rd_kept (zu RY) bi.1 (fun g e=>by have:=(zu LY) g (by rw[e];rfl);omega),zu Y2,by omega,rd_low (zu RW) lo (fun g e=>by have:=(zu UW) g e;omega),kd_low (zu KW) lo (by omega),om_low (zu OM) lo (fun g e=>by have:=(zu UM) g e;omega),kd_low (zu KG) lo (by omega)⟩)
     have f0:=(zu BA).free 0
     have f1:=(zu BA).free 1
     have b0:=(zu BA).c0
     have b1:=(zu BA).c1
     refine wpAnyH_ready (rs:=[10]) (by kernel_rfl) (by simp) ?_
     refine AllReadyH.cons (o:=oD10) rfl (fun K hK=>?_) AllReadyH.nil
     unfold oD10
     go_simp
     refine hK.out _ _ ⟨(zu FF).1.c0,(zu FF).1.c1,(zu FF).2.1.c.f,(zu FF).2.1.c.c0,(zu FF).2.1.c.c1,(zu FF).2.1.c.c2,(zu FF).2.1.c.c3,(zu FF).2.1.c.c4,(zu FF).2.1.c.c5⟩ (fun hHeld=>?_)
     clear hK K
     try simp only[oD10,Act.put,zA,zB,zC]
     refine tk 11 oD11 (.int .i64 rc) rfl (by kernel_rfl) (fun _ _ _ h=>h) (by rfl) (fun w hSw=>?_) hHeld ?_
     ·(try dsimp only at hSw)
      unfold oD11
      go_simp
     try simp only[oD11,Act.put,zA,zB,zC]
     refine wpAnyH_done (by kernel_rfl) ?_ _
     exact⟨(v1.heap.size,x1,z1,yq),rfl,FF⟩
   ·unfold oD9
    go_simp
    have ba:=one_more u16 (.cells #[.int .i64 0,.slice none 0 0] 52)
    have BA:=zh (Bc.made (w:=u16) (base:=w.heap.size) (g:=u16.heap.size) (.int .i64 0) (.slice none 0 0) (zu L).b.size rfl)
    have GA:w.heap.size+2≤u16.heap.size:=by have:=(zu M).c.lt;omega
    replace L:=zh ((zu L).step ba)
    replace M:=zh ((zu M).step ba)
    replace RW:=zh ((zu RW).below ba)
    replace KW:=zh ((zu KW).step ba)
    replace OM:=zh ((zu OM).step ba)
    replace KG:=zh ((zu KG).step ba)
    clear ba
    generalize hV:u16.alloc (.cells #[.int .i64 0,.slice none 0 0] 52)=v10 at *
    refine hK.out _ _ ⟨(zu L).c0,(zu L).c1,(zu M).c.f,(zu M).c.c0,(zu M).c.c1,(zu M).c.c2,(zu M).c.c3,(zu M).c.c4,(zu M).c.c5⟩ (fun hHeld=>?_)
    clear hK K
    try simp only[oD9,Act.put,zA,zB,zC]
    refine wpAnyH_ready (rs:=[1]) (by kernel_rfl) (by simp) ?_
    refine AllReadyH.cons (o:=oD1) rfl (fun K hK=>?_) AllReadyH.nil
    unfold oD1
    go_simp
    go_wp2_with fail
    first|refine(toD v10 n0 a0 len0 cap0 z0 l0 l20 (zu L).r).mono ?_|refine(toD v10.drew n0 a0 len0 cap0 z0 l0 l20 (show ReadsF v10.drew a0 z0 from(zu L).r)).mono ?_
    rintro e v11 ⟨x1,xr,xp,rfl,ox,b6⟩
    have b7:Below v10.heap.size v10 v11:=⟨b6.os,b6.tape,b6.output,b6.size,b6.block⟩
    have sv11:v10.heap.size≤v11.heap.size:=b6.size
    replace L:=zh ((zu L).step b7)
    replace M:=zh ((zu M).step b7)
    replace RW:=zh ((zu RW).below b7)
    replace KW:=zh ((zu KW).step b7)
    replace OM:=zh ((zu OM).step b7)
    replace KG:=zh ((zu KG).step b7)
    replace BA:=zh ((zu BA).below b7 (zu BA).lt.2)
    have E1:=zh (And.intro xr xp)
    have R1:=zh (OwD.rd ox (by rw[xp];omega))
    clear ox xr xp b6
    clear b7
    go_wp2_with fail
    refine hK.out _ _ ⟨(zu L).c0,(zu L).c1,(zu M).c.f,(zu M).c.c0,(zu M).c.c1,(zu M).c.c2,(zu M).c.c3,(zu M).c.c4,(zu M).c.c5⟩ (fun hHeld=>?_)
    clear hK K
    try simp only[oD1,Act.put,zA,zB,zC]
    refine wpAnyH_ready (rs:=[3]) (by kernel_rfl) (by simp) ?_
    refine AllReadyH.cons (o:=oD3) rfl (fun K hK=>?_) AllReadyH.nil
    unfold oD3
    go_simp
    go_wp2_with fail
    first|refine(toSv v11 n1 y1 (zu M).r (zu SM)).mono ?_|refine(toSv v11.drew n1 y1 ((zu M).r.below (Below.refl _ _).drew) (zu SM)).mono ?_
    rintro e v12 ⟨z1,hz,rfl,oz,b6⟩
    have b7:Below v11.heap.size v11 v12:=⟨b6.os,b6.tape,b6.output,b6.size,b6.block⟩
    have sv12:v11.heap.size≤v12.heap.size:=b6.size
    replace L:=zh ((zu L).step b7)
    replace M:=zh ((zu M).step b7)
    replace RW:=zh ((zu RW).below b7)
    replace KW:=zh ((zu KW).step b7)
    replace OM:=zh ((zu OM).step b7)
    replace KG:=zh ((zu KG).step b7)
    replace R1:=zh ((zu R1).below b7)
    replace BA:=zh ((zu BA).below b7 (zu BA).lt.2)
    have E2:=zh hz
    have R2:=zh (oz.rd (by rw[hz];exact zu SM))
    clear oz hz b6
    clear b7
    go_wp2_with fail
    refine hK.out _ _ ⟨(zu L).c0,(zu L).c1,(zu M).c.f,(zu M).c.c0,(zu M).c.c1,(zu M).c.c2,(zu M).c.c3,(zu M).c.c4,(zu M).c.c5⟩ (fun hHeld=>?_)
    clear hK K
    try simp only[oD3,Act.put,zA,zB,zC]
    refine wpAnyH_ready (rs:=[5]) (by kernel_rfl) (by simp) ?_
    refine AllReadyH.cons (o:=oD5) rfl (fun K hK=>?_) AllReadyH.nil
    unfold oD5
    go_simp
    have lbx:=(zu BA).lt.2
    go_wp2_with fail
    first|refine((zu IM) v12 x1 z1 (zu E1).1 (zu E1).2 (zu E2) (zu R1) (zu R2)).mono ?_|refine((zu IM) v12.drew x1 z1 (zu E1).1 (zu E1).2 (zu E2) ((zu R1).below (Below.refl _ _).drew) ((zu R2).below (Below.refl _ _).drew)).mono ?_
    rintro e v13 ⟨yq,hy2,rfl,oy,b6⟩
    have b7:Below v12.heap.size v12 v13:=⟨b6.os,b6.tape,b6.output,b6.size,b6.block⟩
    have sv13:v12.heap.size≤v13.heap.size:=b6.size
    replace L:=zh ((zu L).step b7)
    replace M:=zh ((zu M).step b7)
    replace RW:=zh ((zu RW).below b7)
    replace KW:=zh ((zu KW).step b7)
    replace OM:=zh ((zu OM).step b7)
    replace KG:=zh ((zu KG).step b7)
    replace R1:=zh ((zu R1).below b7)
    replace R2:=zh ((zu R2).below b7)
    replace BA:=zh ((zu BA).below b7 (zu BA).lt.2)
    obtain⟨hm2,hp2⟩:yq.room=rm∧yq.ps=rp:=by simpa using hy2
    have Y2:=zh (And.intro hm2 hp2)
    have RY:=zh (OwD.rd oy (by rw[hp2];exact zu LEN))
    have LY:=zh (fun(g:Nat) (e:(Value.slice yq.a yq.ps.length yq.c).ownBlock=some g)=>show v12.heap.size≤g∧g<v13.heap.size from own_lt oy e)
    clear oy hy2 hm2 hp2 b6
    clear b7
    go_wp2_with fail
    refine hK.out _ _ ⟨(zu L).c0,(zu L).c1,(zu M).c.f,(zu M).c.c0,(zu M).c.c1,(zu M).c.c2,(zu M).c.c3,(zu M).c.c4,(zu M).c.c5⟩ (fun hHeld=>?_)
    clear hK K
    try simp only[oD5,Act.put,zA,zB,zC]
    refine tk 6 oD6 (.tuple #[.agg #[.int .i64 yq.room,.slice yq.a yq.ps.length yq.c],.int .i64 rc]) rfl (by kernel_rfl) (fun _ _ _ h=>h) (by rfl) (fun w hSw=>?_) hHeld ?_
    ·(try dsimp only at hSw)
     unfold oD6
     go_simp
    try simp only[oD6,Act.put,zA,zB,zC]
    refine tk 7 oD7 (.agg #[.int .i64 yq.room,.slice yq.a yq.ps.length yq.c]) rfl (by kernel_rfl) (fun _ _ _ h=>h) (by rfl) (fun w hSw=>?_) hHeld ?_
    ·(try dsimp only at hSw)
     unfold oD7
     go_simp
    try simp only[oD7,Act.put,zA,zB,zC]
    refine tk 8 oD8 (.int .i64 rc) rfl (by kernel_rfl) (fun _ _ _ h=>h) (by rfl) (fun w hSw=>?_) hHeld ?_
    ·(try dsimp only at hSw)
     unfold oD8
     go_simp
    try simp only[oD8,Act.put,zA,zB,zC]
    have bi:=boxed_in (y:=yq) (zu BA)
    have lo:=low_of bi.1 (zu BA).lt.2
    have FF:=zh (show La w _ n0 a0 len0 cap0 z0∧Ls w _ (w.heap.size+1) n1 y1∧Kd _ (u16.heap.size) yq∧RdD _ yq∧(yq.room=rm∧yq.ps=rp)∧w.heap.size+2≤u16.heap.size∧RdD _ y2∧Kd _ g8 y2∧OmD _ (u5.heap.size+1) y4∧Kd _ u4.heap.size y4 from⟨La.turn (zu H) (zu L) lo (by omega),Ls.low (zu HR) (zu M) lo (by omega) (by omega),bi.2,rd_kept (zu RY) bi.1 (fun g e=>by have:=(zu LY) g (by rw[e];rfl);omega),zu Y2,by omega,rd_low (zu RW) lo (fun g e=>by have:=(zu UW) g e;omega),kd_low (zu KW) lo (by omega),om_low (zu OM) lo (fun g e=>by have:=(zu UM) g e;omega),kd_low (zu KG) lo (by omega)⟩)
    have f0:=(zu BA).free 0
    have f1:=(zu BA).free 1
    have b0:=(zu BA).c0
    have b1:=(zu BA).c1
    refine wpAnyH_ready (rs:=[10]) (by kernel_rfl) (by simp) ?_
    refine AllReadyH.cons (o:=oD10) rfl (fun K hK=>?_) AllReadyH.nil
    unfold oD10
    go_simp
    refine hK.out _ _ ⟨(zu FF).1.c0,(zu FF).1.c1,(zu FF).2.1.c.f,(zu FF).2.1.c.c0,(zu FF).2.1.c.c1,(zu FF).2.1.c.c2,(zu FF).2.1.c.c3,(zu FF).2.1.c.c4,(zu FF).2.1.c.c5⟩ (fun hHeld=>?_)
    clear hK K
    try simp only[oD10,Act.put,zA,zB,zC]
    refine tk 11 oD11 (.int .i64 rc) rfl (by kernel_rfl) (fun _ _ _ h=>h) (by rfl) (fun w hSw=>?_) hHeld ?_
    ·(try dsimp only at hSw)
     unfold oD11
     go_simp
    try simp only[oD11,Act.put,zA,zB,zC]
    refine wpAnyH_done (by kernel_rfl) ?_ _
    exact⟨(u16.heap.size,x1,z1,yq),rfl,FF⟩
 ·refine wp_region_held_drew (S:=(fun w'=>w'.cell? ⟨w.heap.size,0,none⟩=some (.int .i64 n0)∧w'.cell? ⟨w.heap.size,1,none⟩=some (.slice a0 len0 cap0)∧w'.cell? ⟨w.heap.size+1,0,none⟩=some (.int .i64 n1)∧w'.cell? ⟨w.heap.size+1,1,none⟩=some (.slice y1.aa y1.b.ac.length y1.ca)∧w'.cell? ⟨w.heap.size+1,2,none⟩=some (.slice y1.ai y1.b.ic.length y1.ci)∧w'.cell? ⟨w.heap.size+1,3,none⟩=some (.slice y1.ab y1.b.bs.length y1.cb)∧w'.cell? ⟨w.heap.size+1,4,none⟩=some (.slice y1.al y1.b.ls.length y1.cl)∧w'.cell? ⟨w.heap.size+1,5,none⟩=some (.slice y1.ats y1.b.ts.length y1.ct)∧w'.cell? ⟨w.heap.size+1,6,none⟩=some (.int .i64 y1.b.lot))) (by kernel_rfl) ⟨(zu L).c0,(zu L).c1,(zu M).c.f,(zu M).c.c0,(zu M).c.c1,(zu M).c.c2,(zu M).c.c3,(zu M).c.c4,(zu M).c.c5⟩ (fun hHeld=>?_)
  refine tk 0 oA0 (.agg #[.int .i64 n0,.slice a0 len0 cap0]) rfl (by kernel_rfl) (fun _ _ _ h=>h) (by rfl) (fun w hSw=>?_) hHeld ?_
  ·(try dsimp only at hSw)
   unfold oA0
   go_simp
  try simp only[oA0,Act.put,zA,zB,zC]
  refine tk 2 oA2 (.agg #[.int .i64 n1,.slice y1.aa y1.b.ac.length y1.ca,.slice y1.ai y1.b.ic.length y1.ci,.slice y1.ab y1.b.bs.length y1.cb,.slice y1.al y1.b.ls.length y1.cl,.slice y1.ats y1.b.ts.length y1.ct,.int .i64 y1.b.lot]) rfl (by kernel_rfl) (fun _ _ _ h=>h) (by rfl) (fun w hSw=>?_) hHeld ?_
  ·(try dsimp only at hSw)
   unfold oA2
   go_simp
  try simp only[oA2,Act.put,zA,zB,zC]
  refine tk 4 oA4 (.int .i64 a2) rfl (by kernel_rfl) (fun _ _ _ h=>h) (by rfl) (fun w hSw=>?_) hHeld ?_
  ·(try dsimp only at hSw)
   unfold oA4
   go_simp
  try simp only[oA4,Act.put,zA,zB,zC]
  refine wpAnyH_ready (rs:=[1,9]) (by kernel_rfl) (by simp) ?_
  refine AllReadyH.cons (o:=oA1) rfl (fun K hK=>?_) (AllReadyH.cons (o:=oA9) rfl (fun K hK=>?_) AllReadyH.nil)
  ·unfold oA1
   go_simp
   go_wp2_with fail
   first|refine(toD u0 n0 a0 len0 cap0 z0 l0 l20 (zu L).r).mono ?_|refine(toD u0.drew n0 a0 len0 cap0 z0 l0 l20 (show ReadsF u0.drew a0 z0 from(zu L).r)).mono ?_
   rintro e v1 ⟨x1,xr,xp,rfl,ox,b6⟩
   have b7:Below u0.heap.size u0 v1:=⟨b6.os,b6.tape,b6.output,b6.size,b6.block⟩
   have sv1:u0.heap.size≤v1.heap.size:=b6.size
   replace L:=zh ((zu L).step b7)
   replace M:=zh ((zu M).step b7)
   have E1:=zh (And.intro xr xp)
   have R1:=zh (OwD.rd ox (by rw[xp];omega))
   clear ox xr xp b6
   clear b7
   go_wp2_with fail
   refine hK.out _ _ ⟨(zu L).c0,(zu L).c1,(zu M).c.f,(zu M).c.c0,(zu M).c.c1,(zu M).c.c2,(zu M).c.c3,(zu M).c.c4,(zu M).c.c5⟩ (fun hHeld=>?_)
   clear hK K
   try simp only[oA1,Act.put,zA,zB,zC]
   refine wpAnyH_ready (rs:=[3,9]) (by kernel_rfl) (by simp) ?_
   refine AllReadyH.cons (o:=oA3) rfl (fun K hK=>?_) (AllReadyH.cons (o:=oA9) rfl (fun K hK=>?_) AllReadyH.nil)
   ·unfold oA3
    go_simp
    go_wp2_with fail
    first|refine(toSv v1 n1 y1 (zu M).r (zu SM)).mono ?_|refine(toSv v1.drew n1 y1 ((zu M).r.below (Below.refl _ _).drew) (zu SM)).mono ?_
    rintro e v2 ⟨z1,hz,rfl,oz,b6⟩
    have b7:Below v1.heap.size v1 v2:=⟨b6.os,b6.tape,b6.output,b6.size,b6.block⟩
    have sv2:v1.heap.size≤v2.heap.size:=b6.size
    replace L:=zh ((zu L).step b7)
    replace M:=zh ((zu M).step b7)
    replace R1:=zh ((zu R1).below b7)
    have E2:=zh hz
    have R2:=zh (oz.rd (by rw[hz];exact zu SM))
    clear oz hz b6
    clear b7
    go_wp2_with fail
    refine hK.out _ _ ⟨(zu L).c0,(zu L).c1,(zu M).c.f,(zu M).c.c0,(zu M).c.c1,(zu M).c.c2,(zu M).c.c3,(zu M).c.c4,(zu M).c.c5⟩ (fun hHeld=>?_)
    clear hK K
    try simp only[oA3,Act.put,zA,zB,zC]
    refine wpAnyH_ready (rs:=[5,9]) (by kernel_rfl) (by simp) ?_
    refine AllReadyH.cons (o:=oA5) rfl (fun K hK=>?_) (AllReadyH.cons (o:=oA9) rfl (fun K hK=>?_) AllReadyH.nil)
    ·unfold oA5
     go_simp
     go_wp2_with fail
     first|refine((zu SP) v2 x1 z1 (zu E1).1 (zu E1).2 (zu E2) (zu R1) (zu R2)).mono ?_|refine((zu SP) v2.drew x1 z1 (zu E1).1 (zu E1).2 (zu E2) ((zu R1).below (Below.refl _ _).drew) ((zu R2).below (Below.refl _ _).drew)).mono ?_
     rintro e v3 ⟨yq,hy2,rfl,oy,b6⟩
     have b7:Below v2.heap.size v2 v3:=⟨b6.os,b6.tape,b6.output,b6.size,b6.block⟩
     have sv3:v2.heap.size≤v3.heap.size:=b6.size
     replace L:=zh ((zu L).step b7)
     replace M:=zh ((zu M).step b7)
     replace R1:=zh ((zu R1).below b7)
     replace R2:=zh ((zu R2).below b7)
     obtain⟨hm2,hp2⟩:yq.room=rm∧yq.ps=rp:=by simpa using hy2
     have Y2:=zh (And.intro hm2 hp2)
     have RY:=zh (OwD.rd oy (by rw[hp2];exact zu LEN))
     have LY:=zh (fun(g:Nat) (e:(Value.slice yq.a yq.ps.length yq.c).ownBlock=some g)=>show v2.heap.size≤g∧g<v3.heap.size from own_lt oy e)
     clear oy hy2 hm2 hp2 b6
     clear b7
     go_wp2_with fail
     refine hK.out _ _ ⟨(zu L).c0,(zu L).c1,(zu M).c.f,(zu M).c.c0,(zu M).c.c1,(zu M).c.c2,(zu M).c.c3,(zu M).c.c4,(zu M).c.c5⟩ (fun hHeld=>?_)
     clear hK K
     try simp only[oA5,Act.put,zA,zB,zC]
     refine tk 6 oA6 (.tuple #[.agg #[.int .i64 yq.room,.slice yq.a yq.ps.length yq.c],.int .i64 rc]) rfl (by kernel_rfl) (fun _ _ _ h=>h) (by rfl) (fun w hSw=>?_) hHeld ?_
     ·(try dsimp only at hSw)
      unfold oA6
      go_simp
     try simp only[oA6,Act.put,zA,zB,zC]
     refine tk 7 oA7 (.agg #[.int .i64 yq.room,.slice yq.a yq.ps.length yq.c]) rfl (by kernel_rfl) (fun _ _ _ h=>h) (by rfl) (fun w hSw=>?_) hHeld ?_
     ·(try dsimp only at hSw)
      unfold oA7
      go_simp
     try simp only[oA7,Act.put,zA,zB,zC]
     refine tk 8 oA8 (.int .i64 rc) rfl (by kernel_rfl) (fun _ _ _ h=>h) (by rfl) (fun w hSw=>?_) hHeld ?_
     ·(try dsimp only at hSw)
      unfold oA8
      go_simp
     try simp only[oA8,Act.put,zA,zB,zC]
     refine wpAnyH_ready (rs:=[9]) (by kernel_rfl) (by simp) ?_
     refine AllReadyH.cons (o:=oA9) rfl (fun K hK=>?_) AllReadyH.nil
     unfold oA9
     go_simp
     have ba:=one_more v3 (.cells #[.int .i64 0,.slice none 0 0] 52)
     have BA:=zh (Bc.made (w:=v3) (base:=w.heap.size) (g:=v3.heap.size) (.int .i64 0) (.slice none 0 0) (zu L).b.size rfl)
     have GA:w.heap.size+2≤v3.heap.size:=by have:=(zu M).c.lt;omega
     replace L:=zh ((zu L).step ba)
     replace M:=zh ((zu M).step ba)
     replace R1:=zh ((zu R1).below ba)
     replace R2:=zh ((zu R2).below ba)
     replace RY:=zh ((zu RY).below ba)
     clear ba
     generalize hV:v3.alloc (.cells #[.int .i64 0,.slice none 0 0] 52)=v4 at *
     refine hK.out _ _ ⟨(zu L).c0,(zu L).c1,(zu M).c.f,(zu M).c.c0,(zu M).c.c1,(zu M).c.c2,(zu M).c.c3,(zu M).c.c4,(zu M).c.c5⟩ (fun hHeld=>?_)
     clear hK K
     try simp only[oA9,Act.put,zA,zB,zC]
     have bi:=boxed_in (y:=yq) (zu BA)
     have lo:=low_of bi.1 (zu BA).lt.2
     have FF:=zh (show La w _ n0 a0 len0 cap0 z0∧Ls w _ (w.heap.size+1) n1 y1∧Kd _ (v3.heap.size) yq∧RdD _ yq∧(yq.room=rm∧yq.ps=rp)∧w.heap.size+2≤v3.heap.size from⟨La.turn (zu H) (zu L) lo (by omega),Ls.low (zu HR) (zu M) lo (by omega) (by omega),bi.2,rd_kept (zu RY) bi.1 (fun g e=>by have:=(zu LY) g (by rw[e];rfl);omega),zu Y2,by omega⟩)
     have f0:=(zu BA).free 0
     have f1:=(zu BA).free 1
     have b0:=(zu BA).c0
     have b1:=(zu BA).c1
     refine wpAnyH_ready (rs:=[10]) (by kernel_rfl) (by simp) ?_
     refine AllReadyH.cons (o:=oA10) rfl (fun K hK=>?_) AllReadyH.nil
     unfold oA10
     go_simp
     refine hK.out _ _ ⟨(zu FF).1.c0,(zu FF).1.c1,(zu FF).2.1.c.f,(zu FF).2.1.c.c0,(zu FF).2.1.c.c1,(zu FF).2.1.c.c2,(zu FF).2.1.c.c3,(zu FF).2.1.c.c4,(zu FF).2.1.c.c5⟩ (fun hHeld=>?_)
     clear hK K
     try simp only[oA10,Act.put,zA,zB,zC]
     refine tk 11 oA11 (.int .i64 rc) rfl (by kernel_rfl) (fun _ _ _ h=>h) (by rfl) (fun w hSw=>?_) hHeld ?_
     ·(try dsimp only at hSw)
      unfold oA11
      go_simp
     try simp only[oA11,Act.put,zA,zB,zC]
     refine wpAnyH_done (by kernel_rfl) ?_ _
     exact⟨(v3.heap.size,x1,z1,yq),rfl,FF⟩
    ·unfold oA9
     go_simp
     have ba:=one_more v2 (.cells #[.int .i64 0,.slice none 0 0] 52)
     have BA:=zh (Bc.made (w:=v2) (base:=w.heap.size) (g:=v2.heap.size) (.int .i64 0) (.slice none 0 0) (zu L).b.size rfl)
     have GA:w.heap.size+2≤v2.heap.size:=by have:=(zu M).c.lt;omega
     replace L:=zh ((zu L).step ba)
     replace M:=zh ((zu M).step ba)
     replace R1:=zh ((zu R1).below ba)
     replace R2:=zh ((zu R2).below ba)
     clear ba
     generalize hV:v2.alloc (.cells #[.int .i64 0,.slice none 0 0] 52)=v5 at *
     refine hK.out _ _ ⟨(zu L).c0,(zu L).c1,(zu M).c.f,(zu M).c.c0,(zu M).c.c1,(zu M).c.c2,(zu M).c.c3,(zu M).c.c4,(zu M).c.c5⟩ (fun hHeld=>?_)
     clear hK K
     try simp only[oA9,Act.put,zA,zB,zC]
     refine wpAnyH_ready (rs:=[5]) (by kernel_rfl) (by simp) ?_
     refine AllReadyH.cons (o:=oA5) rfl (fun K hK=>?_) AllReadyH.nil
     unfold oA5
     go_simp
     have lbx:=(zu BA).lt.2
     go_wp2_with fail
     first|refine((zu SP) v5 x1 z1 (zu E1).1 (zu E1).2 (zu E2) (zu R1) (zu R2)).mono ?_|refine((zu SP) v5.drew x1 z1 (zu E1).1 (zu E1).2 (zu E2) ((zu R1).below (Below.refl _ _).drew) ((zu R2).below (Below.refl _ _).drew)).mono ?_
     rintro e v6 ⟨yq,hy2,rfl,oy,b6⟩
     have b7:Below v5.heap.size v5 v6:=⟨b6.os,b6.tape,b6.output,b6.size,b6.block⟩
     have sv6:v5.heap.size≤v6.heap.size:=b6.size
     replace L:=zh ((zu L).step b7)
     replace M:=zh ((zu M).step b7)
     replace R1:=zh ((zu R1).below b7)
     replace R2:=zh ((zu R2).below b7)
     replace BA:=zh ((zu BA).below b7 (zu BA).lt.2)
     obtain⟨hm2,hp2⟩:yq.room=rm∧yq.ps=rp:=by simpa using hy2
     have Y2:=zh (And.intro hm2 hp2)
     have RY:=zh (OwD.rd oy (by rw[hp2];exact zu LEN))
     have LY:=zh (fun(g:Nat) (e:(Value.slice yq.a yq.ps.length yq.c).ownBlock=some g)=>show v5.heap.size≤g∧g<v6.heap.size from own_lt oy e)
     clear oy hy2 hm2 hp2 b6
     clear b7
     go_wp2_with fail
     refine hK.out _ _ ⟨(zu L).c0,(zu L).c1,(zu M).c.f,(zu M).c.c0,(zu M).c.c1,(zu M).c.c2,(zu M).c.c3,(zu M).c.c4,(zu M).c.c5⟩ (fun hHeld=>?_)
     clear hK K
     try simp only[oA5,Act.put,zA,zB,zC]
     refine tk 6 oA6 (.tuple #[.agg #[.int .i64 yq.room,.slice yq.a yq.ps.length yq.c],.int .i64 rc]) rfl (by kernel_rfl) (fun _ _ _ h=>h) (by rfl) (fun w hSw=>?_) hHeld ?_
     ·(try dsimp only at hSw)
      unfold oA6
      go_simp
     try simp only[oA6,Act.put,zA,zB,zC]
     refine tk 7 oA7 (.agg #[.int .i64 yq.room,.slice yq.a yq.ps.length yq.c]) rfl (by kernel_rfl) (fun _ _ _ h=>h) (by rfl) (fun w hSw=>?_) hHeld ?_
     ·(try dsimp only at hSw)
      unfold oA7
      go_simp
     try simp only[oA7,Act.put,zA,zB,zC]
     refine tk 8 oA8 (.int .i64 rc) rfl (by kernel_rfl) (fun _ _ _ h=>h) (by rfl) (fun w hSw=>?_) hHeld ?_
     ·(try dsimp only at hSw)
      unfold oA8
      go_simp
     try simp only[oA8,Act.put,zA,zB,zC]
     have bi:=boxed_in (y:=yq) (zu BA)
     have lo:=low_of bi.1 (zu BA).lt.2
     have FF:=zh (show La w _ n0 a0 len0 cap0 z0∧Ls w _ (w.heap.size+1) n1 y1∧Kd _ (v2.heap.size) yq∧RdD _ yq∧(yq.room=rm∧yq.ps=rp)∧w.heap.size+2≤v2.heap.size from⟨La.turn (zu H) (zu L) lo (by omega),Ls.low (zu HR) (zu M) lo (by omega) (by omega),bi.2,rd_kept (zu RY) bi.1 (fun g e=>by have:=(zu LY) g (by rw[e];rfl);omega),zu Y2,by omega⟩)
     have f0:=(zu BA).free 0
     have f1:=(zu BA).free 1
     have b0:=(zu BA).c0
     have b1:=(zu BA).c1
     refine wpAnyH_ready (rs:=[10]) (by kernel_rfl) (by simp) ?_
     refine AllReadyH.cons (o:=oA10) rfl (fun K hK=>?_) AllReadyH.nil
     unfold oA10
     go_simp
     refine hK.out _ _ ⟨(zu FF).1.c0,(zu FF).1.c1,(zu FF).2.1.c.f,(zu FF).2.1.c.c0,(zu FF).2.1.c.c1,(zu FF).2.1.c.c2,(zu FF).2.1.c.c3,(zu FF).2.1.c.c4,(zu FF).2.1.c.c5⟩ (fun hHeld=>?_)
     clear hK K
     try simp only[oA10,Act.put,zA,zB,zC]
     refine tk 11 oA11 (.int .i64 rc) rfl (by kernel_rfl) (fun _ _ _ h=>h) (by rfl) (fun w hSw=>?_) hHeld ?_
     ·(try dsimp only at hSw)
      unfold oA11
      go_simp
     try simp only[oA11,Act.put,zA,zB,zC]
     refine wpAnyH_done (by kernel_rfl) ?_ _
     exact⟨(v2.heap.size,x1,z1,yq),rfl,FF⟩
   ·unfold oA9
    go_simp
    have ba:=one_more v1 (.cells #[.int .i64 0,.slice none 0 0] 52)
    have BA:=zh (Bc.made (w:=v1) (base:=w.heap.size) (g:=v1.heap.size) (.int .i64 0) (.slice none 0 0) (zu L).b.size rfl)
    have GA:w.heap.size+2≤v1.heap.size:=by have:=(zu M).c.lt;omega
    replace L:=zh ((zu L).step ba)
    replace M:=zh ((zu M).step ba)
    replace R1:=zh ((zu R1).below ba)
    clear ba
    generalize hV:v1.alloc (.cells #[.int .i64 0,.slice none 0 0] 52)=v7 at *
    refine hK.out _ _ ⟨(zu L).c0,(zu L).c1,(zu M).c.f,(zu M).c.c0,(zu M).c.c1,(zu M).c.c2,(zu M).c.c3,(zu M).c.c4,(zu M).c.c5⟩ (fun hHeld=>?_)
    clear hK K
    try simp only[oA9,Act.put,zA,zB,zC]
    refine wpAnyH_ready (rs:=[3]) (by kernel_rfl) (by simp) ?_
    refine AllReadyH.cons (o:=oA3) rfl (fun K hK=>?_) AllReadyH.nil
    unfold oA3
    go_simp
    go_wp2_with fail
    first|refine(toSv v7 n1 y1 (zu M).r (zu SM)).mono ?_|refine(toSv v7.drew n1 y1 ((zu M).r.below (Below.refl _ _).drew) (zu SM)).mono ?_
    rintro e v8 ⟨z1,hz,rfl,oz,b6⟩
    have b7:Below v7.heap.size v7 v8:=⟨b6.os,b6.tape,b6.output,b6.size,b6.block⟩
    have sv8:v7.heap.size≤v8.heap.size:=b6.size
    replace L:=zh ((zu L).step b7)
    replace M:=zh ((zu M).step b7)
    replace R1:=zh ((zu R1).below b7)
    replace BA:=zh ((zu BA).below b7 (zu BA).lt.2)
    have E2:=zh hz
    have R2:=zh (oz.rd (by rw[hz];exact zu SM))
    clear oz hz b6
    clear b7
    go_wp2_with fail
    refine hK.out _ _ ⟨(zu L).c0,(zu L).c1,(zu M).c.f,(zu M).c.c0,(zu M).c.c1,(zu M).c.c2,(zu M).c.c3,(zu M).c.c4,(zu M).c.c5⟩ (fun hHeld=>?_)
    clear hK K
    try simp only[oA3,Act.put,zA,zB,zC]
    refine wpAnyH_ready (rs:=[5]) (by kernel_rfl) (by simp) ?_
    refine AllReadyH.cons (o:=oA5) rfl (fun K hK=>?_) AllReadyH.nil
    unfold oA5
    go_simp
    have lbx:=(zu BA).lt.2
    go_wp2_with fail
    first|refine((zu SP) v8 x1 z1 (zu E1).1 (zu E1).2 (zu E2) (zu R1) (zu R2)).mono ?_|refine((zu SP) v8.drew x1 z1 (zu E1).1 (zu E1).2 (zu E2) ((zu R1).below (Below.refl _ _).drew) ((zu R2).below (Below.refl _ _).drew)).mono ?_
    rintro e v9 ⟨yq,hy2,rfl,oy,b6⟩
    have b7:Below v8.heap.size v8 v9:=⟨b6.os,b6.tape,b6.output,b6.size,b6.block⟩
    have sv9:v8.heap.size≤v9.heap.size:=b6.size
    replace L:=zh ((zu L).step b7)
    replace M:=zh ((zu M).step b7)
    replace R1:=zh ((zu R1).below b7)
    replace R2:=zh ((zu R2).below b7)
    replace BA:=zh ((zu BA).below b7 (zu BA).lt.2)
    obtain⟨hm2,hp2⟩:yq.room=rm∧yq.ps=rp:=by simpa using hy2
    have Y2:=zh (And.intro hm2 hp2)
    have RY:=zh (OwD.rd oy (by rw[hp2];exact zu LEN))
    have LY:=zh (fun(g:Nat) (e:(Value.slice yq.a yq.ps.length yq.c).ownBlock=some g)=>show v8.heap.size≤g∧g<v9.heap.size from own_lt oy e)
    clear oy hy2 hm2 hp2 b6
    clear b7
    go_wp2_with fail
    refine hK.out _ _ ⟨(zu L).c0,(zu L).c1,(zu M).c.f,(zu M).c.c0,(zu M).c.c1,(zu M).c.c2,(zu M).c.c3,(zu M).c.c4,(zu M).c.c5⟩ (fun hHeld=>?_)
    clear hK K
    try simp only[oA5,Act.put,zA,zB,zC]
    refine tk 6 oA6 (.tuple #[.agg #[.int .i64 yq.room,.slice yq.a yq.ps.length yq.c],.int .i64 rc]) rfl (by kernel_rfl) (fun _ _ _ h=>h) (by rfl) (fun w hSw=>?_) hHeld ?_
    ·(try dsimp only at hSw)
     unfold oA6
     go_simp
    try simp only[oA6,Act.put,zA,zB,zC]
    refine tk 7 oA7 (.agg #[.int .i64 yq.room,.slice yq.a yq.ps.length yq.c]) rfl (by kernel_rfl) (fun _ _ _ h=>h) (by rfl) (fun w hSw=>?_) hHeld ?_
    ·(try dsimp only at hSw)
     unfold oA7
     go_simp
    try simp only[oA7,Act.put,zA,zB,zC]
    refine tk 8 oA8 (.int .i64 rc) rfl (by kernel_rfl) (fun _ _ _ h=>h) (by rfl) (fun w hSw=>?_) hHeld ?_
    ·(try dsimp only at hSw)
     unfold oA8
     go_simp
    try simp only[oA8,Act.put,zA,zB,zC]
    have bi:=boxed_in (y:=yq) (zu BA)
    have lo:=low_of bi.1 (zu BA).lt.2
    have FF:=zh (show La w _ n0 a0 len0 cap0 z0∧Ls w _ (w.heap.size+1) n1 y1∧Kd _ (v1.heap.size) yq∧RdD _ yq∧(yq.room=rm∧yq.ps=rp)∧w.heap.size+2≤v1.heap.size from⟨La.turn (zu H) (zu L) lo (by omega),Ls.low (zu HR) (zu M) lo (by omega) (by omega),bi.2,rd_kept (zu RY) bi.1 (fun g e=>by have:=(zu LY) g (by rw[e];rfl);omega),zu Y2,by omega⟩)
    have f0:=(zu BA).free 0
    have f1:=(zu BA).free 1
    have b0:=(zu BA).c0
    have b1:=(zu BA).c1
    refine wpAnyH_ready (rs:=[10]) (by kernel_rfl) (by simp) ?_
    refine AllReadyH.cons (o:=oA10) rfl (fun K hK=>?_) AllReadyH.nil
    unfold oA10
    go_simp
    refine hK.out _ _ ⟨(zu FF).1.c0,(zu FF).1.c1,(zu FF).2.1.c.f,(zu FF).2.1.c.c0,(zu FF).2.1.c.c1,(zu FF).2.1.c.c2,(zu FF).2.1.c.c3,(zu FF).2.1.c.c4,(zu FF).2.1.c.c5⟩ (fun hHeld=>?_)
    clear hK K
    try simp only[oA10,Act.put,zA,zB,zC]
    refine tk 11 oA11 (.int .i64 rc) rfl (by kernel_rfl) (fun _ _ _ h=>h) (by rfl) (fun w hSw=>?_) hHeld ?_
    ·(try dsimp only at hSw)
     unfold oA11
     go_simp
    try simp only[oA11,Act.put,zA,zB,zC]
    refine wpAnyH_done (by kernel_rfl) ?_ _
    exact⟨(v1.heap.size,x1,z1,yq),rfl,FF⟩
  ·unfold oA9
   go_simp
   have ba:=one_more u0 (.cells #[.int .i64 0,.slice none 0 0] 52)
   have BA:=zh (Bc.made (w:=u0) (base:=w.heap.size) (g:=u0.heap.size) (.int .i64 0) (.slice none 0 0) (zu L).b.size rfl)
   have GA:w.heap.size+2≤u0.heap.size:=by have:=(zu M).c.lt;omega
   replace L:=zh ((zu L).step ba)
   replace M:=zh ((zu M).step ba)
   clear ba
   generalize hV:u0.alloc (.cells #[.int .i64 0,.slice none 0 0] 52)=v10 at *
   refine hK.out _ _ ⟨(zu L).c0,(zu L).c1,(zu M).c.f,(zu M).c.c0,(zu M).c.c1,(zu M).c.c2,(zu M).c.c3,(zu M).c.c4,(zu M).c.c5⟩ (fun hHeld=>?_)
   clear hK K
   try simp only[oA9,Act.put,zA,zB,zC]
   refine wpAnyH_ready (rs:=[1]) (by kernel_rfl) (by simp) ?_
   refine AllReadyH.cons (o:=oA1) rfl (fun K hK=>?_) AllReadyH.nil
   unfold oA1
   go_simp
   go_wp2_with fail
   first|refine(toD v10 n0 a0 len0 cap0 z0 l0 l20 (zu L).r).mono ?_|refine(toD v10.drew n0 a0 len0 cap0 z0 l0 l20 (show ReadsF v10.drew a0 z0 from(zu L).r)).mono ?_
   rintro e v11 ⟨x1,xr,xp,rfl,ox,b6⟩
   have b7:Below v10.heap.size v10 v11:=⟨b6.os,b6.tape,b6.output,b6.size,b6.block⟩
   have sv11:v10.heap.size≤v11.heap.size:=b6.size
   replace L:=zh ((zu L).step b7)
   replace M:=zh ((zu M).step b7)
   replace BA:=zh ((zu BA).below b7 (zu BA).lt.2)
   have E1:=zh (And.intro xr xp)
   have R1:=zh (OwD.rd ox (by rw[xp];omega))
   clear ox xr xp b6
   clear b7
   go_wp2_with fail
   refine hK.out _ _ ⟨(zu L).c0,(zu L).c1,(zu M).c.f,(zu M).c.c0,(zu M).c.c1,(zu M).c.c2,(zu M).c.c3,(zu M).c.c4,(zu M).c.c5⟩ (fun hHeld=>?_)
   clear hK K
   try simp only[oA1,Act.put,zA,zB,zC]
   refine wpAnyH_ready (rs:=[3]) (by kernel_rfl) (by simp) ?_
   refine AllReadyH.cons (o:=oA3) rfl (fun K hK=>?_) AllReadyH.nil
   unfold oA3
   go_simp
   go_wp2_with fail
   first|refine(toSv v11 n1 y1 (zu M).r (zu SM)).mono ?_|refine(toSv v11.drew n1 y1 ((zu M).r.below (Below.refl _ _).drew) (zu SM)).mono ?_
   rintro e v12 ⟨z1,hz,rfl,oz,b6⟩
   have b7:Below v11.heap.size v11 v12:=⟨b6.os,b6.tape,b6.output,b6.size,b6.block⟩
   have sv12:v11.heap.size≤v12.heap.size:=b6.size
   replace L:=zh ((zu L).step b7)
   replace M:=zh ((zu M).step b7)
   replace R1:=zh ((zu R1).below b7)
   replace BA:=zh ((zu BA).below b7 (zu BA).lt.2)
   have E2:=zh hz
   have R2:=zh (oz.rd (by rw[hz];exact zu SM))
   clear oz hz b6
   clear b7
   go_wp2_with fail
   refine hK.out _ _ ⟨(zu L).c0,(zu L).c1,(zu M).c.f,(zu M).c.c0,(zu M).c.c1,(zu M).c.c2,(zu M).c.c3,(zu M).c.c4,(zu M).c.c5⟩ (fun hHeld=>?_)
   clear hK K
   try simp only[oA3,Act.put,zA,zB,zC]
   refine wpAnyH_ready (rs:=[5]) (by kernel_rfl) (by simp) ?_
   refine AllReadyH.cons (o:=oA5) rfl (fun K hK=>?_) AllReadyH.nil
   unfold oA5
   go_simp
   have lbx:=(zu BA).lt.2
   go_wp2_with fail
   first|refine((zu SP) v12 x1 z1 (zu E1).1 (zu E1).2 (zu E2) (zu R1) (zu R2)).mono ?_|refine((zu SP) v12.drew x1 z1 (zu E1).1 (zu E1).2 (zu E2) ((zu R1).below (Below.refl _ _).drew) ((zu R2).below (Below.refl _ _).drew)).mono ?_
   rintro e v13 ⟨yq,hy2,rfl,oy,b6⟩
   have b7:Below v12.heap.size v12 v13:=⟨b6.os,b6.tape,b6.output,b6.size,b6.block⟩
   have sv13:v12.heap.size≤v13.heap.size:=b6.size
   replace L:=zh ((zu L).step b7)
   replace M:=zh ((zu M).step b7)
   replace R1:=zh ((zu R1).below b7)
   replace R2:=zh ((zu R2).below b7)
   replace BA:=zh ((zu BA).below b7 (zu BA).lt.2)
   obtain⟨hm2,hp2⟩:yq.room=rm∧yq.ps=rp:=by simpa using hy2
   have Y2:=zh (And.intro hm2 hp2)
   have RY:=zh (OwD.rd oy (by rw[hp2];exact zu LEN))
   have LY:=zh (fun(g:Nat) (e:(Value.slice yq.a yq.ps.length yq.c).ownBlock=some g)=>show v12.heap.size≤g∧g<v13.heap.size from own_lt oy e)
   clear oy hy2 hm2 hp2 b6
   clear b7
   go_wp2_with fail
   refine hK.out _ _ ⟨(zu L).c0,(zu L).c1,(zu M).c.f,(zu M).c.c0,(zu M).c.c1,(zu M).c.c2,(zu M).c.c3,(zu M).c.c4,(zu M).c.c5⟩ (fun hHeld=>?_)
   clear hK K
   try simp only[oA5,Act.put,zA,zB,zC]
   refine tk 6 oA6 (.tuple #[.agg #[.int .i64 yq.room,.slice yq.a yq.ps.length yq.c],.int .i64 rc]) rfl (by kernel_rfl) (fun _ _ _ h=>h) (by rfl) (fun w hSw=>?_) hHeld ?_
   ·(try dsimp only at hSw)
    unfold oA6
    go_simp
   try simp only[oA6,Act.put,zA,zB,zC]
   refine tk 7 oA7 (.agg #[.int .i64 yq.room,.slice yq.a yq.ps.length yq.c]) rfl (by kernel_rfl) (fun _ _ _ h=>h) (by rfl) (fun w hSw=>?_) hHeld ?_
   ·(try dsimp only at hSw)
    unfold oA7
    go_simp
   try simp only[oA7,Act.put,zA,zB,zC]
   refine tk 8 oA8 (.int .i64 rc) rfl (by kernel_rfl) (fun _ _ _ h=>h) (by rfl) (fun w hSw=>?_) hHeld ?_
   ·(try dsimp only at hSw)
    unfold oA8
    go_simp
   try simp only[oA8,Act.put,zA,zB,zC]
   have bi:=boxed_in (y:=yq) (zu BA)
   have lo:=low_of bi.1 (zu BA).lt.2
   have FF:=zh (show La w _ n0 a0 len0 cap0 z0∧Ls w _ (w.heap.size+1) n1 y1∧Kd _ (u0.heap.size) yq∧RdD _ yq∧(yq.room=rm∧yq.ps=rp)∧w.heap.size+2≤u0.heap.size from⟨La.turn (zu H) (zu L) lo (by omega),Ls.low (zu HR) (zu M) lo (by omega) (by omega),bi.2,rd_kept (zu RY) bi.1 (fun g e=>by have:=(zu LY) g (by rw[e];rfl);omega),zu Y2,by omega⟩)
   have f0:=(zu BA).free 0
   have f1:=(zu BA).free 1
   have b0:=(zu BA).c0
   have b1:=(zu BA).c1
   refine wpAnyH_ready (rs:=[10]) (by kernel_rfl) (by simp) ?_
   refine AllReadyH.cons (o:=oA10) rfl (fun K hK=>?_) AllReadyH.nil
   unfold oA10
   go_simp
   refine hK.out _ _ ⟨(zu FF).1.c0,(zu FF).1.c1,(zu FF).2.1.c.f,(zu FF).2.1.c.c0,(zu FF).2.1.c.c1,(zu FF).2.1.c.c2,(zu FF).2.1.c.c3,(zu FF).2.1.c.c4,(zu FF).2.1.c.c5⟩ (fun hHeld=>?_)
   clear hK K
   try simp only[oA10,Act.put,zA,zB,zC]
   refine tk 11 oA11 (.int .i64 rc) rfl (by kernel_rfl) (fun _ _ _ h=>h) (by rfl) (fun w hSw=>?_) hHeld ?_
   ·(try dsimp only at hSw)
    unfold oA11
    go_simp
   try simp only[oA11,Act.put,zA,zB,zC]
   refine wpAnyH_done (by kernel_rfl) ?_ _
   exact⟨(u0.heap.size,x1,z1,yq),rfl,FF⟩
set_option maxRecDepth 100000 in
theorem lifted(os:Os)(started:os.Started)(H:Type)(enc:TypeId×Value→H):
  ReturnsInHanded {} Tryz.checked os 4 .any (Rows.fnExactSaveStepSpec.pre6 enc Tryz.prog Tryz.f4 Rows.fnExactSaveStepRow.domain false) (Rows.fnExactSaveStepSpec.post enc Tryz.prog Tryz.f4 false true false false):=by
 refine returnsInHanded_of_change (C:=Tryz.checked) own started (by kernel_rfl) Tryz.func4
  (ChangeSpec.witness6 (enc:=enc) (C:=Tryz.checked) false ⟨#[],#[.agg #[.int .i64 0,.slice none 0 0],.agg #[.int .i64 0,.slice none 0 0,.slice none 0 0,.slice none 0 0,.slice none 0 0,.slice none 0 0,.int .i64 0],.int .i64 0],[]⟩ 8 (by kernel_rfl) (by kernel_rfl) (by kernel_rfl) (by kernel_rfl)) ?_
 intro W base args ds gs before hval0 hW hcnd _
 have hval:∀(j:Nat) t v,Tryz.f4.params[j]?=some t→args[j]?=some v→Value.okWide Tryz.prog W .any base t v:=hval0
 have hW':=hW
 obtain⟨p,q,hA0,hV,rfl,hfz,hnd⟩:=hW
 have hA:DataW.TrodAll enc Tryz.prog W 0 (fun _=>true) true Tryz.f4.params.toList args.toList ds p:=hA0
 rw[Tryz.params4] at hA hval
 obtain⟨v0,vs0,d0,ds0,p0,q0,hargs,rfl,rfl,h0,r0⟩:=trodAll_cons hA
 obtain⟨v1,vs1,d1,ds1,p1,q1,rfl,rfl,rfl,h1,r1⟩:=trodAll_cons r0
 obtain⟨v2,vs2,d2,ds2,p2,q2,rfl,rfl,rfl,h2,r2⟩:=trodAll_cons r1
 obtain⟨rfl,rfl,rfl⟩:=trodAll_nil r2
 obtain rfl:args= #[v0,v1,v2]:=by cases args;simp_all
 obtain⟨rfl,rfl⟩:=trodVars_none hV
 have k0:=h0
 have lt0:∀x∈p0,x.block<W.heap.size:=by obtain⟨m,hm⟩:=k0;exact DataW.trod_lt m _ _ _ hm
 obtain⟨n0,a0,len0,cap0,z0,rfl,l0,g0,w0,f0,_⟩:=OpensF14.open_disk (hval 0 48 v0 rfl rfl) h0
 have k1:=h1
 have lt1:∀x∈p1,x.block<W.heap.size:=by obtain⟨m,hm⟩:=k1;exact DataW.trod_lt m _ _ _ hm
 obtain⟨n1,y1,rfl,rk1,f1⟩:=LawV16.open_save (hval 1 30 v1 rfl rfl) h1
 obtain⟨a2,rfl,rfl,rfl,w2⟩:=open_int Tryz.underlying3 (hval 2 3 v2 rfl rfl) h2
 clear hA0 hval0
 refine(walk n0 a0 len0 cap0 z0 n1 y1 a2 W l0 g0 w0 f0 rk1 f1 w2).mono fun e W' ⟨he,bel⟩=>?_
 subst he
 exact⟨_,rfl,_,_,_,[],_,[],hW',trodAll_mk1 (shut_bool Tryz.underlying4 _),(trodAll_cons_mk (Below.trod laidOut (by kernel_rfl) (of_decide_eq_true (by kernel_rfl)) k0 bel lt0) (trodAll_cons_mk (Below.trod laidOut (by kernel_rfl) (of_decide_eq_true (by kernel_rfl)) k1 bel lt1) (trodAll_cons_mk (shut_int Tryz.underlying3 w2) trodAll_mk0))),rfl,bel.frame _,fun h=>by cases h⟩
theorem over:Rows.fnExactSaveStepRow.holds Tryz.pinned (OpenSpec.ofChange Rows.fnExactSaveStepSpec):=
 OpenClaim.holds_of_wide 4 Tryz.f4 rfl rfl rfl rfl rfl rfl rfl ⟨rfl,rfl,rfl,rfl,rfl⟩ rfl rfl rfl rfl rfl (by kernel_rfl) Tryz.func4 (by kernel_rfl)
  (of_decide_eq_true (by kernel_rfl)) (by unfold Func.isWrapper;first|(rw[if_pos (by decide+kernel)];kernel_rfl)|(rw[if_neg (by decide+kernel)];exact⟨rfl,rfl⟩))
  (fun os started H enc _=>lifted os started H enc)
theorem proved:Rows.FnExactSaveStepSaid:=over
#print axioms proved
end Go.Proofs.YtagmnociflkhcaaGreat.fnExactSaveStep
