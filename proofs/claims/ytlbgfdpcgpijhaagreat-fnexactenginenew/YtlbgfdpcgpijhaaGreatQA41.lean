/- Texts of one proof. -/
import Derived.Test.YtlbgfdpcgpijhaaGreatQA38
import Derived.Test.YtlbgfdpcgpijhaaGreatQA40
open Go.ChangeShapes Go.WideShapes Go.ChangeAt Go.RowKit
set_option linter.unusedVariables false
set_option linter.unusedSimpArgs false
set_option maxRecDepth 100000
set_option maxHeartbeats 32000000
namespace Go.Proofs.YtlbgfdpcgpijhaaGreat
namespace IEngOk17
open Fil14 OpensF14 DiskH14 DkH14 SDk14 SOk14 EBx17 SSameZ17 SEngOk17
open BMem (Bx Rd)
open Bks (Bk Ok)
open Lots (Says says_of)
open SegP15 (okS)
theorem iLate(w:World)(nm:Int)(s0 s:ByteArray)(eb:Bool)(heb:s.toList.isEmpty=eb):Calls Tryz.prog 86 #[.agg #[.int .i64 nm,.string s0,.string s]] w fun e w'=>e= .returned (.bool (!eb))∧Below w.heap.size w w':=by
 have BB:Below w.heap.size w (w.alloc (.cells #[.int .i64 nm,.string s0,.string s] 64)):=(Below.refl _ _).alloc (Nat.le_refl _) _
 have B1:=zh BB
 clear BB
 go_enter Tryz.func86,Tryz.ntmps86
 cases eb
 ·go_wp2
  go_ret
  exact⟨by simp[heb],zu B1⟩
 ·go_wp2
  go_ret
  exact⟨by simp[heb],zu B1⟩
theorem iIndexL(w:World)(x:Dx)(hr:RdD w x):
  Calls Tryz.prog 146 #[.slice x.a x.ps.length x.c,.func (.func 86) #[] #[]] w fun e w'=>∃r:Int,((r= -1∧NoLate x.ps x.ps.length)∨(0≤r∧¬NoLate x.ps x.ps.length))∧e= .returned (.int .i64 r)∧Below w.heap.size w w':=by
 have H:=zh hr
 have hK:∀(args:Array Value) (u:World),(callFunc 86 args).run Tryz.prog u= .ok (.enter 86 args) u:=fun _ _=>IRead.enters Tryz.func86 (by kernel_rfl) rfl _ _
 have h20:=hr.n
 clear hr
 go_enter Tryz.func146,Tryz.ntmps146
 go_wp2_with fail
 go_loopw [8] (fun i wr=>∃(k:Nat),k≤x.ps.length∧i= .int .i64 k∧Hid (NoLate x.ps k)∧Hid (Below w.heap.size w wr)) (fun i _=>x.ps.length-(intOf i).toNat)
 case atStart=>exact⟨0,by omega,rfl,zh (fun j hj=>by omega),zh (Below.refl _ _)⟩
 case round=>
  obtain⟨k,hk,rfl,HN,HB⟩:=hrel
  by_cases t:k<x.ps.length
  ·have kt:(k:Int)<x.ps.length:=by omega
   obtain⟨g,ea,lg,d0,d1,d2⟩:=cells_of ((zu H).below (zu HB)) t
   have LN:=zh (fun e=>late_next (zu HN) (k:=k) e)
   have NV:=zh (fun(h:NoLate x.ps x.ps.length)=>h k t)
   generalize (elF x.ps k).2.2=s at *
   generalize (elF x.ps k).2.1=s1 at *
   generalize (elF x.ps k).1=s0 at *
   rw[ea]
   obtain⟨eb,heb⟩:∃eb,s.toList.isEmpty=eb:=⟨_,rfl⟩
   go_wp2_with fail
   refine(iLate _ s0 s1 s eb heb).mono ?_
   rintro e w1 ⟨rfl,b1⟩
   have B1:=zh ((zu HB).trans (b1.mono (zu HB).size))
   clear b1 d0 d1 d2 HN HB
   rw[heb] at LN NV
   clear heb
   cases eb with
   |true=>
    have N:=zh ((zu LN) rfl)
    clear LN NV
    go_wp2
    go_roundw
    case rel=>exact⟨k+1,by omega,by go_num,N,B1⟩
    case measure=>simp[intOf];omega
   |false=>
    have N:=zh (show ¬NoLate x.ps x.ps.length from fun h=>by have:=(zu NV) h;simp at this)
    clear LN NV
    go_wp2
    go_ret
    exact⟨k,.inr ⟨by omega,zu N⟩,rfl,zu B1⟩
  ·have e:k=x.ps.length:=by omega
   have HN2:=zh (show NoLate x.ps x.ps.length from by rw[←e];exact zu HN)
   clear HN
   subst e
   go_wp2
   go_ret
   exact⟨-1,.inl ⟨rfl,zu HN2⟩,rfl,zu HB⟩
theorem iContainsL(w:World)(x:Dx)(b:Bool)(hr:RdD w x)(hb:Says b (NoLate x.ps x.ps.length)):
  Calls Tryz.prog 85 #[.slice x.a x.ps.length x.c,.func (.func 86) #[] #[]] w fun e w'=>e= .returned (.bool (!b))∧Below w.heap.size w w':=by
 have T:=zh hb
 have H:=zh hr
 clear hb hr
 go_enter Tryz.func85,Tryz.ntmps85
 go_wp2_with fail
 refine(iIndexL _ x (zu H)).mono ?_
 rintro e w1 ⟨r,hr,rfl,b1⟩
 have B1:=zh b1
 have hd:decide (0≤r)= !b:=by
  rcases hr with⟨rfl,hr⟩|⟨h0,hr⟩
  ·rw[(zu T).of hr];rfl
  ·rw[(zu T).not hr];exact decide_eq_true h0
 clear b1 hr
 go_wp2
 go_ret
 exact⟨rfl,zu B1⟩
theorem iAllSafe(w:World)(x:Dx)(b:Bool)(hr:RdD w x)(hb:Says b (NoLate x.ps x.ps.length)):
  Calls Tryz.prog 33 #[.agg #[.int .i64 x.room,.slice x.a x.ps.length x.c]] w fun e w'=>e= .returned (.bool b)∧Below w.heap.size w w':=by
 have T:=zh hb
 have G0:=zh (Wd.made hr 38)
 clear hb hr
 have c1:=(zu G0).c1
 go_enter Tryz.func33,Tryz.ntmps33
 go_wp2_with fail
 generalize w.alloc (.cells #[.int .i64 x.room,.slice x.a x.ps.length x.c] 38)=W at *
 refine(iContainsL _ x b (zu G0).r (zu T)).mono ?_
 rintro e w1 ⟨rfl,b1⟩
 have B1:=zh ((zu G0).b.trans (b1.mono (zu G0).b.size))
 clear b1 c1 G0
 cases b
 ·go_wp2
  go_ret
  exact⟨rfl,zu B1⟩
 ·go_wp2
  go_ret
  exact⟨rfl,zu B1⟩
theorem iNew(w:World):Calls Tryz.prog 35 #[] w fun e w'=>e= .returned (.agg #[.slice none 0 0,.slice none 0 0,.slice none 0 0,.slice none 0 0,.slice none 0 0,.int .i64 0])∧Below w.heap.size w w':=by
 go_enter Tryz.func35,Tryz.ntmps35
 go_wp2
 refine bodyPost_ret (v:= .agg #[.slice none 0 0,.slice none 0 0,.slice none 0 0,.slice none 0 0,.slice none 0 0,.int .i64 0]) (by simp[results,Tryz.results35,go_sem]) rfl ⟨rfl,?_⟩
 repeat(first|exact Below.refl _ _|refine Below.setCell ?_ (by simp) _|refine Below.alloc ?_ (by simp) _)
abbrev oK0:Oper:={dst:=some 10,op:=Go.Op.fieldAddr 47 (Go.Operand.tmp 1) 1,type:=0,pos:= "l17_engine.go:32",after:= #[],guard:=none}
abbrev oK1:Oper:={dst:=some 11,op:=Go.Op.load 38 (Go.Operand.tmp 10),type:=38,pos:= "l17_engine.go:32",after:= #[{on:=0,ground:=Go.Ground.data}],guard:=none}
abbrev oK2:Oper:={dst:=some 12,op:=Go.Op.call {callee:=Go.Callee.value (Go.Operand.func 33),args:= #[Go.Operand.tmp 11],argTypes:= #[38]},type:=4,pos:= "l17_engine.go:32",after:= #[{on:=1,ground:=Go.Ground.data}],guard:=none}
abbrev oK3:Oper:={dst:=some 13,op:=Go.Op.move (Go.Operand.tmp 12),type:=4,pos:= "l17_engine.go:32",after:= #[{on:=2,ground:=Go.Ground.data},{on:=2,ground:=Go.Ground.chain}],guard:=none}
abbrev oK4:Oper:={dst:=some 14,op:=Go.Op.fieldAddr 47 (Go.Operand.tmp 1) 2,type:=0,pos:= "l17_engine.go:32",after:= #[{on:=3,ground:=Go.Ground.guard}],guard:=some (3,true)}
abbrev oK5:Oper:={dst:=some 15,op:=Go.Op.load 45 (Go.Operand.tmp 14),type:=45,pos:= "l17_engine.go:32",after:= #[{on:=4,ground:=Go.Ground.data},{on:=3,ground:=Go.Ground.guard}],guard:=some (3,true)}
abbrev oK6:Oper:={dst:=some 16,op:=Go.Op.call {callee:=Go.Callee.value (Go.Operand.func 35),args:= #[],argTypes:= #[]},type:=45,pos:= "l17_engine.go:32",after:= #[{on:=3,ground:=Go.Ground.chain},{on:=3,ground:=Go.Ground.guard}],guard:=some (3,true)}
abbrev oK7:Oper:={dst:=some 17,op:=Go.Op.call {callee:=Go.Callee.value (Go.Operand.func 34),args:= #[Go.Operand.tmp 15,Go.Operand.tmp 16],argTypes:= #[45,45]},type:=4,pos:= "l17_engine.go:32",after:= #[{on:=5,ground:=Go.Ground.data},{on:=6,ground:=Go.Ground.data},{on:=6,ground:=Go.Ground.chain},{on:=3,ground:=Go.Ground.guard}],guard:=some (3,true)}
abbrev oK8:Oper:={dst:=some 18,op:=Go.Op.pick (Go.Operand.tmp 13) (Go.Operand.tmp 17) (Go.Operand.const (Go.Value.bool false)),type:=4,pos:= "l17_engine.go:32",after:= #[{on:=3,ground:=Go.Ground.data},{on:=7,ground:=Go.Ground.data}],guard:=none}
abbrev oK9:Oper:={dst:=some 19,op:=Go.Op.move (Go.Operand.tmp 18),type:=4,pos:= "l17_engine.go:32",after:= #[{on:=8,ground:=Go.Ground.data},{on:=7,ground:=Go.Ground.chain}],guard:=none}
abbrev oK10:Oper:={dst:=some 20,op:=Go.Op.fieldAddr 47 (Go.Operand.tmp 1) 3,type:=0,pos:= "l17_engine.go:32",after:= #[{on:=9,ground:=Go.Ground.guard}],guard:=some (9,true)}
abbrev oK11:Oper:={dst:=some 21,op:=Go.Op.load 3 (Go.Operand.tmp 20),type:=3,pos:= "l17_engine.go:32",after:= #[{on:=10,ground:=Go.Ground.data},{on:=9,ground:=Go.Ground.guard}],guard:=some (9,true)}
abbrev oK12:Oper:={dst:=some 22,op:=Go.Op.binOp Go.BinOp.eql 3 (Go.Operand.tmp 21) (Go.Operand.const (Go.Value.int Go.IntKind.i64 0)) 3,type:=4,pos:= "l17_engine.go:32",after:= #[{on:=11,ground:=Go.Ground.data},{on:=9,ground:=Go.Ground.guard}],guard:=some (9,true)}
abbrev oK13:Oper:={dst:=some 23,op:=Go.Op.pick (Go.Operand.tmp 19) (Go.Operand.tmp 22) (Go.Operand.const (Go.Value.bool false)),type:=4,pos:= "l17_engine.go:32",after:= #[{on:=9,ground:=Go.Ground.data},{on:=12,ground:=Go.Ground.data}],guard:=none}
abbrev oK14:Oper:={dst:=some 24,op:=Go.Op.move (Go.Operand.tmp 23),type:=4,pos:= "l17_engine.go:32",after:= #[{on:=13,ground:=Go.Ground.data},{on:=9,ground:=Go.Ground.chain}],guard:=none}
abbrev oK15:Oper:={dst:=some 25,op:=Go.Op.fieldAddr 47 (Go.Operand.tmp 1) 4,type:=0,pos:= "l17_engine.go:32",after:= #[{on:=14,ground:=Go.Ground.guard}],guard:=some (14,true)}
abbrev oK16:Oper:={dst:=some 26,op:=Go.Op.load 3 (Go.Operand.tmp 25),type:=3,pos:= "l17_engine.go:32",after:= #[{on:=15,ground:=Go.Ground.data},{on:=14,ground:=Go.Ground.guard}],guard:=some (14,true)}
abbrev oK17:Oper:={dst:=some 27,op:=Go.Op.binOp Go.BinOp.eql 3 (Go.Operand.tmp 26) (Go.Operand.const (Go.Value.int Go.IntKind.i64 0)) 3,type:=4,pos:= "l17_engine.go:32",after:= #[{on:=16,ground:=Go.Ground.data},{on:=14,ground:=Go.Ground.guard}],guard:=some (14,true)}
abbrev oK18:Oper:={dst:=some 28,op:=Go.Op.pick (Go.Operand.tmp 24) (Go.Operand.tmp 27) (Go.Operand.const (Go.Value.bool false)),type:=4,pos:= "l17_engine.go:32",after:= #[{on:=14,ground:=Go.Ground.data},{on:=17,ground:=Go.Ground.data}],guard:=none}
abbrev oK19:Oper:={dst:=some 2,op:=Go.Op.assign (Go.Operand.tmp 28),type:=4,pos:= "l17_engine.go:32",after:= #[{on:=18,ground:=Go.Ground.data},{on:=14,ground:=Go.Ground.chain},{on:=0,ground:=Go.Ground.phase},{on:=1,ground:=Go.Ground.phase},{on:=2,ground:=Go.Ground.phase},{on:=3,ground:=Go.Ground.phase},{on:=4,ground:=Go.Ground.phase},{on:=5,ground:=Go.Ground.phase},{on:=6,ground:=Go.Ground.phase},{on:=7,ground:=Go.Ground.phase},{on:=8,ground:=Go.Ground.phase},{on:=9,ground:=Go.Ground.phase},{on:=10,ground:=Go.Ground.phase},{on:=11,ground:=Go.Ground.phase},{on:=12,ground:=Go.Ground.phase},{on:=13,ground:=Go.Ground.phase},{on:=14,ground:=Go.Ground.phase},{on:=15,ground:=Go.Ground.phase},{on:=16,ground:=Go.Ground.phase},{on:=17,ground:=Go.Ground.phase},{on:=18,ground:=Go.Ground.phase}],guard:=none}
theorem iEngineOk(w:World)(up:Bool)(x:Dx)(z:Bx)(sg ct:Int)(vb v:Bool)(hr:RdD w x)(hz:sumZ x.ps≤1048576)(hy:Rd w z)(hb:Says vb (Ok z.b))(hv:Says v (OkE up x.room x.ps z.b sg ct)):
  Calls Tryz.prog 11 #[.agg #[.bool up,.int .i64 x.room,.slice x.a x.ps.length x.c,.slice (some ⟨z.ga,0,none⟩) z.b.ac.length z.ca,.slice (some ⟨z.gi,0,none⟩) z.b.ic.length z.ci,.slice (some ⟨z.gb,0,none⟩) z.b.bs.length z.cb,.slice (some ⟨z.gl,0,none⟩) z.b.ls.length z.cl,.slice (some ⟨z.gt,0,none⟩) z.b.ts.length z.ct,.int .i64 z.b.lot,.int .i64 sg,.int .i64 ct]] w fun e w'=>e= .returned (.bool v)∧Below w.heap.size w w':=by
 have G0:=zh (Eg.made hr hy (Below.refl _ _) up sg ct)
 have OK0:=zh (fun u b (h:RdD u x) (q:decide (OkD x.room x.ps)=b)=>ICom14.iOkB u x b h hz q)
 have BO:=zh (fun u (h:Rd u z)=>IBooksOk.iBooksOk u z vb h hb)
 have HB:=zh hb
 have HV:=zh (show v=true↔OkE up x.room x.ps z.b sg ct from hv)
 have h20:=hr.n
 clear hr hy hb hv
 have c1:=(zu G0).k.c1
 have c2:=(zu G0).k.c2
 have lt:=(zu G0).k.lt.2
 go_enter Tryz.func11,Tryz.ntmps11
 go_wp2_with fail
 generalize w.alloc (.cells #[.bool up,.int .i64 x.room,.slice x.a x.ps.length x.c,.slice (some ⟨z.ga,0,none⟩) z.b.ac.length z.ca,.slice (some ⟨z.gi,0,none⟩) z.b.ic.length z.ci,.slice (some ⟨z.gb,0,none⟩) z.b.bs.length z.cb,.slice (some ⟨z.gl,0,none⟩) z.b.ls.length z.cl,.slice (some ⟨z.gt,0,none⟩) z.b.ts.length z.ct,.int .i64 z.b.lot,.int .i64 sg,.int .i64 ct] 47)=W at *
 refine(zu OK0 _ _ (zu G0).r rfl).mono ?_
 rintro e u ⟨rfl,b1⟩
 have G1:=zh ((zu G0).step b1)
 clear b1 G0 OK0
 clear c1 c2 lt
 by_cases ok:OkD x.room x.ps
 case neg=>
  have od:decide (OkD x.room x.ps)=false:=decide_eq_false ok
  have V:=zh (show v=false from by
   cases e:v with
   |false=>rfl
   |true=>exact absurd ((zu HV).1 e).1 ok)
  clear ok HV
  go_wp2
  go_ret
  exact⟨by rw[zu V];rfl,(zu G1).b⟩
 have od:decide (OkD x.room x.ps)=true:=decide_eq_true ok
 have OK:=zh ok
 clear ok
 cases up with
 |true=>
  have c0:=(zu G1).k.c0
  have c3:=(zu G1).k.c3
  have c4:=(zu G1).k.c4
  have c5:=(zu G1).k.c5
  have c6:=(zu G1).k.c6
  have c7:=(zu G1).k.c7
  have c8:=(zu G1).k.c8
  have lt:=(zu G1).k.lt.2
  go_wp2_with fail
  refine(zu BO _ (zu G1).rb).mono ?_
  rintro e u2 ⟨rfl,b2⟩
  have G2:=zh ((zu G1).step b2)
  clear b2 G1 c0
  clear c3 c4 c5 c6 c7 c8 lt
  cases vb with
  |false=>
   have V:=zh (show v=false from by
    cases e:v with
    |false=>rfl
    |true=>exact absurd (((zu HV).1 e).2.1 rfl).1 (fun h=>by have:=(zu HB).of h;simp at this))
   clear HV
   go_wp2
   go_ret
   exact⟨by rw[zu V];rfl,(zu G2).b⟩
  |true=>
  have OB:=zh ((zu HB).yes)
  obtain⟨sb,hs⟩:∃sb,okS sg=sb:=⟨_,rfl⟩
  have HS:=zh hs
  clear hs
  have c9:=(zu G2).k.c9
  have lt:=(zu G2).k.lt.2
  go_wp2_with fail
  refine(ISg15.iSeg _ sg).mono ?_
  rintro e u2 ⟨rfl,rfl⟩
  rw[zu HS]
  clear c9 lt
  cases sb with
  |false=>
   have V:=zh (show v=false from by
    cases e:v with
    |false=>rfl
    |true=>
     have:=(((zu HV).1 e).2.1 rfl).2.1
     rw[zu HS] at this
     exact absurd this (by simp))
   clear HV
   go_wp2
   go_ret
   exact⟨by rw[zu V];rfl,(zu G2).b⟩
  |true=>
  obtain⟨ca,ha⟩:∃ca,decide (0≤ct)=ca:=⟨_,rfl⟩
  obtain⟨cb,hb⟩:∃cb,decide (ct≤6)=cb:=⟨_,rfl⟩
  have V:=zh (show v=(ca&&cb) from by
   have A:v=true↔(ca=true∧cb=true):=by
    rw[zu HV,←ha,←hb]
    constructor
    ·rintro⟨_,h,_⟩
     have h3:=(h rfl).2.2
     exact⟨decide_eq_true h3.1,decide_eq_true h3.2⟩
    ·rintro⟨h1,h2⟩
     exact⟨zu OK,fun _=>⟨zu OB,zu HS,of_decide_eq_true h1,of_decide_eq_true h2⟩,fun h=>by simp at h⟩
   revert A;clear HV ha hb;cases v<;>cases ca<;>cases cb<;>simp)
  have c10:=(zu G2).k.c10
  have lt:=(zu G2).k.lt.2
  clear HV
  cases ca with
  |false=>
   go_wp2
   go_ret
   exact⟨by rw[zu V];rfl,(zu G2).b⟩
  |true=>
  go_wp2
  go_ret
  exact⟨by rw[zu V];simp,(zu G2).b⟩
 |false=>
 obtain⟨nl,hnl⟩:=says_of (NoLate x.ps x.ps.length)
 obtain⟨nb,hnb⟩:=says_of (z.b=noB)
 have NL:=zh hnl
 have NB:=zh hnb
 clear hnl hnb
 obtain⟨s0,hs0⟩:∃b,(sg==0)=b:=⟨_,rfl⟩
 obtain⟨s1,hs1⟩:∃b,(ct==0)=b:=⟨_,rfl⟩
 have V:=zh (show v=(nl&&nb&&s0&&s1) from by
  have A:v=true↔(nl=true∧nb=true∧s0=true∧s1=true):=by
   rw[zu HV,←hs0,←hs1]
   constructor
   ·rintro⟨_,_,h⟩
    obtain⟨h0,h1,h2,h3⟩:=h rfl
    exact⟨(zu NL).of h0,(zu NB).of h1,by simp[h2],by simp[h3]⟩
   ·rintro⟨h0,h1,h2,h3⟩
    subst h0 h1
    exact⟨zu OK,fun h=>by simp at h,fun _=>⟨(zu NL).yes,(zu NB).yes,by simpa using h2,by simpa using h3⟩⟩
  revert A;clear HV NB NL;cases v<;>cases nl<;>cases nb<;>cases s0<;>cases s1<;>simp)
 clear HV
 have c0:=(zu G1).k.c0
 have lt:=(zu G1).k.lt.2
 go_wp2_with fail
 clear c0 lt
 cases nl with
 |false=>
  refine wp_region_held_drew (S:=(fun w'=>w'.cell? ⟨w.heap.size,1,none⟩=some (.int .i64 x.room)∧w'.cell? ⟨w.heap.size,2,none⟩=some (.slice x.a x.ps.length x.c)∧w'.cell? ⟨w.heap.size,3,none⟩=some (.slice (some ⟨z.ga,0,none⟩) z.b.ac.length z.ca)∧w'.cell? ⟨w.heap.size,4,none⟩=some (.slice (some ⟨z.gi,0,none⟩) z.b.ic.length z.ci)∧w'.cell? ⟨w.heap.size,5,none⟩=some (.slice (some ⟨z.gb,0,none⟩) z.b.bs.length z.cb)∧w'.cell? ⟨w.heap.size,6,none⟩=some (.slice (some ⟨z.gl,0,none⟩) z.b.ls.length z.cl)∧w'.cell? ⟨w.heap.size,7,none⟩=some (.slice (some ⟨z.gt,0,none⟩) z.b.ts.length z.ct)∧w'.cell? ⟨w.heap.size,8,none⟩=some (.int .i64 z.b.lot)∧w'.cell? ⟨w.heap.size,9,none⟩=some (.int .i64 sg)∧w'.cell? ⟨w.heap.size,10,none⟩=some (.int .i64 ct))) (by kernel_rfl) ⟨(zu G1).k.c1,(zu G1).k.c2,(zu G1).k.c3,(zu G1).k.c4,(zu G1).k.c5,(zu G1).k.c6,(zu G1).k.c7,(zu G1).k.c8,(zu G1).k.c9,(zu G1).k.c10⟩ (fun hHeld=>?_)
  refine zT (oi:=oK0) 0 (.pointer (some ⟨w.heap.size,1,none⟩)) rfl hHeld ?_ (by intro w hSw;(try dsimp only at hSw);unfold oK0;go_simp)
  try simp only[oK0,Act.put,zA,zB,zC]
  refine zT (oi:=oK1) 1 (.agg #[.int .i64 x.room,.slice x.a x.ps.length x.c]) rfl hHeld ?_ (by intro w hSw;(try dsimp only at hSw);unfold oK1;go_simp)
  try simp only[oK1,Act.put,zA,zB,zC]
  refine zR (oi:=oK2) 2 rfl (fun K hK=>?_)
  unfold oK2
  go_simp
  go_wp2_with fail
  refine(iAllSafe _ x false ((zu G1).r.below (Below.refl _ _).drew) (zu NL)).mono ?_
  rintro e v1 ⟨rfl,b6⟩
  have b7:Below u.heap.size u v1:=⟨b6.os,b6.tape,b6.output,b6.size,b6.block⟩
  replace G1:=zh ((zu G1).step b7)
  clear b6 b7
  go_wp2_with fail
  refine hK.out _ _ ⟨(zu G1).k.c1,(zu G1).k.c2,(zu G1).k.c3,(zu G1).k.c4,(zu G1).k.c5,(zu G1).k.c6,(zu G1).k.c7,(zu G1).k.c8,(zu G1).k.c9,(zu G1).k.c10⟩ (fun hHeld=>?_)
  clear hK K
  try simp only[oK2,Act.put,zA,zB,zC]
  refine zT (oi:=oK3) 3 (.bool false) rfl hHeld ?_ (by intro w hSw;(try dsimp only at hSw);unfold oK3;go_simp)
  try simp only[oK3,Act.put,zA,zB,zC]
  refine zS (oi:=oK4) 4 rfl hHeld ?_
  try simp only[oK4,Act.put,zA,zB,zC]
  refine zS (oi:=oK5) 5 rfl hHeld ?_
  try simp only[oK5,Act.put,zA,zB,zC]
  refine zS (oi:=oK6) 6 rfl hHeld ?_
  try simp only[oK6,Act.put,zA,zB,zC]
  refine zS (oi:=oK7) 7 rfl hHeld ?_
  try simp only[oK7,Act.put,zA,zB,zC]
  refine zT (oi:=oK8) 8 (.bool false) rfl hHeld ?_ (by intro w hSw;(try dsimp only at hSw);unfold oK8;go_simp)
  try simp only[oK8,Act.put,zA,zB,zC]
  refine zT (oi:=oK9) 9 (.bool false) rfl hHeld ?_ (by intro w hSw;(try dsimp only at hSw);unfold oK9;go_simp)
  try simp only[oK9,Act.put,zA,zB,zC]
  refine zS (oi:=oK10) 10 rfl hHeld ?_
  try simp only[oK10,Act.put,zA,zB,zC]
  refine zS (oi:=oK11) 11 rfl hHeld ?_
  try simp only[oK11,Act.put,zA,zB,zC]
  refine zS (oi:=oK12) 12 rfl hHeld ?_
  try simp only[oK12,Act.put,zA,zB,zC]
  refine zT (oi:=oK13) 13 (.bool false) rfl hHeld ?_ (by intro w hSw;(try dsimp only at hSw);unfold oK13;go_simp)
  try simp only[oK13,Act.put,zA,zB,zC]
  refine zT (oi:=oK14) 14 (.bool false) rfl hHeld ?_ (by intro w hSw;(try dsimp only at hSw);unfold oK14;go_simp)
  try simp only[oK14,Act.put,zA,zB,zC]
  refine zS (oi:=oK15) 15 rfl hHeld ?_
  try simp only[oK15,Act.put,zA,zB,zC]
  refine zS (oi:=oK16) 16 rfl hHeld ?_
  try simp only[oK16,Act.put,zA,zB,zC]
  refine zS (oi:=oK17) 17 rfl hHeld ?_
  try simp only[oK17,Act.put,zA,zB,zC]
  refine zT (oi:=oK18) 18 (.bool false) rfl hHeld ?_ (by intro w hSw;(try dsimp only at hSw);unfold oK18;go_simp)
  try simp only[oK18,Act.put,zA,zB,zC]
  refine zT (oi:=oK19) 19 (.bool false) rfl hHeld ?_ (by intro w hSw;(try dsimp only at hSw);unfold oK19;go_simp)
  try simp only[oK19,Act.put,zA,zB,zC]
  refine wpAnyH_done (by kernel_rfl) ?_ _
  go_wp2
  go_ret
  exact⟨by rw[zu V];first|rfl|simp,(zu G1).b⟩
 |true=>
 cases nb with
 |false=>
  refine wp_region_held_drew (S:=(fun w'=>w'.cell? ⟨w.heap.size,1,none⟩=some (.int .i64 x.room)∧w'.cell? ⟨w.heap.size,2,none⟩=some (.slice x.a x.ps.length x.c)∧w'.cell? ⟨w.heap.size,3,none⟩=some (.slice (some ⟨z.ga,0,none⟩) z.b.ac.length z.ca)∧w'.cell? ⟨w.heap.size,4,none⟩=some (.slice (some ⟨z.gi,0,none⟩) z.b.ic.length z.ci)∧w'.cell? ⟨w.heap.size,5,none⟩=some (.slice (some ⟨z.gb,0,none⟩) z.b.bs.length z.cb)∧w'.cell? ⟨w.heap.size,6,none⟩=some (.slice (some ⟨z.gl,0,none⟩) z.b.ls.length z.cl)∧w'.cell? ⟨w.heap.size,7,none⟩=some (.slice (some ⟨z.gt,0,none⟩) z.b.ts.length z.ct)∧w'.cell? ⟨w.heap.size,8,none⟩=some (.int .i64 z.b.lot)∧w'.cell? ⟨w.heap.size,9,none⟩=some (.int .i64 sg)∧w'.cell? ⟨w.heap.size,10,none⟩=some (.int .i64 ct))) (by kernel_rfl) ⟨(zu G1).k.c1,(zu G1).k.c2,(zu G1).k.c3,(zu G1).k.c4,(zu G1).k.c5,(zu G1).k.c6,(zu G1).k.c7,(zu G1).k.c8,(zu G1).k.c9,(zu G1).k.c10⟩ (fun hHeld=>?_)
  refine zT (oi:=oK0) 0 (.pointer (some ⟨w.heap.size,1,none⟩)) rfl hHeld ?_ (by intro w hSw;(try dsimp only at hSw);unfold oK0;go_simp)
  try simp only[oK0,Act.put,zA,zB,zC]
  refine zT (oi:=oK1) 1 (.agg #[.int .i64 x.room,.slice x.a x.ps.length x.c]) rfl hHeld ?_ (by intro w hSw;(try dsimp only at hSw);unfold oK1;go_simp)
  try simp only[oK1,Act.put,zA,zB,zC]
  refine zR (oi:=oK2) 2 rfl (fun K hK=>?_)
  unfold oK2
  go_simp
  go_wp2_with fail
  refine(iAllSafe _ x true ((zu G1).r.below (Below.refl _ _).drew) (zu NL)).mono ?_
  rintro e v1 ⟨rfl,b6⟩
  have b7:Below u.heap.size u v1:=⟨b6.os,b6.tape,b6.output,b6.size,b6.block⟩
  replace G1:=zh ((zu G1).step b7)
  clear b6 b7
  go_wp2_with fail
  refine hK.out _ _ ⟨(zu G1).k.c1,(zu G1).k.c2,(zu G1).k.c3,(zu G1).k.c4,(zu G1).k.c5,(zu G1).k.c6,(zu G1).k.c7,(zu G1).k.c8,(zu G1).k.c9,(zu G1).k.c10⟩ (fun hHeld=>?_)
  clear hK K
  try simp only[oK2,Act.put,zA,zB,zC]
  refine zT (oi:=oK3) 3 (.bool true) rfl hHeld ?_ (by intro w hSw;(try dsimp only at hSw);unfold oK3;go_simp)
  try simp only[oK3,Act.put,zA,zB,zC]
  refine zT (oi:=oK4) 4 (.pointer (some ⟨w.heap.size,3,none⟩)) rfl hHeld ?_ (by intro w hSw;(try dsimp only at hSw);unfold oK4;go_simp)
  try simp only[oK4,Act.put,zA,zB,zC]
  refine zT (oi:=oK5) 5 (.agg #[.slice (some ⟨z.ga,0,none⟩) z.b.ac.length z.ca,.slice (some ⟨z.gi,0,none⟩) z.b.ic.length z.ci,.slice (some ⟨z.gb,0,none⟩) z.b.bs.length z.cb,.slice (some ⟨z.gl,0,none⟩) z.b.ls.length z.cl,.slice (some ⟨z.gt,0,none⟩) z.b.ts.length z.ct,.int .i64 z.b.lot]) rfl hHeld ?_ (by intro w hSw;(try dsimp only at hSw);unfold oK5;go_simp)
  try simp only[oK5,Act.put,zA,zB,zC]
  refine zR (oi:=oK6) 6 rfl (fun K hK=>?_)
  unfold oK6
  go_simp
  go_wp2_with fail
  refine(iNew _).mono ?_
  rintro e v2 ⟨rfl,b6⟩
  have b7:Below v1.heap.size v1 v2:=⟨b6.os,b6.tape,b6.output,b6.size,b6.block⟩
  replace G1:=zh ((zu G1).step b7)
  clear b6 b7
  go_wp2_with fail
  refine hK.out _ _ ⟨(zu G1).k.c1,(zu G1).k.c2,(zu G1).k.c3,(zu G1).k.c4,(zu G1).k.c5,(zu G1).k.c6,(zu G1).k.c7,(zu G1).k.c8,(zu G1).k.c9,(zu G1).k.c10⟩ (fun hHeld=>?_)
  clear hK K
  try simp only[oK6,Act.put,zA,zB,zC]
  refine zR (oi:=oK7) 7 rfl (fun K hK=>?_)
  unfold oK7
  go_simp
  go_wp2_with fail
  refine(SameZI17.iSameZ _ z false (zu G1).rb (zu NB)).mono ?_
  rintro e v3 ⟨rfl,b6⟩
  have b7:Below v2.heap.size v2 v3:=⟨b6.os,b6.tape,b6.output,b6.size,b6.block⟩
  replace G1:=zh ((zu G1).step b7)
  clear b6 b7
  go_wp2_with fail
  refine hK.out _ _ ⟨(zu G1).k.c1,(zu G1).k.c2,(zu G1).k.c3,(zu G1).k.c4,(zu G1).k.c5,(zu G1).k.c6,(zu G1).k.c7,(zu G1).k.c8,(zu G1).k.c9,(zu G1).k.c10⟩ (fun hHeld=>?_)
  clear hK K
  try simp only[oK7,Act.put,zA,zB,zC]
  refine zT (oi:=oK8) 8 (.bool false) rfl hHeld ?_ (by intro w hSw;(try dsimp only at hSw);unfold oK8;go_simp)
  try simp only[oK8,Act.put,zA,zB,zC]
  refine zT (oi:=oK9) 9 (.bool false) rfl hHeld ?_ (by intro w hSw;(try dsimp only at hSw);unfold oK9;go_simp)
  try simp only[oK9,Act.put,zA,zB,zC]
  refine zS (oi:=oK10) 10 rfl hHeld ?_
  try simp only[oK10,Act.put,zA,zB,zC]
  refine zS (oi:=oK11) 11 rfl hHeld ?_
  try simp only[oK11,Act.put,zA,zB,zC]
  refine zS (oi:=oK12) 12 rfl hHeld ?_
  try simp only[oK12,Act.put,zA,zB,zC]
  refine zT (oi:=oK13) 13 (.bool false) rfl hHeld ?_ (by intro w hSw;(try dsimp only at hSw);unfold oK13;go_simp)
  try simp only[oK13,Act.put,zA,zB,zC]
  refine zT (oi:=oK14) 14 (.bool false) rfl hHeld ?_ (by intro w hSw;(try dsimp only at hSw);unfold oK14;go_simp)
  try simp only[oK14,Act.put,zA,zB,zC]
  refine zS (oi:=oK15) 15 rfl hHeld ?_
  try simp only[oK15,Act.put,zA,zB,zC]
  refine zS (oi:=oK16) 16 rfl hHeld ?_
  try simp only[oK16,Act.put,zA,zB,zC]
  refine zS (oi:=oK17) 17 rfl hHeld ?_
  try simp only[oK17,Act.put,zA,zB,zC]
  refine zT (oi:=oK18) 18 (.bool false) rfl hHeld ?_ (by intro w hSw;(try dsimp only at hSw);unfold oK18;go_simp)
  try simp only[oK18,Act.put,zA,zB,zC]
  refine zT (oi:=oK19) 19 (.bool false) rfl hHeld ?_ (by intro w hSw;(try dsimp only at hSw);unfold oK19;go_simp)
  try simp only[oK19,Act.put,zA,zB,zC]
  refine wpAnyH_done (by kernel_rfl) ?_ _
  go_wp2
  go_ret
  exact⟨by rw[zu V];first|rfl|simp,(zu G1).b⟩
 |true=>
 cases s0 with
 |false=>
  refine wp_region_held_drew (S:=(fun w'=>w'.cell? ⟨w.heap.size,1,none⟩=some (.int .i64 x.room)∧w'.cell? ⟨w.heap.size,2,none⟩=some (.slice x.a x.ps.length x.c)∧w'.cell? ⟨w.heap.size,3,none⟩=some (.slice (some ⟨z.ga,0,none⟩) z.b.ac.length z.ca)∧w'.cell? ⟨w.heap.size,4,none⟩=some (.slice (some ⟨z.gi,0,none⟩) z.b.ic.length z.ci)∧w'.cell? ⟨w.heap.size,5,none⟩=some (.slice (some ⟨z.gb,0,none⟩) z.b.bs.length z.cb)∧w'.cell? ⟨w.heap.size,6,none⟩=some (.slice (some ⟨z.gl,0,none⟩) z.b.ls.length z.cl)∧w'.cell? ⟨w.heap.size,7,none⟩=some (.slice (some ⟨z.gt,0,none⟩) z.b.ts.length z.ct)∧w'.cell? ⟨w.heap.size,8,none⟩=some (.int .i64 z.b.lot)∧w'.cell? ⟨w.heap.size,9,none⟩=some (.int .i64 sg)∧w'.cell? ⟨w.heap.size,10,none⟩=some (.int .i64 ct))) (by kernel_rfl) ⟨(zu G1).k.c1,(zu G1).k.c2,(zu G1).k.c3,(zu G1).k.c4,(zu G1).k.c5,(zu G1).k.c6,(zu G1).k.c7,(zu G1).k.c8,(zu G1).k.c9,(zu G1).k.c10⟩ (fun hHeld=>?_)
  refine zT (oi:=oK0) 0 (.pointer (some ⟨w.heap.size,1,none⟩)) rfl hHeld ?_ (by intro w hSw;(try dsimp only at hSw);unfold oK0;go_simp)
  try simp only[oK0,Act.put,zA,zB,zC]
  refine zT (oi:=oK1) 1 (.agg #[.int .i64 x.room,.slice x.a x.ps.length x.c]) rfl hHeld ?_ (by intro w hSw;(try dsimp only at hSw);unfold oK1;go_simp)
  try simp only[oK1,Act.put,zA,zB,zC]
  refine zR (oi:=oK2) 2 rfl (fun K hK=>?_)
  unfold oK2
  go_simp
  go_wp2_with fail
  refine(iAllSafe _ x true ((zu G1).r.below (Below.refl _ _).drew) (zu NL)).mono ?_
  rintro e v1 ⟨rfl,b6⟩
  have b7:Below u.heap.size u v1:=⟨b6.os,b6.tape,b6.output,b6.size,b6.block⟩
  replace G1:=zh ((zu G1).step b7)
  clear b6 b7
  go_wp2_with fail
  refine hK.out _ _ ⟨(zu G1).k.c1,(zu G1).k.c2,(zu G1).k.c3,(zu G1).k.c4,(zu G1).k.c5,(zu G1).k.c6,(zu G1).k.c7,(zu G1).k.c8,(zu G1).k.c9,(zu G1).k.c10⟩ (fun hHeld=>?_)
  clear hK K
  try simp only[oK2,Act.put,zA,zB,zC]
  refine zT (oi:=oK3) 3 (.bool true) rfl hHeld ?_ (by intro w hSw;(try dsimp only at hSw);unfold oK3;go_simp)
  try simp only[oK3,Act.put,zA,zB,zC]
  refine zT (oi:=oK4) 4 (.pointer (some ⟨w.heap.size,3,none⟩)) rfl hHeld ?_ (by intro w hSw;(try dsimp only at hSw);unfold oK4;go_simp)
  try simp only[oK4,Act.put,zA,zB,zC]
  refine zT (oi:=oK5) 5 (.agg #[.slice (some ⟨z.ga,0,none⟩) z.b.ac.length z.ca,.slice (some ⟨z.gi,0,none⟩) z.b.ic.length z.ci,.slice (some ⟨z.gb,0,none⟩) z.b.bs.length z.cb,.slice (some ⟨z.gl,0,none⟩) z.b.ls.length z.cl,.slice (some ⟨z.gt,0,none⟩) z.b.ts.length z.ct,.int .i64 z.b.lot]) rfl hHeld ?_ (by intro w hSw;(try dsimp only at hSw);unfold oK5;go_simp)
  try simp only[oK5,Act.put,zA,zB,zC]
  refine zR (oi:=oK6) 6 rfl (fun K hK=>?_)
  unfold oK6
  go_simp
  go_wp2_with fail
  refine(iNew _).mono ?_
  rintro e v2 ⟨rfl,b6⟩
  have b7:Below v1.heap.size v1 v2:=⟨b6.os,b6.tape,b6.output,b6.size,b6.block⟩
  replace G1:=zh ((zu G1).step b7)
  clear b6 b7
  go_wp2_with fail
  refine hK.out _ _ ⟨(zu G1).k.c1,(zu G1).k.c2,(zu G1).k.c3,(zu G1).k.c4,(zu G1).k.c5,(zu G1).k.c6,(zu G1).k.c7,(zu G1).k.c8,(zu G1).k.c9,(zu G1).k.c10⟩ (fun hHeld=>?_)
  clear hK K
  try simp only[oK6,Act.put,zA,zB,zC]
  refine zR (oi:=oK7) 7 rfl (fun K hK=>?_)
  unfold oK7
  go_simp
  go_wp2_with fail
  refine(SameZI17.iSameZ _ z true (zu G1).rb (zu NB)).mono ?_
  rintro e v3 ⟨rfl,b6⟩
  have b7:Below v2.heap.size v2 v3:=⟨b6.os,b6.tape,b6.output,b6.size,b6.block⟩
  replace G1:=zh ((zu G1).step b7)
  clear b6 b7
  go_wp2_with fail
  refine hK.out _ _ ⟨(zu G1).k.c1,(zu G1).k.c2,(zu G1).k.c3,(zu G1).k.c4,(zu G1).k.c5,(zu G1).k.c6,(zu G1).k.c7,(zu G1).k.c8,(zu G1).k.c9,(zu G1).k.c10⟩ (fun hHeld=>?_)
  clear hK K
  try simp only[oK7,Act.put,zA,zB,zC]
  refine zT (oi:=oK8) 8 (.bool true) rfl hHeld ?_ (by intro w hSw;(try dsimp only at hSw);unfold oK8;go_simp)
  try simp only[oK8,Act.put,zA,zB,zC]
  refine zT (oi:=oK9) 9 (.bool true) rfl hHeld ?_ (by intro w hSw;(try dsimp only at hSw);unfold oK9;go_simp)
  try simp only[oK9,Act.put,zA,zB,zC]
  refine zT (oi:=oK10) 10 (.pointer (some ⟨w.heap.size,9,none⟩)) rfl hHeld ?_ (by intro w hSw;(try dsimp only at hSw);unfold oK10;go_simp)
  try simp only[oK10,Act.put,zA,zB,zC]
  refine zT (oi:=oK11) 11 (.int .i64 sg) rfl hHeld ?_ (by intro w hSw;(try dsimp only at hSw);unfold oK11;go_simp)
  try simp only[oK11,Act.put,zA,zB,zC]
  refine zT (oi:=oK12) 12 (.bool false) rfl hHeld ?_ (by intro w hSw;(try dsimp only at hSw);unfold oK12;go_simp)
  try simp only[oK12,Act.put,zA,zB,zC]
  refine zT (oi:=oK13) 13 (.bool false) rfl hHeld ?_ (by intro w hSw;(try dsimp only at hSw);unfold oK13;go_simp)
  try simp only[oK13,Act.put,zA,zB,zC]
  refine zT (oi:=oK14) 14 (.bool false) rfl hHeld ?_ (by intro w hSw;(try dsimp only at hSw);unfold oK14;go_simp)
  try simp only[oK14,Act.put,zA,zB,zC]
  refine zS (oi:=oK15) 15 rfl hHeld ?_
  try simp only[oK15,Act.put,zA,zB,zC]
  refine zS (oi:=oK16) 16 rfl hHeld ?_
  try simp only[oK16,Act.put,zA,zB,zC]
  refine zS (oi:=oK17) 17 rfl hHeld ?_
  try simp only[oK17,Act.put,zA,zB,zC]
  refine zT (oi:=oK18) 18 (.bool false) rfl hHeld ?_ (by intro w hSw;(try dsimp only at hSw);unfold oK18;go_simp)
  try simp only[oK18,Act.put,zA,zB,zC]
  refine zT (oi:=oK19) 19 (.bool false) rfl hHeld ?_ (by intro w hSw;(try dsimp only at hSw);unfold oK19;go_simp)
  try simp only[oK19,Act.put,zA,zB,zC]
  refine wpAnyH_done (by kernel_rfl) ?_ _
  go_wp2
  go_ret
  exact⟨by rw[zu V];first|rfl|simp,(zu G1).b⟩
 |true=>
 refine wp_region_held_drew (S:=(fun w'=>w'.cell? ⟨w.heap.size,1,none⟩=some (.int .i64 x.room)∧w'.cell? ⟨w.heap.size,2,none⟩=some (.slice x.a x.ps.length x.c)∧w'.cell? ⟨w.heap.size,3,none⟩=some (.slice (some ⟨z.ga,0,none⟩) z.b.ac.length z.ca)∧w'.cell? ⟨w.heap.size,4,none⟩=some (.slice (some ⟨z.gi,0,none⟩) z.b.ic.length z.ci)∧w'.cell? ⟨w.heap.size,5,none⟩=some (.slice (some ⟨z.gb,0,none⟩) z.b.bs.length z.cb)∧w'.cell? ⟨w.heap.size,6,none⟩=some (.slice (some ⟨z.gl,0,none⟩) z.b.ls.length z.cl)∧w'.cell? ⟨w.heap.size,7,none⟩=some (.slice (some ⟨z.gt,0,none⟩) z.b.ts.length z.ct)∧w'.cell? ⟨w.heap.size,8,none⟩=some (.int .i64 z.b.lot)∧w'.cell? ⟨w.heap.size,9,none⟩=some (.int .i64 sg)∧w'.cell? ⟨w.heap.size,10,none⟩=some (.int .i64 ct))) (by kernel_rfl) ⟨(zu G1).k.c1,(zu G1).k.c2,(zu G1).k.c3,(zu G1).k.c4,(zu G1).k.c5,(zu G1).k.c6,(zu G1).k.c7,(zu G1).k.c8,(zu G1).k.c9,(zu G1).k.c10⟩ (fun hHeld=>?_)
 refine zT (oi:=oK0) 0 (.pointer (some ⟨w.heap.size,1,none⟩)) rfl hHeld ?_ (by intro w hSw;(try dsimp only at hSw);unfold oK0;go_simp)
 try simp only[oK0,Act.put,zA,zB,zC]
 refine zT (oi:=oK1) 1 (.agg #[.int .i64 x.room,.slice x.a x.ps.length x.c]) rfl hHeld ?_ (by intro w hSw;(try dsimp only at hSw);unfold oK1;go_simp)
 try simp only[oK1,Act.put,zA,zB,zC]
 refine zR (oi:=oK2) 2 rfl (fun K hK=>?_)
 unfold oK2
 go_simp
 go_wp2_with fail
 refine(iAllSafe _ x true ((zu G1).r.below (Below.refl _ _).drew) (zu NL)).mono ?_
 rintro e v1 ⟨rfl,b6⟩
 have b7:Below u.heap.size u v1:=⟨b6.os,b6.tape,b6.output,b6.size,b6.block⟩
 replace G1:=zh ((zu G1).step b7)
 clear b6 b7
 go_wp2_with fail
 refine hK.out _ _ ⟨(zu G1).k.c1,(zu G1).k.c2,(zu G1).k.c3,(zu G1).k.c4,(zu G1).k.c5,(zu G1).k.c6,(zu G1).k.c7,(zu G1).k.c8,(zu G1).k.c9,(zu G1).k.c10⟩ (fun hHeld=>?_)
 clear hK K
 try simp only[oK2,Act.put,zA,zB,zC]
 refine zT (oi:=oK3) 3 (.bool true) rfl hHeld ?_ (by intro w hSw;(try dsimp only at hSw);unfold oK3;go_simp)
 try simp only[oK3,Act.put,zA,zB,zC]
 refine zT (oi:=oK4) 4 (.pointer (some ⟨w.heap.size,3,none⟩)) rfl hHeld ?_ (by intro w hSw;(try dsimp only at hSw);unfold oK4;go_simp)
 try simp only[oK4,Act.put,zA,zB,zC]
 refine zT (oi:=oK5) 5 (.agg #[.slice (some ⟨z.ga,0,none⟩) z.b.ac.length z.ca,.slice (some ⟨z.gi,0,none⟩) z.b.ic.length z.ci,.slice (some ⟨z.gb,0,none⟩) z.b.bs.length z.cb,.slice (some ⟨z.gl,0,none⟩) z.b.ls.length z.cl,.slice (some ⟨z.gt,0,none⟩) z.b.ts.length z.ct,.int .i64 z.b.lot]) rfl hHeld ?_ (by intro w hSw;(try dsimp only at hSw);unfold oK5;go_simp)
 try simp only[oK5,Act.put,zA,zB,zC]
 refine zR (oi:=oK6) 6 rfl (fun K hK=>?_)
 unfold oK6
 go_simp
 go_wp2_with fail
 refine(iNew _).mono ?_
 rintro e v2 ⟨rfl,b6⟩
 have b7:Below v1.heap.size v1 v2:=⟨b6.os,b6.tape,b6.output,b6.size,b6.block⟩
 replace G1:=zh ((zu G1).step b7)
 clear b6 b7
 go_wp2_with fail
 refine hK.out _ _ ⟨(zu G1).k.c1,(zu G1).k.c2,(zu G1).k.c3,(zu G1).k.c4,(zu G1).k.c5,(zu G1).k.c6,(zu G1).k.c7,(zu G1).k.c8,(zu G1).k.c9,(zu G1).k.c10⟩ (fun hHeld=>?_)
 clear hK K
 try simp only[oK6,Act.put,zA,zB,zC]
 refine zR (oi:=oK7) 7 rfl (fun K hK=>?_)
 unfold oK7
 go_simp
 go_wp2_with fail
 refine(SameZI17.iSameZ _ z true (zu G1).rb (zu NB)).mono ?_
 rintro e v3 ⟨rfl,b6⟩
 have b7:Below v2.heap.size v2 v3:=⟨b6.os,b6.tape,b6.output,b6.size,b6.block⟩
 replace G1:=zh ((zu G1).step b7)
 clear b6 b7
 go_wp2_with fail
 refine hK.out _ _ ⟨(zu G1).k.c1,(zu G1).k.c2,(zu G1).k.c3,(zu G1).k.c4,(zu G1).k.c5,(zu G1).k.c6,(zu G1).k.c7,(zu G1).k.c8,(zu G1).k.c9,(zu G1).k.c10⟩ (fun hHeld=>?_)
 clear hK K
 try simp only[oK7,Act.put,zA,zB,zC]
 refine zT (oi:=oK8) 8 (.bool true) rfl hHeld ?_ (by intro w hSw;(try dsimp only at hSw);unfold oK8;go_simp)
 try simp only[oK8,Act.put,zA,zB,zC]
 refine zT (oi:=oK9) 9 (.bool true) rfl hHeld ?_ (by intro w hSw;(try dsimp only at hSw);unfold oK9;go_simp)
 try simp only[oK9,Act.put,zA,zB,zC]
 refine zT (oi:=oK10) 10 (.pointer (some ⟨w.heap.size,9,none⟩)) rfl hHeld ?_ (by intro w hSw;(try dsimp only at hSw);unfold oK10;go_simp)
 try simp only[oK10,Act.put,zA,zB,zC]
 refine zT (oi:=oK11) 11 (.int .i64 sg) rfl hHeld ?_ (by intro w hSw;(try dsimp only at hSw);unfold oK11;go_simp)
 try simp only[oK11,Act.put,zA,zB,zC]
 refine zT (oi:=oK12) 12 (.bool true) rfl hHeld ?_ (by intro w hSw;(try dsimp only at hSw);unfold oK12;go_simp)
 try simp only[oK12,Act.put,zA,zB,zC]
 refine zT (oi:=oK13) 13 (.bool true) rfl hHeld ?_ (by intro w hSw;(try dsimp only at hSw);unfold oK13;go_simp)
 try simp only[oK13,Act.put,zA,zB,zC]
 refine zT (oi:=oK14) 14 (.bool true) rfl hHeld ?_ (by intro w hSw;(try dsimp only at hSw);unfold oK14;go_simp)
 try simp only[oK14,Act.put,zA,zB,zC]
 refine zT (oi:=oK15) 15 (.pointer (some ⟨w.heap.size,10,none⟩)) rfl hHeld ?_ (by intro w hSw;(try dsimp only at hSw);unfold oK15;go_simp)
 try simp only[oK15,Act.put,zA,zB,zC]
 refine zT (oi:=oK16) 16 (.int .i64 ct) rfl hHeld ?_ (by intro w hSw;(try dsimp only at hSw);unfold oK16;go_simp)
 try simp only[oK16,Act.put,zA,zB,zC]
 refine zT (oi:=oK17) 17 (.bool s1) rfl hHeld ?_ (by intro w hSw;(try dsimp only at hSw);unfold oK17;go_simp)
 try simp only[oK17,Act.put,zA,zB,zC]
 refine zT (oi:=oK18) 18 (.bool s1) rfl hHeld ?_ (by intro w hSw;(try dsimp only at hSw);unfold oK18;go_simp)
 try simp only[oK18,Act.put,zA,zB,zC]
 refine zT (oi:=oK19) 19 (.bool s1) rfl hHeld ?_ (by intro w hSw;(try dsimp only at hSw);unfold oK19;go_simp)
 try simp only[oK19,Act.put,zA,zB,zC]
 refine wpAnyH_done (by kernel_rfl) ?_ _
 go_wp2
 go_ret
 exact⟨by rw[zu V];first|rfl|simp,(zu G1).b⟩
end IEngOk17
namespace IEngNw17
open Fil14 OpensF14 DiskH14 DkH14 SDk14 SOk14 EBx17 EFin17 SEngOk17 BMemV13 VB13 SEngNw17
open BMem (Bx Rd)
open BHelp (Ix)
open Bks (Bk Ok)
open Lots (Says says_of)
open SegP15 (okS)
theorem iOkN(w:World)(room:Int)(vb v:Bool)(hb:Says vb (Ok ⟨[],[],[],[],[],0⟩))(hv:Says v (OkE true room [] ⟨[],[],[],[],[],0⟩ 0 0)):
  Calls Tryz.prog 11 #[.agg #[.bool true,.int .i64 room,.slice none 0 0,.slice none 0 0,.slice none 0 0,.slice none 0 0,.slice none 0 0,.slice none 0 0,.int .i64 0,.int .i64 0,.int .i64 0]] w fun e w'=>e= .returned (.bool v)∧Below w.heap.size w w':=by
 have KW:=zh (Bx11.made (w:=w) (base:=w.heap.size) (g:=w.heap.size) (.bool true) (.int .i64 room) (.slice none 0 0) (.slice none 0 0) (.slice none 0 0) (.slice none 0 0) (.slice none 0 0) (.slice none 0 0) (.int .i64 0) (.int .i64 0) (.int .i64 0) (Nat.le_refl _) rfl)
 have BW:=zh (one_more w (.cells #[.bool true,.int .i64 room,.slice none 0 0,.slice none 0 0,.slice none 0 0,.slice none 0 0,.slice none 0 0,.slice none 0 0,.int .i64 0,.int .i64 0,.int .i64 0] 47))
 obtain⟨od,hod⟩:∃od,decide (OkD room [])=od:=⟨_,rfl⟩
 have DO:=zh (fun u=>show Calls Tryz.prog 32 #[.agg #[.int .i64 room,.slice none 0 0]] u (fun e w'=>e= .returned (.bool od)∧Below u.heap.size u w') from by have:=ICom14.iOkB u (noF room) od (rdD_no u room) (by simp[noF,sumZ]) hod;exact this)
 have BO:=zh (fun u=>show Calls Tryz.prog 36 #[.agg #[.slice none 0 0,.slice none 0 0,.slice none 0 0,.slice none 0 0,.slice none 0 0,.int .i64 0]] u (fun e w'=>e= .returned (.bool vb)∧Below u.heap.size u w') from IBooksOkV13.iBooksOkV u noI vb (rdV_no u) hb)
 have SO:=zh (fun u=>show Calls Tryz.prog 37 #[.int .i64 0] u (fun e w'=>e= .returned (.bool true)∧w'=u) from ISg15.iSeg u 0)
 have V:=zh (show v=(od&&vb) from by
  have A:v=true↔(od=true∧vb=true):=by
   rw[show v=true↔OkE true room [] ⟨[],[],[],[],[],0⟩ 0 0 from hv,←hod,show vb=true↔Ok ⟨[],[],[],[],[],0⟩ from hb]
   constructor
   ·rintro⟨h0,h1,_⟩
    exact⟨decide_eq_true h0,(h1 rfl).1⟩
   ·rintro⟨h0,h1⟩
    exact⟨of_decide_eq_true h0,fun _=>⟨h1,rfl,by omega,by omega⟩,fun h=>by simp at h⟩
  revert A;cases v<;>cases od<;>cases vb<;>simp)
 clear hod hb hv
 obtain⟨c0,c1,c2,c3,c4,c5,c6,c7,c8,c9,c10⟩:=(zu KW).cs
 go_enter Tryz.func11,Tryz.ntmps11
 go_wp2_with fail
 generalize w.alloc (.cells #[.bool true,.int .i64 room,.slice none 0 0,.slice none 0 0,.slice none 0 0,.slice none 0 0,.slice none 0 0,.slice none 0 0,.int .i64 0,.int .i64 0,.int .i64 0] 47)=W at *
 refine((zu DO) W).mono ?_
 rintro e u ⟨rfl,b1⟩
 have KU:=zh ((zu KW).below b1 (zu KW).lt.2)
 have BU:=zh ((zu BW).trans (b1.mono (zu BW).size))
 clear b1 KW BW DO
 clear c0 c1 c2 c3 c4 c5 c6 c7 c8 c9 c10
 cases od
 ·go_wp2
  go_ret
  exact⟨by rw[zu V];rfl,zu BU⟩
 obtain⟨c0,c1,c2,c3,c4,c5,c6,c7,c8,c9,c10⟩:=(zu KU).cs
 go_wp2_with fail
 refine((zu BO) _).mono ?_
 rintro e u2 ⟨rfl,b2⟩
 have K2:=zh ((zu KU).below b2 (zu KU).lt.2)
 have B2:=zh ((zu BU).trans (b2.mono (zu BU).size))
 clear b2 KU BU BO
 clear c0 c1 c2 c3 c4 c5 c6 c7 c8 c9 c10
 cases vb
 ·go_wp2
  go_ret
  exact⟨by rw[zu V];rfl,zu B2⟩
 obtain⟨c0,c1,c2,c3,c4,c5,c6,c7,c8,c9,c10⟩:=(zu K2).cs
 go_wp2_with fail
 refine((zu SO) _).mono ?_
 rintro e u3 ⟨rfl,rfl⟩
 go_wp2
 go_ret
 exact⟨by rw[zu V];rfl,zu B2⟩
theorem iEngineNew(w:World)(room:Int)(vb v:Bool)(hb:Says vb (Ok ⟨[],[],[],[],[],0⟩))(hv:Says v (OkE true room [] ⟨[],[],[],[],[],0⟩ 0 0)):
  Calls Tryz.prog 14 #[.int .i64 room] w (ToldE1 (newE v room) w):=by
 have EO:=zh (fun u=>iOkN u room vb v hb hv)
 have KZ:=zh (Bx11.made (w:=w) (base:=w.heap.size) (g:=w.heap.size) (.bool false) (.int .i64 0) (.slice none 0 0) (.slice none 0 0) (.slice none 0 0) (.slice none 0 0) (.slice none 0 0) (.slice none 0 0) (.int .i64 0) (.int .i64 0) (.int .i64 0) (Nat.le_refl _) rfl)
 have B0:=zh (one_more w (.cells #[.bool false,.int .i64 0,.slice none 0 0,.slice none 0 0,.slice none 0 0,.slice none 0 0,.slice none 0 0,.slice none 0 0,.int .i64 0,.int .i64 0,.int .i64 0] 47))
 clear hb hv
 go_enter Tryz.func14,Tryz.ntmps14
 go_wp2_with fail
 generalize w.alloc (.cells #[.bool false,.int .i64 0,.slice none 0 0,.slice none 0 0,.slice none 0 0,.slice none 0 0,.slice none 0 0,.slice none 0 0,.int .i64 0,.int .i64 0,.int .i64 0] 47)=W0 at *
 refine(IEngOk17.iNew _).mono ?_
 rintro e u0 ⟨rfl,b0⟩
 have K0:=zh ((zu KZ).below b0 (zu KZ).lt.2)
 have B1:=zh ((zu B0).trans (b0.mono (zu B0).size))
 have lk:=(zu K0).lt.2
 clear b0 KZ B0
 have be:=one_more u0 (.cells #[.bool true,.int .i64 room,.slice none 0 0,.slice none 0 0,.slice none 0 0,.slice none 0 0,.slice none 0 0,.slice none 0 0,.int .i64 0,.int .i64 0,.int .i64 0] 47)
 have K1:=zh ((zu K0).below be (zu K0).lt.2)
 have BE:=zh ((zu B1).trans (be.mono (zu B1).size))
 have E1:=zh (Bx11.made (w:=u0) (base:=w.heap.size+1) (g:=u0.heap.size) (.bool true) (.int .i64 room) (.slice none 0 0) (.slice none 0 0) (.slice none 0 0) (.slice none 0 0) (.slice none 0 0) (.slice none 0 0) (.int .i64 0) (.int .i64 0) (.int .i64 0) (by omega) rfl)
 obtain⟨c0,c1,c2,c3,c4,c5,c6,c7,c8,c9,c10⟩:=(zu E1).cs
 clear be K0 B1
 go_wp2_with fail
 clear c0 c1 c2 c3 c4 c5 c6 c7 c8 c9 c10
 generalize u0.alloc (.cells #[.bool true,.int .i64 room,.slice none 0 0,.slice none 0 0,.slice none 0 0,.slice none 0 0,.slice none 0 0,.slice none 0 0,.int .i64 0,.int .i64 0,.int .i64 0] 47)=W at *
 refine((zu EO) _).mono ?_
 rintro e u ⟨rfl,b1⟩
 have K2:=zh ((zu K1).below b1 (zu K1).lt.2)
 have E2:=zh ((zu E1).below b1 (zu E1).lt.2)
 have B2:=zh ((zu BE).trans (b1.mono (zu BE).size))
 clear b1 K1 E1 BE EO
 cases v with
 |false=>
  obtain⟨U,hU⟩:∃U,(((((((((((u).setCell ⟨w.heap.size,0,none⟩ (.bool false)).setCell ⟨w.heap.size,1,none⟩ (.int .i64 0)).setCell ⟨w.heap.size,2,none⟩ (.slice none 0 0)).setCell ⟨w.heap.size,3,none⟩ (.slice none 0 0)).setCell ⟨w.heap.size,4,none⟩ (.slice none 0 0)).setCell ⟨w.heap.size,5,none⟩ (.slice none 0 0)).setCell ⟨w.heap.size,6,none⟩ (.slice none 0 0)).setCell ⟨w.heap.size,7,none⟩ (.slice none 0 0)).setCell ⟨w.heap.size,8,none⟩ (.int .i64 0)).setCell ⟨w.heap.size,9,none⟩ (.int .i64 0)).setCell ⟨w.heap.size,10,none⟩ (.int .i64 0)=U:=⟨_,rfl⟩
  have EN:=zh (show Below w.heap.size w U∧Bx11 U w.heap.size (w.heap.size) (.bool false) (.int .i64 0) (.slice none 0 0) (.slice none 0 0) (.slice none 0 0) (.slice none 0 0) (.slice none 0 0) (.slice none 0 0) (.int .i64 0) (.int .i64 0) (.int .i64 0)∧OwD U w.heap.size noD∧OwV U w.heap.size noI∧u.grownBy U (some (w.heap.size)) from by subst hU;exact ended17 (w:=w) (x:=noD) (y:=noI) false 0 0 (zu B2) (zu K2) (ownD_no _ (w.heap.size+1)) (ownV_no _ _) (by omega))
  replace hU:=zh hU
  obtain⟨f0,f1,f2,f3,f4,f5,f6,f7,f8,f9,f10⟩:=(zu K2).fs
  obtain⟨b0,b1,b2,b3,b4,b5,b6,b7,b8,b9,b10⟩:=(zu K2).cs
  go_wp2
  clear f0 b0 f1 b1 f2 b2 f3 b3 f4 b4 f5 b5 f6 b6 f7 b7 f8 b8 f9 b9 f10 b10
  rw[zu hU]
  clear hU
  have r0:=(zu EN).2.1
  obtain⟨q0,q1,q2,q3,q4,q5,q6,q7,q8,q9,q10⟩:=r0.cs
  refine bodyPost_ret (v:= .agg #[.bool false,.int .i64 0,.slice none 0 0,.slice none 0 0,.slice none 0 0,.slice none 0 0,.slice none 0 0,.slice none 0 0,.int .i64 0,.int .i64 0,.int .i64 0]) (by simp[results,Tryz.results14,go_sem,q0,q1,q2,q3,q4,q5,q6,q7,q8,q9,q10]) rfl ?_
  exact⟨noD,noI,rfl,rfl,rfl,(zu EN).2.2.1,(zu EN).2.2.2.1,(zu EN).1⟩
 |true=>
 obtain⟨c0,c1,c2,c3,c4,c5,c6,c7,c8,c9,c10⟩:=(zu E2).cs
 obtain⟨U,hU⟩:∃U,(((((((((((u).setCell ⟨w.heap.size,0,none⟩ (.bool true)).setCell ⟨w.heap.size,1,none⟩ (.int .i64 room)).setCell ⟨w.heap.size,2,none⟩ (.slice none 0 0)).setCell ⟨w.heap.size,3,none⟩ (.slice none 0 0)).setCell ⟨w.heap.size,4,none⟩ (.slice none 0 0)).setCell ⟨w.heap.size,5,none⟩ (.slice none 0 0)).setCell ⟨w.heap.size,6,none⟩ (.slice none 0 0)).setCell ⟨w.heap.size,7,none⟩ (.slice none 0 0)).setCell ⟨w.heap.size,8,none⟩ (.int .i64 0)).setCell ⟨w.heap.size,9,none⟩ (.int .i64 0)).setCell ⟨w.heap.size,10,none⟩ (.int .i64 0)=U:=⟨_,rfl⟩
 have EN:=zh (show Below w.heap.size w U∧Bx11 U w.heap.size (w.heap.size) (.bool true) (.int .i64 room) (.slice none 0 0) (.slice none 0 0) (.slice none 0 0) (.slice none 0 0) (.slice none 0 0) (.slice none 0 0) (.int .i64 0) (.int .i64 0) (.int .i64 0)∧OwD U w.heap.size (noF room)∧OwV U w.heap.size noI∧u.grownBy U (some (w.heap.size)) from by subst hU;exact ended17 (w:=w) (x:=(noF room)) (y:=noI) true 0 0 (zu B2) (zu K2) (show OwD u (w.heap.size+1) (noF room) from⟨rfl,.inl ⟨rfl,rfl⟩⟩) (ownV_no _ _) (by omega))
 replace hU:=zh hU
 obtain⟨f0,f1,f2,f3,f4,f5,f6,f7,f8,f9,f10⟩:=(zu K2).fs
 obtain⟨b0,b1,b2,b3,b4,b5,b6,b7,b8,b9,b10⟩:=(zu K2).cs
 go_wp2
 clear f0 b0 f1 b1 f2 b2 f3 b3 f4 b4 f5 b5 f6 b6 f7 b7 f8 b8 f9 b9 f10 b10
 clear c0 c1 c2 c3 c4 c5 c6 c7 c8 c9 c10
 rw[zu hU]
 clear hU
 have r0:=(zu EN).2.1
 obtain⟨q0,q1,q2,q3,q4,q5,q6,q7,q8,q9,q10⟩:=r0.cs
 refine bodyPost_ret (v:= .agg #[.bool true,.int .i64 room,.slice none 0 0,.slice none 0 0,.slice none 0 0,.slice none 0 0,.slice none 0 0,.slice none 0 0,.int .i64 0,.int .i64 0,.int .i64 0]) (by simp[results,Tryz.results14,go_sem,q0,q1,q2,q3,q4,q5,q6,q7,q8,q9,q10]) rfl ?_
 exact⟨(noF room),noI,rfl,rfl,rfl,(zu EN).2.2.1,(zu EN).2.2.2.1,(zu EN).1⟩
end IEngNw17
end Go.Proofs.YtlbgfdpcgpijhaaGreat
