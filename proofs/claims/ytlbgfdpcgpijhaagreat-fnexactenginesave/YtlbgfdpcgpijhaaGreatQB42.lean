/- Texts of one proof. -/
import Derived.Test.YtlbgfdpcgpijhaaGreatQB33
import Derived.Test.YtlbgfdpcgpijhaaGreatQB41
open Go.ChangeShapes Go.WideShapes Go.ChangeAt Go.RowKit
set_option linter.unusedVariables false
set_option linter.unusedSimpArgs false
set_option maxRecDepth 100000
set_option maxHeartbeats 32000000
namespace Go.Proofs.YtlbgfdpcgpijhaaGreat
namespace IEngOk17
open Fil14 OpensF14 DiskH14 DkH14 SDk14 SOk14 SRd14 EBx17 SSameZ17 SEngOk17
open BMem (Bx Rd)
open Bks (Bk Ok)
open Lots (Says says_of)
open SegP15 (okS)
theorem iLate(w:World)(nm:Int)(s0 s:ByteArray)(eb:Bool)(heb:s.toList.isEmpty=eb):Calls Tryz.prog 86 #[.agg #[.int .i64 nm,.string s0,.string s]] w fun e w'=>e= .returned (.bool (!eb))∧Below w.heap.size w w':=by
 have BB:Below w.heap.size w (w.alloc (.cells #[.int .i64 nm,.string s0,.string s] 64)):=(Below.refl _ _).alloc (Nat.le_refl _) _
 have B1:=zh BB
 clear BB
 go_enter Tryz.func86,Tryz.ntmps86
 cases eb
 ·go_wp2
  go_ret
  exact⟨by simp[heb],zu B1⟩
 ·go_wp2
  go_ret
  exact⟨by simp[heb],zu B1⟩
theorem iIndexL(w:World)(x:Dx)(hr:RdD w x):
  Calls Tryz.prog 146 #[.slice x.a x.ps.length x.c,.func (.func 86) #[] #[]] w fun e w'=>∃r:Int,((r= -1∧NoLate x.ps x.ps.length)∨(0≤r∧¬NoLate x.ps x.ps.length))∧e= .returned (.int .i64 r)∧Below w.heap.size w w':=by
 have H:=zh hr
 have hK:∀(args:Array Value) (u:World),(callFunc 86 args).run Tryz.prog u= .ok (.enter 86 args) u:=fun _ _=>IRead.enters Tryz.func86 (by kernel_rfl) rfl _ _
 have h20:=hr.n
 clear hr
 go_enter Tryz.func146,Tryz.ntmps146
 go_wp2_with fail
 go_loopw [8] (fun i wr=>∃(k:Nat),k≤x.ps.length∧i= .int .i64 k∧Hid (NoLate x.ps k)∧Hid (Below w.heap.size w wr)) (fun i _=>x.ps.length-(intOf i).toNat)
 case atStart=>exact⟨0,by omega,rfl,zh (fun j hj=>by omega),zh (Below.refl _ _)⟩
 case round=>
  obtain⟨k,hk,rfl,HN,HB⟩:=hrel
  by_cases t:k<x.ps.length
  ·have kt:(k:Int)<x.ps.length:=by omega
   obtain⟨g,ea,lg,d0,d1,d2⟩:=cells_of ((zu H).below (zu HB)) t
   have LN:=zh (fun e=>late_next (zu HN) (k:=k) e)
   have NV:=zh (fun(h:NoLate x.ps x.ps.length)=>h k t)
   generalize (elF x.ps k).2.2=s at *
   generalize (elF x.ps k).2.1=s1 at *
   generalize (elF x.ps k).1=s0 at *
   rw[ea]
   obtain⟨eb,heb⟩:∃eb,s.toList.isEmpty=eb:=⟨_,rfl⟩
   go_wp2_with fail
   refine(iLate _ s0 s1 s eb heb).mono ?_
   rintro e w1 ⟨rfl,b1⟩
   have B1:=zh ((zu HB).trans (b1.mono (zu HB).size))
   clear b1 d0 d1 d2 HN HB
   rw[heb] at LN NV
   clear heb
   cases eb with
   |true=>
    have N:=zh ((zu LN) rfl)
    clear LN NV
    go_wp2
    go_roundw
    case rel=>exact⟨k+1,by omega,by go_num,N,B1⟩
    case measure=>simp[intOf];omega
   |false=>
    have N:=zh (show ¬NoLate x.ps x.ps.length from fun h=>by have:=(zu NV) h;simp at this)
    clear LN NV
    go_wp2
    go_ret
    exact⟨k,.inr ⟨by omega,zu N⟩,rfl,zu B1⟩
  ·have e:k=x.ps.length:=by omega
   have HN2:=zh (show NoLate x.ps x.ps.length from by rw[←e];exact zu HN)
   clear HN
   subst e
   go_wp2
   go_ret
   exact⟨-1,.inl ⟨rfl,zu HN2⟩,rfl,zu HB⟩
theorem iContainsL(w:World)(x:Dx)(b:Bool)(hr:RdD w x)(hb:Says b (NoLate x.ps x.ps.length)):
  Calls Tryz.prog 85 #[.slice x.a x.ps.length x.c,.func (.func 86) #[] #[]] w fun e w'=>e= .returned (.bool (!b))∧Below w.heap.size w w':=by
 have T:=zh hb
 have H:=zh hr
 clear hb hr
 go_enter Tryz.func85,Tryz.ntmps85
 go_wp2_with fail
 refine(iIndexL _ x (zu H)).mono ?_
 rintro e w1 ⟨r,hr,rfl,b1⟩
 have B1:=zh b1
 have hd:decide (0≤r)= !b:=by
  rcases hr with⟨rfl,hr⟩|⟨h0,hr⟩
  ·rw[(zu T).of hr];rfl
  ·rw[(zu T).not hr];exact decide_eq_true h0
 clear b1 hr
 go_wp2
 go_ret
 exact⟨rfl,zu B1⟩
theorem iAllSafe(w:World)(x:Dx)(b:Bool)(hr:RdD w x)(hb:Says b (NoLate x.ps x.ps.length)):
  Calls Tryz.prog 33 #[.agg #[.int .i64 x.room,.slice x.a x.ps.length x.c]] w fun e w'=>e= .returned (.bool b)∧Below w.heap.size w w':=by
 have T:=zh hb
 have G0:=zh (Wd.made hr 38)
 clear hb hr
 have c1:=(zu G0).c1
 go_enter Tryz.func33,Tryz.ntmps33
 go_wp2_with fail
 generalize w.alloc (.cells #[.int .i64 x.room,.slice x.a x.ps.length x.c] 38)=W at *
 refine(iContainsL _ x b (zu G0).r (zu T)).mono ?_
 rintro e w1 ⟨rfl,b1⟩
 have B1:=zh ((zu G0).b.trans (b1.mono (zu G0).b.size))
 clear b1 c1 G0
 cases b
 ·go_wp2
  go_ret
  exact⟨rfl,zu B1⟩
 ·go_wp2
  go_ret
  exact⟨rfl,zu B1⟩
theorem iNew(w:World):Calls Tryz.prog 35 #[] w fun e w'=>e= .returned (.agg #[.slice none 0 0,.slice none 0 0,.slice none 0 0,.slice none 0 0,.slice none 0 0,.int .i64 0])∧Below w.heap.size w w':=by
 go_enter Tryz.func35,Tryz.ntmps35
 go_wp2
 refine bodyPost_ret (v:= .agg #[.slice none 0 0,.slice none 0 0,.slice none 0 0,.slice none 0 0,.slice none 0 0,.int .i64 0]) (by simp[results,Tryz.results35,go_sem]) rfl ⟨rfl,?_⟩
 repeat(first|exact Below.refl _ _|refine Below.setCell ?_ (by simp) _|refine Below.alloc ?_ (by simp) _)
theorem iEngineOk(w:World)(up:Bool)(x:Dx)(z:Bx)(sg ct:Int)(vb v:Bool)(hr:RdD w x)(hz:sumZ x.ps≤1048576)(hy:Rd w z)(hb:Says vb (Ok z.b))(hv:Says v (OkE up x.room x.ps z.b sg ct)):
  Calls Tryz.prog 11 #[.agg #[.bool up,.int .i64 x.room,.slice x.a x.ps.length x.c,.slice (some ⟨z.ga,0,none⟩) z.b.ac.length z.ca,.slice (some ⟨z.gi,0,none⟩) z.b.ic.length z.ci,.slice (some ⟨z.gb,0,none⟩) z.b.bs.length z.cb,.slice (some ⟨z.gl,0,none⟩) z.b.ls.length z.cl,.slice (some ⟨z.gt,0,none⟩) z.b.ts.length z.ct,.int .i64 z.b.lot,.int .i64 sg,.int .i64 ct]] w fun e w'=>e= .returned (.bool v)∧Below w.heap.size w w':=by
 have G0:=zh (Eg.made hr hy (Below.refl _ _) up sg ct)
 have OK0:=zh (fun u b (h:RdD u x) (q:decide (OkD x.room x.ps)=b)=>ICom14.iOkB u x b h hz q)
 have BO:=zh (fun u (h:Rd u z)=>IBooksOk.iBooksOk u z vb h hb)
 have HB:=zh hb
 have HV:=zh (show v=true↔OkE up x.room x.ps z.b sg ct from hv)
 have h20:=hr.n
 clear hr hy hb hv
 have c1:=(zu G0).k.c1
 have c2:=(zu G0).k.c2
 have lt:=(zu G0).k.lt.2
 go_enter Tryz.func11,Tryz.ntmps11
 go_wp2_with fail
 generalize w.alloc (.cells #[.bool up,.int .i64 x.room,.slice x.a x.ps.length x.c,.slice (some ⟨z.ga,0,none⟩) z.b.ac.length z.ca,.slice (some ⟨z.gi,0,none⟩) z.b.ic.length z.ci,.slice (some ⟨z.gb,0,none⟩) z.b.bs.length z.cb,.slice (some ⟨z.gl,0,none⟩) z.b.ls.length z.cl,.slice (some ⟨z.gt,0,none⟩) z.b.ts.length z.ct,.int .i64 z.b.lot,.int .i64 sg,.int .i64 ct] 47)=W at *
 refine(zu OK0 _ _ (zu G0).r rfl).mono ?_
 rintro e u ⟨rfl,b1⟩
 have G1:=zh ((zu G0).step b1)
 clear b1 G0 OK0
 clear c1 c2 lt
 by_cases ok:OkD x.room x.ps
 case neg=>
  have od:decide (OkD x.room x.ps)=false:=decide_eq_false ok
  have V:=zh (show v=false from by
   cases e:v with
   |false=>rfl
   |true=>exact absurd ((zu HV).1 e).1 ok)
  clear ok HV
  go_wp2
  go_ret
  exact⟨by rw[zu V];rfl,(zu G1).b⟩
 have od:decide (OkD x.room x.ps)=true:=decide_eq_true ok
 have OK:=zh ok
 clear ok
 cases up with
 |true=>
  have c0:=(zu G1).k.c0
  have c3:=(zu G1).k.c3
  have c4:=(zu G1).k.c4
  have c5:=(zu G1).k.c5
  have c6:=(zu G1).k.c6
  have c7:=(zu G1).k.c7
  have c8:=(zu G1).k.c8
  have lt:=(zu G1).k.lt.2
  go_wp2_with fail
  refine(zu BO _ (zu G1).rb).mono ?_
  rintro e u2 ⟨rfl,b2⟩
  have G2:=zh ((zu G1).step b2)
  clear b2 G1 c0
  clear c3 c4 c5 c6 c7 c8 lt
  cases vb with
  |false=>
   have V:=zh (show v=false from by
    cases e:v with
    |false=>rfl
    |true=>exact absurd (((zu HV).1 e).2.1 rfl).1 (fun h=>by have:=(zu HB).of h;simp at this))
   clear HV
   go_wp2
   go_ret
   exact⟨by rw[zu V];rfl,(zu G2).b⟩
  |true=>
  have OB:=zh ((zu HB).yes)
  obtain⟨sb,hs⟩:∃sb,okS sg=sb:=⟨_,rfl⟩
  have HS:=zh hs
  clear hs
  have c9:=(zu G2).k.c9
  have lt:=(zu G2).k.lt.2
  go_wp2_with fail
  refine(ISg15.iSeg _ sg).mono ?_
  rintro e u2 ⟨rfl,rfl⟩
  rw[zu HS]
  clear c9 lt
  cases sb with
  |false=>
   have V:=zh (show v=false from by
    cases e:v with
    |false=>rfl
    |true=>
     have:=(((zu HV).1 e).2.1 rfl).2.1
     rw[zu HS] at this
     exact absurd this (by simp))
   clear HV
   go_wp2
   go_ret
   exact⟨by rw[zu V];rfl,(zu G2).b⟩
  |true=>
  obtain⟨ca,ha⟩:∃ca,decide (0≤ct)=ca:=⟨_,rfl⟩
  obtain⟨cb,hb⟩:∃cb,decide (ct≤6)=cb:=⟨_,rfl⟩
  have V:=zh (show v=(ca&&cb) from by
   have A:v=true↔(ca=true∧cb=true):=by
    rw[zu HV,←ha,←hb]
    constructor
    ·rintro⟨_,h,_⟩
     have h3:=(h rfl).2.2
     exact⟨decide_eq_true h3.1,decide_eq_true h3.2⟩
    ·rintro⟨h1,h2⟩
     exact⟨zu OK,fun _=>⟨zu OB,zu HS,of_decide_eq_true h1,of_decide_eq_true h2⟩,fun h=>by simp at h⟩
   revert A;clear HV ha hb;cases v<;>cases ca<;>cases cb<;>simp)
  have c10:=(zu G2).k.c10
  have lt:=(zu G2).k.lt.2
  clear HV
  cases ca with
  |false=>
   go_wp2
   go_ret
   exact⟨by rw[zu V];rfl,(zu G2).b⟩
  |true=>
  go_wp2
  go_ret
  exact⟨by rw[zu V];simp,(zu G2).b⟩
 |false=>
 obtain⟨nl,hnl⟩:=says_of (NoLate x.ps x.ps.length)
 obtain⟨nb,hnb⟩:=says_of (z.b=noB)
 have NL:=zh hnl
 have NB:=zh hnb
 clear hnl hnb
 obtain⟨s0,hs0⟩:∃b,(sg==0)=b:=⟨_,rfl⟩
 obtain⟨s1,hs1⟩:∃b,(ct==0)=b:=⟨_,rfl⟩
 have V:=zh (show v=(nl&&nb&&s0&&s1) from by
  have A:v=true↔(nl=true∧nb=true∧s0=true∧s1=true):=by
   rw[zu HV,←hs0,←hs1]
   constructor
   ·rintro⟨_,_,h⟩
    obtain⟨h0,h1,h2,h3⟩:=h rfl
    exact⟨(zu NL).of h0,(zu NB).of h1,by simp[h2],by simp[h3]⟩
   ·rintro⟨h0,h1,h2,h3⟩
    subst h0 h1
    exact⟨zu OK,fun h=>by simp at h,fun _=>⟨(zu NL).yes,(zu NB).yes,by simpa using h2,by simpa using h3⟩⟩
  revert A;clear HV NB NL;cases v<;>cases nl<;>cases nb<;>cases s0<;>cases s1<;>simp)
 clear HV
 have c0:=(zu G1).k.c0
 have lt:=(zu G1).k.lt.2
 go_wp2_with fail
 clear c0 lt
 cases nl with
 |false=>
  refine wp_region_held_drew (S:=(fun w'=>w'.cell? ⟨w.heap.size,1,none⟩=some (.int .i64 x.room)∧w'.cell? ⟨w.heap.size,2,none⟩=some (.slice x.a x.ps.length x.c)∧w'.cell? ⟨w.heap.size,3,none⟩=some (.slice (some ⟨z.ga,0,none⟩) z.b.ac.length z.ca)∧w'.cell? ⟨w.heap.size,4,none⟩=some (.slice (some ⟨z.gi,0,none⟩) z.b.ic.length z.ci)∧w'.cell? ⟨w.heap.size,5,none⟩=some (.slice (some ⟨z.gb,0,none⟩) z.b.bs.length z.cb)∧w'.cell? ⟨w.heap.size,6,none⟩=some (.slice (some ⟨z.gl,0,none⟩) z.b.ls.length z.cl)∧w'.cell? ⟨w.heap.size,7,none⟩=some (.slice (some ⟨z.gt,0,none⟩) z.b.ts.length z.ct)∧w'.cell? ⟨w.heap.size,8,none⟩=some (.int .i64 z.b.lot)∧w'.cell? ⟨w.heap.size,9,none⟩=some (.int .i64 sg)∧w'.cell? ⟨w.heap.size,10,none⟩=some (.int .i64 ct))) (by kernel_rfl) ⟨(zu G1).k.c1,(zu G1).k.c2,(zu G1).k.c3,(zu G1).k.c4,(zu G1).k.c5,(zu G1).k.c6,(zu G1).k.c7,(zu G1).k.c8,(zu G1).k.c9,(zu G1).k.c10⟩ (fun hHeld=>?_)
  refine zT 0 10 (.pointer (some ⟨w.heap.size,1,none⟩)) rfl hHeld ?_
  try simp only[Act.put,zA,zB,zC]
  refine zT 1 11 (.agg #[.int .i64 x.room,.slice x.a x.ps.length x.c]) rfl hHeld ?_
  try simp only[Act.put,zA,zB,zC]
  refine zR 2 rfl (fun K hK=>?_)
  go_simp
  go_wp2_with fail
  refine(iAllSafe _ x false ((zu G1).r.below (Below.refl _ _).drew) (zu NL)).mono ?_
  rintro e v1 ⟨rfl,b6⟩
  have b7:Below u.heap.size u v1:=⟨b6.os,b6.tape,b6.output,b6.size,b6.block⟩
  replace G1:=zh ((zu G1).step b7)
  clear b6 b7
  go_wp2_with fail
  refine hK.out _ _ ⟨(zu G1).k.c1,(zu G1).k.c2,(zu G1).k.c3,(zu G1).k.c4,(zu G1).k.c5,(zu G1).k.c6,(zu G1).k.c7,(zu G1).k.c8,(zu G1).k.c9,(zu G1).k.c10⟩ (fun hHeld=>?_)
  clear hK K
  try simp only[Act.put,zA,zB,zC]
  refine zT 3 13 (.bool false) rfl hHeld ?_
  try simp only[Act.put,zA,zB,zC]
  refine zS 4 14 rfl hHeld ?_
  try simp only[Act.put,zA,zB,zC]
  refine zS 5 15 rfl hHeld ?_
  try simp only[Act.put,zA,zB,zC]
  refine zS 6 16 rfl hHeld ?_
  try simp only[Act.put,zA,zB,zC]
  refine zS 7 17 rfl hHeld ?_
  try simp only[Act.put,zA,zB,zC]
  refine zT 8 18 (.bool false) rfl hHeld ?_
  try simp only[Act.put,zA,zB,zC]
  refine zT 9 19 (.bool false) rfl hHeld ?_
  try simp only[Act.put,zA,zB,zC]
  refine zS 10 20 rfl hHeld ?_
  try simp only[Act.put,zA,zB,zC]
  refine zS 11 21 rfl hHeld ?_
  try simp only[Act.put,zA,zB,zC]
  refine zS 12 22 rfl hHeld ?_
  try simp only[Act.put,zA,zB,zC]
  refine zT 13 23 (.bool false) rfl hHeld ?_
  try simp only[Act.put,zA,zB,zC]
  refine zT 14 24 (.bool false) rfl hHeld ?_
  try simp only[Act.put,zA,zB,zC]
  refine zS 15 25 rfl hHeld ?_
  try simp only[Act.put,zA,zB,zC]
  refine zS 16 26 rfl hHeld ?_
  try simp only[Act.put,zA,zB,zC]
  refine zS 17 27 rfl hHeld ?_
  try simp only[Act.put,zA,zB,zC]
  refine zT 18 28 (.bool false) rfl hHeld ?_
  try simp only[Act.put,zA,zB,zC]
  refine zT 19 2 (.bool false) rfl hHeld ?_
  try simp only[Act.put,zA,zB,zC]
  refine wpAnyH_done (by kernel_rfl) ?_ _
  go_wp2
  go_ret
  exact⟨by rw[zu V];first|rfl|simp,(zu G1).b⟩
 |true=>
 cases nb with
 |false=>
  refine wp_region_held_drew (S:=(fun w'=>w'.cell? ⟨w.heap.size,1,none⟩=some (.int .i64 x.room)∧w'.cell? ⟨w.heap.size,2,none⟩=some (.slice x.a x.ps.length x.c)∧w'.cell? ⟨w.heap.size,3,none⟩=some (.slice (some ⟨z.ga,0,none⟩) z.b.ac.length z.ca)∧w'.cell? ⟨w.heap.size,4,none⟩=some (.slice (some ⟨z.gi,0,none⟩) z.b.ic.length z.ci)∧w'.cell? ⟨w.heap.size,5,none⟩=some (.slice (some ⟨z.gb,0,none⟩) z.b.bs.length z.cb)∧w'.cell? ⟨w.heap.size,6,none⟩=some (.slice (some ⟨z.gl,0,none⟩) z.b.ls.length z.cl)∧w'.cell? ⟨w.heap.size,7,none⟩=some (.slice (some ⟨z.gt,0,none⟩) z.b.ts.length z.ct)∧w'.cell? ⟨w.heap.size,8,none⟩=some (.int .i64 z.b.lot)∧w'.cell? ⟨w.heap.size,9,none⟩=some (.int .i64 sg)∧w'.cell? ⟨w.heap.size,10,none⟩=some (.int .i64 ct))) (by kernel_rfl) ⟨(zu G1).k.c1,(zu G1).k.c2,(zu G1).k.c3,(zu G1).k.c4,(zu G1).k.c5,(zu G1).k.c6,(zu G1).k.c7,(zu G1).k.c8,(zu G1).k.c9,(zu G1).k.c10⟩ (fun hHeld=>?_)
  refine zT 0 10 (.pointer (some ⟨w.heap.size,1,none⟩)) rfl hHeld ?_
  try simp only[Act.put,zA,zB,zC]
  refine zT 1 11 (.agg #[.int .i64 x.room,.slice x.a x.ps.length x.c]) rfl hHeld ?_
  try simp only[Act.put,zA,zB,zC]
  refine zR 2 rfl (fun K hK=>?_)
  go_simp
  go_wp2_with fail
  refine(iAllSafe _ x true ((zu G1).r.below (Below.refl _ _).drew) (zu NL)).mono ?_
  rintro e v1 ⟨rfl,b6⟩
  have b7:Below u.heap.size u v1:=⟨b6.os,b6.tape,b6.output,b6.size,b6.block⟩
  replace G1:=zh ((zu G1).step b7)
  clear b6 b7
  go_wp2_with fail
  refine hK.out _ _ ⟨(zu G1).k.c1,(zu G1).k.c2,(zu G1).k.c3,(zu G1).k.c4,(zu G1).k.c5,(zu G1).k.c6,(zu G1).k.c7,(zu G1).k.c8,(zu G1).k.c9,(zu G1).k.c10⟩ (fun hHeld=>?_)
  clear hK K
  try simp only[Act.put,zA,zB,zC]
  refine zT 3 13 (.bool true) rfl hHeld ?_
  try simp only[Act.put,zA,zB,zC]
  refine zT 4 14 (.pointer (some ⟨w.heap.size,3,none⟩)) rfl hHeld ?_
  try simp only[Act.put,zA,zB,zC]
  refine zT 5 15 (.agg #[.slice (some ⟨z.ga,0,none⟩) z.b.ac.length z.ca,.slice (some ⟨z.gi,0,none⟩) z.b.ic.length z.ci,.slice (some ⟨z.gb,0,none⟩) z.b.bs.length z.cb,.slice (some ⟨z.gl,0,none⟩) z.b.ls.length z.cl,.slice (some ⟨z.gt,0,none⟩) z.b.ts.length z.ct,.int .i64 z.b.lot]) rfl hHeld ?_
  try simp only[Act.put,zA,zB,zC]
  refine zR 6 rfl (fun K hK=>?_)
  go_simp
  go_wp2_with fail
  refine(iNew _).mono ?_
  rintro e v2 ⟨rfl,b6⟩
  have b7:Below v1.heap.size v1 v2:=⟨b6.os,b6.tape,b6.output,b6.size,b6.block⟩
  replace G1:=zh ((zu G1).step b7)
  clear b6 b7
  go_wp2_with fail
  refine hK.out _ _ ⟨(zu G1).k.c1,(zu G1).k.c2,(zu G1).k.c3,(zu G1).k.c4,(zu G1).k.c5,(zu G1).k.c6,(zu G1).k.c7,(zu G1).k.c8,(zu G1).k.c9,(zu G1).k.c10⟩ (fun hHeld=>?_)
  clear hK K
  try simp only[Act.put,zA,zB,zC]
  refine zR 7 rfl (fun K hK=>?_)
  go_simp
  go_wp2_with fail
  refine(SameZI17.iSameZ _ z false (zu G1).rb (zu NB)).mono ?_
  rintro e v3 ⟨rfl,b6⟩
  have b7:Below v2.heap.size v2 v3:=⟨b6.os,b6.tape,b6.output,b6.size,b6.block⟩
  replace G1:=zh ((zu G1).step b7)
  clear b6 b7
  go_wp2_with fail
  refine hK.out _ _ ⟨(zu G1).k.c1,(zu G1).k.c2,(zu G1).k.c3,(zu G1).k.c4,(zu G1).k.c5,(zu G1).k.c6,(zu G1).k.c7,(zu G1).k.c8,(zu G1).k.c9,(zu G1).k.c10⟩ (fun hHeld=>?_)
  clear hK K
  try simp only[Act.put,zA,zB,zC]
  refine zT 8 18 (.bool false) rfl hHeld ?_
  try simp only[Act.put,zA,zB,zC]
  refine zT 9 19 (.bool false) rfl hHeld ?_
  try simp only[Act.put,zA,zB,zC]
  refine zS 10 20 rfl hHeld ?_
  try simp only[Act.put,zA,zB,zC]
  refine zS 11 21 rfl hHeld ?_
  try simp only[Act.put,zA,zB,zC]
  refine zS 12 22 rfl hHeld ?_
  try simp only[Act.put,zA,zB,zC]
  refine zT 13 23 (.bool false) rfl hHeld ?_
  try simp only[Act.put,zA,zB,zC]
  refine zT 14 24 (.bool false) rfl hHeld ?_
  try simp only[Act.put,zA,zB,zC]
  refine zS 15 25 rfl hHeld ?_
  try simp only[Act.put,zA,zB,zC]
  refine zS 16 26 rfl hHeld ?_
  try simp only[Act.put,zA,zB,zC]
  refine zS 17 27 rfl hHeld ?_
  try simp only[Act.put,zA,zB,zC]
  refine zT 18 28 (.bool false) rfl hHeld ?_
  try simp only[Act.put,zA,zB,zC]
  refine zT 19 2 (.bool false) rfl hHeld ?_
  try simp only[Act.put,zA,zB,zC]
  refine wpAnyH_done (by kernel_rfl) ?_ _
  go_wp2
  go_ret
  exact⟨by rw[zu V];first|rfl|simp,(zu G1).b⟩
 |true=>
 cases s0 with
 |false=>
  refine wp_region_held_drew (S:=(fun w'=>w'.cell? ⟨w.heap.size,1,none⟩=some (.int .i64 x.room)∧w'.cell? ⟨w.heap.size,2,none⟩=some (.slice x.a x.ps.length x.c)∧w'.cell? ⟨w.heap.size,3,none⟩=some (.slice (some ⟨z.ga,0,none⟩) z.b.ac.length z.ca)∧w'.cell? ⟨w.heap.size,4,none⟩=some (.slice (some ⟨z.gi,0,none⟩) z.b.ic.length z.ci)∧w'.cell? ⟨w.heap.size,5,none⟩=some (.slice (some ⟨z.gb,0,none⟩) z.b.bs.length z.cb)∧w'.cell? ⟨w.heap.size,6,none⟩=some (.slice (some ⟨z.gl,0,none⟩) z.b.ls.length z.cl)∧w'.cell? ⟨w.heap.size,7,none⟩=some (.slice (some ⟨z.gt,0,none⟩) z.b.ts.length z.ct)∧w'.cell? ⟨w.heap.size,8,none⟩=some (.int .i64 z.b.lot)∧w'.cell? ⟨w.heap.size,9,none⟩=some (.int .i64 sg)∧w'.cell? ⟨w.heap.size,10,none⟩=some (.int .i64 ct))) (by kernel_rfl) ⟨(zu G1).k.c1,(zu G1).k.c2,(zu G1).k.c3,(zu G1).k.c4,(zu G1).k.c5,(zu G1).k.c6,(zu G1).k.c7,(zu G1).k.c8,(zu G1).k.c9,(zu G1).k.c10⟩ (fun hHeld=>?_)
  refine zT 0 10 (.pointer (some ⟨w.heap.size,1,none⟩)) rfl hHeld ?_
  try simp only[Act.put,zA,zB,zC]
  refine zT 1 11 (.agg #[.int .i64 x.room,.slice x.a x.ps.length x.c]) rfl hHeld ?_
  try simp only[Act.put,zA,zB,zC]
  refine zR 2 rfl (fun K hK=>?_)
  go_simp
  go_wp2_with fail
  refine(iAllSafe _ x true ((zu G1).r.below (Below.refl _ _).drew) (zu NL)).mono ?_
  rintro e v1 ⟨rfl,b6⟩
  have b7:Below u.heap.size u v1:=⟨b6.os,b6.tape,b6.output,b6.size,b6.block⟩
  replace G1:=zh ((zu G1).step b7)
  clear b6 b7
  go_wp2_with fail
  refine hK.out _ _ ⟨(zu G1).k.c1,(zu G1).k.c2,(zu G1).k.c3,(zu G1).k.c4,(zu G1).k.c5,(zu G1).k.c6,(zu G1).k.c7,(zu G1).k.c8,(zu G1).k.c9,(zu G1).k.c10⟩ (fun hHeld=>?_)
  clear hK K
  try simp only[Act.put,zA,zB,zC]
  refine zT 3 13 (.bool true) rfl hHeld ?_
  try simp only[Act.put,zA,zB,zC]
  refine zT 4 14 (.pointer (some ⟨w.heap.size,3,none⟩)) rfl hHeld ?_
  try simp only[Act.put,zA,zB,zC]
  refine zT 5 15 (.agg #[.slice (some ⟨z.ga,0,none⟩) z.b.ac.length z.ca,.slice (some ⟨z.gi,0,none⟩) z.b.ic.length z.ci,.slice (some ⟨z.gb,0,none⟩) z.b.bs.length z.cb,.slice (some ⟨z.gl,0,none⟩) z.b.ls.length z.cl,.slice (some ⟨z.gt,0,none⟩) z.b.ts.length z.ct,.int .i64 z.b.lot]) rfl hHeld ?_
  try simp only[Act.put,zA,zB,zC]
  refine zR 6 rfl (fun K hK=>?_)
  go_simp
  go_wp2_with fail
  refine(iNew _).mono ?_
  rintro e v2 ⟨rfl,b6⟩
  have b7:Below v1.heap.size v1 v2:=⟨b6.os,b6.tape,b6.output,b6.size,b6.block⟩
  replace G1:=zh ((zu G1).step b7)
  clear b6 b7
  go_wp2_with fail
  refine hK.out _ _ ⟨(zu G1).k.c1,(zu G1).k.c2,(zu G1).k.c3,(zu G1).k.c4,(zu G1).k.c5,(zu G1).k.c6,(zu G1).k.c7,(zu G1).k.c8,(zu G1).k.c9,(zu G1).k.c10⟩ (fun hHeld=>?_)
  clear hK K
  try simp only[Act.put,zA,zB,zC]
  refine zR 7 rfl (fun K hK=>?_)
  go_simp
  go_wp2_with fail
  refine(SameZI17.iSameZ _ z true (zu G1).rb (zu NB)).mono ?_
  rintro e v3 ⟨rfl,b6⟩
  have b7:Below v2.heap.size v2 v3:=⟨b6.os,b6.tape,b6.output,b6.size,b6.block⟩
  replace G1:=zh ((zu G1).step b7)
  clear b6 b7
  go_wp2_with fail
  refine hK.out _ _ ⟨(zu G1).k.c1,(zu G1).k.c2,(zu G1).k.c3,(zu G1).k.c4,(zu G1).k.c5,(zu G1).k.c6,(zu G1).k.c7,(zu G1).k.c8,(zu G1).k.c9,(zu G1).k.c10⟩ (fun hHeld=>?_)
  clear hK K
  try simp only[Act.put,zA,zB,zC]
  refine zT 8 18 (.bool true) rfl hHeld ?_
  try simp only[Act.put,zA,zB,zC]
  refine zT 9 19 (.bool true) rfl hHeld ?_
  try simp only[Act.put,zA,zB,zC]
  refine zT 10 20 (.pointer (some ⟨w.heap.size,9,none⟩)) rfl hHeld ?_
  try simp only[Act.put,zA,zB,zC]
  refine zT 11 21 (.int .i64 sg) rfl hHeld ?_
  try simp only[Act.put,zA,zB,zC]
  refine zT 12 22 (.bool false) rfl hHeld ?_
  try simp only[Act.put,zA,zB,zC]
  refine zT 13 23 (.bool false) rfl hHeld ?_
  try simp only[Act.put,zA,zB,zC]
  refine zT 14 24 (.bool false) rfl hHeld ?_
  try simp only[Act.put,zA,zB,zC]
  refine zS 15 25 rfl hHeld ?_
  try simp only[Act.put,zA,zB,zC]
  refine zS 16 26 rfl hHeld ?_
  try simp only[Act.put,zA,zB,zC]
  refine zS 17 27 rfl hHeld ?_
  try simp only[Act.put,zA,zB,zC]
  refine zT 18 28 (.bool false) rfl hHeld ?_
  try simp only[Act.put,zA,zB,zC]
  refine zT 19 2 (.bool false) rfl hHeld ?_
  try simp only[Act.put,zA,zB,zC]
  refine wpAnyH_done (by kernel_rfl) ?_ _
  go_wp2
  go_ret
  exact⟨by rw[zu V];first|rfl|simp,(zu G1).b⟩
 |true=>
 refine wp_region_held_drew (S:=(fun w'=>w'.cell? ⟨w.heap.size,1,none⟩=some (.int .i64 x.room)∧w'.cell? ⟨w.heap.size,2,none⟩=some (.slice x.a x.ps.length x.c)∧w'.cell? ⟨w.heap.size,3,none⟩=some (.slice (some ⟨z.ga,0,none⟩) z.b.ac.length z.ca)∧w'.cell? ⟨w.heap.size,4,none⟩=some (.slice (some ⟨z.gi,0,none⟩) z.b.ic.length z.ci)∧w'.cell? ⟨w.heap.size,5,none⟩=some (.slice (some ⟨z.gb,0,none⟩) z.b.bs.length z.cb)∧w'.cell? ⟨w.heap.size,6,none⟩=some (.slice (some ⟨z.gl,0,none⟩) z.b.ls.length z.cl)∧w'.cell? ⟨w.heap.size,7,none⟩=some (.slice (some ⟨z.gt,0,none⟩) z.b.ts.length z.ct)∧w'.cell? ⟨w.heap.size,8,none⟩=some (.int .i64 z.b.lot)∧w'.cell? ⟨w.heap.size,9,none⟩=some (.int .i64 sg)∧w'.cell? ⟨w.heap.size,10,none⟩=some (.int .i64 ct))) (by kernel_rfl) ⟨(zu G1).k.c1,(zu G1).k.c2,(zu G1).k.c3,(zu G1).k.c4,(zu G1).k.c5,(zu G1).k.c6,(zu G1).k.c7,(zu G1).k.c8,(zu G1).k.c9,(zu G1).k.c10⟩ (fun hHeld=>?_)
 refine zT 0 10 (.pointer (some ⟨w.heap.size,1,none⟩)) rfl hHeld ?_
 try simp only[Act.put,zA,zB,zC]
 refine zT 1 11 (.agg #[.int .i64 x.room,.slice x.a x.ps.length x.c]) rfl hHeld ?_
 try simp only[Act.put,zA,zB,zC]
 refine zR 2 rfl (fun K hK=>?_)
 go_simp
 go_wp2_with fail
 refine(iAllSafe _ x true ((zu G1).r.below (Below.refl _ _).drew) (zu NL)).mono ?_
 rintro e v1 ⟨rfl,b6⟩
 have b7:Below u.heap.size u v1:=⟨b6.os,b6.tape,b6.output,b6.size,b6.block⟩
 replace G1:=zh ((zu G1).step b7)
 clear b6 b7
 go_wp2_with fail
 refine hK.out _ _ ⟨(zu G1).k.c1,(zu G1).k.c2,(zu G1).k.c3,(zu G1).k.c4,(zu G1).k.c5,(zu G1).k.c6,(zu G1).k.c7,(zu G1).k.c8,(zu G1).k.c9,(zu G1).k.c10⟩ (fun hHeld=>?_)
 clear hK K
 try simp only[Act.put,zA,zB,zC]
 refine zT 3 13 (.bool true) rfl hHeld ?_
 try simp only[Act.put,zA,zB,zC]
 refine zT 4 14 (.pointer (some ⟨w.heap.size,3,none⟩)) rfl hHeld ?_
 try simp only[Act.put,zA,zB,zC]
 refine zT 5 15 (.agg #[.slice (some ⟨z.ga,0,none⟩) z.b.ac.length z.ca,.slice (some ⟨z.gi,0,none⟩) z.b.ic.length z.ci,.slice (some ⟨z.gb,0,none⟩) z.b.bs.length z.cb,.slice (some ⟨z.gl,0,none⟩) z.b.ls.length z.cl,.slice (some ⟨z.gt,0,none⟩) z.b.ts.length z.ct,.int .i64 z.b.lot]) rfl hHeld ?_
 try simp only[Act.put,zA,zB,zC]
 refine zR 6 rfl (fun K hK=>?_)
 go_simp
 go_wp2_with fail
 refine(iNew _).mono ?_
 rintro e v2 ⟨rfl,b6⟩
 have b7:Below v1.heap.size v1 v2:=⟨b6.os,b6.tape,b6.output,b6.size,b6.block⟩
 replace G1:=zh ((zu G1).step b7)
 clear b6 b7
 go_wp2_with fail
 refine hK.out _ _ ⟨(zu G1).k.c1,(zu G1).k.c2,(zu G1).k.c3,(zu G1).k.c4,(zu G1).k.c5,(zu G1).k.c6,(zu G1).k.c7,(zu G1).k.c8,(zu G1).k.c9,(zu G1).k.c10⟩ (fun hHeld=>?_)
 clear hK K
 try simp only[Act.put,zA,zB,zC]
 refine zR 7 rfl (fun K hK=>?_)
 go_simp
 go_wp2_with fail
 refine(SameZI17.iSameZ _ z true (zu G1).rb (zu NB)).mono ?_
 rintro e v3 ⟨rfl,b6⟩
 have b7:Below v2.heap.size v2 v3:=⟨b6.os,b6.tape,b6.output,b6.size,b6.block⟩
 replace G1:=zh ((zu G1).step b7)
 clear b6 b7
 go_wp2_with fail
 refine hK.out _ _ ⟨(zu G1).k.c1,(zu G1).k.c2,(zu G1).k.c3,(zu G1).k.c4,(zu G1).k.c5,(zu G1).k.c6,(zu G1).k.c7,(zu G1).k.c8,(zu G1).k.c9,(zu G1).k.c10⟩ (fun hHeld=>?_)
 clear hK K
 try simp only[Act.put,zA,zB,zC]
 refine zT 8 18 (.bool true) rfl hHeld ?_
 try simp only[Act.put,zA,zB,zC]
 refine zT 9 19 (.bool true) rfl hHeld ?_
 try simp only[Act.put,zA,zB,zC]
 refine zT 10 20 (.pointer (some ⟨w.heap.size,9,none⟩)) rfl hHeld ?_
 try simp only[Act.put,zA,zB,zC]
 refine zT 11 21 (.int .i64 sg) rfl hHeld ?_
 try simp only[Act.put,zA,zB,zC]
 refine zT 12 22 (.bool true) rfl hHeld ?_
 try simp only[Act.put,zA,zB,zC]
 refine zT 13 23 (.bool true) rfl hHeld ?_
 try simp only[Act.put,zA,zB,zC]
 refine zT 14 24 (.bool true) rfl hHeld ?_
 try simp only[Act.put,zA,zB,zC]
 refine zT 15 25 (.pointer (some ⟨w.heap.size,10,none⟩)) rfl hHeld ?_
 try simp only[Act.put,zA,zB,zC]
 refine zT 16 26 (.int .i64 ct) rfl hHeld ?_
 try simp only[Act.put,zA,zB,zC]
 refine zT 17 27 (.bool s1) rfl hHeld ?_
 try simp only[Act.put,zA,zB,zC]
 refine zT 18 28 (.bool s1) rfl hHeld ?_
 try simp only[Act.put,zA,zB,zC]
 refine zT 19 2 (.bool s1) rfl hHeld ?_
 try simp only[Act.put,zA,zB,zC]
 refine wpAnyH_done (by kernel_rfl) ?_ _
 go_wp2
 go_ret
 exact⟨by rw[zu V];first|rfl|simp,(zu G1).b⟩
end IEngOk17
end Go.Proofs.YtlbgfdpcgpijhaaGreat
