/- Lemmas. -/
import Derived.Test.YtppkkmaoaiopaaaGreatQF22
import Derived.Test.YtppkkmaoaiopaaaGreatQF29
import Derived.Test.YtppkkmaoaiopaaaGreatQF32
open Go.ChangeShapes Go.WideShapes Go.ChangeAt Go.RowKit
set_option linter.unusedVariables false
set_option linter.unusedSimpArgs false
set_option maxRecDepth 100000
set_option maxHeartbeats 32000000
namespace Go.Proofs.YtppkkmaoaiopaaaGreat
namespace ISave16
open BMem Bks IBalsFit SNums13 SSave16
open Lots (Says)
open SPack13 (packB)
open SPut11 (numB AtO)
open SSeal11 (sealB)
open SegP15 (okS)
theorem pack_some{b:Bk}(h:Ok b):(packB b).length≠0:=by
 unfold SPack13.packB
 rw[if_pos h]
 unfold SPuts11.numsB
 rw[if_pos (fun i hi=>(SPack13.nums_in h.1 ((nums b).getD i 0) (by simp[List.getD,hi])).1)]
 have e:nums b=(b.ac.length:Int)::(nums b).tail:=by simp[nums]
 rw[e,List.flatMap_cons,List.length_append]
 have:=ISeal11.numB_some b.ac.length
 omega
theorem of_bytesO(w:World)(base:Nat)(a:Option Addr)(n c:Nat)(xs:List Int)(h:VOB.Ob w base a n c xs):(convert 142 9 (.slice a n c)).run Tryz.prog w= .ok (.string (strOfNums xs)) w:=by
 have hl:=h.len
 subst hl
 rcases h.either with⟨rfl,_,rfl⟩|⟨g,rfl,o⟩
 ·have c0:c=0:=by
   rcases h.2 with⟨h1,_⟩|⟨g,c',cur,h1,_⟩
   ·simpa using h1
   ·simp at h1
  subst c0
  simp[convert,go_sem,Conv.bytesToString]
  first|done|rfl|kernel_rfl
 ·exact Conv15.of_bytes w g c xs o.at
theorem iSavePack(w:World)(x:Bx)(f:Int)(b:Bool)(h:Rd w x)(hb:Says b (Ok x.b)):
  Calls Tryz.prog 113 #[.agg #[.int .i64 f,.slice (some ⟨x.ga,0,none⟩) x.b.ac.length x.ca,.slice (some ⟨x.gi,0,none⟩) x.b.ic.length x.ci,.slice (some ⟨x.gb,0,none⟩) x.b.bs.length x.cb,.slice (some ⟨x.gl,0,none⟩) x.b.ls.length x.cl,.slice (some ⟨x.gt,0,none⟩) x.b.ts.length x.ct,.int .i64 x.b.lot]] w fun e w'=>e= .returned (.tuple #[.string (saveD f x.b b).1,.bool (saveD f x.b b).2])∧Below w.heap.size w w':=by
 have S0:=zh (Sv.made h (Below.refl _ w) f 59)
 have PK:=zh (fun u h=>IPack13.iBooksPack u x b h hb)
 have PL:=zh (pack_len2 x.b)
 have PS:=zh (show b=true→(packB x.b).length≠0 from fun e=>pack_some (by rw[e] at hb;exact hb.yes))
 have BI:=zh (body_in (f:=f) x.b)
 have RE:=zh (show saveD f x.b b=if b=true∧okS f=true∧(bodyS f x.b).length≤9000 then(strOfNums (sealB (bodyS f x.b)),true) else(ByteArray.empty,false) from rfl)
 have BE:=zh (show bodyS f x.b=numB f++packB x.b from rfl)
 generalize saveD f x.b b=rr at *
 generalize bodyS f x.b=bo at *
 generalize packB x.b=pk at *
 clear h hb
 have g0:=(zu S0).f
 have g1:=(zu S0).c0
 have g2:=(zu S0).c1
 have g3:=(zu S0).c2
 have g4:=(zu S0).c3
 have g5:=(zu S0).c4
 have g6:=(zu S0).c5
 go_enter Tryz.func113,Tryz.ntmps113
 go_wp2_with fail
 refine(zu PK _ (zu S0).r).mono ?_
 rintro e u ⟨ap,cp,rfl,op,bb⟩
 have S1:=zh ((zu S0).step bb)
 have OP:=zh op
 have us:=bb.size
 clear bb op g0 g1 g2 g3 g4 g5 g6 S0 PK
 have g0:=(zu S1).f
 cases b with
 |false=>
  have E:=zh (show rr=(ByteArray.empty,false) by rw[zu RE,if_neg (fun h=>by simp at h)])
  clear RE
  go_wp2
  go_ret2
  rw[zu E]
  exact⟨rfl,(zu S1).b⟩
 |true=>
  cases sk:okS f with
  |false=>
   have E:=zh (show rr=(ByteArray.empty,false) by rw[zu RE,if_neg (fun h=>by rw[sk] at h;simp at h)])
   have SK:=zh sk
   clear RE sk
   go_wp2_with fail
   refine(ISg15.iSegOk _ f false (zu SK)).mono ?_
   rintro e u ⟨rfl,rfl⟩
   go_wp2
   go_ret2
   rw[zu E]
   exact⟨rfl,(zu S1).b⟩
  |true=>
   have SK:=zh sk
   have f19:0≤f∧f≤19:=of_decide_eq_true sk
   have RR:=zh (show rr=if bo.length≤9000 then(strOfNums (sealB bo),true) else(ByteArray.empty,false) by
    rw[zu RE]
    by_cases q:bo.length≤9000
    ·rw[if_pos ⟨rfl,sk,q⟩,if_pos q]
    ·rw[if_neg (fun h=>q h.2.2),if_neg q])
   clear RE sk
   go_wp2_with fail
   refine(ISg15.iSegOk _ f true (zu SK)).mono ?_
   rintro e u ⟨rfl,rfl⟩
   have NP:=(zu PS) trivial
   obtain⟨gp,rfl,OP1⟩:∃g,ap=some ⟨g,0,none⟩∧Hid (ByteH.Own u w.heap.size g pk.length cp pk):=by
    rcases(zu OP).either with⟨_,h,_⟩|⟨g,h,o⟩
    ·exact absurd h NP
    ·exact⟨g,h,zh (o.mono (by simp))⟩
   clear OP PS us
   have n9:=SPut11.numB_nine (x:=f) (by omega)
   have pl:=zu PL
   have PL9:=zh (show pk.length≤900000∧(numB f).length≤9 from⟨pl,n9⟩)
   obtain⟨fn,hfn⟩:∃fn:Nat,f=(fn:Int):=⟨f.toNat,by omega⟩
   have NF:=zh (show(numB f).length≠0 by rw[hfn];exact ISeal11.numB_some fn)
   have f63:f≤9223372036854775807:=by omega
   clear hfn f19 PL
   go_wp2_with fail
   refine(IPut11.iPutNum _ f f63).mono ?_
   rintro e u1 ⟨a1,c1,rfl,o1,b1⟩
   have S2:=zh ((zu S1).step b1)
   have gpl:=(zu OP1).lt
   have OP2:=zh ((zu OP1).below b1 gpl.2)
   have us1:=b1.size
   have wl:=(zu S1).b.size
   obtain⟨g1,rfl,O1⟩:∃g,a1=some ⟨g,0,none⟩∧Hid (ByteH.Own u1 u.heap.size g (numB f).length c1 (numB f)):=by
    rcases o1.either with⟨_,h,_⟩|⟨g,h,o⟩
    ·exact absurd h (zu NF)
    ·exact⟨g,h,zh o⟩
   have lg:=(zu O1).lt
   clear o1 b1 g0 OP1 S1
   have CB:=zh (Con16.iConcat2 (u1.alloc (.cells #[.slice (some ⟨g1,0,none⟩) (numB f).length c1,.slice (some ⟨gp,0,none⟩) pk.length cp] 142)) u1.heap.size g1 0 (numB f).length c1 gp 0 pk.length cp (numB f) pk rfl rfl (by omega) (by simp) (by simp;omega) (by simp;omega) (ConB11.AtO.below (AtO.of (zu O1).at) (one_more u1 _) lg.2) (ConB11.AtO.below (AtO.of (zu OP2).at) (one_more u1 _) (by omega)) (by simp) (by simp))
   have B2:=zh (show Below w.heap.size w (u1.alloc (.cells #[.slice (some ⟨g1,0,none⟩) (numB f).length c1,.slice (some ⟨gp,0,none⟩) pk.length cp] 142)) from(zu S2).b.trans ((one_more u1 _).mono (by omega)))
   clear n9 pl S2 OP2 O1
   go_wp2_with fail
   generalize u1.alloc (.cells #[.slice (some ⟨g1,0,none⟩) (numB f).length c1,.slice (some ⟨gp,0,none⟩) pk.length cp] 142)=V at *
   refine(zu CB).mono ?_
   rintro e u2 ⟨v2,rfl,o2,b2⟩
   rw[←zu BE] at o2
   obtain⟨a2,c2,rfl,q2⟩:=o2.ob
   have L2:=zh (show bo.length≠0 by rw[zu BE,List.length_append];have:=zu NF;omega)
   have L3:=zh (show bo.length≤900009 by rw[zu BE,List.length_append];have:=zu PL9;omega)
   obtain⟨g2,rfl,Q2⟩:∃g,a2=some ⟨g,0,none⟩∧Hid (ByteH.Own u2 V.heap.size g bo.length c2 bo):=by
    rcases q2.either with⟨_,h,_⟩|⟨g,h,o⟩
    ·exact absurd h (zu L2)
    ·exact⟨g,h,zh o⟩
   have B3:=zh ((zu B2).trans (b2.mono (zu B2).size))
   have SE:=zh (ISeal11.iSeal u2 g2 c2 bo (by have:=zu L3;omega) (zu Q2).lt.2 (fun i hi=>⟨(zu Q2).at i hi,(zu BI) f63 i hi⟩))
   clear o2 q2 b2 CB B2 L2 L3 BE BI NF Q2 PL9
   go_wp2_with fail
   refine(zu SE).mono ?_
   rintro e u3 ⟨a3,c3,rfl,o3,b3⟩
   have B4:=zh ((zu B3).trans (b3.mono (zu B3).size))
   have CV:=fun w' (k:Below u3.heap.size u3 w')=>of_bytesO w' _ a3 _ c3 (sealB bo) (o3.step k)
   have CB:=CV u3 (Below.refl _ _)
   clear o3 b3 SE B3 CV
   by_cases q:bo.length≤9000
   ·have E:=zh (show rr=(strOfNums (sealB bo),true) by rw[zu RR,if_pos q])
    have qd:decide (bo.length≤9000)=true:=decide_eq_true q
    clear RR q
    generalize strOfNums (sealB bo)=st at *
    go_wp2
    go_ret2
    rw[zu E]
    exact⟨rfl,zu B4⟩
   ·have E:=zh (show rr=(ByteArray.empty,false) by rw[zu RR,if_neg q])
    have qd:decide (bo.length≤9000)=false:=decide_eq_false q
    have SE:sealB bo=[]:=if_neg q
    have CE:strOfNums (sealB bo)=ByteArray.empty:=by rw[SE];first|rfl|kernel_rfl
    rw[CE] at CB
    clear RR q SE CE
    go_wp2
    go_ret2
    rw[zu E]
    exact⟨rfl,zu B4⟩
end ISave16
namespace ISaveStep16
open Fil14 OpensF14 DiskH14 DkH14 SDk14 SOk14 SRd14 App14 SLess14 SCopy14 SCom14 SAppend14 SSync14 SMove14 SSave16 SStep16 IFour16
open BMem (Bx Rd)
open Bks (Bk Ok)
open Lots (Says)
open SClear15 (clearD)
theorem eq_no(F:FuncId)(w:World):(binOp .eql 167 (.func (.func F) #[] #[]) .nilFunc).run Tryz.prog w= .ok (.bool false) w:=by kernel_rfl
theorem eq_yes(w:World):(binOp .eql 167 .nilFunc .nilFunc).run Tryz.prog w= .ok (.bool true) w:=by kernel_rfl
theorem iSaveStep(w:World)(x:Dx)(y:Bx)(f k:Int)(b:Bool)(hr:RdD w x)(hz:sumZ x.ps≤1048576)(hy:Rd w y)(hb:Says b (Ok y.b)):
  Calls Tryz.prog 62 #[.agg #[.int .i64 x.room,.slice x.a x.ps.length x.c],.agg #[.int .i64 f,.slice (some ⟨y.ga,0,none⟩) y.b.ac.length y.ca,.slice (some ⟨y.gi,0,none⟩) y.b.ic.length y.ci,.slice (some ⟨y.gb,0,none⟩) y.b.bs.length y.cb,.slice (some ⟨y.gl,0,none⟩) y.b.ls.length y.cl,.slice (some ⟨y.gt,0,none⟩) y.b.ts.length y.ct,.int .i64 y.b.lot],.int .i64 k] w (ToldD (stepD x.room x.ps (saveD f y.b b) k) w):=by
 have qn:=eq_no
 have qy:=eq_yes
 have G0:=zh (begun16 hr hy f)
 have s3:(((w.alloc (.cells #[.int .i64 x.room,.slice x.a x.ps.length x.c] 37)).alloc (.cells #[.int .i64 f,.slice (some ⟨y.ga,0,none⟩) y.b.ac.length y.ca,.slice (some ⟨y.gi,0,none⟩) y.b.ic.length y.ci,.slice (some ⟨y.gb,0,none⟩) y.b.bs.length y.cb,.slice (some ⟨y.gl,0,none⟩) y.b.ls.length y.cl,.slice (some ⟨y.gt,0,none⟩) y.b.ts.length y.ct,.int .i64 y.b.lot] 59)).alloc (.cells #[.int .i64 0,.slice none 0 0] 37)).heap.size=w.heap.size+3:=by simp
 have SP:=zh (fun u h=>ISave16.iSavePack u y f b h hb)
 have OK0:=zh (fun u v (h:RdD u x) hv=>ICom14.iOkB u x v h hz hv)
 have RE:=zh (show stepD x.room x.ps (saveD f y.b b) k=if OkD x.room x.ps∧(saveD f y.b b).2=true∧decide (0≤k∧k≤3)=true then stepsD x.room x.ps (saveD f y.b b).1 k else((0,[]),1) from rfl)
 have TZ:=zh (save_size f y.b b)
 generalize stepD x.room x.ps (saveD f y.b b) k=rr at *
 generalize saveD f y.b b=tx at *
 obtain⟨tt,tb⟩:=tx
 clear hr hy hb
 have c0:=(zu G0).s.f
 have c1:=(zu G0).s.c0
 have c2:=(zu G0).s.c1
 have c3:=(zu G0).s.c2
 have c4:=(zu G0).s.c3
 have c5:=(zu G0).s.c4
 have c6:=(zu G0).s.c5
 have lt:=(zu G0).s.lt
 by_cases kk:0≤k∧k≤3
 case neg=>
  have KF:=zh kk
  clear kk
  go_enter Tryz.func62,Tryz.ntmps62
  go_wp2_with fail
  generalize ((w.alloc (.cells #[.int .i64 x.room,.slice x.a x.ps.length x.c] 37)).alloc (.cells #[.int .i64 f,.slice (some ⟨y.ga,0,none⟩) y.b.ac.length y.ca,.slice (some ⟨y.gi,0,none⟩) y.b.ic.length y.ci,.slice (some ⟨y.gb,0,none⟩) y.b.bs.length y.cb,.slice (some ⟨y.gl,0,none⟩) y.b.ls.length y.cl,.slice (some ⟨y.gt,0,none⟩) y.b.ts.length y.ct,.int .i64 y.b.lot] 59)).alloc (.cells #[.int .i64 0,.slice none 0 0] 37)=W at *
  refine(zu SP _ (zu G0).s.r).mono ?_
  rintro e u ⟨rfl,b1⟩
  have G1:=zh ((zu G0).step b1)
  have us:=b1.size
  rw[s3] at us
  clear b1 G0 s3 SP c0 c1 c2 c3 c4 c5 c6 lt
  go_wp2_with fail
  refine(iAtNo _ k (zu KF)).mono ?_
  rintro e u2 ⟨rfl,b2⟩
  have G2:=zh ((zu G1).step b2)
  have us2:=b2.size
  clear b2 G1
  cases tb with
  |false=>
   have E:=zh (show rr=((0,[]),1) by rw[zu RE,if_neg (fun h=>by simp at h)])
   clear RE OK0
   have EN:=zh (ended16 (y:=⟨0,none,0,[]⟩) (base0:=w.heap.size+3) (zu G2).d.b (zu G2).r ⟨rfl,.inl ⟨rfl,rfl⟩⟩ (by omega))
   have f0:=(zu G2).r.free 0
   have f1:=(zu G2).r.free 1
   have r0:=(zu G2).r.c0
   have r1:=(zu G2).r.c1
   go_wp2
   refine bodyPost_ret (v:= .tuple #[.agg #[.int .i64 0,.slice none 0 0],.int .i64 1]) (by simp[results,Tryz.results62,go_sem,r0,r1]) rfl ?_
   rw[zu E]
   exact⟨⟨0,none,0,[]⟩,rfl,rfl,(zu EN).1,(zu EN).2⟩
  |true=>
  by_cases ok:OkD x.room x.ps
  case neg=>
   have OD:=zh (decide_eq_false ok)
   have E:=zh (show rr=((0,[]),1) by rw[zu RE,if_neg (fun h=>ok h.1)])
   clear RE ok
   have c0:=(zu G2).d.c0
   have c1:=(zu G2).d.c1
   have lt:=(zu G2).d.lt
   go_wp2_with fail
   refine(zu OK0 _ false (zu G2).d.r (zu OD)).mono ?_
   rintro e u3 ⟨rfl,b3⟩
   have G3:=zh ((zu G2).step b3)
   have us3:=b3.size
   clear b3 G2 OK0 c0 c1 lt
   have EN:=zh (ended16 (y:=⟨0,none,0,[]⟩) (base0:=w.heap.size+3) (zu G3).d.b (zu G3).r ⟨rfl,.inl ⟨rfl,rfl⟩⟩ (by omega))
   have f0:=(zu G3).r.free 0
   have f1:=(zu G3).r.free 1
   have r0:=(zu G3).r.c0
   have r1:=(zu G3).r.c1
   go_wp2
   refine bodyPost_ret (v:= .tuple #[.agg #[.int .i64 0,.slice none 0 0],.int .i64 1]) (by simp[results,Tryz.results62,go_sem,r0,r1]) rfl ?_
   rw[zu E]
   exact⟨⟨0,none,0,[]⟩,rfl,rfl,(zu EN).1,(zu EN).2⟩
  have OD:=zh (decide_eq_true ok)
  have OK:=zh ok
  clear ok
  have c0:=(zu G2).d.c0
  have c1:=(zu G2).d.c1
  have lt:=(zu G2).d.lt
  go_wp2_with fail
  refine(zu OK0 _ true (zu G2).d.r (zu OD)).mono ?_
  rintro e u3 ⟨rfl,b3⟩
  have G3:=zh ((zu G2).step b3)
  have us3:=b3.size
  clear b3 G2 OK0 c0 c1 lt
  have E:=zh (show rr=((0,[]),1) by rw[zu RE,if_neg (fun h=>(zu KF) (of_decide_eq_true h.2.2))])
  clear RE
  have EN:=zh (ended16 (y:=⟨0,none,0,[]⟩) (base0:=w.heap.size+3) (zu G3).d.b (zu G3).r ⟨rfl,.inl ⟨rfl,rfl⟩⟩ (by omega))
  have f0:=(zu G3).r.free 0
  have f1:=(zu G3).r.free 1
  have r0:=(zu G3).r.c0
  have r1:=(zu G3).r.c1
  go_wp2
  refine bodyPost_ret (v:= .tuple #[.agg #[.int .i64 0,.slice none 0 0],.int .i64 1]) (by simp[results,Tryz.results62,go_sem,r0,r1]) rfl ?_
  rw[zu E]
  exact⟨⟨0,none,0,[]⟩,rfl,rfl,(zu EN).1,(zu EN).2⟩
 have KT:=zh kk
 clear kk
 have EN:=enStep k
 have FS:=zh (fun u (h:RdD u x) ok ht=>iStepF u x tt k h hz ok ht)
 have AT:=zh (fun u=>iAtYes u k (zu KT))
 obtain⟨F,hF⟩:∃F,stepF k=F:=⟨_,rfl⟩
 rw[hF] at EN FS AT
 clear hF
 go_enter Tryz.func62,Tryz.ntmps62
 go_wp2_with fail
 generalize ((w.alloc (.cells #[.int .i64 x.room,.slice x.a x.ps.length x.c] 37)).alloc (.cells #[.int .i64 f,.slice (some ⟨y.ga,0,none⟩) y.b.ac.length y.ca,.slice (some ⟨y.gi,0,none⟩) y.b.ic.length y.ci,.slice (some ⟨y.gb,0,none⟩) y.b.bs.length y.cb,.slice (some ⟨y.gl,0,none⟩) y.b.ls.length y.cl,.slice (some ⟨y.gt,0,none⟩) y.b.ts.length y.ct,.int .i64 y.b.lot] 59)).alloc (.cells #[.int .i64 0,.slice none 0 0] 37)=W at *
 refine(zu SP _ (zu G0).s.r).mono ?_
 rintro e u ⟨rfl,b1⟩
 have G1:=zh ((zu G0).step b1)
 have us:=b1.size
 rw[s3] at us
 clear b1 G0 s3 SP c0 c1 c2 c3 c4 c5 c6 lt
 go_wp2_with fail
 refine((zu AT) _).mono ?_
 rintro e u2 ⟨rfl,b2⟩
 have G2:=zh ((zu G1).step b2)
 have us2:=b2.size
 clear b2 G1
 clear AT
 cases tb with
 |false=>
  have E:=zh (show rr=((0,[]),1) by rw[zu RE,if_neg (fun h=>by simp at h)])
  clear RE OK0
  have EN:=zh (ended16 (y:=⟨0,none,0,[]⟩) (base0:=w.heap.size+3) (zu G2).d.b (zu G2).r ⟨rfl,.inl ⟨rfl,rfl⟩⟩ (by omega))
  have f0:=(zu G2).r.free 0
  have f1:=(zu G2).r.free 1
  have r0:=(zu G2).r.c0
  have r1:=(zu G2).r.c1
  go_wp2
  refine bodyPost_ret (v:= .tuple #[.agg #[.int .i64 0,.slice none 0 0],.int .i64 1]) (by simp[results,Tryz.results62,go_sem,r0,r1]) rfl ?_
  rw[zu E]
  exact⟨⟨0,none,0,[]⟩,rfl,rfl,(zu EN).1,(zu EN).2⟩
 |true=>
 by_cases ok:OkD x.room x.ps
 case neg=>
  have OD:=zh (decide_eq_false ok)
  have E:=zh (show rr=((0,[]),1) by rw[zu RE,if_neg (fun h=>ok h.1)])
  clear RE ok
  have c0:=(zu G2).d.c0
  have c1:=(zu G2).d.c1
  have lt:=(zu G2).d.lt
  go_wp2_with fail
  refine(zu OK0 _ false (zu G2).d.r (zu OD)).mono ?_
  rintro e u3 ⟨rfl,b3⟩
  have G3:=zh ((zu G2).step b3)
  have us3:=b3.size
  clear b3 G2 OK0 c0 c1 lt
  have EN:=zh (ended16 (y:=⟨0,none,0,[]⟩) (base0:=w.heap.size+3) (zu G3).d.b (zu G3).r ⟨rfl,.inl ⟨rfl,rfl⟩⟩ (by omega))
  have f0:=(zu G3).r.free 0
  have f1:=(zu G3).r.free 1
  have r0:=(zu G3).r.c0
  have r1:=(zu G3).r.c1
  go_wp2
  refine bodyPost_ret (v:= .tuple #[.agg #[.int .i64 0,.slice none 0 0],.int .i64 1]) (by simp[results,Tryz.results62,go_sem,r0,r1]) rfl ?_
  rw[zu E]
  exact⟨⟨0,none,0,[]⟩,rfl,rfl,(zu EN).1,(zu EN).2⟩
 have OD:=zh (decide_eq_true ok)
 have OK:=zh ok
 clear ok
 have c0:=(zu G2).d.c0
 have c1:=(zu G2).d.c1
 have lt:=(zu G2).d.lt
 go_wp2_with fail
 refine(zu OK0 _ true (zu G2).d.r (zu OD)).mono ?_
 rintro e u3 ⟨rfl,b3⟩
 have G3:=zh ((zu G2).step b3)
 have us3:=b3.size
 clear b3 G2 OK0 c0 c1 lt
 have RR:=zh (show rr=if(rawD x.room x.ps tt k).2=0 then rawD x.room x.ps tt k else((x.room,x.ps),(rawD x.room x.ps tt k).2) by rw[zu RE,if_pos ⟨zu OK,(by first|trivial|rfl),decide_eq_true (zu KT)⟩,raw_is (zu OK)])
 have ST:=zh (zu FS _ (zu G3).d.r (zu OK) (by have:=zu TZ;omega))
 generalize rawD x.room x.ps tt k=ra at *
 obtain⟨rd,rc⟩:=ra
 clear RE FS TZ
 have c0:=(zu G3).d.c0
 have c1:=(zu G3).d.c1
 have lt:=(zu G3).d.lt
 go_wp2_with fail
 refine(zu ST).mono ?_
 rintro e u7 ⟨z,hz',rfl,oz,b7⟩
 have us7:=b7.size
 have bA:=one_more u7 (.cells #[.int .i64 z.room,.slice z.a z.ps.length z.c] 37)
 have lu:=(zu G3).r.lt.2
 have G8:=zh (((zu G3).step b7).step bA)
 have OZ:=zh (oz.step bA)
 have HZ0:=zh hz'
 clear b7 bA oz hz' ST c0 c1 lt EN
 by_cases az:rc=0
 ·subst az
  have E:=zh (show rr=(rd,0) by rw[zu RR,if_pos rfl])
  have EN:=zh (ended16 (zu G8).d.b (zu G8).r (zu OZ) lu)
  have f0:=(zu G8).r.free 0
  have f1:=(zu G8).r.free 1
  have r0:=(zu G8).r.c0
  have r1:=(zu G8).r.c1
  clear RR
  go_wp2
  refine bodyPost_ret (v:= .tuple #[.agg #[.int .i64 z.room,.slice z.a z.ps.length z.c],.int .i64 0]) (by simp[results,Tryz.results62,go_sem,r0,r1]) rfl ?_
  rw[zu E]
  exact⟨z,zu HZ0,rfl,(zu EN).1,(zu EN).2⟩
 ·have E:=zh (show rr=((x.room,x.ps),rc) by rw[zu RR,if_neg az])
  have ab:(rc !=0)=true:=by simpa using az
  clear RR az HZ0 OZ
  have c0:=(zu G8).d.c0
  have c1:=(zu G8).d.c1
  have lt:=(zu G8).d.lt
  go_wp2_with fail
  refine(ICp14.iCopied _ x (zu G8).d.r).mono ?_
  rintro e u9 ⟨q,hq0,hq,rfl,oq,b9⟩
  have hqq:(q.room,q.ps)=(x.room,x.ps):=by rw[hq0,hq]
  clear c0 c1 lt hq0 hq
  have G9:=zh ((zu G8).step b9)
  have HZ:=zh hqq
  have EN:=zh (ended16 (zu G9).d.b (zu G9).r oq (zu G8).r.lt.2)
  have f0:=(zu G9).r.free 0
  have f1:=(zu G9).r.free 1
  have r0:=(zu G9).r.c0
  have r1:=(zu G9).r.c1
  clear b9 oq hqq
  go_wp2
  refine bodyPost_ret (v:= .tuple #[.agg #[.int .i64 q.room,.slice q.a q.ps.length q.c],.int .i64 rc]) (by simp[results,Tryz.results62,go_sem,r0,r1]) rfl ?_
  rw[zu E]
  exact⟨q,zu HZ,rfl,(zu EN).1,(zu EN).2⟩
end ISaveStep16
end Go.Proofs.YtppkkmaoaiopaaaGreat
