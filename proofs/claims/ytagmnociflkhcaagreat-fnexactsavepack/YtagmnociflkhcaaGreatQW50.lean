/- Texts of one proof, one behind the other: ISaveStep16, ISaveWrite16. -/
import Derived.Test.YtagmnociflkhcaaGreatRows
import Derived.Test.YtagmnociflkhcaaGreatQW0
import Derived.Test.YtagmnociflkhcaaGreatQW41
import Derived.Test.YtagmnociflkhcaaGreatQW44
import Derived.Test.YtagmnociflkhcaaGreatQW46
import Derived.Test.YtagmnociflkhcaaGreatQW49
set_option linter.unusedVariables false
set_option linter.unusedSimpArgs false
open Go.ChangeShapes Go.WideShapes Go.ChangeAt Go.RowKit
set_option maxRecDepth 100000
set_option maxHeartbeats 32000000
namespace Go.Proofs.YtagmnociflkhcaaGreat
namespace ISaveStep16
open Fil14 OpensF14 DiskH14 DkH14 SDk14 SOk14 SRd14 App14 SLess14 SCopy14 SCom14 SAppend14 SSync14 SMove14 SSave16 SStep16 IFour16
open BMem (Bx Rd)
open Bks (Bk Ok)
open Lots (Says)
open SClear15 (clearD)
theorem eq_no(F:FuncId)(w:World):(binOp .eql 83 (.func (.func F) #[] #[]) .nilFunc).run Tryz.prog w= .ok (.bool false) w:=by kernel_rfl
theorem eq_yes(w:World):(binOp .eql 83 .nilFunc .nilFunc).run Tryz.prog w= .ok (.bool true) w:=by kernel_rfl
theorem iSaveStep(w:World)(x:Dx)(y:Bx)(f k:Int)(b:Bool)(hr:RdD w x)(hz:sumZ x.ps≤1048576)(hy:Rd w y)(hb:Says b (Ok y.b)):
  Calls Tryz.prog 14 #[.agg #[.int .i64 x.room,.slice x.a x.ps.length x.c],.agg #[.int .i64 f,.slice (some ⟨y.ga,0,none⟩) y.b.ac.length y.ca,.slice (some ⟨y.gi,0,none⟩) y.b.ic.length y.ci,.slice (some ⟨y.gb,0,none⟩) y.b.bs.length y.cb,.slice (some ⟨y.gl,0,none⟩) y.b.ls.length y.cl,.slice (some ⟨y.gt,0,none⟩) y.b.ts.length y.ct,.int .i64 y.b.lot],.int .i64 k] w (ToldD (stepD x.room x.ps (saveD f y.b b) k) w):=by
 have qn:=eq_no
 have qy:=eq_yes
 have G0:=zh (begun16 hr hy f)
 have s3:(((w.alloc (.cells #[.int .i64 x.room,.slice x.a x.ps.length x.c] 52)).alloc (.cells #[.int .i64 f,.slice (some ⟨y.ga,0,none⟩) y.b.ac.length y.ca,.slice (some ⟨y.gi,0,none⟩) y.b.ic.length y.ci,.slice (some ⟨y.gb,0,none⟩) y.b.bs.length y.cb,.slice (some ⟨y.gl,0,none⟩) y.b.ls.length y.cl,.slice (some ⟨y.gt,0,none⟩) y.b.ts.length y.ct,.int .i64 y.b.lot] 42)).alloc (.cells #[.int .i64 0,.slice none 0 0] 52)).heap.size=w.heap.size+3:=by simp
 have SP:=zh (fun u h=>ISave16.iSavePack u y f b h hb)
 have OK0:=zh (fun u v (h:RdD u x) hv=>ICom14.iOkB u x v h hz hv)
 have RE:=zh (show stepD x.room x.ps (saveD f y.b b) k=if OkD x.room x.ps∧(saveD f y.b b).2=true∧decide (0≤k∧k≤3)=true then stepsD x.room x.ps (saveD f y.b b).1 k else((0,[]),1) from rfl)
 have TZ:=zh (save_size f y.b b)
 generalize stepD x.room x.ps (saveD f y.b b) k=rr at *
 generalize saveD f y.b b=tx at *
 obtain⟨tt,tb⟩:=tx
 clear hr hy hb
 have c0:=(zu G0).s.f
 have c1:=(zu G0).s.c0
 have c2:=(zu G0).s.c1
 have c3:=(zu G0).s.c2
 have c4:=(zu G0).s.c3
 have c5:=(zu G0).s.c4
 have c6:=(zu G0).s.c5
 have lt:=(zu G0).s.lt
 by_cases kk:0≤k∧k≤3
 case neg=>
  have KF:=zh kk
  clear kk
  go_enter Tryz.func14,Tryz.ntmps14
  go_wp2_with fail
  generalize ((w.alloc (.cells #[.int .i64 x.room,.slice x.a x.ps.length x.c] 52)).alloc (.cells #[.int .i64 f,.slice (some ⟨y.ga,0,none⟩) y.b.ac.length y.ca,.slice (some ⟨y.gi,0,none⟩) y.b.ic.length y.ci,.slice (some ⟨y.gb,0,none⟩) y.b.bs.length y.cb,.slice (some ⟨y.gl,0,none⟩) y.b.ls.length y.cl,.slice (some ⟨y.gt,0,none⟩) y.b.ts.length y.ct,.int .i64 y.b.lot] 42)).alloc (.cells #[.int .i64 0,.slice none 0 0] 52)=W at *
  refine(zu SP _ (zu G0).s.r).mono ?_
  rintro e u ⟨rfl,b1⟩
  have G1:=zh ((zu G0).step b1)
  have us:=b1.size
  rw[s3] at us
  clear b1 G0 s3 SP c0 c1 c2 c3 c4 c5 c6 lt
  go_wp2_with fail
  refine(iAtNo _ k (zu KF)).mono ?_
  rintro e u2 ⟨rfl,b2⟩
  have G2:=zh ((zu G1).step b2)
  have us2:=b2.size
  clear b2 G1
  cases tb with
  |false=>
   have E:=zh (show rr=((0,[]),1) by rw[zu RE,if_neg (fun h=>by simp at h)])
   clear RE OK0
   have EN:=zh (ended16 (y:=⟨0,none,0,[]⟩) (base0:=w.heap.size+3) (zu G2).d.b (zu G2).r ⟨rfl,.inl ⟨rfl,rfl⟩⟩ (by omega))
   have f0:=(zu G2).r.free 0
   have f1:=(zu G2).r.free 1
   have r0:=(zu G2).r.c0
   have r1:=(zu G2).r.c1
   go_wp2
   refine bodyPost_ret (v:= .tuple #[.agg #[.int .i64 0,.slice none 0 0],.int .i64 1]) (by simp[results,Tryz.results14,go_sem,r0,r1]) rfl ?_
   rw[zu E]
   exact⟨⟨0,none,0,[]⟩,rfl,rfl,(zu EN).1,(zu EN).2⟩
  |true=>
  by_cases ok:OkD x.room x.ps
  case neg=>
   have OD:=zh (decide_eq_false ok)
   have E:=zh (show rr=((0,[]),1) by rw[zu RE,if_neg (fun h=>ok h.1)])
   clear RE ok
   have c0:=(zu G2).d.c0
   have c1:=(zu G2).d.c1
   have lt:=(zu G2).d.lt
   go_wp2_with fail
   refine(zu OK0 _ false (zu G2).d.r (zu OD)).mono ?_
   rintro e u3 ⟨rfl,b3⟩
   have G3:=zh ((zu G2).step b3)
   have us3:=b3.size
   clear b3 G2 OK0 c0 c1 lt
   have EN:=zh (ended16 (y:=⟨0,none,0,[]⟩) (base0:=w.heap.size+3) (zu G3).d.b (zu G3).r ⟨rfl,.inl ⟨rfl,rfl⟩⟩ (by omega))
   have f0:=(zu G3).r.free 0
   have f1:=(zu G3).r.free 1
   have r0:=(zu G3).r.c0
   have r1:=(zu G3).r.c1
   go_wp2
   refine bodyPost_ret (v:= .tuple #[.agg #[.int .i64 0,.slice none 0 0],.int .i64 1]) (by simp[results,Tryz.results14,go_sem,r0,r1]) rfl ?_
   rw[zu E]
   exact⟨⟨0,none,0,[]⟩,rfl,rfl,(zu EN).1,(zu EN).2⟩
  have OD:=zh (decide_eq_true ok)
  have OK:=zh ok
  clear ok
  have c0:=(zu G2).d.c0
  have c1:=(zu G2).d.c1
  have lt:=(zu G2).d.lt
  go_wp2_with fail
  refine(zu OK0 _ true (zu G2).d.r (zu OD)).mono ?_
  rintro e u3 ⟨rfl,b3⟩
  have G3:=zh ((zu G2).step b3)
  have us3:=b3.size
  clear b3 G2 OK0 c0 c1 lt
  have E:=zh (show rr=((0,[]),1) by rw[zu RE,if_neg (fun h=>(zu KF) (of_decide_eq_true h.2.2))])
  clear RE
  have EN:=zh (ended16 (y:=⟨0,none,0,[]⟩) (base0:=w.heap.size+3) (zu G3).d.b (zu G3).r ⟨rfl,.inl ⟨rfl,rfl⟩⟩ (by omega))
  have f0:=(zu G3).r.free 0
  have f1:=(zu G3).r.free 1
  have r0:=(zu G3).r.c0
  have r1:=(zu G3).r.c1
  go_wp2
  refine bodyPost_ret (v:= .tuple #[.agg #[.int .i64 0,.slice none 0 0],.int .i64 1]) (by simp[results,Tryz.results14,go_sem,r0,r1]) rfl ?_
  rw[zu E]
  exact⟨⟨0,none,0,[]⟩,rfl,rfl,(zu EN).1,(zu EN).2⟩
 have KT:=zh kk
 clear kk
 have EN:=enStep k
 have FS:=zh (fun u (h:RdD u x) ok ht=>iStepF u x tt k h hz ok ht)
 have AT:=zh (fun u=>iAtYes u k (zu KT))
 obtain⟨F,hF⟩:∃F,stepF k=F:=⟨_,rfl⟩
 rw[hF] at EN FS AT
 clear hF
 go_enter Tryz.func14,Tryz.ntmps14
 go_wp2_with fail
 generalize ((w.alloc (.cells #[.int .i64 x.room,.slice x.a x.ps.length x.c] 52)).alloc (.cells #[.int .i64 f,.slice (some ⟨y.ga,0,none⟩) y.b.ac.length y.ca,.slice (some ⟨y.gi,0,none⟩) y.b.ic.length y.ci,.slice (some ⟨y.gb,0,none⟩) y.b.bs.length y.cb,.slice (some ⟨y.gl,0,none⟩) y.b.ls.length y.cl,.slice (some ⟨y.gt,0,none⟩) y.b.ts.length y.ct,.int .i64 y.b.lot] 42)).alloc (.cells #[.int .i64 0,.slice none 0 0] 52)=W at *
 refine(zu SP _ (zu G0).s.r).mono ?_
 rintro e u ⟨rfl,b1⟩
 have G1:=zh ((zu G0).step b1)
 have us:=b1.size
 rw[s3] at us
 clear b1 G0 s3 SP c0 c1 c2 c3 c4 c5 c6 lt
 go_wp2_with fail
 refine((zu AT) _).mono ?_
 rintro e u2 ⟨rfl,b2⟩
 have G2:=zh ((zu G1).step b2)
 have us2:=b2.size
 clear b2 G1
 clear AT
 cases tb with
 |false=>
  have E:=zh (show rr=((0,[]),1) by rw[zu RE,if_neg (fun h=>by simp at h)])
  clear RE OK0
  have EN:=zh (ended16 (y:=⟨0,none,0,[]⟩) (base0:=w.heap.size+3) (zu G2).d.b (zu G2).r ⟨rfl,.inl ⟨rfl,rfl⟩⟩ (by omega))
  have f0:=(zu G2).r.free 0
  have f1:=(zu G2).r.free 1
  have r0:=(zu G2).r.c0
  have r1:=(zu G2).r.c1
  go_wp2
  refine bodyPost_ret (v:= .tuple #[.agg #[.int .i64 0,.slice none 0 0],.int .i64 1]) (by simp[results,Tryz.results14,go_sem,r0,r1]) rfl ?_
  rw[zu E]
  exact⟨⟨0,none,0,[]⟩,rfl,rfl,(zu EN).1,(zu EN).2⟩
 |true=>
 by_cases ok:OkD x.room x.ps
 case neg=>
  have OD:=zh (decide_eq_false ok)
  have E:=zh (show rr=((0,[]),1) by rw[zu RE,if_neg (fun h=>ok h.1)])
  clear RE ok
  have c0:=(zu G2).d.c0
  have c1:=(zu G2).d.c1
  have lt:=(zu G2).d.lt
  go_wp2_with fail
  refine(zu OK0 _ false (zu G2).d.r (zu OD)).mono ?_
  rintro e u3 ⟨rfl,b3⟩
  have G3:=zh ((zu G2).step b3)
  have us3:=b3.size
  clear b3 G2 OK0 c0 c1 lt
  have EN:=zh (ended16 (y:=⟨0,none,0,[]⟩) (base0:=w.heap.size+3) (zu G3).d.b (zu G3).r ⟨rfl,.inl ⟨rfl,rfl⟩⟩ (by omega))
  have f0:=(zu G3).r.free 0
  have f1:=(zu G3).r.free 1
  have r0:=(zu G3).r.c0
  have r1:=(zu G3).r.c1
  go_wp2
  refine bodyPost_ret (v:= .tuple #[.agg #[.int .i64 0,.slice none 0 0],.int .i64 1]) (by simp[results,Tryz.results14,go_sem,r0,r1]) rfl ?_
  rw[zu E]
  exact⟨⟨0,none,0,[]⟩,rfl,rfl,(zu EN).1,(zu EN).2⟩
 have OD:=zh (decide_eq_true ok)
 have OK:=zh ok
 clear ok
 have c0:=(zu G2).d.c0
 have c1:=(zu G2).d.c1
 have lt:=(zu G2).d.lt
 go_wp2_with fail
 refine(zu OK0 _ true (zu G2).d.r (zu OD)).mono ?_
 rintro e u3 ⟨rfl,b3⟩
 have G3:=zh ((zu G2).step b3)
 have us3:=b3.size
 clear b3 G2 OK0 c0 c1 lt
 have RR:=zh (show rr=if(rawD x.room x.ps tt k).2=0 then rawD x.room x.ps tt k else((x.room,x.ps),(rawD x.room x.ps tt k).2) by rw[zu RE,if_pos ⟨zu OK,(by first|trivial|rfl),decide_eq_true (zu KT)⟩,raw_is (zu OK)])
 have ST:=zh (zu FS _ (zu G3).d.r (zu OK) (by have:=zu TZ;omega))
 generalize rawD x.room x.ps tt k=ra at *
 obtain⟨rd,rc⟩:=ra
 clear RE FS TZ
 have c0:=(zu G3).d.c0
 have c1:=(zu G3).d.c1
 have lt:=(zu G3).d.lt
 go_wp2_with fail
 refine(zu ST).mono ?_
 rintro e u7 ⟨z,hz',rfl,oz,b7⟩
 have us7:=b7.size
 have bA:=one_more u7 (.cells #[.int .i64 z.room,.slice z.a z.ps.length z.c] 52)
 have lu:=(zu G3).r.lt.2
 have G8:=zh (((zu G3).step b7).step bA)
 have OZ:=zh (oz.step bA)
 have HZ0:=zh hz'
 clear b7 bA oz hz' ST c0 c1 lt EN
 by_cases az:rc=0
 ·subst az
  have E:=zh (show rr=(rd,0) by rw[zu RR,if_pos rfl])
  have EN:=zh (ended16 (zu G8).d.b (zu G8).r (zu OZ) lu)
  have f0:=(zu G8).r.free 0
  have f1:=(zu G8).r.free 1
  have r0:=(zu G8).r.c0
  have r1:=(zu G8).r.c1
  clear RR
  go_wp2
  refine bodyPost_ret (v:= .tuple #[.agg #[.int .i64 z.room,.slice z.a z.ps.length z.c],.int .i64 0]) (by simp[results,Tryz.results14,go_sem,r0,r1]) rfl ?_
  rw[zu E]
  exact⟨z,zu HZ0,rfl,(zu EN).1,(zu EN).2⟩
 ·have E:=zh (show rr=((x.room,x.ps),rc) by rw[zu RR,if_neg az])
  have ab:(rc !=0)=true:=by simpa using az
  clear RR az HZ0 OZ
  have c0:=(zu G8).d.c0
  have c1:=(zu G8).d.c1
  have lt:=(zu G8).d.lt
  go_wp2_with fail
  refine(ICp14.iCopied _ x (zu G8).d.r).mono ?_
  rintro e u9 ⟨q,hq0,hq,rfl,oq,b9⟩
  have hqq:(q.room,q.ps)=(x.room,x.ps):=by rw[hq0,hq]
  clear c0 c1 lt hq0 hq
  have G9:=zh ((zu G8).step b9)
  have HZ:=zh hqq
  have EN:=zh (ended16 (zu G9).d.b (zu G9).r oq (zu G8).r.lt.2)
  have f0:=(zu G9).r.free 0
  have f1:=(zu G9).r.free 1
  have r0:=(zu G9).r.c0
  have r1:=(zu G9).r.c1
  clear b9 oq hqq
  go_wp2
  refine bodyPost_ret (v:= .tuple #[.agg #[.int .i64 q.room,.slice q.a q.ps.length q.c],.int .i64 rc]) (by simp[results,Tryz.results14,go_sem,r0,r1]) rfl ?_
  rw[zu E]
  exact⟨q,zu HZ,rfl,(zu EN).1,(zu EN).2⟩
end ISaveStep16
namespace ISaveWrite16
open Fil14 OpensF14 DiskH14 DkH14 SDk14 SOk14 SRd14 App14 SLess14 SCopy14 SCom14 SAppend14 SSync14 SMove14 SSave16 SStep16 SWrite16 IFour16
open BMem (Bx Rd)
open Bks (Bk Ok)
open Lots (Says)
open SClear15 (clearD stays)
open Pure14
theorem iSaveWrite(w:World)(x:Dx)(y:Bx)(f:Int)(b:Bool)(hr:RdD w x)(hz:sumZ x.ps≤1048576)(hy:Rd w y)(hb:Says b (Ok y.b)):
  Calls Tryz.prog 20 #[.agg #[.int .i64 x.room,.slice x.a x.ps.length x.c],.agg #[.int .i64 f,.slice (some ⟨y.ga,0,none⟩) y.b.ac.length y.ca,.slice (some ⟨y.gi,0,none⟩) y.b.ic.length y.ci,.slice (some ⟨y.gb,0,none⟩) y.b.bs.length y.cb,.slice (some ⟨y.gl,0,none⟩) y.b.ls.length y.cl,.slice (some ⟨y.gt,0,none⟩) y.b.ts.length y.ct,.int .i64 y.b.lot]] w (ToldD (writeD x.room x.ps (saveD f y.b b)) w):=by
 have G0:=zh (begun16 hr hy f)
 have s3:(((w.alloc (.cells #[.int .i64 x.room,.slice x.a x.ps.length x.c] 52)).alloc (.cells #[.int .i64 f,.slice (some ⟨y.ga,0,none⟩) y.b.ac.length y.ca,.slice (some ⟨y.gi,0,none⟩) y.b.ic.length y.ci,.slice (some ⟨y.gb,0,none⟩) y.b.bs.length y.cb,.slice (some ⟨y.gl,0,none⟩) y.b.ls.length y.cl,.slice (some ⟨y.gt,0,none⟩) y.b.ts.length y.ct,.int .i64 y.b.lot] 42)).alloc (.cells #[.int .i64 0,.slice none 0 0] 52)).heap.size=w.heap.size+3:=by simp
 have bA:=one_more (((w.alloc (.cells #[.int .i64 x.room,.slice x.a x.ps.length x.c] 52)).alloc (.cells #[.int .i64 f,.slice (some ⟨y.ga,0,none⟩) y.b.ac.length y.ca,.slice (some ⟨y.gi,0,none⟩) y.b.ic.length y.ci,.slice (some ⟨y.gb,0,none⟩) y.b.bs.length y.cb,.slice (some ⟨y.gl,0,none⟩) y.b.ls.length y.cl,.slice (some ⟨y.gt,0,none⟩) y.b.ts.length y.ct,.int .i64 y.b.lot] 42)).alloc (.cells #[.int .i64 0,.slice none 0 0] 52)) (.cells #[.int .i64 x.room,.slice x.a x.ps.length x.c] 52)
 have G1:=zh ((zu G0).step bA)
 have K1:=zh (Bc.made (w:=((w.alloc (.cells #[.int .i64 x.room,.slice x.a x.ps.length x.c] 52)).alloc (.cells #[.int .i64 f,.slice (some ⟨y.ga,0,none⟩) y.b.ac.length y.ca,.slice (some ⟨y.gi,0,none⟩) y.b.ic.length y.ci,.slice (some ⟨y.gb,0,none⟩) y.b.bs.length y.cb,.slice (some ⟨y.gl,0,none⟩) y.b.ls.length y.cl,.slice (some ⟨y.gt,0,none⟩) y.b.ts.length y.ct,.int .i64 y.b.lot] 42)).alloc (.cells #[.int .i64 0,.slice none 0 0] 52)) (base:=w.heap.size) (g:=w.heap.size+3) (.int .i64 x.room) (.slice x.a x.ps.length x.c) (by omega) s3.symm)
 have C1:=zh (zu G1).d.r
 have SS:=zh (fun u (c:Dx) k (h:RdD u c) (hz:sumZ c.ps≤1048576) (hy:Rd u y)=>ISaveStep16.iSaveStep u c y f k b h hz hy hb)
 have XA:=zh (fun g e=>(hr.r g e).1)
 have HY0:=zh hy
 have RE:=zh (show wrF x.room x.ps (saveD f y.b b) (4-0) ((0:Nat):Int) (x.room,x.ps)=writeD x.room x.ps (saveD f y.b b) from rfl)
 generalize writeD x.room x.ps (saveD f y.b b)=rr at *
 generalize saveD f y.b b=tx at *
 clear hr hy hb bA
 go_enter Tryz.func20,Tryz.ntmps20
 go_wp2
 go_loopw [11] (fun i wr=>∃(k:Nat) (c:Dx),k≤4∧i= .int .i64 k∧sumZ c.ps≤1048576∧Hid (wrF x.room x.ps tx (4-k) k (c.room,c.ps)=rr)∧Hid (G16 w wr x f y)∧Hid (Bc wr w.heap.size (w.heap.size+3) (.int .i64 c.room) (.slice c.a c.ps.length c.c))∧Hid (RdD wr c)∧Hid (k=0∨OwD wr (w.heap.size+4) c)) (fun i _=>4-(intOf i).toNat)
 case atStart=>exact⟨0,x,by omega,rfl,hz,RE,G1,K1,C1,zh (.inl rfl)⟩
 case round=>
  clear G0 G1 K1 C1 RE s3
  obtain⟨k,c,hk,rfl,zc,HE,HG,HK,HC,HO⟩:=hrel
  have c0:=(zu HK).c0
  have c1:=(zu HK).c1
  have lt:=(zu HK).lt.2
  by_cases t:k<4
  ·have tk:(k:Int)<4:=by omega
   have NX:=zh (show(if(stepD c.room c.ps tx k).2=1 then((0,[]),1) else if(stepD c.room c.ps tx k).2=0 then wrF x.room x.ps tx (4-(k+1)) ((k+1:Nat):Int) (stepD c.room c.ps tx k).1 else((x.room,x.ps),(stepD c.room c.ps tx k).2))=rr from by
    rw[←zu HE,show 4-k=(4-(k+1))+1 by omega]
    rfl)
   have SP:=zh ((zu SS) wr c k (zu HC) zc (zu HG).s.r)
   have SK:=zh (step_ok (room:=c.room) (ps:=c.ps) (tx:=tx) (k:=k))
   have e0:=(zu HG).s.f
   have e1:=(zu HG).s.c0
   have e2:=(zu HG).s.c1
   have e3:=(zu HG).s.c2
   have e4:=(zu HG).s.c3
   have e5:=(zu HG).s.c4
   have e6:=(zu HG).s.c5
   have es:=(zu HG).s.lt
   generalize stepD c.room c.ps tx k=sr at *
   obtain⟨⟨sd,sp⟩,sc⟩:=sr
   clear HE HO HC
   go_wp2_with fail
   refine(zu SP).mono ?_
   rintro e u ⟨z,hz',rfl,oz,b5⟩
   have z1:z.room=sd:=(Prod.ext_iff.1 hz').1
   have z2:z.ps=sp:=(Prod.ext_iff.1 hz').2
   subst z1 z2
   have us:=b5.size
   have G5:=zh ((zu HG).step b5)
   have K5:=zh ((zu HK).below b5 lt)
   have bA:=one_more u (.cells #[.int .i64 z.room,.slice z.a z.ps.length z.c] 52)
   have G6:=zh ((zu G5).step bA)
   have K6:=zh ((zu K5).below bA (zu K5).lt.2)
   have OZ:=zh (oz.step bA)
   clear hz' oz b5 bA SP HG HK G5 K5 e0 e1 e2 e3 e4 e5 e6 es c0 c1
   by_cases a1:sc=1
   ·subst a1
    have E:=zh (show rr=((0,[]),1) by rw[←zu NX,if_pos rfl])
    clear NX
    have EN:=zh (ended16 (base0:=w.heap.size+3) (y:=⟨0,none,0,[]⟩) (zu G6).d.b (zu G6).r ⟨rfl,.inl ⟨rfl,rfl⟩⟩ (by omega))
    have f0:=(zu G6).r.free 0
    have f1:=(zu G6).r.free 1
    have r0:=(zu G6).r.c0
    have r1:=(zu G6).r.c1
    go_wp2
    refine bodyPost_ret (v:= .tuple #[.agg #[.int .i64 0,.slice none 0 0],.int .i64 1]) (by simp[results,Tryz.results20,go_sem,r0,r1]) rfl ?_
    rw[zu E]
    exact⟨⟨0,none,0,[]⟩,rfl,rfl,(zu EN).1,(zu EN).2⟩
   by_cases a0:sc=0
   case neg=>
    have E:=zh (show rr=((x.room,x.ps),sc) by rw[←zu NX,if_neg a1,if_neg a0])
    have b1:(sc==1)=false:=by simpa using a1
    have b0:(sc==0)=false:=by simpa using a0
    clear NX a1 a0 SK
    have c0:=(zu G6).d.c0
    have c1:=(zu G6).d.c1
    have dl:=(zu G6).d.lt
    go_wp2_with fail
    refine(ICp14.iCopied _ x (zu G6).d.r).mono ?_
    rintro e u9 ⟨q,hq0,hq,rfl,oq,b9⟩
    have lw:=(zu G6).r.lt.2
    have HQ:=zh (show(q.room,q.ps)=(x.room,x.ps) by rw[hq0,hq])
    have G9:=zh ((zu G6).step b9)
    have OQ:=zh oq
    clear b9 oq hq0 hq c0 c1 dl
    have EN:=zh (ended16 (zu G9).d.b (zu G9).r (zu OQ) (by omega))
    have f0:=(zu G9).r.free 0
    have f1:=(zu G9).r.free 1
    have r0:=(zu G9).r.c0
    have r1:=(zu G9).r.c1
    go_wp2
    refine bodyPost_ret (v:= .tuple #[.agg #[.int .i64 q.room,.slice q.a q.ps.length q.c],.int .i64 sc]) (by simp[results,Tryz.results20,go_sem,r0,r1]) rfl ?_
    rw[zu E]
    exact⟨q,zu HQ,rfl,(zu EN).1,(zu EN).2⟩
   subst a0
   have NE:=zh (show wrF x.room x.ps tx (4-(k+1)) ((k+1:Nat):Int) (z.room,z.ps)=rr by rw[←zu NX,if_neg (by simp),if_pos rfl])
   have okz:=(zu SK) rfl
   try simp only at okz
   have lz:=okz.2.1
   have z2:sumZ z.ps≤1048576:=by have:=okz.2.2.1;have:=okz.1;omega
   clear NX SK a1 okz
   have f0:=(zu K6).free 0
   have f1:=(zu K6).free 1
   have k0:=(zu K6).c0
   have k1:=(zu K6).c1
   have t0:=(zu K6).set0 (.int .i64 z.room)
   have t1:=bc_set1 t0.1 (.slice z.a z.ps.length z.c)
   have ST:=zh (grow_grow t0.2 t1.2)
   have K7:=zh t1.1
   clear t0 t1
   have G7:=zh (g16_kept (zu G6) (zu ST) (by omega) (fun k e=>by have:=(zu XA) k e;omega) (zu HY0))
   have O7:=zh (show OwD _ (w.heap.size+4) z from row_base (row_kept (zu OZ) (zu ST) (by omega)) (by omega))
   go_wp2
   go_roundw
   case rel=>exact⟨k+1,z,by omega,by go_num,z2,NE,G7,K7,zh ((zu O7).rd (by omega)),zh (.inr (zu O7))⟩
   case measure=>simp[intOf];omega
  ·have e:k=4:=by omega
   subst e
   have E:=zh (show rr=((c.room,c.ps),0) from by rw[←zu HE];rfl)
   have OC:=zh (show OwD wr (w.heap.size+4) c from(zu HO).elim (fun h=>absurd h (by decide)) id)
   clear HE HO
   have EN:=zh (ended16 (zu HG).d.b (zu HG).r (zu OC) (by omega))
   have f0:=(zu HG).r.free 0
   have f1:=(zu HG).r.free 1
   have r0:=(zu HG).r.c0
   have r1:=(zu HG).r.c1
   go_wp2
   refine bodyPost_ret (v:= .tuple #[.agg #[.int .i64 c.room,.slice c.a c.ps.length c.c],.int .i64 0]) (by simp[results,Tryz.results20,go_sem,r0,r1]) rfl ?_
   rw[zu E]
   exact⟨c,rfl,rfl,(zu EN).1,(zu EN).2⟩
end ISaveWrite16
end Go.Proofs.YtagmnociflkhcaaGreat
