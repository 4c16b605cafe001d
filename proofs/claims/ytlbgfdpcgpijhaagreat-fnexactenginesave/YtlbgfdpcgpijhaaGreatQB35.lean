/- Texts of one proof. -/
import Derived.Test.YtlbgfdpcgpijhaaGreatQB32
import Derived.Test.YtlbgfdpcgpijhaaGreatQB34
open Go.ChangeShapes Go.WideShapes Go.ChangeAt Go.RowKit
set_option linter.unusedVariables false
set_option linter.unusedSimpArgs false
set_option maxRecDepth 100000
set_option maxHeartbeats 32000000
namespace Go.Proofs.YtlbgfdpcgpijhaaGreat
namespace SStep16
open Fil14 OpensF14 DiskH14 DkH14 SDk14 SOk14 SRd14 App14 SLess14 SCopy14 SCom14 SAppend14 SSync14 SMove14 SSave16
open BMem (Bx Rd)
open Bks (Bk Ok)
open Lots (Says)
open SClear15 (clearD)
structure G16(w W:World)(x:Dx)(f:Int)(y:Bx):Prop where
 d:Wd w W x
 s:Sv w W (w.heap.size+1) f y
 r:Bc W w.heap.size (w.heap.size+2) (.int .i64 0) (.slice none 0 0)
theorem G16.step{w W W':World}{x:Dx}{f:Int}{y:Bx}(h:G16 w W x f y)(k:Below W.heap.size W W'):G16 w W' x f y:=⟨h.d.step k,h.s.step k,h.r.below k h.r.lt.2⟩
theorem begun16{w:World}{x:Dx}{y:Bx}(hr:RdD w x)(hy:Rd w y)(f:Int):G16 w (((w.alloc (.cells #[.int .i64 x.room,.slice x.a x.ps.length x.c] 38)).alloc (.cells #[.int .i64 f,.slice (some ⟨y.ga,0,none⟩) y.b.ac.length y.ca,.slice (some ⟨y.gi,0,none⟩) y.b.ic.length y.ci,.slice (some ⟨y.gb,0,none⟩) y.b.bs.length y.cb,.slice (some ⟨y.gl,0,none⟩) y.b.ls.length y.cl,.slice (some ⟨y.gt,0,none⟩) y.b.ts.length y.ct,.int .i64 y.b.lot] 79)).alloc (.cells #[.int .i64 0,.slice none 0 0] 38)) x f y:=by
 have d1:=Wd.made hr 38
 have s1:(w.alloc (.cells #[.int .i64 x.room,.slice x.a x.ps.length x.c] 38)).heap.size=w.heap.size+1:=by simp
 have s2:=Sv.made (hy.alloc (.cells #[.int .i64 x.room,.slice x.a x.ps.length x.c] 38)) d1.b f 79
 rw[s1] at s2
 exact⟨(d1.step (one_more _ _)).step (one_more _ _),s2.step (one_more _ _),Bc.made _ _ (by simp;omega) (by simp)⟩
theorem ended16{w u:World}{base0 g:Nat}{y:Dx}(b:Below w.heap.size w u)(rb:Bc u w.heap.size g (.int .i64 0) (.slice none 0 0))(o:OwD u base0 y)(hb:g<base0):OwD ((u.setCell ⟨g,0,none⟩ (.int .i64 y.room)).setCell ⟨g,1,none⟩ (.slice y.a y.ps.length y.c)) w.heap.size y∧Below w.heap.size w ((u.setCell ⟨g,0,none⟩ (.int .i64 y.room)).setCell ⟨g,1,none⟩ (.slice y.a y.ps.length y.c)):=by
 have s0:=rb.set0 (.int .i64 y.room)
 have s1:=bc_set1 s0.1 (.slice y.a y.ps.length y.c)
 have st:=grow_grow s0.2 s1.2
 have lt:=rb.lt
 exact⟨row_base (row_kept o st hb) (by omega),grow_low b st ⟨lt.1,b.size⟩⟩
theorem g16_kept{w W W':World}{x:Dx}{f:Int}{y:Bx}{g:Nat}(h:G16 w W x f y)(k:W.grownBy W' (some g))(hg:w.heap.size+2<g)(hx:∀B,x.a=some ⟨B,0,none⟩→B≠g)(hy:Rd w y):G16 w W' x f y:=by
 refine⟨ITb14.wd_grown h.d k (by omega) hx,?_,h.r.kept k (by simp;omega)⟩
 have lt:=h.s.lt
 have c:=fun o=>kcell k o lt (show w.heap.size+1≠g by omega)
 exact⟨(c 0).trans h.s.f,(c 1).trans h.s.c0,(c 2).trans h.s.c1,(c 3).trans h.s.c2,(c 4).trans h.s.c3,(c 5).trans h.s.c4,(c 6).trans h.s.c5,hy.below (grow_low h.s.b k ⟨by omega,h.s.b.size⟩),grow_low h.s.b k ⟨by omega,h.s.b.size⟩,Nat.lt_of_lt_of_le lt k.size⟩
def lessD(ps:List TF):List TF:=if 0≤findF ps 20 then lessN ps (findF ps 20) ps.length else ps
noncomputable def firstD (room:Int) (ps:List TF) (t:ByteArray):(Int×List TF)×Int:=if(appendD room (lessD ps) 20 t).2=0 then appendD room (lessD ps) 20 t else((room,ps),(appendD room (lessD ps) 20 t).2)
noncomputable def stepsD (room:Int) (ps:List TF) (t:ByteArray) (k:Int):(Int×List TF)×Int:=if k=0 then firstD room ps t else if k=1 then syncD room ps 20 else if k=2 then moveD room ps 20 21 else(clearD room ps [],0)
noncomputable def stepD (room:Int) (ps:List TF) (tx:ByteArray×Bool) (k:Int):(Int×List TF)×Int:=if OkD room ps∧tx.2=true∧decide (0≤k∧k≤3)=true then stepsD room ps tx.1 k else((0,[]),1)
theorem less_small{room:Int}{ps:List TF}(h:OkD room ps):OkD room (lessD ps):=by
 unfold lessD
 split
 ·rename_i q
  obtain⟨k,e,kl,_⟩:=findF_in (ps:=ps) (nm:=20) q
  rw[e]
  exact(Ok14.ok_less h kl).1
 ·exact h
theorem save_size(f:Int)(b:Bk)(ok:Bool):(saveD f b ok).1.size≤1048576:=by
 unfold saveD
 split
 ·rename_i h
  show(strOfNums (SSeal11.sealB (bodyS f b))).size≤1048576
  rw[strOfNums_size]
  unfold SSeal11.sealB
  rw[if_pos h.2.2]
  have:=SPut11.numB_nine (x:=(bodyS f b).length) (by omega)
  simp[SSeal11.four]
  omega
 ·show ByteArray.empty.size≤1048576
  simp
theorem sSaveStep(w:World)(x:Dx)(y:Bx)(f k:Int)(b:Bool)(hr:RdD w x)(hz:sumZ x.ps≤1048576)(hy:Rd w y)(hb:Says b (Ok y.b)):
  Calls Tryz.prog 57 #[.agg #[.int .i64 x.room,.slice x.a x.ps.length x.c],.agg #[.int .i64 f,.slice (some ⟨y.ga,0,none⟩) y.b.ac.length y.ca,.slice (some ⟨y.gi,0,none⟩) y.b.ic.length y.ci,.slice (some ⟨y.gb,0,none⟩) y.b.bs.length y.cb,.slice (some ⟨y.gl,0,none⟩) y.b.ls.length y.cl,.slice (some ⟨y.gt,0,none⟩) y.b.ts.length y.ct,.int .i64 y.b.lot],.int .i64 k] w (ToldD (stepD x.room x.ps (saveD f y.b b) k) w):=by
 have G0:=zh (begun16 hr hy f)
 have s3:(((w.alloc (.cells #[.int .i64 x.room,.slice x.a x.ps.length x.c] 38)).alloc (.cells #[.int .i64 f,.slice (some ⟨y.ga,0,none⟩) y.b.ac.length y.ca,.slice (some ⟨y.gi,0,none⟩) y.b.ic.length y.ci,.slice (some ⟨y.gb,0,none⟩) y.b.bs.length y.cb,.slice (some ⟨y.gl,0,none⟩) y.b.ls.length y.cl,.slice (some ⟨y.gt,0,none⟩) y.b.ts.length y.ct,.int .i64 y.b.lot] 79)).alloc (.cells #[.int .i64 0,.slice none 0 0] 38)).heap.size=w.heap.size+3:=by simp
 have SP:=zh (fun u h=>sSavePack u y f b h hb)
 have OK0:=zh (fun u (h:RdD u x)=>sDiskOk u x h hz)
 have RE:=zh (show stepD x.room x.ps (saveD f y.b b) k=if OkD x.room x.ps∧(saveD f y.b b).2=true∧decide (0≤k∧k≤3)=true then stepsD x.room x.ps (saveD f y.b b).1 k else((0,[]),1) from rfl)
 have TZ:=zh (save_size f y.b b)
 generalize stepD x.room x.ps (saveD f y.b b) k=rr at *
 generalize saveD f y.b b=tx at *
 obtain⟨tt,tb⟩:=tx
 have XA:=zh (fun g e=>(hr.r g e).1)
 have HY0:=zh hy
 clear hr hy hb
 have c0:=(zu G0).s.f
 have c1:=(zu G0).s.c0
 have c2:=(zu G0).s.c1
 have c3:=(zu G0).s.c2
 have c4:=(zu G0).s.c3
 have c5:=(zu G0).s.c4
 have c6:=(zu G0).s.c5
 have lt:=(zu G0).s.lt
 go_enter Tryz.func57,Tryz.ntmps57
 go_wp2_with fail
 generalize ((w.alloc (.cells #[.int .i64 x.room,.slice x.a x.ps.length x.c] 38)).alloc (.cells #[.int .i64 f,.slice (some ⟨y.ga,0,none⟩) y.b.ac.length y.ca,.slice (some ⟨y.gi,0,none⟩) y.b.ic.length y.ci,.slice (some ⟨y.gb,0,none⟩) y.b.bs.length y.cb,.slice (some ⟨y.gl,0,none⟩) y.b.ls.length y.cl,.slice (some ⟨y.gt,0,none⟩) y.b.ts.length y.ct,.int .i64 y.b.lot] 79)).alloc (.cells #[.int .i64 0,.slice none 0 0] 38)=W at *
 refine(zu SP _ (zu G0).s.r).mono ?_
 rintro e u ⟨rfl,b1⟩
 have G1:=zh ((zu G0).step b1)
 have us:=b1.size
 rw[s3] at us
 clear b1 G0 s3 SP c0 c1 c2 c3 c4 c5 c6 lt
 have c0:=(zu G1).d.c0
 have c1:=(zu G1).d.c1
 have lt:=(zu G1).d.lt
 go_wp2_with fail
 refine(zu OK0 _ (zu G1).d.r).mono ?_
 rintro e u2 ⟨rfl,b2⟩
 have G2:=zh ((zu G1).step b2)
 have us2:=b2.size
 clear b2 G1 OK0 c0 c1 lt
 by_cases ok:OkD x.room x.ps
 case neg=>
  have od:decide (OkD x.room x.ps)=false:=decide_eq_false ok
  have E:=zh (show rr=((0,[]),1) by rw[zu RE,if_neg (fun h=>ok h.1)])
  clear RE ok
  have EN:=zh (ended16 (y:=⟨0,none,0,[]⟩) (base0:=w.heap.size+3) (zu G2).d.b (zu G2).r ⟨rfl,.inl ⟨rfl,rfl⟩⟩ (by omega))
  have f0:=(zu G2).r.free 0
  have f1:=(zu G2).r.free 1
  have r0:=(zu G2).r.c0
  have r1:=(zu G2).r.c1
  go_wp2
  refine bodyPost_ret (v:= .tuple #[.agg #[.int .i64 0,.slice none 0 0],.int .i64 1]) (by simp[results,Tryz.results57,go_sem,r0,r1]) rfl ?_
  rw[zu E]
  exact⟨⟨0,none,0,[]⟩,rfl,rfl,(zu EN).1,(zu EN).2⟩
 have od:decide (OkD x.room x.ps)=true:=decide_eq_true ok
 have OK:=zh ok
 cases tb with
 |false=>
  have E:=zh (show rr=((0,[]),1) by rw[zu RE,if_neg (fun h=>by simp at h)])
  clear RE ok
  have EN:=zh (ended16 (y:=⟨0,none,0,[]⟩) (base0:=w.heap.size+3) (zu G2).d.b (zu G2).r ⟨rfl,.inl ⟨rfl,rfl⟩⟩ (by omega))
  have f0:=(zu G2).r.free 0
  have f1:=(zu G2).r.free 1
  have r0:=(zu G2).r.c0
  have r1:=(zu G2).r.c1
  go_wp2
  refine bodyPost_ret (v:= .tuple #[.agg #[.int .i64 0,.slice none 0 0],.int .i64 1]) (by simp[results,Tryz.results57,go_sem,r0,r1]) rfl ?_
  rw[zu E]
  exact⟨⟨0,none,0,[]⟩,rfl,rfl,(zu EN).1,(zu EN).2⟩
 |true=>
 obtain⟨kb,hkb⟩:∃kb,decide (0≤k∧k≤3)=kb:=⟨_,rfl⟩
 have HK:=zh hkb
 clear hkb
 cases kb with
 |false=>
  have E:=zh (show rr=((0,[]),1) by rw[zu RE,if_neg (fun h=>by rw[zu HK] at h;simp at h)])
  clear RE ok
  go_wp2_with fail
  refine(sInB _ k 0 3 false (zu HK)).mono ?_
  rintro e u2 ⟨rfl,rfl⟩
  have EN:=zh (ended16 (y:=⟨0,none,0,[]⟩) (base0:=w.heap.size+3) (zu G2).d.b (zu G2).r ⟨rfl,.inl ⟨rfl,rfl⟩⟩ (by omega))
  have f0:=(zu G2).r.free 0
  have f1:=(zu G2).r.free 1
  have r0:=(zu G2).r.c0
  have r1:=(zu G2).r.c1
  go_wp2
  refine bodyPost_ret (v:= .tuple #[.agg #[.int .i64 0,.slice none 0 0],.int .i64 1]) (by simp[results,Tryz.results57,go_sem,r0,r1]) rfl ?_
  rw[zu E]
  exact⟨⟨0,none,0,[]⟩,rfl,rfl,(zu EN).1,(zu EN).2⟩
 |true=>
 have RR:=zh (show rr=stepsD x.room x.ps tt k by rw[zu RE,if_pos ⟨ok,rfl,zu HK⟩])
 have k03:0≤k∧k≤3:=of_decide_eq_true (zu HK)
 clear RE
 have KC:k=0∨k=1∨k=2∨k=3:=by omega
 clear k03
 have TS:=zu TZ
 have zs:=ok.2.2.1
 have zr:=ok.1
 clear ok
 go_wp2_with fail
 refine(sInB _ k 0 3 true (zu HK)).mono ?_
 rintro e u2 ⟨rfl,rfl⟩
 have c0:=(zu G2).d.c0
 have c1:=(zu G2).d.c1
 have lt:=(zu G2).d.lt
 rcases KC with rfl|rfl|rfl|rfl
 ·have F0:=zh (show rr=firstD x.room x.ps tt by rw[zu RR];rfl)
  have LO:=zh (less_small (zu OK))
  have FD:=zh (show firstD x.room x.ps tt=if(appendD x.room (lessD x.ps) 20 tt).2=0 then appendD x.room (lessD x.ps) 20 tt else((x.room,x.ps),(appendD x.room (lessD x.ps) 20 tt).2) from rfl)
  have DL:=zh (show lessD x.ps=if 0≤findF x.ps 20 then lessN x.ps (findF x.ps 20) x.ps.length else x.ps from rfl)
  have bA:=one_more u2 (.cells #[.int .i64 x.room,.slice x.a x.ps.length x.c] 38)
  have G3:=zh ((zu G2).step bA)
  have KB:=zh (Bc.made (w:=u2) (base:=w.heap.size) (g:=u2.heap.size) (.int .i64 x.room) (.slice x.a x.ps.length x.c) (zu G2).d.b.size rfl)
  clear RR bA c0 c1 lt
  generalize lessD x.ps=qs at *
  have c0:=(zu G2).d.c0
  have c1:=(zu G2).d.c1
  have lt:=(zu G2).d.lt
  have d0:=(zu G3).d.c0
  have d1:=(zu G3).d.c1
  have dl:=(zu G3).d.lt
  go_wp2_with fail
  clear c0 c1 lt d0 d1 dl
  have B3:=zh (zu G3).d.b
  generalize hV3:u2.alloc (.cells #[.int .i64 x.room,.slice x.a x.ps.length x.c] 38)=V3 at *
  refine(sFind V3 x 20 (zu G3).d.r).mono ?_
  rintro e u4 ⟨rfl,b4⟩
  have bl3:u2.heap.size<V3.heap.size:=(zu KB).lt.2
  have K4:=zh ((zu KB).below b4 bl3)
  have G4:=zh ((zu G3).step b4)
  have us4:=b4.size
  clear b4 G2 hV3 KB G3 B3
  generalize u2.heap.size=g5 at *
  generalize findF x.ps 20=fi at *
  by_cases fz:0≤fi
  ·have fb:decide (fi≥0)=true:=decide_eq_true fz
   have QE:=zh (show qs=lessN x.ps fi x.ps.length by rw[zu DL,if_pos fz])
   clear DL fz
   have c0:=(zu G4).d.c0
   have c1:=(zu G4).d.c1
   have lt:=(zu G4).d.lt
   go_wp2_with fail
   refine(sLess u4 x fi (zu G4).d.r).mono ?_
   rintro e u5 ⟨v,hv0,hv,rfl,ov,b5⟩
   have K5:=zh ((zu K4).below b5 (zu K4).lt.2)
   have G5:=zh ((zu G4).step b5)
   have OV:=zh ov
   have us5:=b5.size
   clear b5 ov c0 c1 lt
   have f0:=(zu K5).free 0
   have f1:=(zu K5).free 1
   have k0:=(zu K5).c0
   have k1:=(zu K5).c1
   have t0:=(zu K5).set0 (.int .i64 v.room)
   have t1:=bc_set1 t0.1 (.slice v.a v.ps.length v.c)
   have ST:=zh (grow_grow t0.2 t1.2)
   have K6:=zh t1.1
   have gv:g5<u4.heap.size:=(zu K4).lt.2
   have OV6:=zh (show OwD ((u5.setCell ⟨g5,0,none⟩ (.int .i64 v.room)).setCell ⟨g5,1,none⟩ (.slice v.a v.ps.length v.c)) u4.heap.size v from row_kept (zu OV) (zu ST) gv)
   have G6:=zh (g16_kept (zu G5) (zu ST) (by omega) (fun k e=>by have:=(zu XA) k e;omega) (zu HY0))
   have QV:=zh (show v.ps=qs by rw[hv,zu QE])
   have QR:=zh hv0
   clear t0 t1 hv hv0 OV QE K4 K5 G5
   have RD6:=zh ((zu OV6).rd (by rw[zu QV];have:=(zu LO).2.1;omega))
   have kl:g5<((u5.setCell ⟨g5,0,none⟩ (.int .i64 v.room)).setCell ⟨g5,1,none⟩ (.slice v.a v.ps.length v.c)).heap.size:=Nat.lt_of_lt_of_le (zu K6).lt.2 (Nat.le_refl _)
   have qe:=zu QV
   subst qe
   have LO':=zu LO
   have FD2:=zh (show firstD x.room x.ps tt=if(appendD v.room v.ps 20 tt).2=0 then appendD v.room v.ps 20 tt else((x.room,x.ps),(appendD v.room v.ps 20 tt).2) by rw[zu QR];exact zu FD)
   have AP:=zh (sDiskAppend ((u5.setCell ⟨g5,0,none⟩ (.int .i64 v.room)).setCell ⟨g5,1,none⟩ (.slice v.a v.ps.length v.c)) v 20 tt ((zu RD6)) (by have:=LO'.1;have:=LO'.2.2.1;omega) (by omega))
   generalize appendD v.room v.ps 20 tt=ap at *
   obtain⟨ap1,ac⟩:=ap
   clear FD LO LO'
   go_wp2_with fail
   generalize (u5.setCell ⟨g5,0,none⟩ (.int .i64 v.room)).setCell ⟨g5,1,none⟩ (.slice v.a v.ps.length v.c)=u6 at *
   refine(zu AP).mono ?_
   rintro e u7 ⟨z,hz',rfl,oz,b7⟩
   have G7:=zh ((zu G6).step b7)
   have us7:=b7.size
   have bA:=one_more u7 (.cells #[.int .i64 z.room,.slice z.a z.ps.length z.c] 38)
   have G8:=zh ((zu G7).step bA)
   have OZ:=zh (oz.step bA)
   have HZ0:=zh hz'
   have lu:=(zu G6).r.lt.2
   clear b7 bA oz hz' f0 k0 k1 kl AP K6
   by_cases az:ac=0
   ·subst az
    have E:=zh (show rr=(ap1,0) by rw[zu F0,zu FD2,if_pos rfl])
    have EN:=zh (ended16 (zu G8).d.b (zu G8).r (zu OZ) lu)
    have f0:=(zu G8).r.free 0
    have f1:=(zu G8).r.free 1
    have r0:=(zu G8).r.c0
    have r1:=(zu G8).r.c1
    clear F0 FD2
    go_wp2
    refine bodyPost_ret (v:= .tuple #[.agg #[.int .i64 z.room,.slice z.a z.ps.length z.c],.int .i64 0]) (by simp[results,Tryz.results57,go_sem,r0,r1]) rfl ?_
    rw[zu E]
    exact⟨z,zu HZ0,rfl,(zu EN).1,(zu EN).2⟩
   ·have E:=zh (show rr=((x.room,x.ps),ac) by rw[zu F0,zu FD2,if_neg az])
    have ab:(ac !=0)=true:=by simpa using az
    clear F0 FD2 az HZ0 OZ
    have c0:=(zu G8).d.c0
    have c1:=(zu G8).d.c1
    have lt:=(zu G8).d.lt
    go_wp2_with fail
    refine(sCopy _ x (zu G8).d.r).mono ?_
    rintro e u9 ⟨q,hq0,hq,rfl,oq,b9⟩
    have hqq:(q.room,q.ps)=(x.room,x.ps):=by rw[hq0,hq]
    clear c0 c1 lt hq0 hq
    have G9:=zh ((zu G8).step b9)
    have HZ:=zh hqq
    have EN:=zh (ended16 (zu G9).d.b (zu G9).r oq (zu G8).r.lt.2)
    have f0:=(zu G9).r.free 0
    have f1:=(zu G9).r.free 1
    have r0:=(zu G9).r.c0
    have r1:=(zu G9).r.c1
    clear b9 oq hqq
    go_wp2
    refine bodyPost_ret (v:= .tuple #[.agg #[.int .i64 q.room,.slice q.a q.ps.length q.c],.int .i64 ac]) (by simp[results,Tryz.results57,go_sem,r0,r1]) rfl ?_
    rw[zu E]
    exact⟨q,zu HZ,rfl,(zu EN).1,(zu EN).2⟩
  ·have fb:decide (fi≥0)=false:=decide_eq_false fz
   have QV:=zh (show x.ps=qs by rw[zu DL,if_neg fz])
   have QR:=zh (show x.room=x.room from rfl)
   have G6:=G4
   have RD6:=zh (zu G4).d.r
   have f0:=(zu K4).free 0
   have k0:=(zu K4).c0
   have k1:=(zu K4).c1
   have kl9:=(zu K4).lt.2
   clear DL fz K4
   have kl4:g5<u4.heap.size:=kl9
   have kl:g5<u4.heap.size:=kl4
   have qe:=zu QV
   subst qe
   have LO':=zu LO
   have FD2:=zh (show firstD x.room x.ps tt=if(appendD x.room x.ps 20 tt).2=0 then appendD x.room x.ps 20 tt else((x.room,x.ps),(appendD x.room x.ps 20 tt).2) by rw[zu QR];exact zu FD)
   have AP:=zh (sDiskAppend u4 x 20 tt ((zu RD6)) (by have:=LO'.1;have:=LO'.2.2.1;omega) (by omega))
   generalize appendD x.room x.ps 20 tt=ap at *
   obtain⟨ap1,ac⟩:=ap
   clear FD LO LO'
   go_wp2_with fail
   refine(zu AP).mono ?_
   rintro e u7 ⟨z,hz',rfl,oz,b7⟩
   have G7:=zh ((zu G6).step b7)
   have us7:=b7.size
   have bA:=one_more u7 (.cells #[.int .i64 z.room,.slice z.a z.ps.length z.c] 38)
   have G8:=zh ((zu G7).step bA)
   have OZ:=zh (oz.step bA)
   have HZ0:=zh hz'
   have lu:=(zu G6).r.lt.2
   clear b7 bA oz hz' f0 k0 k1 kl AP
   by_cases az:ac=0
   ·subst az
    have E:=zh (show rr=(ap1,0) by rw[zu F0,zu FD2,if_pos rfl])
    have EN:=zh (ended16 (zu G8).d.b (zu G8).r (zu OZ) lu)
    have f0:=(zu G8).r.free 0
    have f1:=(zu G8).r.free 1
    have r0:=(zu G8).r.c0
    have r1:=(zu G8).r.c1
    clear F0 FD2
    go_wp2
    refine bodyPost_ret (v:= .tuple #[.agg #[.int .i64 z.room,.slice z.a z.ps.length z.c],.int .i64 0]) (by simp[results,Tryz.results57,go_sem,r0,r1]) rfl ?_
    rw[zu E]
    exact⟨z,zu HZ0,rfl,(zu EN).1,(zu EN).2⟩
   ·have E:=zh (show rr=((x.room,x.ps),ac) by rw[zu F0,zu FD2,if_neg az])
    have ab:(ac !=0)=true:=by simpa using az
    clear F0 FD2 az HZ0 OZ
    have c0:=(zu G8).d.c0
    have c1:=(zu G8).d.c1
    have lt:=(zu G8).d.lt
    go_wp2_with fail
    refine(sCopy _ x (zu G8).d.r).mono ?_
    rintro e u9 ⟨q,hq0,hq,rfl,oq,b9⟩
    have hqq:(q.room,q.ps)=(x.room,x.ps):=by rw[hq0,hq]
    clear c0 c1 lt hq0 hq
    have G9:=zh ((zu G8).step b9)
    have HZ:=zh hqq
    have EN:=zh (ended16 (zu G9).d.b (zu G9).r oq (zu G8).r.lt.2)
    have f0:=(zu G9).r.free 0
    have f1:=(zu G9).r.free 1
    have r0:=(zu G9).r.c0
    have r1:=(zu G9).r.c1
    clear b9 oq hqq
    go_wp2
    refine bodyPost_ret (v:= .tuple #[.agg #[.int .i64 q.room,.slice q.a q.ps.length q.c],.int .i64 ac]) (by simp[results,Tryz.results57,go_sem,r0,r1]) rfl ?_
    rw[zu E]
    exact⟨q,zu HZ,rfl,(zu EN).1,(zu EN).2⟩
 ·have E:=zh (show rr=syncD x.room x.ps 20 by rw[zu RR];rfl)
  have SY:=zh (sDiskSync u2 x 20 (zu G2).d.r hz)
  generalize syncD x.room x.ps 20=ra at *
  obtain⟨rd,rc⟩:=ra
  clear RR
  go_wp2_with fail
  refine(zu SY).mono ?_
  rintro e u9 ⟨z,hz',rfl,oz,b9⟩
  clear c0 c1 lt SY
  have G9:=zh ((zu G2).step b9)
  have HZ:=zh hz'
  have EN:=zh (ended16 (zu G9).d.b (zu G9).r oz (zu G2).r.lt.2)
  have f0:=(zu G9).r.free 0
  have f1:=(zu G9).r.free 1
  have r0:=(zu G9).r.c0
  have r1:=(zu G9).r.c1
  clear b9 oz hz'
  go_wp2
  refine bodyPost_ret (v:= .tuple #[.agg #[.int .i64 z.room,.slice z.a z.ps.length z.c],.int .i64 rc]) (by simp[results,Tryz.results57,go_sem,r0,r1]) rfl ?_
  rw[zu E]
  exact⟨z,zu HZ,rfl,(zu EN).1,(zu EN).2⟩
 ·have E:=zh (show rr=moveD x.room x.ps 20 21 by rw[zu RR];rfl)
  have SY:=zh (sDiskMove u2 x 20 21 (zu G2).d.r hz)
  generalize moveD x.room x.ps 20 21=ra at *
  obtain⟨rd,rc⟩:=ra
  clear RR
  go_wp2_with fail
  refine(zu SY).mono ?_
  rintro e u9 ⟨z,hz',rfl,oz,b9⟩
  clear c0 c1 lt SY
  have G9:=zh ((zu G2).step b9)
  have HZ:=zh hz'
  have EN:=zh (ended16 (zu G9).d.b (zu G9).r oz (zu G2).r.lt.2)
  have f0:=(zu G9).r.free 0
  have f1:=(zu G9).r.free 1
  have r0:=(zu G9).r.c0
  have r1:=(zu G9).r.c1
  clear b9 oz hz'
  go_wp2
  refine bodyPost_ret (v:= .tuple #[.agg #[.int .i64 z.room,.slice z.a z.ps.length z.c],.int .i64 rc]) (by simp[results,Tryz.results57,go_sem,r0,r1]) rfl ?_
  rw[zu E]
  exact⟨z,zu HZ,rfl,(zu EN).1,(zu EN).2⟩
 ·have E:=zh (show rr=(clearD x.room x.ps [],0) by rw[zu RR];rfl)
  have SY:=zh (SClear16.sSegsClearO u2 x none 0 [] (zu G2).d.r hz (by simp) (.inl rfl))
  generalize clearD x.room x.ps []=ra at *
  obtain⟨rd,rc⟩:=ra
  clear RR
  go_wp2_with fail
  refine(zu SY).mono ?_
  rintro e u9 ⟨z,hz',rfl,oz,b9⟩
  clear c0 c1 lt SY
  have G9:=zh ((zu G2).step b9)
  have HZ:=zh hz'
  have EN:=zh (ended16 (zu G9).d.b (zu G9).r oz (zu G2).r.lt.2)
  have f0:=(zu G9).r.free 0
  have f1:=(zu G9).r.free 1
  have r0:=(zu G9).r.c0
  have r1:=(zu G9).r.c1
  clear b9 oz hz'
  go_wp2
  refine bodyPost_ret (v:= .tuple #[.agg #[.int .i64 z.room,.slice z.a z.ps.length z.c],.int .i64 0]) (by simp[results,Tryz.results57,go_sem,r0,r1]) rfl ?_
  rw[zu E]
  exact⟨z,zu HZ,rfl,(zu EN).1,(zu EN).2⟩
end SStep16
namespace SWrite16
open Fil14 OpensF14 DiskH14 DkH14 SDk14 SOk14 SRd14 App14 SLess14 SCopy14 SCom14 SAppend14 SSync14 SMove14 SSave16 SStep16
open BMem (Bx Rd)
open Bks (Bk Ok)
open Lots (Says)
open SClear15 (clearD stays)
open Pure14
noncomputable def wrF (room:Int) (ps:List TF) (tx:ByteArray×Bool):Nat→Int→Int×List TF→(Int×List TF)×Int
 |0,_,cur=>(cur,0)
 |n+1,k,cur=>if(stepD cur.1 cur.2 tx k).2=1 then((0,[]),1) else if(stepD cur.1 cur.2 tx k).2=0 then wrF room ps tx n (k+1) (stepD cur.1 cur.2 tx k).1 else((room,ps),(stepD cur.1 cur.2 tx k).2)
noncomputable def writeD (room:Int) (ps:List TF) (tx:ByteArray×Bool):(Int×List TF)×Int:=wrF room ps tx 4 0 (room,ps)
theorem sum_filter(f:TF→Bool):∀ps:List TF,sumZ (ps.filter f)≤sumZ ps
 |[]=>by simp
 |p::ps=>by
  have:=sum_filter f ps
  rw[List.filter_cons]
  split
  ·rw[sum_cons,sum_cons];omega
  ·rw[sum_cons];omega
theorem clear_ok{room:Int}{ps:List TF}(ks:List Int)(h:OkD room ps):OkD room (ps.filter (stays ks)):=by
 obtain⟨ha,hn⟩:=asc_of h
 have:=sum_filter (stays ks) ps
 have:=h.2.2.1
 exact okd_of h.1 (by omega) (List.Pairwise.filter _ ha) (fun p hp=>hn p (List.mem_filter.1 hp).1)
theorem clear_okD{room:Int}{ps:List TF}(h:OkD room ps):OkD (clearD room ps []).1 (clearD room ps []).2:=by
 unfold SClear15.clearD
 rw[if_pos ⟨h,by simp⟩]
 exact clear_ok [] h
theorem step_ok{room:Int}{ps:List TF}{tx:ByteArray×Bool}{k:Int}(h:(stepD room ps tx k).2=0):OkD (stepD room ps tx k).1.1 (stepD room ps tx k).1.2:=by
 unfold stepD at h⊢
 split at h
 ·rename_i q
  rw[if_pos q]
  have ok:=q.1
  unfold stepsD at h⊢
  by_cases k0:k=0
  ·rw[if_pos k0] at h⊢
   unfold firstD at h⊢
   by_cases a:(appendD room (lessD ps) 20 tx.1).2=0
   ·rw[if_pos a]
    exact Okk14.rg_append (room:=room) 20 tx.1 (less_small ok) (by rw[a];decide)
   ·rw[if_neg a] at h
    exact absurd h a
  ·rw[if_neg k0] at h⊢
   by_cases k1:k=1
   ·rw[if_pos k1] at h⊢
    exact Okk14.rg_sync (room:=room) 20 ok (by rw[h];decide)
   ·rw[if_neg k1] at h⊢
    by_cases k2:k=2
    ·rw[if_pos k2] at h⊢
     exact Okk14.rg_move (room:=room) 20 21 ok (by rw[h];decide)
    ·rw[if_neg k2]
     exact clear_okD ok
 ·simp at h
theorem sSaveWrite(w:World)(x:Dx)(y:Bx)(f:Int)(b:Bool)(hr:RdD w x)(hz:sumZ x.ps≤1048576)(hy:Rd w y)(hb:Says b (Ok y.b)):
  Calls Tryz.prog 45 #[.agg #[.int .i64 x.room,.slice x.a x.ps.length x.c],.agg #[.int .i64 f,.slice (some ⟨y.ga,0,none⟩) y.b.ac.length y.ca,.slice (some ⟨y.gi,0,none⟩) y.b.ic.length y.ci,.slice (some ⟨y.gb,0,none⟩) y.b.bs.length y.cb,.slice (some ⟨y.gl,0,none⟩) y.b.ls.length y.cl,.slice (some ⟨y.gt,0,none⟩) y.b.ts.length y.ct,.int .i64 y.b.lot]] w (ToldD (writeD x.room x.ps (saveD f y.b b)) w):=by
 have G0:=zh (begun16 hr hy f)
 have s3:(((w.alloc (.cells #[.int .i64 x.room,.slice x.a x.ps.length x.c] 38)).alloc (.cells #[.int .i64 f,.slice (some ⟨y.ga,0,none⟩) y.b.ac.length y.ca,.slice (some ⟨y.gi,0,none⟩) y.b.ic.length y.ci,.slice (some ⟨y.gb,0,none⟩) y.b.bs.length y.cb,.slice (some ⟨y.gl,0,none⟩) y.b.ls.length y.cl,.slice (some ⟨y.gt,0,none⟩) y.b.ts.length y.ct,.int .i64 y.b.lot] 79)).alloc (.cells #[.int .i64 0,.slice none 0 0] 38)).heap.size=w.heap.size+3:=by simp
 have bA:=one_more (((w.alloc (.cells #[.int .i64 x.room,.slice x.a x.ps.length x.c] 38)).alloc (.cells #[.int .i64 f,.slice (some ⟨y.ga,0,none⟩) y.b.ac.length y.ca,.slice (some ⟨y.gi,0,none⟩) y.b.ic.length y.ci,.slice (some ⟨y.gb,0,none⟩) y.b.bs.length y.cb,.slice (some ⟨y.gl,0,none⟩) y.b.ls.length y.cl,.slice (some ⟨y.gt,0,none⟩) y.b.ts.length y.ct,.int .i64 y.b.lot] 79)).alloc (.cells #[.int .i64 0,.slice none 0 0] 38)) (.cells #[.int .i64 x.room,.slice x.a x.ps.length x.c] 38)
 have G1:=zh ((zu G0).step bA)
 have K1:=zh (Bc.made (w:=((w.alloc (.cells #[.int .i64 x.room,.slice x.a x.ps.length x.c] 38)).alloc (.cells #[.int .i64 f,.slice (some ⟨y.ga,0,none⟩) y.b.ac.length y.ca,.slice (some ⟨y.gi,0,none⟩) y.b.ic.length y.ci,.slice (some ⟨y.gb,0,none⟩) y.b.bs.length y.cb,.slice (some ⟨y.gl,0,none⟩) y.b.ls.length y.cl,.slice (some ⟨y.gt,0,none⟩) y.b.ts.length y.ct,.int .i64 y.b.lot] 79)).alloc (.cells #[.int .i64 0,.slice none 0 0] 38)) (base:=w.heap.size) (g:=w.heap.size+3) (.int .i64 x.room) (.slice x.a x.ps.length x.c) (by omega) s3.symm)
 have C1:=zh (zu G1).d.r
 have SS:=zh (fun u (c:Dx) k (h:RdD u c) (hz:sumZ c.ps≤1048576) (hy:Rd u y)=>sSaveStep u c y f k b h hz hy hb)
 have XA:=zh (fun g e=>(hr.r g e).1)
 have HY0:=zh hy
 have RE:=zh (show wrF x.room x.ps (saveD f y.b b) (4-0) ((0:Nat):Int) (x.room,x.ps)=writeD x.room x.ps (saveD f y.b b) from rfl)
 generalize writeD x.room x.ps (saveD f y.b b)=rr at *
 generalize saveD f y.b b=tx at *
 clear hr hy hb bA
 go_enter Tryz.func45,Tryz.ntmps45
 go_wp2
 go_loopw [7] (fun i wr=>∃(k:Nat) (c:Dx),k≤4∧i= .int .i64 k∧sumZ c.ps≤1048576∧Hid (wrF x.room x.ps tx (4-k) k (c.room,c.ps)=rr)∧Hid (G16 w wr x f y)∧Hid (Bc wr w.heap.size (w.heap.size+3) (.int .i64 c.room) (.slice c.a c.ps.length c.c))∧Hid (RdD wr c)∧Hid (k=0∨OwD wr (w.heap.size+4) c)) (fun i _=>4-(intOf i).toNat)
 case atStart=>exact⟨0,x,by omega,rfl,hz,RE,G1,K1,C1,zh (.inl rfl)⟩
 case round=>
  clear G0 G1 K1 C1 RE s3
  obtain⟨k,c,hk,rfl,zc,HE,HG,HK,HC,HO⟩:=hrel
  have c0:=(zu HK).c0
  have c1:=(zu HK).c1
  have lt:=(zu HK).lt.2
  by_cases t:k<4
  ·have tk:(k:Int)<4:=by omega
   have NX:=zh (show(if(stepD c.room c.ps tx k).2=1 then((0,[]),1) else if(stepD c.room c.ps tx k).2=0 then wrF x.room x.ps tx (4-(k+1)) ((k+1:Nat):Int) (stepD c.room c.ps tx k).1 else((x.room,x.ps),(stepD c.room c.ps tx k).2))=rr from by
    rw[←zu HE,show 4-k=(4-(k+1))+1 by omega]
    rfl)
   have SP:=zh ((zu SS) wr c k (zu HC) zc (zu HG).s.r)
   have SK:=zh (step_ok (room:=c.room) (ps:=c.ps) (tx:=tx) (k:=k))
   have e0:=(zu HG).s.f
   have e1:=(zu HG).s.c0
   have e2:=(zu HG).s.c1
   have e3:=(zu HG).s.c2
   have e4:=(zu HG).s.c3
   have e5:=(zu HG).s.c4
   have e6:=(zu HG).s.c5
   have es:=(zu HG).s.lt
   generalize stepD c.room c.ps tx k=sr at *
   obtain⟨⟨sd,sp⟩,sc⟩:=sr
   clear HE HO HC
   go_wp2_with fail
   refine(zu SP).mono ?_
   rintro e u ⟨z,hz',rfl,oz,b5⟩
   have z1:z.room=sd:=(Prod.ext_iff.1 hz').1
   have z2:z.ps=sp:=(Prod.ext_iff.1 hz').2
   subst z1 z2
   have us:=b5.size
   have G5:=zh ((zu HG).step b5)
   have K5:=zh ((zu HK).below b5 lt)
   have bA:=one_more u (.cells #[.int .i64 z.room,.slice z.a z.ps.length z.c] 38)
   have G6:=zh ((zu G5).step bA)
   have K6:=zh ((zu K5).below bA (zu K5).lt.2)
   have OZ:=zh (oz.step bA)
   clear hz' oz b5 bA SP HG HK G5 K5 e0 e1 e2 e3 e4 e5 e6 es c0 c1
   by_cases a1:sc=1
   ·subst a1
    have E:=zh (show rr=((0,[]),1) by rw[←zu NX,if_pos rfl])
    clear NX
    have EN:=zh (ended16 (base0:=w.heap.size+3) (y:=⟨0,none,0,[]⟩) (zu G6).d.b (zu G6).r ⟨rfl,.inl ⟨rfl,rfl⟩⟩ (by omega))
    have f0:=(zu G6).r.free 0
    have f1:=(zu G6).r.free 1
    have r0:=(zu G6).r.c0
    have r1:=(zu G6).r.c1
    go_wp2
    refine bodyPost_ret (v:= .tuple #[.agg #[.int .i64 0,.slice none 0 0],.int .i64 1]) (by simp[results,Tryz.results45,go_sem,r0,r1]) rfl ?_
    rw[zu E]
    exact⟨⟨0,none,0,[]⟩,rfl,rfl,(zu EN).1,(zu EN).2⟩
   by_cases a0:sc=0
   case neg=>
    have E:=zh (show rr=((x.room,x.ps),sc) by rw[←zu NX,if_neg a1,if_neg a0])
    have b1:(sc==1)=false:=by simpa using a1
    have b0:(sc !=0)=true:=by simpa using a0
    clear NX a1 a0 SK
    have c0:=(zu G6).d.c0
    have c1:=(zu G6).d.c1
    have dl:=(zu G6).d.lt
    go_wp2_with fail
    refine(sCopy _ x (zu G6).d.r).mono ?_
    rintro e u9 ⟨q,hq0,hq,rfl,oq,b9⟩
    have lw:=(zu G6).r.lt.2
    have HQ:=zh (show(q.room,q.ps)=(x.room,x.ps) by rw[hq0,hq])
    have G9:=zh ((zu G6).step b9)
    have OQ:=zh oq
    clear b9 oq hq0 hq c0 c1 dl
    have EN:=zh (ended16 (zu G9).d.b (zu G9).r (zu OQ) (by omega))
    have f0:=(zu G9).r.free 0
    have f1:=(zu G9).r.free 1
    have r0:=(zu G9).r.c0
    have r1:=(zu G9).r.c1
    go_wp2
    refine bodyPost_ret (v:= .tuple #[.agg #[.int .i64 q.room,.slice q.a q.ps.length q.c],.int .i64 sc]) (by simp[results,Tryz.results45,go_sem,r0,r1]) rfl ?_
    rw[zu E]
    exact⟨q,zu HQ,rfl,(zu EN).1,(zu EN).2⟩
   subst a0
   have NE:=zh (show wrF x.room x.ps tx (4-(k+1)) ((k+1:Nat):Int) (z.room,z.ps)=rr by rw[←zu NX,if_neg (by simp),if_pos rfl])
   have okz:=(zu SK) rfl
   try simp only at okz
   have lz:=okz.2.1
   have z2:sumZ z.ps≤1048576:=by have:=okz.2.2.1;have:=okz.1;omega
   clear NX SK a1 okz
   have f0:=(zu K6).free 0
   have f1:=(zu K6).free 1
   have k0:=(zu K6).c0
   have k1:=(zu K6).c1
   have t0:=(zu K6).set0 (.int .i64 z.room)
   have t1:=bc_set1 t0.1 (.slice z.a z.ps.length z.c)
   have ST:=zh (grow_grow t0.2 t1.2)
   have K7:=zh t1.1
   clear t0 t1
   have G7:=zh (g16_kept (zu G6) (zu ST) (by omega) (fun k e=>by have:=(zu XA) k e;omega) (zu HY0))
   have O7:=zh (show OwD _ (w.heap.size+4) z from row_base (row_kept (zu OZ) (zu ST) (by omega)) (by omega))
   go_wp2
   go_roundw
   case rel=>exact⟨k+1,z,by omega,by go_num,z2,NE,G7,K7,zh ((zu O7).rd (by omega)),zh (.inr (zu O7))⟩
   case measure=>simp[intOf];omega
  ·have e:k=4:=by omega
   subst e
   have E:=zh (show rr=((c.room,c.ps),0) from by rw[←zu HE];rfl)
   have OC:=zh (show OwD wr (w.heap.size+4) c from(zu HO).elim (fun h=>absurd h (by decide)) id)
   clear HE HO
   have EN:=zh (ended16 (zu HG).d.b (zu HG).r (zu OC) (by omega))
   have f0:=(zu HG).r.free 0
   have f1:=(zu HG).r.free 1
   have r0:=(zu HG).r.c0
   have r1:=(zu HG).r.c1
   go_wp2
   refine bodyPost_ret (v:= .tuple #[.agg #[.int .i64 c.room,.slice c.a c.ps.length c.c],.int .i64 0]) (by simp[results,Tryz.results45,go_sem,r0,r1]) rfl ?_
   rw[zu E]
   exact⟨c,rfl,rfl,(zu EN).1,(zu EN).2⟩
end SWrite16
end Go.Proofs.YtlbgfdpcgpijhaaGreat
