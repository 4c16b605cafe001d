/- Texts of one proof. -/
import Derived.Test.YtlbgfdpcgpijhaaGreatQB31
import Derived.Test.YtlbgfdpcgpijhaaGreatQB41
open Go.ChangeShapes Go.WideShapes Go.ChangeAt Go.RowKit
set_option linter.unusedVariables false
set_option linter.unusedSimpArgs false
set_option maxRecDepth 100000
set_option maxHeartbeats 32000000
namespace Go.Proofs.YtlbgfdpcgpijhaaGreat
namespace IClear15
open Fil14 OpensF14 DiskH14 DkH14 SDk14 SOk14 SRd14 SCom14 SegP15 SClear15 Pure14 TabF14 PTab14 ITb14 ICp14 IDk14 ICom14
def clrN(ps:List TF)(ks:List Int)(k:Int):List TF:=ps.filter (fun p=> !decide (0≤p.1∧p.1<k)||ks.contains p.1)
theorem clr_zero(ps:List TF)(ks:List Int):clrN ps ks 0=ps:=by
 unfold clrN
 rw[List.filter_eq_self]
 intro p _
 have:decide (0≤p.1∧p.1<0)=false:=decide_eq_false (by omega)
 rw[this]
 rfl
theorem clr_all(ps:List TF)(ks:List Int):clrN ps ks 20=ps.filter (stays ks):=by
 unfold clrN
 congr 1
 funext p
 unfold stays okS
 have:decide (0≤p.1∧p.1<20)=decide (0≤p.1∧p.1≤19):=decide_eq_decide.2 (by omega)
 rw[this]
theorem clr_tl{f:Int→Option TF}{ps:List TF}(ks:List Int){k k':Int}(h:Tl f (clrN ps ks k))(g:Int→Option TF)(hf:∀j q,g j=some q↔q∈clrN ps ks k'∧q.1=j)(ha:Asc ps)(hn:Named ps):Tl g (clrN ps ks k'):=
 ⟨List.Pairwise.filter _ ha,fun p hp=>hn p (List.mem_filter.1 hp).1,hf⟩
theorem clr_next{f:Int→Option TF}{ps:List TF}{ks:List Int}{k:Int}(ha:Asc ps)(hn:Named ps)(hk:0≤k)(h:Tl f (clrN ps ks k))(b:ks.contains k=false):Tl (upd f k none) (clrN ps ks (k+1)):=by
 refine clr_tl ks h _ (fun j q=>?_) ha hn
 unfold upd
 by_cases e:j=k
 ·rw[if_pos e]
  refine⟨fun q=>by simp at q,fun⟨m,e2⟩=>?_⟩
  have m2:=(List.mem_filter.1 m).2
  have e3:q.1=k:=e2.trans e
  simp only[e3,b] at m2
  have:decide (0≤k∧k<k+1)=true:=decide_eq_true (by omega)
  rw[this] at m2
  simp at m2
 ·rw[if_neg e,h.iff]
  unfold clrN
  rw[List.mem_filter,List.mem_filter]
  constructor
  ·rintro⟨⟨m,t⟩,e2⟩
   refine⟨⟨m,?_⟩,e2⟩
   rw[show decide (0≤q.1∧q.1<k+1)=decide (0≤q.1∧q.1<k) from decide_eq_decide.2 (by omega)]
   exact t
  ·rintro⟨⟨m,t⟩,e2⟩
   refine⟨⟨m,?_⟩,e2⟩
   rw[show decide (0≤q.1∧q.1<k)=decide (0≤q.1∧q.1<k+1) from decide_eq_decide.2 (by omega)]
   exact t
theorem clr_keep{f:Int→Option TF}{ps:List TF}{ks:List Int}{k:Int}(ha:Asc ps)(hn:Named ps)(h:Tl f (clrN ps ks k))(b:ks.contains k=true):Tl f (clrN ps ks (k+1)):=by
 have e:clrN ps ks (k+1)=clrN ps ks k:=by
  unfold clrN
  congr 1
  funext p
  by_cases e:p.1=k
  ·rw[e,b]
   simp
  ·rw[show decide (0≤p.1∧p.1<k+1)=decide (0≤p.1∧p.1<k) from decide_eq_decide.2 (by omega)]
 rw[e]
 exact h
theorem iIndexI(w:World)(g n cap:Nat)(xs:List Int)(x:Int)(b:Bool)(hl:xs.length=n)(h20:n≤1048576)(h:Ints.At w g xs)(hb:xs.contains x=b):
  Calls Tryz.prog 281 #[.slice (some ⟨g,0,none⟩) n cap,.int .i64 x] w fun e w'=>∃r:Int,decide (r≥0)=b∧e= .returned (.int .i64 r)∧w'=w:=by
 have IFF:∀k,k<n→xs.getD k 0=x→b=true:=fun k hk e=>by
  rw[←hb,List.contains_iff_mem,←e]
  have:k<xs.length:=by omega
  simp only[List.getD,List.getElem?_eq_getElem this,Option.getD_some]
  exact List.getElem_mem this
 have NO:(∀k,k<n→xs.getD k 0≠x)→b=false:=fun q=>by
  rw[←hb]
  cases e:xs.contains x with
  |false=>rfl
  |true=>
   rw[List.contains_iff_mem] at e
   obtain⟨i,hi,e⟩:=List.getElem_of_mem e
   exact absurd (by simp[List.getD,hi,e]) (q i (by omega))
 have HI:=zh IFF
 have HN:=zh NO
 have HA:=zh h
 clear IFF NO h hb
 go_enter Tryz.func281,Tryz.ntmps281
 go_wp2
 go_loop [8] (fun j=>∃(k:Nat),k≤n∧j= .int .i64 k∧Hid (∀i,i<k→xs.getD i 0≠x)) (fun j=>n-(intOf j).toNat)
 case atStart=>exact⟨0,by omega,rfl,zh (fun i hi=>by omega)⟩
 case round=>
  obtain⟨k,hk,rfl,HG⟩:=hrel
  by_cases t:k<n
  ·have e1:=(zu HA) k (by omega)
   have YES:=zh ((zu HI) k t)
   have GO:=zh (show xs.getD k 0≠x→∀i,i<k+1→xs.getD i 0≠x from fun hn i hi=>by
    by_cases e:i=k
    ·subst e;exact hn
    ·exact(zu HG) i (by omega))
   generalize xs.getD k 0=y at *
   by_cases c1:y=x
   ·obtain rfl:b=true:=(zu YES) c1
    clear YES GO
    subst c1
    go_wp2
    go_ret
    exact⟨k,by first|(exact decide_eq_true (by omega))|(simp;done)|omega,rfl,rfl⟩
   ·have G:=zh ((zu GO) c1)
    have c1b:(x==y)=false:=by simpa using fun e=>c1 e.symm
    clear YES GO
    go_wp2
    go_round
    case rel=>exact⟨k+1,by omega,by go_num,G⟩
    case measure=>simp[intOf];omega
  ·obtain rfl:k=n:=by omega
   obtain rfl:b=false:=(zu HN) (zu HG)
   go_wp2
   go_ret
   exact⟨-1,by decide,rfl,rfl⟩
theorem iContains(w:World)(g n cap:Nat)(xs:List Int)(x:Int)(b:Bool)(hl:xs.length=n)(h20:n≤1048576)(h:Ints.At w g xs)(hb:xs.contains x=b):
  Calls Tryz.prog 264 #[.slice (some ⟨g,0,none⟩) n cap,.int .i64 x] w fun e w'=>e= .returned (.bool b)∧w'=w:=by
 have IX:=zh (fun u=>iIndexI u g n cap xs x b hl h20)
 have HA:=zh h
 have HB:=zh hb
 clear h hb hl
 go_enter Tryz.func264,Tryz.ntmps264
 go_wp2_with fail
 refine(zu IX _ (zu HA) (zu HB)).mono ?_
 rintro e u ⟨r,hr,rfl,rfl⟩
 go_wp2
 go_ret
 exact⟨by rw[←hr];rfl,rfl⟩
end IClear15
namespace IClear16
open Fil14 OpensF14 DiskH14 DkH14 SDk14 SOk14 SRd14 SCom14 SegP15 SClear15 Pure14 TabF14 PTab14 ITb14 ICp14 IDk14 ICom14 IClear15
def KR(B:Nat)(w:World)(a:Option Addr)(ks:List Int):Prop:=ks=[]∨∃g,a=some ⟨g,0,none⟩∧g<B∧Ints.At w g ks
theorem kr_of{w:World}{a:Option Addr}{ks:List Int}(h:VOI.Rd w a ks):KR w.heap.size w a ks:=h
theorem KR.mono{B B':Nat}{w:World}{a:Option Addr}{ks:List Int}(h:KR B w a ks)(k:B≤B'):KR B' w a ks:=by
 rcases h with h|⟨g,e,l,h⟩
 ·exact .inl h
 ·exact .inr ⟨g,e,by omega,h⟩
theorem KR.below{B B':Nat}{w w':World}{a:Option Addr}{ks:List Int}(h:KR B w a ks)(b:Below B' w w')(k:B≤B'):KR B w' a ks:=by
 rcases h with h|⟨g,e,l,h⟩
 ·exact .inl h
 ·exact .inr ⟨g,e,l,fun i hi=>(b.cell (p:=⟨g,i,none⟩) (by show g<B';omega)).trans (h i hi)⟩
theorem KR.kept{B:Nat}{w w':World}{a:Option Addr}{ks:List Int}(h:KR B w a ks)(k:w.grownBy w' (some B))(hB:B≤w.heap.size):KR B w' a ks:=by
 rcases h with h|⟨g,e,l,h⟩
 ·exact .inl h
 ·exact .inr ⟨g,e,l,fun i hi=>(App14.kcell k i (by omega) (by omega)).trans (h i hi)⟩
theorem iIndexN(w:World)(a:Option Addr)(cap:Nat)(x:Int):
  Calls Tryz.prog 281 #[.slice a 0 cap,.int .i64 x] w fun e w'=>e= .returned (.int .i64 (-1))∧w'=w:=by
 go_enter Tryz.func281,Tryz.ntmps281
 go_wp2
 go_loop [8] (fun j=>j= .int .i64 0) (fun _=>0)
 case atStart=>rfl
 case round=>
  subst hrel
  go_wp2
  go_ret
  exact⟨rfl,rfl⟩
theorem iContainsO(w:World)(B:Nat)(a:Option Addr)(n cap:Nat)(xs:List Int)(x:Int)(b:Bool)(hl:xs.length=n)(h20:n≤1048576)(h:KR B w a xs)(hb:xs.contains x=b):
  Calls Tryz.prog 264 #[.slice a n cap,.int .i64 x] w fun e w'=>e= .returned (.bool b)∧w'=w:=by
 rcases h with rfl|⟨g,rfl,_,h⟩
 ·obtain rfl:n=0:=by simpa using hl.symm
  obtain rfl:b=false:=by rw[←hb];rfl
  go_enter Tryz.func264,Tryz.ntmps264
  go_wp2_with fail
  refine(iIndexN _ a cap x).mono ?_
  rintro e u ⟨rfl,rfl⟩
  go_wp2
  go_ret
  exact⟨rfl,rfl⟩
 ·exact iContains w g n cap xs x b hl h20 h hb
theorem iSegsClearO(w:World)(x:Dx)(va:Option Addr)(ck:Nat)(ks:List Int)(hr:RdD w x)(hz:sumZ x.ps≤1048576)(hk20:ks.length≤1048576)(ha:VOI.Rd w va ks):
  Calls Tryz.prog 235 #[.agg #[.int .i64 x.room,.slice x.a x.ps.length x.c],.slice va ks.length ck] w fun e w'=>∃y:Dx,(y.room,y.ps)=clearD x.room x.ps ks∧e= .returned (.agg #[.int .i64 y.room,.slice y.a y.ps.length y.c])∧OwD w' w.heap.size y∧Below w.heap.size w w':=by
 have G0:=zh (begunD hr)
 have s2:((w.alloc (.cells #[.int .i64 x.room,.slice x.a x.ps.length x.c] 38)).alloc (.cells #[.int .i64 0,.slice none 0 0] 38)).heap.size=w.heap.size+2:=by simp
 have OK0:=zh (fun b h=>iOkB _ x b (zu G0).1.r hz h)
 have XA:=zh (fun g e=>(hr.r g e).1)
 have AK0:=zh (kr_of ha)
 have h20:=hr.n
 clear hr ha
 by_cases ok:OkD x.room x.ps
 case neg=>
  have E:=zh (show clearD x.room x.ps ks=(0,[]) by unfold clearD;rw[if_neg (fun h=>ok h.1)])
  generalize clearD x.room x.ps ks=rr at *
  have OKD:=zh (decide_eq_false ok)
  clear ok
  go_enter Tryz.func235,Tryz.ntmps235
  go_wp2_with fail
  refine((zu OK0) false (zu OKD)).mono ?_
  rintro e u ⟨rfl,b1⟩
  have R2:=zh ((zu G0).2.below b1 (by omega))
  have WU:=zh ((zu G0).1.step b1)
  have us:=b1.size
  rw[s2] at us
  clear b1 G0 OK0 s2
  have EN:=zh (endedD (y:=⟨0,none,0,[]⟩) (base0:=w.heap.size+2) (zu WU).b (zu R2) ⟨rfl,.inl ⟨rfl,rfl⟩⟩ (by omega))
  have f0:=(zu R2).free 0
  have f1:=(zu R2).free 1
  have r0:=(zu R2).c0
  have r1:=(zu R2).c1
  go_wp2
  refine bodyPost_ret (v:= .agg #[.int .i64 0,.slice none 0 0]) (by simp[results,Tryz.results235,go_sem,r0,r1]) rfl ?_
  rw[zu E]
  exact⟨⟨0,none,0,[]⟩,rfl,rfl,(zu EN).1,(zu EN).2⟩
 have OKD:=zh (decide_eq_true ok)
 have OK:=zh ok
 by_cases hk:ks.length≤20
 case neg=>
  have E:=zh (show clearD x.room x.ps ks=(0,[]) by unfold clearD;rw[if_neg (fun h=>hk h.2)])
  have kd:(ks.length:Int)>20:=by omega
  generalize clearD x.room x.ps ks=rr at *
  clear ok hk
  go_enter Tryz.func235,Tryz.ntmps235
  go_wp2_with fail
  refine((zu OK0) true (zu OKD)).mono ?_
  rintro e u ⟨rfl,b1⟩
  have R2:=zh ((zu G0).2.below b1 (by omega))
  have WU:=zh ((zu G0).1.step b1)
  have us:=b1.size
  rw[s2] at us
  clear b1 G0 OK0 s2
  have EN:=zh (endedD (y:=⟨0,none,0,[]⟩) (base0:=w.heap.size+2) (zu WU).b (zu R2) ⟨rfl,.inl ⟨rfl,rfl⟩⟩ (by omega))
  have f0:=(zu R2).free 0
  have f1:=(zu R2).free 1
  have r0:=(zu R2).c0
  have r1:=(zu R2).c1
  go_wp2
  refine bodyPost_ret (v:= .agg #[.int .i64 0,.slice none 0 0]) (by simp[results,Tryz.results235,go_sem,r0,r1]) rfl ?_
  rw[zu E]
  exact⟨⟨0,none,0,[]⟩,rfl,rfl,(zu EN).1,(zu EN).2⟩
 have E:=zh (show clearD x.room x.ps ks=(x.room,x.ps.filter (stays ks)) by unfold clearD;rw[if_pos ⟨ok,hk⟩])
 have AN:=zh (asc_of ok)
 have TL0:=zh (show Tl (tabOf x.ps) (clrN x.ps ks 0) by rw[clr_zero];exact tl_ok ok)
 have kd:¬(ks.length:Int)>20:=by omega
 generalize clearD x.room x.ps ks=rr at *
 clear ok hk
 go_enter Tryz.func235,Tryz.ntmps235
 go_wp2_with fail
 refine((zu OK0) true (zu OKD)).mono ?_
 rintro e u ⟨rfl,b1⟩
 have R2:=zh ((zu G0).2.below b1 (by omega))
 have AK1:=zh (show KR w.heap.size u va ks from((zu AK0).below (zu G0).1.b (Nat.le_refl _)).below b1 (by omega))
 have WU:=zh ((zu G0).1.step b1)
 have us:=b1.size
 rw[s2] at us
 clear b1 G0 OK0 s2 AK0
 have c0:=(zu WU).c0
 have c1:=(zu WU).c1
 have lt:=(zu WU).lt
 go_wp2_with fail
 refine(iTable _ x (zu WU).r (wf_names (zu OK))).mono ?_
 rintro e u1 ⟨rfl,tt,b2⟩
 have S1:=zh (show St w u1 x (u.heap.size+1) x.ps.length (tabOf x.ps) from⟨(zu WU).step b2,(zu R2).below b2 (zu R2).lt.2,tt,by omega,zu XA⟩)
 have AK2:=zh (show KR (u.heap.size+1) u1 va ks from(((zu AK1).below b2 (by omega)).mono (by omega)))
 have us1:=b2.size
 clear tt b2 WU R2 c0 c1 lt AK1
 have wB:w.heap.size+2≤u.heap.size+1:=by omega
 generalize u.heap.size+1=B at *
 clear us us1
 go_wp2
 go_loopw [18] (fun i wr=>∃(k:Nat) (f:Int→Option TF),k≤20∧i= .int .i64 k∧Hid (Tl f (clrN x.ps ks k))∧Hid (St w wr x B x.ps.length f)∧Hid (KR B wr va ks)) (fun i _=>20-(intOf i).toNat)
 case atStart=>exact⟨0,tabOf x.ps,by omega,rfl,TL0,S1,AK2⟩
 case round=>
  clear S1 AK2 TL0
  obtain⟨k,f,hk,rfl,HL,HS,HA⟩:=hrel
  by_cases t:k<20
  ·have tb:(k:Int)<20:=by omega
   have gl:B≤wr.heap.size:=by have:=(zu HS).t.lt;omega
   have WF:=zh (wf_low (n:=(k:Int)) ⟨by omega,by omega⟩)
   obtain⟨b,hb⟩:∃b,ks.contains (k:Int)=b:=⟨_,rfl⟩
   have HB:=zh hb
   clear hb
   go_wp2_with fail
   refine(iContainsO wr B va ks.length ck ks k b rfl hk20 (zu HA) (zu HB)).mono ?_
   rintro e wr ⟨rfl,rfl⟩
   cases b with
   |true=>
    have HL9:=zh (clr_keep (zu AN).1 (zu AN).2 (zu HL) (zu HB))
    clear HL HB
    go_wp2
    go_roundw
    case rel=>exact⟨k+1,f,by omega,by go_num,HL9,HS,HA⟩
    case measure=>simp[intOf];omega
   |false=>
    have HL9:=zh (clr_next (zu AN).1 (zu AN).2 (by omega) (zu HL) (zu HB))
    clear HL HB
    go_wp2_with (first|(at_delete;refine wp_del _ rfl _ _ rfl B _ _ rfl (zu HS).t (k:Int) rfl (zu WF) ?_;intro u3 t3 g3;have S3:=zh ((zu HS).turn t3 g3);have A3:=zh ((zu HA).kept g3 gl);clear t3 g3 HS HA)|fail)
    go_roundw
    case rel=>exact⟨k+1,_,by omega,by go_num,HL9,S3,A3⟩
    case measure=>simp[intOf];omega
  ·have e:k=20:=by omega
   subst e
   have ROW:=zh (show rowF f=x.ps.filter (stays ks) by rw[tl_row (zu HL)];exact clr_all _ _)
   have c0:=(zu HS).d.c0
   have c1:=(zu HS).d.c1
   have lt:=(zu HS).d.lt
   clear HL t
   go_wp2_with fail
   refine(iDisk _ B _ _ x.room (zu HS).t).mono ?_
   rintro e u9 ⟨y,hy0,hy,rfl,oy,b9⟩
   have R9:=zh ((zu HS).r.below b9 (zu HS).r.lt.2)
   have HY:=zh (show(y.room,y.ps)=(x.room,x.ps.filter (stays ks)) by rw[hy0,hy,zu ROW])
   have sz9:=(zu HS).r.lt.2
   have EN:=zh (endedD ((zu HS).d.b.trans (b9.mono (zu HS).d.b.size)) (zu R9) oy (by omega))
   have f0:=(zu R9).free 0
   have f1:=(zu R9).free 1
   have r0:=(zu R9).c0
   have r1:=(zu R9).c1
   clear b9 oy hy0 hy c0 c1 lt
   go_wp2
   refine bodyPost_ret (v:= .agg #[.int .i64 y.room,.slice y.a y.ps.length y.c]) (by simp[results,Tryz.results235,go_sem,r0,r1]) rfl ?_
   rw[zu E]
   exact⟨y,zu HY,rfl,(zu EN).1,(zu EN).2⟩
end IClear16
end Go.Proofs.YtlbgfdpcgpijhaaGreat
