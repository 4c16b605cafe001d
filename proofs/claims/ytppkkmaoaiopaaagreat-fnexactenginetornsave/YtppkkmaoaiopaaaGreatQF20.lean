/- Lemmas. -/
import Derived.Test.YtppkkmaoaiopaaaGreatQF5
import Derived.Test.YtppkkmaoaiopaaaGreatQF19
open Go.ChangeShapes Go.WideShapes Go.ChangeAt Go.RowKit
set_option linter.unusedVariables false
set_option linter.unusedSimpArgs false
set_option maxRecDepth 100000
set_option maxHeartbeats 32000000
namespace Go.Proofs.YtppkkmaoaiopaaaGreat
namespace SegP15
open Fil14 DiskH14 SDk14 SOk14 SRd14 Conv15
def okS(n:Int):Bool:=decide (0≤n∧n≤19)
end SegP15
namespace SSg16
open Fil14 OpensF14 DiskH14 DkH14 SDk14 SOk14 SRd14 SegP15
theorem sSegOk(w:World)(n:Int)(b:Bool)(h:okS n=b):Calls Tryz.prog 38 #[.int .i64 n] w fun e w'=>e= .returned (.bool b)∧w'=w:=by
 have S:=zh (fun u=>sInB u n 0 19 (okS n) rfl)
 rw[h] at S
 go_enter Tryz.func38,Tryz.ntmps38
 go_wp2_with fail
 refine(zu S _).mono ?_
 rintro e u ⟨rfl,rfl⟩
 go_wp2
 go_ret
 exact⟨rfl,rfl⟩
end SSg16
namespace SClear15
open Fil14 OpensF14 DiskH14 DkH14 SDk14 SOk14 SRd14 App14 SLess14 SCom14 SPut14 SegP15 SSg16
open DkH14 (row_step)
def stays(ks:List Int)(p:TF):Bool:= !okS p.1||ks.contains p.1
def clearD(room:Int)(ps:List TF)(ks:List Int):Int×List TF:=if OkD room ps∧ks.length≤20 then(room,ps.filter (stays ks)) else(0,[])
theorem sHas(w:World)(g n cap:Nat)(xs:List Int)(x:Int)(b:Bool)(hl:xs.length=n)(h20:n≤1048576)(h:Ints.At w g xs)(hb:xs.contains x=b):
  Calls Tryz.prog 101 #[.slice (some ⟨g,0,none⟩) n cap,.int .i64 x] w fun e w'=>e= .returned (.bool b)∧w'=w:=by
 have IFF:∀k,k<n→xs.getD k 0=x→b=true:=fun k hk e=>by
  rw[←hb,List.contains_iff_mem,←e]
  have:k<xs.length:=by omega
  simp only[List.getD,List.getElem?_eq_getElem this,Option.getD_some]
  exact List.getElem_mem this
 have NO:(∀k,k<n→xs.getD k 0≠x)→b=false:=fun q=>by
  rw[←hb]
  cases e:xs.contains x with
  |false=>rfl
  |true=>
   rw[List.contains_iff_mem] at e
   obtain⟨i,hi,e⟩:=List.getElem_of_mem e
   exact absurd (by simp[List.getD,hi,e]) (q i (by omega))
 have HI:=zh IFF
 have HN:=zh NO
 have HA:=zh h
 clear IFF NO h hb
 go_enter Tryz.func101,Tryz.ntmps101
 go_wp2
 go_loop [5] (fun j=>∃(k:Nat),k≤n∧j= .int .i64 k∧Hid (∀i,i<k→xs.getD i 0≠x)) (fun j=>n-(intOf j).toNat)
 case atStart=>exact⟨0,by omega,rfl,zh (fun i hi=>by omega)⟩
 case round=>
  obtain⟨k,hk,rfl,HG⟩:=hrel
  by_cases t:k<n
  ·have e1:=(zu HA) k (by omega)
   have YES:=zh ((zu HI) k t)
   have GO:=zh (show xs.getD k 0≠x→∀i,i<k+1→xs.getD i 0≠x from fun hn i hi=>by
    by_cases e:i=k
    ·subst e;exact hn
    ·exact(zu HG) i (by omega))
   generalize xs.getD k 0=y at *
   by_cases c1:y=x
   ·obtain rfl:b=true:=(zu YES) c1
    clear YES GO
    subst c1
    go_wp2
    go_ret
    exact⟨rfl,rfl⟩
   ·have G:=zh ((zu GO) c1)
    have c1b:(y==x)=false:=by simpa using c1
    clear YES GO
    go_wp2
    go_round
    case rel=>exact⟨k+1,by omega,by go_num,G⟩
    case measure=>simp[intOf];omega
  ·obtain rfl:k=n:=by omega
   obtain rfl:b=false:=(zu HN) (zu HG)
   go_wp2
   go_ret
   exact⟨rfl,rfl⟩
end SClear15
namespace SClear16
open Fil14 OpensF14 DiskH14 DkH14 SDk14 SOk14 SRd14 App14 SLess14 SCom14 SPut14 SegP15 SSg16
open SClear15 (stays clearD sHas)
open DkH14 (row_step)
theorem sHasO(w:World)(a:Option Addr)(n cap:Nat)(xs:List Int)(x:Int)(b:Bool)(hl:xs.length=n)(h20:n≤1048576)(h:VOI.Rd w a xs)(hb:xs.contains x=b):
  Calls Tryz.prog 101 #[.slice a n cap,.int .i64 x] w fun e w'=>e= .returned (.bool b)∧w'=w:=by
 rcases h with rfl|⟨g,rfl,_,h⟩
 ·obtain rfl:n=0:=by simpa using hl.symm
  obtain rfl:b=false:=by rw[←hb];rfl
  go_enter Tryz.func101,Tryz.ntmps101
  go_wp2
  go_loop [5] (fun j=>j= .int .i64 0) (fun _=>0)
  case atStart=>rfl
  case round=>
   subst hrel
   go_wp2
   go_ret
   exact⟨rfl,rfl⟩
 ·exact sHas w g n cap xs x b hl h20 h hb
theorem sSegsClearO(w:World)(x:Dx)(va:Option Addr)(ck:Nat)(ks:List Int)(hr:RdD w x)(hz:sumZ x.ps≤1048576)(hk20:ks.length≤1048576)(ha:VOI.Rd w va ks):
  Calls Tryz.prog 47 #[.agg #[.int .i64 x.room,.slice x.a x.ps.length x.c],.slice va ks.length ck] w fun e w'=>∃y:Dx,(y.room,y.ps)=clearD x.room x.ps ks∧e= .returned (.agg #[.int .i64 y.room,.slice y.a y.ps.length y.c])∧OwD w' w.heap.size y∧Below w.heap.size w w':=by
 have G0:=zh (begunD hr)
 have s2:((w.alloc (.cells #[.int .i64 x.room,.slice x.a x.ps.length x.c] 37)).alloc (.cells #[.int .i64 0,.slice none 0 0] 37)).heap.size=w.heap.size+2:=by simp
 have OK0:=zh (sDiskOk _ x (zu G0).1.r hz)
 have RE:=zh (show clearD x.room x.ps ks=if OkD x.room x.ps∧ks.length≤20 then(x.room,x.ps.filter (stays ks)) else(0,[]) from rfl)
 have G1:=zh (fun g e=>(hr.r g e).1)
 have HK:=zh (fun w' (b:Below w.heap.size w w')=>ha.below b)
 have h20:=hr.n
 generalize clearD x.room x.ps ks=rr at *
 clear hr ha
 by_cases ok:OkD x.room x.ps∧ks.length≤20
 case neg=>
  obtain rfl:rr=(0,[]):=by rw[zu RE,if_neg ok]
  clear RE
  obtain⟨b,hb⟩:∃b,decide (OkD x.room x.ps)=b:=⟨_,rfl⟩
  have KL:=zh (show b=true→20<ks.length from fun e=>by
   rw[←hb] at e
   have:=of_decide_eq_true e
   exact Nat.lt_of_not_le (fun q=>ok ⟨this,q⟩))
  rw[hb] at OK0
  clear hb ok
  go_enter Tryz.func47,Tryz.ntmps47
  go_wp2_with fail
  refine(zu OK0).mono ?_
  rintro e u ⟨rfl,b1⟩
  have R2:=zh ((zu G0).2.below b1 (by omega))
  have EN:=zh (endedD (y:=⟨0,none,0,[]⟩) (base0:=w.heap.size+2) (((zu G0).1.step b1).b) (zu R2) ⟨rfl,.inl ⟨rfl,rfl⟩⟩ (by omega))
  have f0:=(zu R2).free 0
  have f1:=(zu R2).free 1
  have r0:=(zu R2).c0
  have r1:=(zu R2).c1
  clear b1 OK0 G0
  cases b with
  |false=>
   go_wp2
   refine bodyPost_ret (v:= .agg #[.int .i64 0,.slice none 0 0]) (by simp[results,Tryz.results47,go_sem,r0,r1]) rfl ⟨⟨0,none,0,[]⟩,rfl,rfl,(zu EN).1,(zu EN).2⟩
  |true=>
   have kb:(ks.length:Int)>20:=by have:=(zu KL) rfl;omega
   go_wp2
   refine bodyPost_ret (v:= .agg #[.int .i64 0,.slice none 0 0]) (by simp[results,Tryz.results47,go_sem,r0,r1]) rfl ⟨⟨0,none,0,[]⟩,rfl,rfl,(zu EN).1,(zu EN).2⟩
 obtain rfl:rr=(x.room,x.ps.filter (stays ks)):=by rw[zu RE,if_pos ok]
 have h22:=ok.1.2.1
 have kd:decide ((ks.length:Int)>20)=false:=decide_eq_false (by have:=ok.2;omega)
 rw[decide_eq_true ok.1] at OK0
 clear RE ok
 go_enter Tryz.func47,Tryz.ntmps47
 go_wp2_with fail
 refine(zu OK0).mono ?_
 rintro e u ⟨rfl,b1⟩
 have W1:=zh ((zu G0).1.step b1)
 have R1:=zh ((zu G0).2.below b1 (by omega))
 have us:=b1.size
 rw[s2] at us
 clear b1 G0 OK0 s2
 have W3:=zh ((zu W1).step (one_more u (.cells #[.int .i64 x.room,.slice none 0 0] 37)))
 have R3:=zh ((zu R1).below (one_more u (.cells #[.int .i64 x.room,.slice none 0 0] 37)) (zu R1).lt.2)
 have P0:=zh (show Pt w.heap.size u.heap.size (u.alloc (.cells #[.int .i64 x.room,.slice none 0 0] 37)) (u.alloc (.cells #[.int .i64 x.room,.slice none 0 0] 37)) x.room ((x.ps.take 0).filter (stays ks)) none 0 0 from⟨World.grownBy.refl _ _,Bc.made _ _ (by omega) rfl,⟨rfl,.inl ⟨rfl,rfl⟩⟩⟩)
 have s3:(u.alloc (.cells #[.int .i64 x.room,.slice none 0 0] 37)).heap.size=u.heap.size+1:=by simp
 have c0:=(zu W1).c0
 have c1:=(zu W1).c1
 have lt:=(zu W1).lt
 clear W1 R1
 go_wp2
 generalize u.alloc (.cells #[.int .i64 x.room,.slice none 0 0] 37)=W at *
 clear c0 c1 lt
 have hO:u.heap.size<W.heap.size:=by omega
 go_loopw [6] (fun i wr=>∃(k m c:Nat) (a:Option Addr),i= .int .i64 k∧k≤x.ps.length∧m≤k∧Hid (Pt w.heap.size u.heap.size W wr x.room ((x.ps.take k).filter (stays ks)) a m c)) (fun i _=>x.ps.length-(intOf i).toNat)
 case atStart=>exact⟨0,0,0,none,rfl,by omega,by omega,P0⟩
 case round=>
  clear P0
  obtain⟨k,m,c,a,rfl,hk,hm,PT⟩:=hrel
  have gs:=(zu PT).gr.size
  have c1:=(kcell (zu PT).gr 1 (show w.heap.size<W.heap.size from by omega) (by omega)).trans (zu W3).c1
  by_cases t:k<x.ps.length
  ·have kt:(k:Int)<x.ps.length:=by omega
   have TK0:=zh (show(x.ps.take (k+1)).filter (stays ks)=(x.ps.take k).filter (stays ks)++if stays ks (elF x.ps k) then[elF x.ps k] else[] from by
    rw[List.take_succ_eq_append_getElem t,List.filter_append,elF_get t]
    simp[List.filter_cons])
   obtain⟨g,ea,lg,e0,e1,e2⟩:=cells_of (zu W3).r t
   have lg0:=(zu G1) g ea
   have gn:g≠u.heap.size:=by omega
   have d0:=(kcell (zu PT).gr (k*3) lg gn).trans e0
   have d1:=(kcell (zu PT).gr (k*3+1) lg gn).trans e1
   have d2:=(kcell (zu PT).gr (k*3+2) lg gn).trans e2
   have BW:=zh (show Below w.heap.size w wr from grow_low (zu W3).b (zu PT).gr ⟨by omega,by omega⟩)
   rw[ea] at c1
   have AK:=zh ((zu HK) wr (zu BW))
   clear ea BW
   generalize hp:elF x.ps k=p at *
   obtain⟨z0,z1,z2⟩:=p
   have ST:=zh (show stays ks (z0,z1,z2)=(!okS z0||ks.contains z0) from rfl)
   generalize (x.ps.take k).filter (stays ks)=L at *
   simp only at d0 d1 d2
   clear e0 e1 e2 hp
   obtain⟨sb,hsb⟩:∃sb,okS z0=sb:=⟨_,rfl⟩
   obtain⟨kb,hkb⟩:∃kb,ks.contains z0=kb:=⟨_,rfl⟩
   have SS:=zh hsb
   have KK:=zh hkb
   rw[hsb,hkb] at ST
   clear hsb hkb
   cases sb with
   |false=>
    have TK:=zh (show(x.ps.take (k+1)).filter (stays ks)=L++[(z0,z1,z2)] by rw[zu TK0,zu ST];simp)
    clear TK0 ST KK AK
    go_wp2_with fail
    refine(sSegOk _ z0 false (zu SS)).mono ?_
    rintro e wr ⟨rfl,rfl⟩
    have K0:wr.cell? ⟨w.heap.size,1,none⟩=some (.slice (some ⟨g,0,none⟩) x.ps.length x.c)∧wr.cell? ⟨g,k*3,none⟩=some (.int .i64 z0)∧wr.cell? ⟨g,k*3+1,none⟩=some (.string z1)∧wr.cell? ⟨g,k*3+2,none⟩=some (.string z2):=⟨c1,d0,d1,d2⟩
    have KB:(wr.drew.alloc (.cells #[.int .i64 z0,.string z1,.string z2] 81)).cell? ⟨w.heap.size,1,none⟩=some (.slice (some ⟨g,0,none⟩) x.ps.length x.c)∧(wr.drew.alloc (.cells #[.int .i64 z0,.string z1,.string z2] 81)).cell? ⟨g,k*3,none⟩=some (.int .i64 z0)∧(wr.drew.alloc (.cells #[.int .i64 z0,.string z1,.string z2] 81)).cell? ⟨g,k*3+1,none⟩=some (.string z1)∧(wr.drew.alloc (.cells #[.int .i64 z0,.string z1,.string z2] 81)).cell? ⟨g,k*3+2,none⟩=some (.string z2):=⟨((one_more wr.drew (.cells #[.int .i64 z0,.string z1,.string z2] 81)).cell (p:=⟨w.heap.size,1,none⟩) (show w.heap.size<wr.heap.size from by omega)).trans c1,((one_more wr.drew (.cells #[.int .i64 z0,.string z1,.string z2] 81)).cell (p:=⟨g,k*3,none⟩) (show g<wr.heap.size from by omega)).trans d0,((one_more wr.drew (.cells #[.int .i64 z0,.string z1,.string z2] 81)).cell (p:=⟨g,k*3+1,none⟩) (show g<wr.heap.size from by omega)).trans d1,((one_more wr.drew (.cells #[.int .i64 z0,.string z1,.string z2] 81)).cell (p:=⟨g,k*3+2,none⟩) (show g<wr.heap.size from by omega)).trans d2⟩
    have bc:=(zu PT).bx.c1
    have bcD:wr.drew.cell? ⟨u.heap.size,1,none⟩=some (.slice a m c):=bc
    have bcA:(wr.alloc (.cells #[.int .i64 z0,.string z1,.string z2] 81)).cell? ⟨u.heap.size,1,none⟩=some (.slice a m c):=((one_more wr.drew (.cells #[.int .i64 z0,.string z1,.string z2] 81)).cell (p:=⟨u.heap.size,1,none⟩) (show u.heap.size<wr.heap.size from by omega)).trans bc
    go_wp2_with fail
    refine wp_region_held_drew (S:=(fun w'=>w'.cell? ⟨w.heap.size,1,none⟩=some (.slice (some ⟨g,0,none⟩) x.ps.length x.c)∧w'.cell? ⟨g,k*3,none⟩=some (.int .i64 z0)∧w'.cell? ⟨g,k*3+1,none⟩=some (.string z1)∧w'.cell? ⟨g,k*3+2,none⟩=some (.string z2))) (by kernel_rfl) K0 (fun hHeld=>?_)
    refine zT 0 44 (.pointer (some ⟨u.heap.size,1,none⟩)) rfl hHeld ?_
    refine zT 2 46 (.pointer (some ⟨w.heap.size,1,none⟩)) rfl hHeld ?_
    refine zT 3 47 (.slice (some ⟨g,0,none⟩) x.ps.length x.c) rfl hHeld ?_
    refine zT 4 48 (.int .i64 k) rfl hHeld ?_
    refine zT 5 49 (.pointer (some ⟨g,k*3,none⟩)) rfl hHeld ?_
    refine zT 6 50 (.agg #[.int .i64 z0,.string z1,.string z2]) rfl hHeld ?_
    try simp only[Act.put,zA,zB,zC]
    refine wpAnyH_ready (rs:=[1,7]) (by kernel_rfl) (by simp) ?_
    refine AllReadyH.cons rfl (fun K hK=>?_) (AllReadyH.cons rfl (fun K hK=>?_) AllReadyH.nil)
    ·go_simp
     refine hK.out _ _ K0 (fun hHeld=>?_)
     clear hK K
     try simp only[Act.put,zA,zB,zC]
     refine zR 7 rfl (fun K hK=>?_)
     go_simp
     refine hK.out _ _ KB (fun hHeld=>?_)
     clear hK K
     try simp only[Act.put,zA,zB,zC]
     refine zR 8 rfl (fun K hK=>?_)
     refine step_app (wr.drew.alloc (.cells #[.int .i64 z0,.string z1,.string z2] 81)) (by rfl) _ _ 35 81 (by rfl) (.agg #[.int .i64 0,.string ByteArray.empty,.string ByteArray.empty]) 3 40 Tryz.underlying35 HelpF14.info2 rfl (by decide) (by decide) W.heap.size (.slice a m c) m (flatF L) wr.drew.heap.size [.int .i64 z0,.string z1,.string z2] (by rfl) (by rfl) (row_step (W:=wr.drew) (zu PT).ow (one_more wr.drew (.cells #[.int .i64 z0,.string z1,.string z2] 81))) rfl (litm wr.drew _ _ _ (by rfl)) (by simp[Value.oneCell']) (by omega) (Nat.le_trans (show W.heap.size≤wr.drew.heap.size from gs) (by simp)) ?_
     intro g9 c9 u9 o9 gr9
     have PA:=(zu PT).drew.app (p:=(z0,z1,z2)) hO (one_more wr.drew (.cells #[.int .i64 z0,.string z1,.string z2] 81)) gr9 o9
     have BL:∀j,(Value.slice a m c).ownBlock=some j→W.heap.size≤j:=fun j hj=>(World.ownsRow.lt (zu PT).ow j hj).1
     have BX9:=zh PA.1
     have P9:=zh PA.2
     have fr9:u9.frozen? ⟨u.heap.size,1,none⟩=false:=(zu BX9).free 1
     have bc9:=(zu BX9).c1
     have gs9:=gr9.size
     simp at gs9
     have KC:u9.cell? ⟨w.heap.size,1,none⟩=some (.slice (some ⟨g,0,none⟩) x.ps.length x.c)∧u9.cell? ⟨g,k*3,none⟩=some (.int .i64 z0)∧u9.cell? ⟨g,k*3+1,none⟩=some (.string z1)∧u9.cell? ⟨g,k*3+2,none⟩=some (.string z2):=⟨gr9.cell KB.1 (fun e=>by have:=BL _ e.symm;simp only at this;omega),gr9.cell KB.2.1 (fun e=>by have:=BL _ e.symm;simp only at this;omega),gr9.cell KB.2.2.1 (fun e=>by have:=BL _ e.symm;simp only at this;omega),gr9.cell KB.2.2.2 (fun e=>by have:=BL _ e.symm;simp only at this;omega)⟩
     have SB:=bc_set1 (zu BX9) (.slice (some ⟨g9,0,none⟩) (m+1) c9)
     have KD:(u9.setCell ⟨u.heap.size,1,none⟩ (.slice (some ⟨g9,0,none⟩) (m+1) c9)).cell? ⟨w.heap.size,1,none⟩=some (.slice (some ⟨g,0,none⟩) x.ps.length x.c)∧(u9.setCell ⟨u.heap.size,1,none⟩ (.slice (some ⟨g9,0,none⟩) (m+1) c9)).cell? ⟨g,k*3,none⟩=some (.int .i64 z0)∧(u9.setCell ⟨u.heap.size,1,none⟩ (.slice (some ⟨g9,0,none⟩) (m+1) c9)).cell? ⟨g,k*3+1,none⟩=some (.string z1)∧(u9.setCell ⟨u.heap.size,1,none⟩ (.slice (some ⟨g9,0,none⟩) (m+1) c9)).cell? ⟨g,k*3+2,none⟩=some (.string z2):=⟨(kcell SB.2 (1) (show w.heap.size<u9.heap.size from by omega) (show w.heap.size≠u.heap.size from by omega)).trans KC.1,(kcell SB.2 (k*3) (show g<u9.heap.size from by omega) gn).trans KC.2.1,(kcell SB.2 (k*3+1) (show g<u9.heap.size from by omega) gn).trans KC.2.2.1,(kcell SB.2 (k*3+2) (show g<u9.heap.size from by omega) gn).trans KC.2.2.2⟩
     clear o9 SB PA
     refine hK.out _ _ KC (fun hHeld=>?_)
     clear hK K
     refine zT 9 53 (.pointer (some ⟨u.heap.size,1,none⟩)) rfl hHeld ?_
     try simp only[Act.put,zA,zB,zC]
     refine zR 10 rfl (fun K hK=>?_)
     go_simp
     refine hK.out _ _ KD (fun hHeld=>?_)
     clear hK K
     try simp only[Act.put,zA,zB,zC]
     refine wpAnyH_done (by kernel_rfl) ?_ _
     clear K0 KB KC KD gr9 bc bcD bcA bc9 fr9
     go_wp2
     go_roundw
     case rel=>exact⟨k+1,m+1,c9,some ⟨g9,0,none⟩,by go_num,by omega,by omega,by rw[zu TK];exact P9⟩
     case measure=>simp[intOf];omega
    ·go_simp
     refine hK.out _ _ KB (fun hHeld=>?_)
     clear hK K
     try simp only[Act.put,zA,zB,zC]
     refine zR 1 rfl (fun K hK=>?_)
     go_simp
     refine hK.out _ _ KB (fun hHeld=>?_)
     clear hK K
     try simp only[Act.put,zA,zB,zC]
     refine zR 8 rfl (fun K hK=>?_)
     refine step_app (wr.drew.alloc (.cells #[.int .i64 z0,.string z1,.string z2] 81)) (by rfl) _ _ 35 81 (by rfl) (.agg #[.int .i64 0,.string ByteArray.empty,.string ByteArray.empty]) 3 40 Tryz.underlying35 HelpF14.info2 rfl (by decide) (by decide) W.heap.size (.slice a m c) m (flatF L) wr.drew.heap.size [.int .i64 z0,.string z1,.string z2] (by rfl) (by rfl) (row_step (W:=wr.drew) (zu PT).ow (one_more wr.drew (.cells #[.int .i64 z0,.string z1,.string z2] 81))) rfl (litm wr.drew _ _ _ (by rfl)) (by simp[Value.oneCell']) (by omega) (Nat.le_trans (show W.heap.size≤wr.drew.heap.size from gs) (by simp)) ?_
     intro g9 c9 u9 o9 gr9
     have PA:=(zu PT).drew.app (p:=(z0,z1,z2)) hO (one_more wr.drew (.cells #[.int .i64 z0,.string z1,.string z2] 81)) gr9 o9
     have BL:∀j,(Value.slice a m c).ownBlock=some j→W.heap.size≤j:=fun j hj=>(World.ownsRow.lt (zu PT).ow j hj).1
     have BX9:=zh PA.1
     have P9:=zh PA.2
     have fr9:u9.frozen? ⟨u.heap.size,1,none⟩=false:=(zu BX9).free 1
     have bc9:=(zu BX9).c1
     have gs9:=gr9.size
     simp at gs9
     have KC:u9.cell? ⟨w.heap.size,1,none⟩=some (.slice (some ⟨g,0,none⟩) x.ps.length x.c)∧u9.cell? ⟨g,k*3,none⟩=some (.int .i64 z0)∧u9.cell? ⟨g,k*3+1,none⟩=some (.string z1)∧u9.cell? ⟨g,k*3+2,none⟩=some (.string z2):=⟨gr9.cell KB.1 (fun e=>by have:=BL _ e.symm;simp only at this;omega),gr9.cell KB.2.1 (fun e=>by have:=BL _ e.symm;simp only at this;omega),gr9.cell KB.2.2.1 (fun e=>by have:=BL _ e.symm;simp only at this;omega),gr9.cell KB.2.2.2 (fun e=>by have:=BL _ e.symm;simp only at this;omega)⟩
     have SB:=bc_set1 (zu BX9) (.slice (some ⟨g9,0,none⟩) (m+1) c9)
     have KD:(u9.setCell ⟨u.heap.size,1,none⟩ (.slice (some ⟨g9,0,none⟩) (m+1) c9)).cell? ⟨w.heap.size,1,none⟩=some (.slice (some ⟨g,0,none⟩) x.ps.length x.c)∧(u9.setCell ⟨u.heap.size,1,none⟩ (.slice (some ⟨g9,0,none⟩) (m+1) c9)).cell? ⟨g,k*3,none⟩=some (.int .i64 z0)∧(u9.setCell ⟨u.heap.size,1,none⟩ (.slice (some ⟨g9,0,none⟩) (m+1) c9)).cell? ⟨g,k*3+1,none⟩=some (.string z1)∧(u9.setCell ⟨u.heap.size,1,none⟩ (.slice (some ⟨g9,0,none⟩) (m+1) c9)).cell? ⟨g,k*3+2,none⟩=some (.string z2):=⟨(kcell SB.2 (1) (show w.heap.size<u9.heap.size from by omega) (show w.heap.size≠u.heap.size from by omega)).trans KC.1,(kcell SB.2 (k*3) (show g<u9.heap.size from by omega) gn).trans KC.2.1,(kcell SB.2 (k*3+1) (show g<u9.heap.size from by omega) gn).trans KC.2.2.1,(kcell SB.2 (k*3+2) (show g<u9.heap.size from by omega) gn).trans KC.2.2.2⟩
     clear o9 SB PA
     refine hK.out _ _ KC (fun hHeld=>?_)
     clear hK K
     refine zT 9 53 (.pointer (some ⟨u.heap.size,1,none⟩)) rfl hHeld ?_
     try simp only[Act.put,zA,zB,zC]
     refine zR 10 rfl (fun K hK=>?_)
     go_simp
     refine hK.out _ _ KD (fun hHeld=>?_)
     clear hK K
     try simp only[Act.put,zA,zB,zC]
     refine wpAnyH_done (by kernel_rfl) ?_ _
     clear K0 KB KC KD gr9 bc bcD bcA bc9 fr9
     go_wp2
     go_roundw
     case rel=>exact⟨k+1,m+1,c9,some ⟨g9,0,none⟩,by go_num,by omega,by omega,by rw[zu TK];exact P9⟩
     case measure=>simp[intOf];omega
   |true=>
    cases kb with
    |true=>
     have TK:=zh (show(x.ps.take (k+1)).filter (stays ks)=L++[(z0,z1,z2)] by rw[zu TK0,zu ST];simp)
     clear TK0 ST
     go_wp2_with fail
     refine(sSegOk _ z0 true (zu SS)).mono ?_
     rintro e wr ⟨rfl,rfl⟩
     go_wp2_with fail
     refine(sHasO _ va ks.length ck ks z0 true rfl hk20 (zu AK) (zu KK)).mono ?_
     rintro e wr ⟨rfl,rfl⟩
     clear AK
     have K0:wr.cell? ⟨w.heap.size,1,none⟩=some (.slice (some ⟨g,0,none⟩) x.ps.length x.c)∧wr.cell? ⟨g,k*3,none⟩=some (.int .i64 z0)∧wr.cell? ⟨g,k*3+1,none⟩=some (.string z1)∧wr.cell? ⟨g,k*3+2,none⟩=some (.string z2):=⟨c1,d0,d1,d2⟩
     have KB:(wr.drew.alloc (.cells #[.int .i64 z0,.string z1,.string z2] 81)).cell? ⟨w.heap.size,1,none⟩=some (.slice (some ⟨g,0,none⟩) x.ps.length x.c)∧(wr.drew.alloc (.cells #[.int .i64 z0,.string z1,.string z2] 81)).cell? ⟨g,k*3,none⟩=some (.int .i64 z0)∧(wr.drew.alloc (.cells #[.int .i64 z0,.string z1,.string z2] 81)).cell? ⟨g,k*3+1,none⟩=some (.string z1)∧(wr.drew.alloc (.cells #[.int .i64 z0,.string z1,.string z2] 81)).cell? ⟨g,k*3+2,none⟩=some (.string z2):=⟨((one_more wr.drew (.cells #[.int .i64 z0,.string z1,.string z2] 81)).cell (p:=⟨w.heap.size,1,none⟩) (show w.heap.size<wr.heap.size from by omega)).trans c1,((one_more wr.drew (.cells #[.int .i64 z0,.string z1,.string z2] 81)).cell (p:=⟨g,k*3,none⟩) (show g<wr.heap.size from by omega)).trans d0,((one_more wr.drew (.cells #[.int .i64 z0,.string z1,.string z2] 81)).cell (p:=⟨g,k*3+1,none⟩) (show g<wr.heap.size from by omega)).trans d1,((one_more wr.drew (.cells #[.int .i64 z0,.string z1,.string z2] 81)).cell (p:=⟨g,k*3+2,none⟩) (show g<wr.heap.size from by omega)).trans d2⟩
     have bc:=(zu PT).bx.c1
     have bcD:wr.drew.cell? ⟨u.heap.size,1,none⟩=some (.slice a m c):=bc
     have bcA:(wr.alloc (.cells #[.int .i64 z0,.string z1,.string z2] 81)).cell? ⟨u.heap.size,1,none⟩=some (.slice a m c):=((one_more wr.drew (.cells #[.int .i64 z0,.string z1,.string z2] 81)).cell (p:=⟨u.heap.size,1,none⟩) (show u.heap.size<wr.heap.size from by omega)).trans bc
     go_wp2_with fail
     refine wp_region_held_drew (S:=(fun w'=>w'.cell? ⟨w.heap.size,1,none⟩=some (.slice (some ⟨g,0,none⟩) x.ps.length x.c)∧w'.cell? ⟨g,k*3,none⟩=some (.int .i64 z0)∧w'.cell? ⟨g,k*3+1,none⟩=some (.string z1)∧w'.cell? ⟨g,k*3+2,none⟩=some (.string z2))) (by kernel_rfl) K0 (fun hHeld=>?_)
     refine zT 0 44 (.pointer (some ⟨u.heap.size,1,none⟩)) rfl hHeld ?_
     refine zT 2 46 (.pointer (some ⟨w.heap.size,1,none⟩)) rfl hHeld ?_
     refine zT 3 47 (.slice (some ⟨g,0,none⟩) x.ps.length x.c) rfl hHeld ?_
     refine zT 4 48 (.int .i64 k) rfl hHeld ?_
     refine zT 5 49 (.pointer (some ⟨g,k*3,none⟩)) rfl hHeld ?_
     refine zT 6 50 (.agg #[.int .i64 z0,.string z1,.string z2]) rfl hHeld ?_
     try simp only[Act.put,zA,zB,zC]
     refine wpAnyH_ready (rs:=[1,7]) (by kernel_rfl) (by simp) ?_
     refine AllReadyH.cons rfl (fun K hK=>?_) (AllReadyH.cons rfl (fun K hK=>?_) AllReadyH.nil)
     ·go_simp
      refine hK.out _ _ K0 (fun hHeld=>?_)
      clear hK K
      try simp only[Act.put,zA,zB,zC]
      refine zR 7 rfl (fun K hK=>?_)
      go_simp
      refine hK.out _ _ KB (fun hHeld=>?_)
      clear hK K
      try simp only[Act.put,zA,zB,zC]
      refine zR 8 rfl (fun K hK=>?_)
      refine step_app (wr.drew.alloc (.cells #[.int .i64 z0,.string z1,.string z2] 81)) (by rfl) _ _ 35 81 (by rfl) (.agg #[.int .i64 0,.string ByteArray.empty,.string ByteArray.empty]) 3 40 Tryz.underlying35 HelpF14.info2 rfl (by decide) (by decide) W.heap.size (.slice a m c) m (flatF L) wr.drew.heap.size [.int .i64 z0,.string z1,.string z2] (by rfl) (by rfl) (row_step (W:=wr.drew) (zu PT).ow (one_more wr.drew (.cells #[.int .i64 z0,.string z1,.string z2] 81))) rfl (litm wr.drew _ _ _ (by rfl)) (by simp[Value.oneCell']) (by omega) (Nat.le_trans (show W.heap.size≤wr.drew.heap.size from gs) (by simp)) ?_
      intro g9 c9 u9 o9 gr9
      have PA:=(zu PT).drew.app (p:=(z0,z1,z2)) hO (one_more wr.drew (.cells #[.int .i64 z0,.string z1,.string z2] 81)) gr9 o9
      have BL:∀j,(Value.slice a m c).ownBlock=some j→W.heap.size≤j:=fun j hj=>(World.ownsRow.lt (zu PT).ow j hj).1
      have BX9:=zh PA.1
      have P9:=zh PA.2
      have fr9:u9.frozen? ⟨u.heap.size,1,none⟩=false:=(zu BX9).free 1
      have bc9:=(zu BX9).c1
      have gs9:=gr9.size
      simp at gs9
      have KC:u9.cell? ⟨w.heap.size,1,none⟩=some (.slice (some ⟨g,0,none⟩) x.ps.length x.c)∧u9.cell? ⟨g,k*3,none⟩=some (.int .i64 z0)∧u9.cell? ⟨g,k*3+1,none⟩=some (.string z1)∧u9.cell? ⟨g,k*3+2,none⟩=some (.string z2):=⟨gr9.cell KB.1 (fun e=>by have:=BL _ e.symm;simp only at this;omega),gr9.cell KB.2.1 (fun e=>by have:=BL _ e.symm;simp only at this;omega),gr9.cell KB.2.2.1 (fun e=>by have:=BL _ e.symm;simp only at this;omega),gr9.cell KB.2.2.2 (fun e=>by have:=BL _ e.symm;simp only at this;omega)⟩
      have SB:=bc_set1 (zu BX9) (.slice (some ⟨g9,0,none⟩) (m+1) c9)
      have KD:(u9.setCell ⟨u.heap.size,1,none⟩ (.slice (some ⟨g9,0,none⟩) (m+1) c9)).cell? ⟨w.heap.size,1,none⟩=some (.slice (some ⟨g,0,none⟩) x.ps.length x.c)∧(u9.setCell ⟨u.heap.size,1,none⟩ (.slice (some ⟨g9,0,none⟩) (m+1) c9)).cell? ⟨g,k*3,none⟩=some (.int .i64 z0)∧(u9.setCell ⟨u.heap.size,1,none⟩ (.slice (some ⟨g9,0,none⟩) (m+1) c9)).cell? ⟨g,k*3+1,none⟩=some (.string z1)∧(u9.setCell ⟨u.heap.size,1,none⟩ (.slice (some ⟨g9,0,none⟩) (m+1) c9)).cell? ⟨g,k*3+2,none⟩=some (.string z2):=⟨(kcell SB.2 (1) (show w.heap.size<u9.heap.size from by omega) (show w.heap.size≠u.heap.size from by omega)).trans KC.1,(kcell SB.2 (k*3) (show g<u9.heap.size from by omega) gn).trans KC.2.1,(kcell SB.2 (k*3+1) (show g<u9.heap.size from by omega) gn).trans KC.2.2.1,(kcell SB.2 (k*3+2) (show g<u9.heap.size from by omega) gn).trans KC.2.2.2⟩
      clear o9 SB PA
      refine hK.out _ _ KC (fun hHeld=>?_)
      clear hK K
      refine zT 9 53 (.pointer (some ⟨u.heap.size,1,none⟩)) rfl hHeld ?_
      try simp only[Act.put,zA,zB,zC]
      refine zR 10 rfl (fun K hK=>?_)
      go_simp
      refine hK.out _ _ KD (fun hHeld=>?_)
      clear hK K
      try simp only[Act.put,zA,zB,zC]
      refine wpAnyH_done (by kernel_rfl) ?_ _
      clear K0 KB KC KD gr9 bc bcD bcA bc9 fr9
      go_wp2
      go_roundw
      case rel=>exact⟨k+1,m+1,c9,some ⟨g9,0,none⟩,by go_num,by omega,by omega,by rw[zu TK];exact P9⟩
      case measure=>simp[intOf];omega
     ·go_simp
      refine hK.out _ _ KB (fun hHeld=>?_)
      clear hK K
      try simp only[Act.put,zA,zB,zC]
      refine zR 1 rfl (fun K hK=>?_)
      go_simp
      refine hK.out _ _ KB (fun hHeld=>?_)
      clear hK K
      try simp only[Act.put,zA,zB,zC]
      refine zR 8 rfl (fun K hK=>?_)
      refine step_app (wr.drew.alloc (.cells #[.int .i64 z0,.string z1,.string z2] 81)) (by rfl) _ _ 35 81 (by rfl) (.agg #[.int .i64 0,.string ByteArray.empty,.string ByteArray.empty]) 3 40 Tryz.underlying35 HelpF14.info2 rfl (by decide) (by decide) W.heap.size (.slice a m c) m (flatF L) wr.drew.heap.size [.int .i64 z0,.string z1,.string z2] (by rfl) (by rfl) (row_step (W:=wr.drew) (zu PT).ow (one_more wr.drew (.cells #[.int .i64 z0,.string z1,.string z2] 81))) rfl (litm wr.drew _ _ _ (by rfl)) (by simp[Value.oneCell']) (by omega) (Nat.le_trans (show W.heap.size≤wr.drew.heap.size from gs) (by simp)) ?_
      intro g9 c9 u9 o9 gr9
      have PA:=(zu PT).drew.app (p:=(z0,z1,z2)) hO (one_more wr.drew (.cells #[.int .i64 z0,.string z1,.string z2] 81)) gr9 o9
      have BL:∀j,(Value.slice a m c).ownBlock=some j→W.heap.size≤j:=fun j hj=>(World.ownsRow.lt (zu PT).ow j hj).1
      have BX9:=zh PA.1
      have P9:=zh PA.2
      have fr9:u9.frozen? ⟨u.heap.size,1,none⟩=false:=(zu BX9).free 1
      have bc9:=(zu BX9).c1
      have gs9:=gr9.size
      simp at gs9
      have KC:u9.cell? ⟨w.heap.size,1,none⟩=some (.slice (some ⟨g,0,none⟩) x.ps.length x.c)∧u9.cell? ⟨g,k*3,none⟩=some (.int .i64 z0)∧u9.cell? ⟨g,k*3+1,none⟩=some (.string z1)∧u9.cell? ⟨g,k*3+2,none⟩=some (.string z2):=⟨gr9.cell KB.1 (fun e=>by have:=BL _ e.symm;simp only at this;omega),gr9.cell KB.2.1 (fun e=>by have:=BL _ e.symm;simp only at this;omega),gr9.cell KB.2.2.1 (fun e=>by have:=BL _ e.symm;simp only at this;omega),gr9.cell KB.2.2.2 (fun e=>by have:=BL _ e.symm;simp only at this;omega)⟩
      have SB:=bc_set1 (zu BX9) (.slice (some ⟨g9,0,none⟩) (m+1) c9)
      have KD:(u9.setCell ⟨u.heap.size,1,none⟩ (.slice (some ⟨g9,0,none⟩) (m+1) c9)).cell? ⟨w.heap.size,1,none⟩=some (.slice (some ⟨g,0,none⟩) x.ps.length x.c)∧(u9.setCell ⟨u.heap.size,1,none⟩ (.slice (some ⟨g9,0,none⟩) (m+1) c9)).cell? ⟨g,k*3,none⟩=some (.int .i64 z0)∧(u9.setCell ⟨u.heap.size,1,none⟩ (.slice (some ⟨g9,0,none⟩) (m+1) c9)).cell? ⟨g,k*3+1,none⟩=some (.string z1)∧(u9.setCell ⟨u.heap.size,1,none⟩ (.slice (some ⟨g9,0,none⟩) (m+1) c9)).cell? ⟨g,k*3+2,none⟩=some (.string z2):=⟨(kcell SB.2 (1) (show w.heap.size<u9.heap.size from by omega) (show w.heap.size≠u.heap.size from by omega)).trans KC.1,(kcell SB.2 (k*3) (show g<u9.heap.size from by omega) gn).trans KC.2.1,(kcell SB.2 (k*3+1) (show g<u9.heap.size from by omega) gn).trans KC.2.2.1,(kcell SB.2 (k*3+2) (show g<u9.heap.size from by omega) gn).trans KC.2.2.2⟩
      clear o9 SB PA
      refine hK.out _ _ KC (fun hHeld=>?_)
      clear hK K
      refine zT 9 53 (.pointer (some ⟨u.heap.size,1,none⟩)) rfl hHeld ?_
      try simp only[Act.put,zA,zB,zC]
      refine zR 10 rfl (fun K hK=>?_)
      go_simp
      refine hK.out _ _ KD (fun hHeld=>?_)
      clear hK K
      try simp only[Act.put,zA,zB,zC]
      refine wpAnyH_done (by kernel_rfl) ?_ _
      clear K0 KB KC KD gr9 bc bcD bcA bc9 fr9
      go_wp2
      go_roundw
      case rel=>exact⟨k+1,m+1,c9,some ⟨g9,0,none⟩,by go_num,by omega,by omega,by rw[zu TK];exact P9⟩
      case measure=>simp[intOf];omega
    |false=>
     have TK:=zh (show(x.ps.take (k+1)).filter (stays ks)=L by rw[zu TK0,zu ST];simp)
     clear TK0 ST
     go_wp2_with fail
     refine(sSegOk _ z0 true (zu SS)).mono ?_
     rintro e wr ⟨rfl,rfl⟩
     go_wp2_with fail
     refine(sHasO _ va ks.length ck ks z0 false rfl hk20 (zu AK) (zu KK)).mono ?_
     rintro e wr ⟨rfl,rfl⟩
     clear AK
     go_wp2
     go_roundw
     case rel=>exact⟨k+1,m,c,a,by go_num,by omega,by omega,by rw[zu TK];exact PT⟩
     case measure=>simp[intOf];omega
  ·have e:k=x.ps.length:=by omega
   subst e
   have TL:=zh (show(x.ps.take x.ps.length).filter (stays ks)=x.ps.filter (stays ks) by rw[List.take_length])
   generalize (x.ps.take x.ps.length).filter (stays ks)=L at *
   have B0:=(zu PT).bx.c0
   have B1:=(zu PT).bx.c1
   have Rk:=zh ((zu R3).kept (zu PT).gr (by simp;omega))
   have f0:=(zu Rk).free 0
   have f1:=(zu Rk).free 1
   have r0:=(zu Rk).c0
   have r1:=(zu Rk).c1
   have LM:=zh (show L.length=m by
    have:=(zu PT).ow.1
    rw[flatF_len] at this
    omega)
   have BB:=zh (grow_low (zu W3).b (zu PT).gr ⟨by omega,by omega⟩)
   have EN:=zh (endedD (y:=⟨x.room,a,c,L⟩) (base0:=W.heap.size) (zu BB) (zu Rk) (by unfold OwD;simp only[zu LM];exact(zu PT).ow) (by omega))
   simp only[zu LM] at EN
   go_wp2
   refine bodyPost_ret (v:= .agg #[.int .i64 x.room,.slice a m c]) (by simp[results,Tryz.results47,go_sem,r0,r1]) rfl ⟨⟨x.room,a,c,L⟩,by rw[zu TL],by simp[zu LM],(zu EN).1,(zu EN).2⟩
end SClear16
namespace ISg15
open Fil14 OpensF14 DiskH14 DkH14 SDk14 SOk14 SegP15
theorem iSeg(w:World)(n:Int):Calls Tryz.prog 140 #[.int .i64 n] w fun e w'=>e= .returned (.bool (okS n))∧w'=w:=by
 unfold okS
 by_cases h0:0≤n
 ·by_cases h1:n≤19
  ·rw[decide_eq_true ⟨h0,h1⟩]
   have a:n≥0:=h0
   have b:n<20:=by omega
   clear h1
   go_enter Tryz.func140,Tryz.ntmps140
   go_wp2
   go_ret
   exact⟨rfl,rfl⟩
  ·rw[decide_eq_false (fun q=>h1 q.2)]
   have a:n≥0:=h0
   have b:¬n<20:=by omega
   clear h1
   go_enter Tryz.func140,Tryz.ntmps140
   go_wp2
   go_ret
   exact⟨rfl,rfl⟩
 ·rw[decide_eq_false (fun q=>h0 q.1)]
  have a:¬n≥0:=h0
  go_enter Tryz.func140,Tryz.ntmps140
  go_wp2
  go_ret
  exact⟨rfl,rfl⟩
theorem iSegOk(w:World)(n:Int)(b:Bool)(h:okS n=b):Calls Tryz.prog 140 #[.int .i64 n] w fun e w'=>e= .returned (.bool b)∧w'=w:=by
 rw[←h]
 exact iSeg w n
end ISg15
end Go.Proofs.YtppkkmaoaiopaaaGreat
