/- Lemmas. -/
import Derived.Test.YtlbgfdpcgpijhaaGreatQC20
import Derived.Lib.MinMax
open Go.ChangeShapes Go.WideShapes Go.ChangeAt Go.RowKit
set_option linter.unusedVariables false
set_option linter.unusedSimpArgs false
set_option maxRecDepth 100000
set_option maxHeartbeats 32000000
namespace Go.Proofs.YtlbgfdpcgpijhaaGreat
namespace ICrash14
open Fil14 OpensF14 DiskH14 DkH14 SDk14 SOk14 SRd14 App14 SLess14 SCopy14 SRef14 SCom14 SCrash14 TabF14 PTab14 IFile14 ICp14 ICom14
def half(f:TF→TF)(ps:List TF)(k:Nat):List TF:=(ps.take k).map f++ps.drop k
theorem half_len(f:TF→TF)(ps:List TF)(k:Nat):(half f ps k).length=ps.length:=by
 unfold half
 simp
 omega
theorem half_el(f:TF→TF){ps:List TF}{k:Nat}(h:k<ps.length):elF (half f ps k) k=elF ps k:=by
 unfold half
 have:((ps.take k).map f).length=k:=by simp;omega
 simp only[List.getD]
 rw[List.getElem?_append_right (by omega),this,List.getElem?_drop]
 simp
theorem half_next(f:TF→TF){ps:List TF}{k:Nat}(h:k<ps.length):(half f ps k).set k (f (elF ps k))=half f ps (k+1):=by
 unfold half
 have hl:((ps.take k).map f).length=k:=by simp;omega
 rw[List.set_append_right _ _ (by omega),hl,Nat.sub_self,List.drop_eq_getElem_cons h,List.set_cons_zero,List.take_succ_eq_append_getElem h,List.map_append,List.append_assoc]
 simp[List.getD,h]
theorem mod3{L:List TF}{k:Nat}(h:k<L.length)(a:Int)(b c:ByteArray):((L.modify k fun p=>(a,p.2)).modify k fun p=>(p.1,b,p.2.2)).modify k (fun p=>(p.1,p.2.1,c))=L.set k (a,b,c):=by
 apply List.ext_getElem?
 intro i
 simp only[List.getElem?_modify,List.getElem?_set]
 by_cases e:k=i
 ·subst e
  simp[h]
 ·simp[e]
structure Cr(u W wr:World)(v:Value)(n:Nat)(L:List TF):Prop where
 gr:W.grownBy wr v.ownBlock
 ow:wr.ownsRow u.heap.size 64 3 v n (flatF L)
 ge:∀j,v.ownBlock=some j→u.heap.size≤j∧j+1<W.heap.size
theorem iDiskCrash(w:World)(x:Dx)(keep:Int)(hr:RdD w x)(hz:sumZ x.ps≤1048576):Calls Tryz.prog 121 #[.agg #[.int .i64 x.room,.slice x.a x.ps.length x.c],.int .i64 keep] w fun e w'=>∃y:Dx,(y.room,y.ps)=crashD x.room x.ps keep∧e= .returned (.agg #[.int .i64 y.room,.slice y.a y.ps.length y.c])∧OwD w' w.heap.size y∧Below w.heap.size w w':=by
 have G0:=zh (begunD hr)
 have s2:((w.alloc (.cells #[.int .i64 x.room,.slice x.a x.ps.length x.c] 38)).alloc (.cells #[.int .i64 0,.slice none 0 0] 38)).heap.size=w.heap.size+2:=by simp
 have OK0:=zh (fun b h=>iOkB _ x b (zu G0).1.r hz h)
 have h20:=hr.n
 clear hr
 by_cases ok:OkD x.room x.ps
 case neg=>
  have E:=zh (show crashD x.room x.ps keep=(0,[]) from if_neg ok)
  generalize crashD x.room x.ps keep=rr at *
  have OKD:=zh (decide_eq_false ok)
  clear ok
  go_enter Tryz.func121,Tryz.ntmps121
  go_wp2_with fail
  refine((zu OK0) false (zu OKD)).mono ?_
  rintro e u ⟨rfl,b1⟩
  have R2:=zh ((zu G0).2.below b1 (by omega))
  have EN:=zh (endedD (y:=⟨0,none,0,[]⟩) (base0:=w.heap.size+2) (((zu G0).1.step b1).b) (zu R2) ⟨rfl,.inl ⟨rfl,rfl⟩⟩ (by omega))
  have f0:=(zu R2).free 0
  have f1:=(zu R2).free 1
  have r0:=(zu R2).c0
  have r1:=(zu R2).c1
  clear b1
  go_wp2
  refine bodyPost_ret (v:= .agg #[.int .i64 0,.slice none 0 0]) (by simp[results,Tryz.results121,go_sem,r0,r1]) rfl ⟨⟨0,none,0,[]⟩,(zu E).symm,rfl,(zu EN).1,(zu EN).2⟩
 have E:=zh (show crashD x.room x.ps keep=(x.room,x.ps.map (crashF keep)) from if_pos ok)
 generalize crashD x.room x.ps keep=rr at *
 have OKD:=zh (decide_eq_true ok)
 clear ok
 go_enter Tryz.func121,Tryz.ntmps121
 go_wp2_with fail
 refine((zu OK0) true (zu OKD)).mono ?_
 rintro e u ⟨rfl,b1⟩
 have WU:=zh ((zu G0).1.step b1)
 have RU:=zh ((zu G0).2.below b1 (by omega))
 have us:=b1.size
 rw[s2] at us
 clear b1 G0 OK0 s2
 have c0:=(zu WU).c0
 have c1:=(zu WU).c1
 have lt:=(zu WU).lt
 go_wp2_with fail
 refine(iCopied u x (zu WU).r).mono ?_
 rintro e u1 ⟨y,hy0,hy,rfl,oy,b2⟩
 obtain⟨yroom,ya,yc,yps⟩:=y
 simp only at hy0 hy
 subst hy0 hy
 unfold OwD at oy
 simp only at oy
 generalize hn:x.ps.length=n at *
 have HN:=zh hn
 have bA:=one_more u1 (.cells #[.int .i64 x.room,.slice ya n yc] 38)
 have W1:=zh (((zu WU).step b2).step bA)
 have R1:=zh (((zu RU).below b2 (zu RU).lt.2).below bA (by have:=(zu RU).lt.2;have:=b2.size;omega))
 have C0:=zh (show Cr u (u1.alloc (.cells #[.int .i64 x.room,.slice ya n yc] 38)) (u1.alloc (.cells #[.int .i64 x.room,.slice ya n yc] 38)) (.slice ya n yc) n (half (crashF keep) x.ps 0) from⟨World.grownBy.refl _ _,row_step oy bA,fun j hj=>by have:=World.ownsRow.lt oy j hj;simp;omega⟩)
 have a0:(u1.alloc (.cells #[.int .i64 x.room,.slice ya n yc] 38)).cell? ⟨u1.heap.size,0,none⟩=some (.int .i64 x.room):=by simp[go_sem]
 have a1:(u1.alloc (.cells #[.int .i64 x.room,.slice ya n yc] 38)).cell? ⟨u1.heap.size,1,none⟩=some (.slice ya n yc):=by simp[go_sem]
 have s3:(u1.alloc (.cells #[.int .i64 x.room,.slice ya n yc] 38)).heap.size=u1.heap.size+1:=by simp
 have AW:=zh (And.intro a0 a1)
 have us1:=b2.size
 clear b2 bA oy hn WU RU a0 a1 c0 c1 lt
 go_wp2
 generalize u1.alloc (.cells #[.int .i64 x.room,.slice ya n yc] 38)=W at *
 go_loopw [18] (fun i wr=>∃(k:Nat),i= .int .i64 k∧k≤n∧Hid (Cr u W wr (.slice ya n yc) n (half (crashF keep) x.ps k))) (fun i _=>n-(intOf i).toNat)
 case atStart=>exact⟨0,rfl,by omega,C0⟩
 case round=>
  clear C0
  obtain⟨k,rfl,hk,CR⟩:=hrel
  have gs:=(zu CR).gr.size
  have GE:=zh (zu CR).ge
  have k0:=zh ((World.cell?_of_block (w:=W) (a:=⟨u1.heap.size,0,none⟩) ((zu CR).gr.block u1.heap.size (by omega) (fun e=>by have:=(zu GE) _ e.symm;omega))).trans (zu AW).1)
  have k1:=zh ((World.cell?_of_block (w:=W) (a:=⟨u1.heap.size,1,none⟩) ((zu CR).gr.block u1.heap.size (by omega) (fun e=>by have:=(zu GE) _ e.symm;omega))).trans (zu AW).2)
  by_cases t:k<n
  ·have kt:(k:Int)<n:=by omega
   have tk:k<x.ps.length:=by rw[zu HN];exact t
   obtain⟨g,ea⟩:=(addr_of (zu CR).ow).1 (by omega)
   subst ea
   have gg:=(zu GE) g rfl
   have EL:=half_el (crashF keep) tk
   have NX:=zh (half_next (crashF keep) tk)
   have LL:=zh (show k<(half (crashF keep) x.ps k).length by rw[half_len];exact tk)
   obtain⟨e0,e1,e2⟩:=OwnF.at (zu CR).ow k (zu LL)
   rw[EL] at e0 e1 e2
   have IX:=ixF yc (rfl:(some ⟨g,0,none⟩:Option Addr)=some ⟨g,0,none⟩) t
   have SZ:=el_size hz tk
   obtain⟨km,hkm⟩:∃km,max keep 0=km:=⟨_,rfl⟩
   obtain⟨kn,hkn⟩:∃kn:Nat,min km ((elF x.ps k).2.2.size:Int)=kn:=⟨(min km ((elF x.ps k).2.2.size:Int)).toNat,by omega⟩
   have TE:crashF keep (elF x.ps k)=((elF x.ps k).1,(elF x.ps k).2.1++(elF x.ps k).2.2.extract 0 kn,ByteArray.empty):=by
    unfold crashF
    rw[hkm,hkn,Int.toNat_natCast]
   have kz:(kn:Int)≤((elF x.ps k).2.2.size:Int):=by omega
   rw[TE] at NX
   generalize half (crashF keep) x.ps k=L at *
   clear TE EL
   generalize (elF x.ps k).1=z0 at *
   generalize (elF x.ps k).2.1=z1 at *
   generalize (elF x.ps k).2.2=z2 at *
   have M1:∀ts t w,(Builtin.max_ ts t #[.int .i64 keep,.int .i64 0]).run Tryz.prog w= .ok (.int .i64 km) w:=fun ts t w=>by rw[←hkm];exact Lib.run_max_ints w ts t .i64 .i64 keep 0
   have M2:∀ts t w,(Builtin.min_ ts t #[.int .i64 km,.int .i64 z2.size]).run Tryz.prog w= .ok (.int .i64 kn) w:=fun ts t w=>by rw[←hkn];exact Lib.run_min_ints w ts t .i64 .i64 km z2.size
   have sx:z1.size+(z2.extract 0 kn).size≤9223372036854775807:=by
    have:(z2.extract 0 kn).size≤z2.size:=by simp;omega
    omega
   have sm:z1.size+min kn z2.size≤9223372036854775807:=by omega
   have bV:=zh (one_more wr (.cells #[.int .i64 z0,.string z1,.string z2] 64))
   have K8:(wr.alloc (.cells #[.int .i64 z0,.string z1,.string z2] 64)).cell? ⟨u1.heap.size,1,none⟩=some (.slice (some ⟨g,0,none⟩) n yc)∧(wr.alloc (.cells #[.int .i64 z0,.string z1,.string z2] 64)).cell? ⟨wr.heap.size,0,none⟩=some (.int .i64 z0)∧(wr.alloc (.cells #[.int .i64 z0,.string z1,.string z2] 64)).cell? ⟨wr.heap.size,1,none⟩=some (.string z1)∧(wr.alloc (.cells #[.int .i64 z0,.string z1,.string z2] 64)).cell? ⟨wr.heap.size,2,none⟩=some (.string z2):=⟨((zu bV).cell (p:=⟨u1.heap.size,1,none⟩) (by show u1.heap.size<wr.heap.size;omega)).trans (zu k1),by simp[go_sem],by simp[go_sem],by simp[go_sem]⟩
   have OV:=zh (row_step (zu CR).ow (zu bV))
   clear hkm hkn
   obtain⟨V,hV⟩:∃V,Hid (V=wr.alloc (.cells #[.int .i64 z0,.string z1,.string z2] 64)):=⟨_,rfl⟩
   have vL:=zh (show wr.heap.size<V.heap.size by rw[zu hV];simp)
   rw[←zu hV] at K8 bV OV
   have OD:=zh (show OwnF 64 V.drew u.heap.size g n yc L from zu OV)
   obtain⟨o1,g1⟩:=(zu OD).set0 k z0
   obtain⟨o2,g2⟩:=o1.set1 k (z1++z2.extract 0 kn)
   obtain⟨o3,g3⟩:=o2.set2 k ⟨#[]⟩
   have GG:=zh (grow_grow (grow_grow g1 g2) g3)
   rw[mod3 (zu LL),show(⟨#[]⟩:ByteArray)=ByteArray.empty from rfl,zu NX] at o3
   have OVF:=zh (show OwnF 64 V u.heap.size g n yc L from zu OV)
   have fr0:=(zu OVF).free (k*3)
   have fr1:=(zu OVF).free (k*3+1)
   have fr2:=(zu OVF).free (k*3+2)
   have q0:=((zu OVF).at k (zu LL)).1
   have q1:=((zu OVF).at k (zu LL)).2.1
   have q2:=((zu OVF).at k (zu LL)).2.2
   have vs:=(zu bV).size
   have K9:(((V.drew.setCell ⟨g,k*3,none⟩ (.int .i64 z0)).setCell ⟨g,k*3+1,none⟩ (.string (z1++z2.extract 0 kn))).setCell ⟨g,k*3+2,none⟩ (.string ⟨#[]⟩)).cell? ⟨u1.heap.size,1,none⟩=some (.slice (some ⟨g,0,none⟩) n yc)∧(((V.drew.setCell ⟨g,k*3,none⟩ (.int .i64 z0)).setCell ⟨g,k*3+1,none⟩ (.string (z1++z2.extract 0 kn))).setCell ⟨g,k*3+2,none⟩ (.string ⟨#[]⟩)).cell? ⟨wr.heap.size,0,none⟩=some (.int .i64 z0)∧(((V.drew.setCell ⟨g,k*3,none⟩ (.int .i64 z0)).setCell ⟨g,k*3+1,none⟩ (.string (z1++z2.extract 0 kn))).setCell ⟨g,k*3+2,none⟩ (.string ⟨#[]⟩)).cell? ⟨wr.heap.size,1,none⟩=some (.string z1)∧(((V.drew.setCell ⟨g,k*3,none⟩ (.int .i64 z0)).setCell ⟨g,k*3+1,none⟩ (.string (z1++z2.extract 0 kn))).setCell ⟨g,k*3+2,none⟩ (.string ⟨#[]⟩)).cell? ⟨wr.heap.size,2,none⟩=some (.string z2):=⟨(kcell (zu GG) 1 (show u1.heap.size<V.heap.size by omega) (by omega)).trans K8.1,(kcell (zu GG) 0 (zu vL) (by omega)).trans K8.2.1,(kcell (zu GG) 1 (zu vL) (by omega)).trans K8.2.2.1,(kcell (zu GG) 2 (zu vL) (by omega)).trans K8.2.2.2⟩
   have C9:=zh (show Cr u W (((V.drew.setCell ⟨g,k*3,none⟩ (.int .i64 z0)).setCell ⟨g,k*3+1,none⟩ (.string (z1++z2.extract 0 kn))).setCell ⟨g,k*3+2,none⟩ (.string ⟨#[]⟩)) (.slice (some ⟨g,0,none⟩) n yc) n (half (crashF keep) x.ps (k+1)) from⟨⟨(zu GG).os.trans ((zu bV).os.trans (zu CR).gr.os),(zu GG).tape.trans ((zu bV).tape.trans (zu CR).gr.tape),(zu GG).output.trans ((zu bV).output.trans (zu CR).gr.output),Nat.le_trans (zu CR).gr.size (Nat.le_trans (zu bV).size (zu GG).size),fun i hi hne=>((zu GG).block i (show i<V.heap.size by omega) hne).trans (((zu bV).block i (by omega)).trans ((zu CR).gr.block i hi hne))⟩,o3,zu GE⟩)
   clear o1 o2 o3 g1 g2 g3
   go_wp2_with fail
   rw[←zu hV]
   clear hV
   refine wp_region_held_drew (S:=(fun w'=>w'.cell? ⟨u1.heap.size,1,none⟩=some (.slice (some ⟨g,0,none⟩) n yc)∧w'.cell? ⟨wr.heap.size,0,none⟩=some (.int .i64 z0)∧w'.cell? ⟨wr.heap.size,1,none⟩=some (.string z1)∧w'.cell? ⟨wr.heap.size,2,none⟩=some (.string z2))) (by kernel_rfl) K8 (fun hHeld=>?_)
   refine zT 0 29 (.pointer (some ⟨u1.heap.size,1,none⟩)) rfl hHeld ?_
   refine zT 1 30 (.slice (some ⟨g,0,none⟩) n yc) rfl hHeld ?_
   refine zT 2 31 (.int .i64 k) rfl hHeld ?_
   refine zT 3 32 (.pointer (some ⟨wr.heap.size,0,none⟩)) rfl hHeld ?_
   refine zT 4 33 (.int .i64 z0) rfl hHeld ?_
   refine zT 5 34 (.pointer (some ⟨wr.heap.size,1,none⟩)) rfl hHeld ?_
   refine zT 6 35 (.string z1) rfl hHeld ?_
   refine zT 7 36 (.pointer (some ⟨wr.heap.size,2,none⟩)) rfl hHeld ?_
   refine zT 8 37 (.string z2) rfl hHeld ?_
   refine zT 9 38 (.int .i64 kn) rfl hHeld ?_
   refine zT 10 39 (.string (z2.extract 0 kn)) rfl hHeld ?_
   refine zT 11 40 (.string (z1++z2.extract 0 kn)) rfl hHeld ?_
   refine zT 12 41 (.agg #[.int .i64 z0,.string (z1++z2.extract 0 kn),.string ⟨#[]⟩]) rfl hHeld ?_
   refine zT 13 42 (.pointer (some ⟨g,k*3,none⟩)) rfl hHeld ?_
   try simp only[Act.put,zA,zB,zC]
   refine zR 14 rfl (fun K hK=>?_)
   go_simp
   refine hK.out _ _ K9 (fun hHeld=>?_)
   clear hK K
   try simp only[Act.put,zA,zB,zC]
   refine wpAnyH_done (by kernel_rfl) ?_ _
   clear K8 K9 q0 q1 q2 fr0 fr1 fr2
   go_wp2
   go_roundw
   case rel=>exact⟨k+1,by go_num,by omega,C9⟩
   case measure=>simp[intOf];omega
  ·have e:k=n:=by omega
   subst e
   have ck0:=zu k0
   have ck1:=zu k1
   have HL:=zh (show half (crashF keep) x.ps k=x.ps.map (crashF keep) by unfold half;rw[←zu HN];simp)
   have Rk:=zh ((zu R1).kept (zu CR).gr (fun e=>by have:=(zu GE) _ e.symm;omega))
   have BK:=zh (show Below w.heap.size w wr from⟨(zu CR).gr.os.trans (zu W1).b.os,(zu CR).gr.tape.trans (zu W1).b.tape,(zu CR).gr.output.trans (zu W1).b.output,Nat.le_trans (zu W1).b.size gs,fun i hi=>((zu CR).gr.block i (by omega) (fun e=>by have:=(zu GE) _ e.symm;omega)).trans ((zu W1).b.block i hi)⟩)
   have EN:=zh (endedD (y:=⟨x.room,ya,yc,x.ps.map (crashF keep)⟩) (base0:=u.heap.size) (zu BK) (zu Rk) (by unfold OwD;simp only[List.length_map,zu HN];rw[←zu HL];exact(zu CR).ow) (by omega))
   have f0:=(zu Rk).free 0
   have f1:=(zu Rk).free 1
   have r0:=(zu Rk).c0
   have r1:=(zu Rk).c1
   simp only[List.length_map,zu HN] at EN
   clear k0 k1
   go_wp2
   refine bodyPost_ret (v:= .agg #[.int .i64 x.room,.slice ya k yc]) (by simp[results,Tryz.results121,go_sem,r0,r1]) rfl ⟨⟨x.room,ya,yc,x.ps.map (crashF keep)⟩,(zu E).symm,by simp[zu HN],(zu EN).1,(zu EN).2⟩
end ICrash14
end Go.Proofs.YtlbgfdpcgpijhaaGreat
