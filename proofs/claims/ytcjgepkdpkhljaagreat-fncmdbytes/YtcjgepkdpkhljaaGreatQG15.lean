/- Lemmas. -/
import Derived.Test.YtcjgepkdpkhljaaGreatQG6
import Derived.Test.YtcjgepkdpkhljaaGreatQG7
open Go.ChangeShapes Go.WideShapes Go.ChangeAt Go.RowKit
set_option linter.unusedVariables false
set_option linter.unusedSimpArgs false
set_option maxRecDepth 100000
set_option maxHeartbeats 32000000
namespace Go.Proofs.YtcjgepkdpkhljaaGreat
namespace SSplit
open Tup5 Lots Takes SOk5 Quieter
theorem sSplit(w:World)(g n cap:Nat)(ps:List T5)(a i:Int)(hl:ps.length=n)(h20:n≤100000)(hg:g<w.heap.size)(h:At5 w g ps):
  Calls Tryz.prog 96 #[.slice (some ⟨g,0,none⟩) n cap,.int .i64 a,.int .i64 i] w fun e w'=>∃g1 c1 g2 c2,e= .returned (.tuple #[.slice (some ⟨g1,0,none⟩) (ownL ps a i).length c1,.slice (some ⟨g2,0,none⟩) (restL ps a i).length c2])∧Own5 188 w' w.heap.size g1 (ownL ps a i).length c1 (ownL ps a i)∧Own5 188 w' w.heap.size g2 (restL ps a i).length c2 (restL ps a i)∧g1≠g2∧Below w.heap.size w w':=by
 have H:=zh h
 clear h
 have O1:=zh ((lit50 188 w w.heap.size (Nat.le_refl _)).alloc (.cells #[] 188))
 have O2:=zh (lit50 188 (w.alloc (.cells #[] 188)) w.heap.size (by simp))
 have B0:=zh (show Below w.heap.size w ((w.alloc (.cells #[] 188)).alloc (.cells #[] 188)) from((Below.refl _ _).alloc (Nat.le_refl _) _).alloc (by simp) _)
 simp only[World.size_alloc] at O2
 go_enter Tryz.func96,Tryz.ntmps96
 go_wp2
 generalize (w.alloc (.cells #[] 188)).alloc (.cells #[] 188)=w0 at *
 go_loopw [8,9,10] (fun l m j wr=>∃(p q:List T5) (g1 c1 g2 c2 k:Nat),l= .slice (some ⟨g1,0,none⟩) p.length c1∧m= .slice (some ⟨g2,0,none⟩) q.length c2∧j= .int .i64 k∧k≤n∧p.length≤k∧q.length≤k∧g1≠g2∧Hid (p=ownL (ps.take k) a i)∧Hid (q=restL (ps.take k) a i)∧Hid (Own5 188 wr w.heap.size g1 p.length c1 p)∧Hid (Own5 188 wr w.heap.size g2 q.length c2 q)∧Hid (Below w.heap.size w wr)) (fun _ _ j _=>n-(intOf j).toNat)
 case atStart=>exact⟨[],[],w.heap.size,0,w.heap.size+1,0,0,rfl,rfl,rfl,by omega,by simp,by simp,by omega,zh rfl,zh rfl,O1,O2,B0⟩
 case round=>
  clear O1 O2 B0
  obtain⟨p,q,g1,c1,g2,c2,k,rfl,rfl,rfl,hk,pl,ql,g12,HP,HQ,H1,H2,HB⟩:=hrel
  have bs:=(zu HB).size
  have gl1:=(zu H1).lt.2
  have gl2:=(zu H2).lt.2
  by_cases t:k<n
  ·obtain⟨e0,e1,e2,e3,e4⟩:=(zu H).below (zu HB) hg k (by omega)
   have NP:=zh (own_next (ps:=ps) (k:=k) (by omega) a i)
   have NQ:=zh (rest_next (ps:=ps) (k:=k) (by omega) a i)
   rw[←zu HP] at NP
   rw[←zu HQ] at NQ
   have EQ:el5 ps k=((el5 ps k).1,(el5 ps k).2.1,(el5 ps k).2.2.1,(el5 ps k).2.2.2.1,(el5 ps k).2.2.2.2):=rfl
   rw[EQ] at NP NQ
   clear EQ HP HQ
   generalize (el5 ps k).1=x0 at *
   generalize (el5 ps k).2.1=x1 at *
   generalize (el5 ps k).2.2.1=x2 at *
   generalize (el5 ps k).2.2.2.1=x3 at *
   generalize (el5 ps k).2.2.2.2=x4 at *
   have V5:=zh (show Holds5 (wr.alloc (.cells #[.int .i64 x0,.int .i64 x1,.int .i64 x2,.int .i64 x3,.int .i64 x4] 188)) wr.heap.size 0 (x0,x1,x2,x3,x4) from by unfold Holds5;simp)
   by_cases own:x0=a∧x1=i
   ·have NP1:Hid (ownL (ps.take (k+1)) a i=p++[(x0,x1,x2,x3,x4)]):=zh (by rw[zu NP,if_pos own])
    have NQ1:Hid (restL (ps.take (k+1)) a i=q):=zh (by rw[zu NQ,if_pos own,List.append_nil])
    clear NP NQ
    obtain⟨rfl,rfl⟩:=own
    go_wp2_with (first|(at_builtin;refine LotApp.wp_app _ rfl _ _ rfl w.heap.size g1 p.length c1 p wr.heap.size x0 x1 x2 x3 x4 rfl rfl ((zu H1).alloc _) (zu V5) (by omega) (by simp;omega) ?_)|go_in)
    intro g5 c5 w5 o5 gr5 loc5
    have O5:=zh o5
    have K5:=zh (((zu H2).alloc (.cells #[.int .i64 x0,.int .i64 x1,.int .i64 x2,.int .i64 x3,.int .i64 x4] 188)).kept gr5 (by simp;omega))
    have B5:=zh (((zu HB).alloc bs (.cells #[.int .i64 x0,.int .i64 x1,.int .i64 x2,.int .i64 x3,.int .i64 x4] 188)).grown gr5 (by simp;omega) (fun j hj=>by cases hj;exact(zu H1).lt.1))
    have g5B:g5≠g2:=by
     try simp at loc5
     omega
    clear o5 gr5 loc5 V5
    go_wp2
    go_roundw
    case rel=>exact⟨p++[(x0,x1,x2,x3,x4)],q,g5,c5,g2,c2,k+1,by rw[show(p++[(x0,x1,x2,x3,x4)]).length=p.length+1 by simp],rfl,by go_num,by omega,by simp;omega,by omega,g5B,zh (zu NP1).symm,zh (zu NQ1).symm,zh (by rw[show(p++[(x0,x1,x2,x3,x4)]).length=p.length+1 by simp];exact zu O5),K5,B5⟩
    case measure=>simp[intOf];omega
   ·have NP1:Hid (ownL (ps.take (k+1)) a i=p):=zh (by rw[zu NP,if_neg own,List.append_nil])
    have NQ1:Hid (restL (ps.take (k+1)) a i=q++[(x0,x1,x2,x3,x4)]):=zh (by rw[zu NQ,if_neg own])
    clear NP NQ
    rcases(show x0≠a∨(x0=a∧x1≠i) by omega) with o2|⟨rfl,o2⟩
    ·have ob:(x0==a)=false:=by simpa using o2
     go_wp2_with (first|(at_builtin;refine LotApp.wp_app _ rfl _ _ rfl w.heap.size g2 q.length c2 q wr.heap.size x0 x1 x2 x3 x4 rfl rfl ((zu H2).alloc _) (zu V5) (by omega) (by simp;omega) ?_)|go_in)
     intro g5 c5 w5 o5 gr5 loc5
     have O5:=zh o5
     have K5:=zh (((zu H1).alloc (.cells #[.int .i64 x0,.int .i64 x1,.int .i64 x2,.int .i64 x3,.int .i64 x4] 188)).kept gr5 (by simp;omega))
     have B5:=zh (((zu HB).alloc bs (.cells #[.int .i64 x0,.int .i64 x1,.int .i64 x2,.int .i64 x3,.int .i64 x4] 188)).grown gr5 (by simp;omega) (fun j hj=>by cases hj;exact(zu H2).lt.1))
     have g5B:g5≠g1:=by
      try simp at loc5
      omega
     clear o5 gr5 loc5 V5
     go_wp2
     go_roundw
     case rel=>exact⟨p,q++[(x0,x1,x2,x3,x4)],g1,c1,g5,c5,k+1,rfl,by rw[show(q++[(x0,x1,x2,x3,x4)]).length=q.length+1 by simp],by go_num,by omega,by omega,by simp;omega,fun e=>g5B e.symm,zh (zu NP1).symm,zh (zu NQ1).symm,K5,zh (by rw[show(q++[(x0,x1,x2,x3,x4)]).length=q.length+1 by simp];exact zu O5),B5⟩
     case measure=>simp[intOf];omega
    ·have ob:(x1==i)=false:=by simpa using o2
     go_wp2_with (first|(at_builtin;refine LotApp.wp_app _ rfl _ _ rfl w.heap.size g2 q.length c2 q wr.heap.size x0 x1 x2 x3 x4 rfl rfl ((zu H2).alloc _) (zu V5) (by omega) (by simp;omega) ?_)|go_in)
     intro g5 c5 w5 o5 gr5 loc5
     have O5:=zh o5
     have K5:=zh (((zu H1).alloc (.cells #[.int .i64 x0,.int .i64 x1,.int .i64 x2,.int .i64 x3,.int .i64 x4] 188)).kept gr5 (by simp;omega))
     have B5:=zh (((zu HB).alloc bs (.cells #[.int .i64 x0,.int .i64 x1,.int .i64 x2,.int .i64 x3,.int .i64 x4] 188)).grown gr5 (by simp;omega) (fun j hj=>by cases hj;exact(zu H2).lt.1))
     have g5B:g5≠g1:=by
      try simp at loc5
      omega
     clear o5 gr5 loc5 V5
     go_wp2
     go_roundw
     case rel=>exact⟨p,q++[(x0,x1,x2,x3,x4)],g1,c1,g5,c5,k+1,rfl,by rw[show(q++[(x0,x1,x2,x3,x4)]).length=q.length+1 by simp],by go_num,by omega,by omega,by simp;omega,fun e=>g5B e.symm,zh (zu NP1).symm,zh (zu NQ1).symm,K5,zh (by rw[show(q++[(x0,x1,x2,x3,x4)]).length=q.length+1 by simp];exact zu O5),B5⟩
     case measure=>simp[intOf];omega
  ·obtain rfl:k=n:=by omega
   have EP:=zh (show p=ownL ps a i by rw[zu HP,List.take_of_length_le (by omega)])
   have EQ:=zh (show q=restL ps a i by rw[zu HQ,List.take_of_length_le (by omega)])
   clear HP HQ
   go_wp2
   go_ret2
   rw[←zu EP,←zu EQ]
   exact⟨g1,c1,g2,c2,rfl,zu H1,zu H2,g12,zu HB⟩
theorem take_sum{ps:List T5}(h:∀p∈ps,Pos p)(k:Nat):0≤sumQ (ps.take k)∧sumQ (ps.take k)≤sumQ ps∧0≤sumC (ps.take k)∧sumC (ps.take k)≤sumC ps:=by
 have e:ps=ps.take k++ps.drop k:=(List.take_append_drop k ps).symm
 have p1:=sum_pos (ps.take k) (fun p hp=>h p (List.mem_of_mem_take hp))
 have p2:=sum_pos (ps.drop k) (fun p hp=>h p (List.mem_of_mem_drop hp))
 have e1:=sumQ_append (ps.take k) (ps.drop k)
 have e2:=sumC_append (ps.take k) (ps.drop k)
 rw[←e] at e1 e2
 omega
theorem sQty(w:World)(g n cap:Nat)(ps:List T5)(hl:ps.length=n)(h20:n≤1048576)(h:At5 w g ps)(hp:∀p∈ps,Pos p)(hs:sumQ ps≤1000000000000000):
  Calls Tryz.prog 97 #[.slice (some ⟨g,0,none⟩) n cap] w fun e w'=>e= .returned (.int .i64 (sumQ ps))∧Below w.heap.size w w':=by
 have HP:=zh hp
 clear hp
 go_enter Tryz.func97,Tryz.ntmps97
 go_wp2
 go_loopw [3,4] (fun q j wr=>∃(k:Nat) (s:Int),q= .int .i64 s∧j= .int .i64 k∧k≤n∧At5 wr g ps∧Hid (s=sumQ (ps.take k))∧Hid (Below w.heap.size w wr)) (fun _ j _=>n-(intOf j).toNat)
 case atStart=>exact⟨0,0,rfl,rfl,by omega,h,zh rfl,zh (Below.refl _ _)⟩
 case round=>
  clear h
  obtain⟨k,s,rfl,rfl,hk,h,HS,HB⟩:=hrel
  have ts:=take_sum (zu HP) k
  have s0:0≤s:=by rw[zu HS];omega
  by_cases t:k<n
  ·obtain⟨e0,e1,e2,e3,e4⟩:=h k (by omega)
   have ts1:=take_sum (zu HP) (k+1)
   have NX:=zh (sumQ_next (ps:=ps) (k:=k) (by omega))
   rw[←zu HS] at NX
   have xp:=(zu HP) _ (getD_mem (ps:=ps) (i:=k) (by omega))
   unfold Pos at xp
   have b1:s+(el5 ps k).2.2.2.1≤1000000000000000:=by rw[←zu NX];omega
   have HA:=zh h
   clear h HS ts ts1
   obtain⟨⟨x31,x32⟩,x41,x42⟩:=xp
   generalize (el5 ps k).1=x0 at *
   generalize (el5 ps k).2.1=x1 at *
   generalize (el5 ps k).2.2.1=x2 at *
   generalize (el5 ps k).2.2.2.1=x3 at *
   generalize (el5 ps k).2.2.2.2=x4 at *
   have wS:IntKind.i64.wrap (s+x3)=s+x3:=by rw[IntKind.wrap_i64];omega
   go_wp2
   go_roundw
   case rel=>exact⟨k+1,s+x3,rfl,by go_num,by omega,zu HA,zh (zu NX).symm,HB⟩
   case measure=>simp[intOf];omega
  ·obtain rfl:k=n:=by omega
   have E:=zh (show s=sumQ ps by rw[zu HS,List.take_of_length_le (by omega)])
   clear h HS ts
   go_wp2
   go_ret
   exact⟨by rw[←zu E];rfl,zu HB⟩
theorem sCost(w:World)(g n cap:Nat)(ps:List T5)(hl:ps.length=n)(h20:n≤1048576)(h:At5 w g ps)(hp:∀p∈ps,Pos p)(hs:sumC ps≤1000000000000000):
  Calls Tryz.prog 114 #[.slice (some ⟨g,0,none⟩) n cap] w fun e w'=>e= .returned (.int .i64 (sumC ps))∧Below w.heap.size w w':=by
 have HP:=zh hp
 clear hp
 go_enter Tryz.func114,Tryz.ntmps114
 go_wp2
 go_loopw [3,4] (fun q j wr=>∃(k:Nat) (s:Int),q= .int .i64 s∧j= .int .i64 k∧k≤n∧At5 wr g ps∧Hid (s=sumC (ps.take k))∧Hid (Below w.heap.size w wr)) (fun _ j _=>n-(intOf j).toNat)
 case atStart=>exact⟨0,0,rfl,rfl,by omega,h,zh rfl,zh (Below.refl _ _)⟩
 case round=>
  clear h
  obtain⟨k,s,rfl,rfl,hk,h,HS,HB⟩:=hrel
  have ts:=take_sum (zu HP) k
  have s0:0≤s:=by rw[zu HS];omega
  by_cases t:k<n
  ·obtain⟨e0,e1,e2,e3,e4⟩:=h k (by omega)
   have ts1:=take_sum (zu HP) (k+1)
   have NX:=zh (sumC_next (ps:=ps) (k:=k) (by omega))
   rw[←zu HS] at NX
   have xp:=(zu HP) _ (getD_mem (ps:=ps) (i:=k) (by omega))
   unfold Pos at xp
   have b1:s+(el5 ps k).2.2.2.2≤1000000000000000:=by rw[←zu NX];omega
   have HA:=zh h
   clear h HS ts ts1
   obtain⟨⟨x31,x32⟩,x41,x42⟩:=xp
   generalize (el5 ps k).1=x0 at *
   generalize (el5 ps k).2.1=x1 at *
   generalize (el5 ps k).2.2.1=x2 at *
   generalize (el5 ps k).2.2.2.1=x3 at *
   generalize (el5 ps k).2.2.2.2=x4 at *
   have wS:IntKind.i64.wrap (s+x4)=s+x4:=by rw[IntKind.wrap_i64];omega
   go_wp2
   go_roundw
   case rel=>exact⟨k+1,s+x4,rfl,by go_num,by omega,zu HA,zh (zu NX).symm,HB⟩
   case measure=>simp[intOf];omega
  ·obtain rfl:k=n:=by omega
   have E:=zh (show s=sumC ps by rw[zu HS,List.take_of_length_le (by omega)])
   clear h HS ts
   go_wp2
   go_ret
   exact⟨by rw[←zu E];rfl,zu HB⟩
theorem sMerge(w:World)(ga na ca gb nb cb:Nat)(ps qs:List T5)(hl1:ps.length=na)(hl2:qs.length=nb)(h1:na≤100000)(h2:nb≤100000)(hga:ga<w.heap.size)(hgb:gb<w.heap.size)(ha:At5 w ga ps)(hb:At5 w gb qs):
  Calls Tryz.prog 107 #[.slice (some ⟨ga,0,none⟩) na ca,.slice (some ⟨gb,0,none⟩) nb cb] w fun e w'=>∃g' c',e= .returned (.slice (some ⟨g',0,none⟩) (na+nb) c')∧Own5 188 w' w.heap.size g' (na+nb) c' (mergeL (na+nb) ps qs)∧Below w.heap.size w w':=by
 have HA:=zh ha
 have HBB:=zh hb
 clear ha hb
 have O1:=zh (lit50 188 w w.heap.size (Nat.le_refl _))
 have B0:=zh (show Below w.heap.size w (w.alloc (.cells #[] 188)) from(Below.refl _ _).alloc (Nat.le_refl _) _)
 go_enter Tryz.func107,Tryz.ntmps107
 obtain⟨R,hR⟩:∃R,R=mergeL (na+nb) ps qs:=⟨_,rfl⟩
 have HR:=zh hR
 have RL:R.length=na+nb:=by rw[hR,merge_len _ _ _ (by omega),hl1,hl2]
 clear hR
 go_wp2
 generalize w.alloc (.cells #[] 188)=w0 at *
 go_loopw [5,6,7] (fun l j m wr=>∃(out:List T5) (gO c i k:Nat),l= .slice (some ⟨gO,0,none⟩) out.length c∧j= .int .i64 i∧m= .int .i64 k∧i≤na∧k≤nb∧Hid (out.length=i+k)∧Hid (Own5 188 wr w.heap.size gO out.length c out)∧Hid (out++mergeL (na+nb-(i+k)) (ps.drop i) (qs.drop k)=R)∧Hid (Below w.heap.size w wr)) (fun _ j m _=>na+nb-((intOf j).toNat+(intOf m).toNat))
 case atStart=>exact⟨[],w.heap.size,0,0,0,rfl,rfl,rfl,by omega,by omega,zh rfl,O1,zh (by rw[zu HR];rfl),B0⟩
 case round=>
  clear O1 B0
  obtain⟨out,gO,c,i,k,rfl,rfl,rfl,hi,hk,OL,HO,HE,HB⟩:=hrel
  have ob:out.length≤200000:=by have:=zu OL;omega
  have gl:=(zu HO).lt.2
  have bs:=(zu HB).size
  have gna:ga<wr.heap.size:=by omega
  have gnb:gb<wr.heap.size:=by omega
  rcases(show(i<na∧k<nb)∨(i<na∧k=nb)∨(i=na∧k<nb)∨(i=na∧k=nb) by omega) with⟨ti,tk⟩|⟨ti,rfl⟩|⟨rfl,tk⟩|⟨rfl,rfl⟩
  ·obtain⟨f0,f1,f2,f3,f4⟩:=(zu HA).below (zu HB) hga i (by omega)
   obtain⟨d0,d1,d2,d3,d4⟩:=(zu HBB).below (zu HB) hgb k (by omega)
   have DX:=zh (drop_next (ps:=ps) (k:=i) (by omega))
   have DY:=zh (drop_next (ps:=qs) (k:=k) (by omega))
   rw[drop_next (ps:=ps) (k:=i) (by omega),drop_next (ps:=qs) (k:=k) (by omega),show na+nb-(i+k)=(na+nb-(i+k+1))+1 by omega] at HE
   have kz:((k:Int)==(nb:Int))=false:=by rw[beq_eq_false_iff_ne];omega
   have ki:(i:Int)<(na:Int):=by omega
   have kk:(k:Int)<(nb:Int):=by omega
   have kn:¬((k:Int)=(nb:Int)):=by omega
   rw[show el5 ps i=((el5 ps i).1,(el5 ps i).2.1,(el5 ps i).2.2.1,(el5 ps i).2.2.2.1,(el5 ps i).2.2.2.2) from rfl] at HE DX
   generalize (el5 ps i).1=x0 at *
   generalize (el5 ps i).2.1=x1 at *
   generalize (el5 ps i).2.2.1=x2 at *
   generalize (el5 ps i).2.2.2.1=x3 at *
   generalize (el5 ps i).2.2.2.2=x4 at *
   rw[show el5 qs k=((el5 qs k).1,(el5 qs k).2.1,(el5 qs k).2.2.1,(el5 qs k).2.2.2.1,(el5 qs k).2.2.2.2) from rfl] at HE DY
   generalize (el5 qs k).1=y0 at *
   generalize (el5 qs k).2.1=y1 at *
   generalize (el5 qs k).2.2.1=y2 at *
   generalize (el5 qs k).2.2.2.1=y3 at *
   generalize (el5 qs k).2.2.2.2=y4 at *
   obtain⟨b2,B2⟩:=says_of (Bef (x0,x1,x2,x3,x4) (y0,y1,y2,y3,y4))
   go_wp2_with fail
   have Cx0:∀n:Near wr,n.u.cell? ⟨ga,i*5,none⟩=some (.int .i64 x0):=fun n=>(n.b.cell (p:=⟨ga,i*5,none⟩) gna).trans f0
   have Cx1:∀n:Near wr,n.u.cell? ⟨ga,i*5+1,none⟩=some (.int .i64 x1):=fun n=>(n.b.cell (p:=⟨ga,i*5+1,none⟩) gna).trans f1
   have Cx2:∀n:Near wr,n.u.cell? ⟨ga,i*5+2,none⟩=some (.int .i64 x2):=fun n=>(n.b.cell (p:=⟨ga,i*5+2,none⟩) gna).trans f2
   have Cx3:∀n:Near wr,n.u.cell? ⟨ga,i*5+3,none⟩=some (.int .i64 x3):=fun n=>(n.b.cell (p:=⟨ga,i*5+3,none⟩) gna).trans f3
   have Cx4:∀n:Near wr,n.u.cell? ⟨ga,i*5+4,none⟩=some (.int .i64 x4):=fun n=>(n.b.cell (p:=⟨ga,i*5+4,none⟩) gna).trans f4
   have Cy0:∀n:Near wr,n.u.cell? ⟨gb,k*5,none⟩=some (.int .i64 y0):=fun n=>(n.b.cell (p:=⟨gb,k*5,none⟩) gnb).trans d0
   have Cy1:∀n:Near wr,n.u.cell? ⟨gb,k*5+1,none⟩=some (.int .i64 y1):=fun n=>(n.b.cell (p:=⟨gb,k*5+1,none⟩) gnb).trans d1
   have Cy2:∀n:Near wr,n.u.cell? ⟨gb,k*5+2,none⟩=some (.int .i64 y2):=fun n=>(n.b.cell (p:=⟨gb,k*5+2,none⟩) gnb).trans d2
   have Cy3:∀n:Near wr,n.u.cell? ⟨gb,k*5+3,none⟩=some (.int .i64 y3):=fun n=>(n.b.cell (p:=⟨gb,k*5+3,none⟩) gnb).trans d3
   have Cy4:∀n:Near wr,n.u.cell? ⟨gb,k*5+4,none⟩=some (.int .i64 y4):=fun n=>(n.b.cell (p:=⟨gb,k*5+4,none⟩) gnb).trans d4
   have near:=near_is wr
   cases b2
   ·have HE:=zh (show out++((y0,y1,y2,y3,y4)::mergeL (na+nb-(i+k+1)) ((x0,x1,x2,x3,x4)::ps.drop (i+1)) (qs.drop (k+1)))=R from by rw[←zu HE,merge_no B2.no])
    refine quiet_near (by kernel_rfl) (by kernel_rfl) ?_
    repeat(go_big_quiet_step (first
     |(go_at_call 94
       rename_i nn
       refine(sBef x0 x1 x2 x3 x4 y0 y1 y2 y3 y4 false nn.u B2).mono ?_
       rintro e u6 ⟨rfl,b6⟩
       exact⟨rfl,⟨u6,next nn.b b6⟩,rfl⟩)))
    refine wpQuiet_nil ?_
    rintro u ⟨⟨_,b9⟩,rfl⟩
    have HO:=zh ((zu HO).below b9 gl)
    have HB:=zh (next (zu HB) b9)
    have z0:u.cell? ⟨gb,k*5,none⟩=some (.int .i64 y0):=(b9.cell (p:=⟨gb,k*5,none⟩) gnb).trans d0
    have z1:u.cell? ⟨gb,k*5+1,none⟩=some (.int .i64 y1):=(b9.cell (p:=⟨gb,k*5+1,none⟩) gnb).trans d1
    have z2:u.cell? ⟨gb,k*5+2,none⟩=some (.int .i64 y2):=(b9.cell (p:=⟨gb,k*5+2,none⟩) gnb).trans d2
    have z3:u.cell? ⟨gb,k*5+3,none⟩=some (.int .i64 y3):=(b9.cell (p:=⟨gb,k*5+3,none⟩) gnb).trans d3
    have z4:u.cell? ⟨gb,k*5+4,none⟩=some (.int .i64 y4):=(b9.cell (p:=⟨gb,k*5+4,none⟩) gnb).trans d4
    clear b9 near Cx0 Cy0 f0 d0 Cx1 Cy1 f1 d1 Cx2 Cy2 f2 d2 Cx3 Cy3 f3 d3 Cx4 Cy4 f4 d4
    have bs:=(zu HB).size
    have V5:=zh (show Holds5 (u.alloc (.cells #[.int .i64 y0,.int .i64 y1,.int .i64 y2,.int .i64 y3,.int .i64 y4] 188)) u.heap.size 0 (y0,y1,y2,y3,y4) from by unfold Holds5;simp)
    go_wp2_with (first|(at_builtin;refine LotApp.wp_app _ rfl _ _ rfl w.heap.size gO out.length c out u.heap.size y0 y1 y2 y3 y4 rfl rfl ((zu HO).alloc _) (zu V5) (by omega) (by simp;omega) ?_)|go_in)
    intro g5 c5 w5 o5 gr5 loc5
    have O5:=zh o5
    have B5:=zh (((zu HB).alloc bs (.cells #[.int .i64 y0,.int .i64 y1,.int .i64 y2,.int .i64 y3,.int .i64 y4] 188)).grown gr5 (by simp;omega) (fun j hj=>by cases hj;exact(zu HO).lt.1))
    have E5:=zh (show(out++[(y0,y1,y2,y3,y4)])++mergeL (na+nb-(i+k+1)) ((x0,x1,x2,x3,x4)::ps.drop (i+1)) (qs.drop (k+1))=R from by rw[List.append_assoc];exact zu HE)
    clear o5 gr5 loc5 V5 HE
    go_wp2
    go_roundw
    case rel=>exact⟨out++[(y0,y1,y2,y3,y4)],g5,c5,i,k+1,by rw[show(out++[(y0,y1,y2,y3,y4)]).length=out.length+1 by simp],by go_num,by go_num,by omega,by omega,zh (by have:=zu OL;simp;omega),zh (by rw[show(out++[(y0,y1,y2,y3,y4)]).length=out.length+1 by simp];exact zu O5),zh (by rw[show i+(k+1)=i+k+1 by omega,zu DX];exact zu E5),B5⟩
    case measure=>simp[intOf];omega
   ·have HE:=zh (show out++((x0,x1,x2,x3,x4)::mergeL (na+nb-(i+k+1)) (ps.drop (i+1)) ((y0,y1,y2,y3,y4)::qs.drop (k+1)))=R from by rw[←zu HE,merge_yes B2.yes])
    refine quiet_near (by kernel_rfl) (by kernel_rfl) ?_
    repeat(go_big_quiet_step (first
     |(go_at_call 94
       rename_i nn
       refine(sBef x0 x1 x2 x3 x4 y0 y1 y2 y3 y4 true nn.u B2).mono ?_
       rintro e u6 ⟨rfl,b6⟩
       exact⟨rfl,⟨u6,next nn.b b6⟩,rfl⟩)))
    refine wpQuiet_nil ?_
    rintro u ⟨⟨_,b9⟩,rfl⟩
    have HO:=zh ((zu HO).below b9 gl)
    have HB:=zh (next (zu HB) b9)
    have z0:u.cell? ⟨ga,i*5,none⟩=some (.int .i64 x0):=(b9.cell (p:=⟨ga,i*5,none⟩) gna).trans f0
    have z1:u.cell? ⟨ga,i*5+1,none⟩=some (.int .i64 x1):=(b9.cell (p:=⟨ga,i*5+1,none⟩) gna).trans f1
    have z2:u.cell? ⟨ga,i*5+2,none⟩=some (.int .i64 x2):=(b9.cell (p:=⟨ga,i*5+2,none⟩) gna).trans f2
    have z3:u.cell? ⟨ga,i*5+3,none⟩=some (.int .i64 x3):=(b9.cell (p:=⟨ga,i*5+3,none⟩) gna).trans f3
    have z4:u.cell? ⟨ga,i*5+4,none⟩=some (.int .i64 x4):=(b9.cell (p:=⟨ga,i*5+4,none⟩) gna).trans f4
    clear b9 near Cx0 Cy0 f0 d0 Cx1 Cy1 f1 d1 Cx2 Cy2 f2 d2 Cx3 Cy3 f3 d3 Cx4 Cy4 f4 d4
    have bs:=(zu HB).size
    have V5:=zh (show Holds5 (u.alloc (.cells #[.int .i64 x0,.int .i64 x1,.int .i64 x2,.int .i64 x3,.int .i64 x4] 188)) u.heap.size 0 (x0,x1,x2,x3,x4) from by unfold Holds5;simp)
    go_wp2_with (first|(at_builtin;refine LotApp.wp_app _ rfl _ _ rfl w.heap.size gO out.length c out u.heap.size x0 x1 x2 x3 x4 rfl rfl ((zu HO).alloc _) (zu V5) (by omega) (by simp;omega) ?_)|go_in)
    intro g5 c5 w5 o5 gr5 loc5
    have O5:=zh o5
    have B5:=zh (((zu HB).alloc bs (.cells #[.int .i64 x0,.int .i64 x1,.int .i64 x2,.int .i64 x3,.int .i64 x4] 188)).grown gr5 (by simp;omega) (fun j hj=>by cases hj;exact(zu HO).lt.1))
    have E5:=zh (show(out++[(x0,x1,x2,x3,x4)])++mergeL (na+nb-(i+k+1)) (ps.drop (i+1)) ((y0,y1,y2,y3,y4)::qs.drop (k+1))=R from by rw[List.append_assoc];exact zu HE)
    clear o5 gr5 loc5 V5 HE
    go_wp2
    go_roundw
    case rel=>exact⟨out++[(x0,x1,x2,x3,x4)],g5,c5,i+1,k,by rw[show(out++[(x0,x1,x2,x3,x4)]).length=out.length+1 by simp],by go_num,by go_num,by omega,by omega,zh (by have:=zu OL;simp;omega),zh (by rw[show(out++[(x0,x1,x2,x3,x4)]).length=out.length+1 by simp];exact zu O5),zh (by rw[show i+1+k=i+k+1 by omega,zu DY];exact zu E5),B5⟩
    case measure=>simp[intOf];omega
  ·obtain⟨f0,f1,f2,f3,f4⟩:=(zu HA).below (zu HB) hga i (by omega)
   have HE:=zh (show out++(el5 ps i::mergeL (na+k-(i+1+k)) (ps.drop (i+1)) (qs.drop k))=R from by
    rw[←zu HE]
    rw[List.drop_of_length_le (l:=qs) (by omega),merge_left _ _ (by simp;omega),merge_left _ _ (by simp;omega),←drop_next (by omega)])
   rw[show el5 ps i=((el5 ps i).1,(el5 ps i).2.1,(el5 ps i).2.2.1,(el5 ps i).2.2.2.1,(el5 ps i).2.2.2.2) from rfl] at HE
   generalize (el5 ps i).1=x0 at *
   generalize (el5 ps i).2.1=x1 at *
   generalize (el5 ps i).2.2.1=x2 at *
   generalize (el5 ps i).2.2.2.1=x3 at *
   generalize (el5 ps i).2.2.2.2=x4 at *
   have ki:(i:Int)<(na:Int):=by omega
   go_wp2_with fail
   go_quiet (fail)
   have HO:=zh (show Own5 188 (wr.drewN nq) w.heap.size gO out.length c out from zu HO)
   have HB:=zh (below_drewN (zu HB) nq)
   have f0:(wr.drewN nq).cell? ⟨ga,i*5,none⟩=some (.int .i64 x0):=f0
   have f1:(wr.drewN nq).cell? ⟨ga,i*5+1,none⟩=some (.int .i64 x1):=f1
   have f2:(wr.drewN nq).cell? ⟨ga,i*5+2,none⟩=some (.int .i64 x2):=f2
   have f3:(wr.drewN nq).cell? ⟨ga,i*5+3,none⟩=some (.int .i64 x3):=f3
   have f4:(wr.drewN nq).cell? ⟨ga,i*5+4,none⟩=some (.int .i64 x4):=f4
   clear gl bs gna gnb
   generalize wr.drewN nq=u at *
   have gl:=(zu HO).lt.2
   have bs:=(zu HB).size
   have V5:=zh (show Holds5 (u.alloc (.cells #[.int .i64 x0,.int .i64 x1,.int .i64 x2,.int .i64 x3,.int .i64 x4] 188)) u.heap.size 0 (x0,x1,x2,x3,x4) from by unfold Holds5;simp)
   go_wp2_with (first|(at_builtin;refine LotApp.wp_app _ rfl _ _ rfl w.heap.size gO out.length c out u.heap.size x0 x1 x2 x3 x4 rfl rfl ((zu HO).alloc _) (zu V5) (by omega) (by simp;omega) ?_)|go_in)
   intro g5 c5 w5 o5 gr5 loc5
   have O5:=zh o5
   have B5:=zh (((zu HB).alloc bs (.cells #[.int .i64 x0,.int .i64 x1,.int .i64 x2,.int .i64 x3,.int .i64 x4] 188)).grown gr5 (by simp;omega) (fun j hj=>by cases hj;exact(zu HO).lt.1))
   have E5:=zh (show(out++[(x0,x1,x2,x3,x4)])++mergeL (na+k-(i+1+k)) (ps.drop (i+1)) (qs.drop k)=R from by rw[List.append_assoc];exact zu HE)
   clear o5 gr5 loc5 V5 HE
   go_wp2
   go_roundw
   case rel=>exact⟨out++[(x0,x1,x2,x3,x4)],g5,c5,i+1,k,by rw[show(out++[(x0,x1,x2,x3,x4)]).length=out.length+1 by simp],by go_num,by go_num,by omega,by omega,zh (by have:=zu OL;simp;omega),zh (by rw[show(out++[(x0,x1,x2,x3,x4)]).length=out.length+1 by simp];exact zu O5),E5,B5⟩
   case measure=>simp[intOf];omega
  ·obtain⟨f0,f1,f2,f3,f4⟩:=(zu HBB).below (zu HB) hgb k (by omega)
   have HE:=zh (show out++(el5 qs k::mergeL (i+nb-(i+(k+1))) (ps.drop i) (qs.drop (k+1)))=R from by
    rw[←zu HE]
    rw[List.drop_of_length_le (l:=ps) (by omega),merge_right _ _ (by simp;omega),merge_right _ _ (by simp;omega),←drop_next (by omega)])
   rw[show el5 qs k=((el5 qs k).1,(el5 qs k).2.1,(el5 qs k).2.2.1,(el5 qs k).2.2.2.1,(el5 qs k).2.2.2.2) from rfl] at HE
   generalize (el5 qs k).1=y0 at *
   generalize (el5 qs k).2.1=y1 at *
   generalize (el5 qs k).2.2.1=y2 at *
   generalize (el5 qs k).2.2.2.1=y3 at *
   generalize (el5 qs k).2.2.2.2=y4 at *
   have kz:((k:Int)==(nb:Int))=false:=by rw[beq_eq_false_iff_ne];omega
   have kk:(k:Int)<(nb:Int):=by omega
   have kn:¬((k:Int)=(nb:Int)):=by omega
   go_wp2_with fail
   go_quiet (fail)
   have HO:=zh (show Own5 188 (wr.drewN nq) w.heap.size gO out.length c out from zu HO)
   have HB:=zh (below_drewN (zu HB) nq)
   have f0:(wr.drewN nq).cell? ⟨gb,k*5,none⟩=some (.int .i64 y0):=f0
   have f1:(wr.drewN nq).cell? ⟨gb,k*5+1,none⟩=some (.int .i64 y1):=f1
   have f2:(wr.drewN nq).cell? ⟨gb,k*5+2,none⟩=some (.int .i64 y2):=f2
   have f3:(wr.drewN nq).cell? ⟨gb,k*5+3,none⟩=some (.int .i64 y3):=f3
   have f4:(wr.drewN nq).cell? ⟨gb,k*5+4,none⟩=some (.int .i64 y4):=f4
   clear gl bs gna gnb
   generalize wr.drewN nq=u at *
   have gl:=(zu HO).lt.2
   have bs:=(zu HB).size
   have V5:=zh (show Holds5 (u.alloc (.cells #[.int .i64 y0,.int .i64 y1,.int .i64 y2,.int .i64 y3,.int .i64 y4] 188)) u.heap.size 0 (y0,y1,y2,y3,y4) from by unfold Holds5;simp)
   go_wp2_with (first|(at_builtin;refine LotApp.wp_app _ rfl _ _ rfl w.heap.size gO out.length c out u.heap.size y0 y1 y2 y3 y4 rfl rfl ((zu HO).alloc _) (zu V5) (by omega) (by simp;omega) ?_)|go_in)
   intro g5 c5 w5 o5 gr5 loc5
   have O5:=zh o5
   have B5:=zh (((zu HB).alloc bs (.cells #[.int .i64 y0,.int .i64 y1,.int .i64 y2,.int .i64 y3,.int .i64 y4] 188)).grown gr5 (by simp;omega) (fun j hj=>by cases hj;exact(zu HO).lt.1))
   have E5:=zh (show(out++[(y0,y1,y2,y3,y4)])++mergeL (i+nb-(i+(k+1))) (ps.drop i) (qs.drop (k+1))=R from by rw[List.append_assoc];exact zu HE)
   clear o5 gr5 loc5 V5 HE
   go_wp2
   go_roundw
   case rel=>exact⟨out++[(y0,y1,y2,y3,y4)],g5,c5,i,k+1,by rw[show(out++[(y0,y1,y2,y3,y4)]).length=out.length+1 by simp],by go_num,by go_num,by omega,by omega,zh (by have:=zu OL;simp;omega),zh (by rw[show(out++[(y0,y1,y2,y3,y4)]).length=out.length+1 by simp];exact zu O5),E5,B5⟩
   case measure=>simp[intOf];omega
  ·have E:=zh (show out=R from by
    have:=zu HE
    rw[show i+k-(i+k)=0 by omega] at this
    simpa[mergeL] using this)
   clear HE
   go_wp2
   go_ret
   rw[←zu HR,←zu E,←zu OL]
   exact⟨gO,c,rfl,zu HO,zu HB⟩
end SSplit
namespace SMean
open Tup5 Lots Takes SOk5 SSplit
theorem sMin(x q t:Int)(w:World)(ht:Hid (prt q x=t)):Calls Tryz.prog 62 #[.int .i64 x,.int .i64 q] w fun e w'=>e= .returned (.int .i64 t)∧w'=w:=by
 by_cases h:x<q
 ·obtain rfl:t=x:=by rw[←zu ht];unfold prt;split<;>omega
  go_enter Tryz.func62,Tryz.ntmps62
  go_wp2
  go_ret
  exact⟨rfl,rfl⟩
 ·obtain rfl:t=q:=by rw[←zu ht];unfold prt;split<;>omega
  go_enter Tryz.func62,Tryz.ntmps62
  go_wp2
  go_ret
  exact⟨rfl,rfl⟩
theorem md_tells{a b c:Int}(a0:0≤a)(a1:a≤1000000000000000)(b0:0≤b)(bc:b≤c)(c0:1≤c):MulC.Tells a b c (a*b/c) (a*b%c) true:=
 .inl ⟨Int.le_trans (div_le a0 b0 bc c0).2 a1,rfl,rfl,rfl⟩
theorem sMean(w:World)(g n cap:Nat)(ps:List T5)(q:Int)(hl:ps.length=n)(h20:n≤1048576)(n0:0<n)(hg:g<w.heap.size)(h:At5 w g ps)(hp:∀p∈ps,Pos p)(hs:sumQ ps≤1000000000000000∧sumC ps≤1000000000000000)(q1:1≤q)(q2:q≤sumQ ps):
  Calls Tryz.prog 112 #[.slice (some ⟨g,0,none⟩) n cap,.int .i64 q] w fun e w'=>∃g' c',e= .returned (.tuple #[.slice (some ⟨g',0,none⟩) (meanL ps q).length c',.int .i64 (meanC ps q)])∧Own5 188 w' w.heap.size g' (meanL ps q).length c' (meanL ps q)∧Below w.heap.size w w':=by
 have sp:=sum_pos ps hp
 have H:=zh h
 have HP:=zh hp
 clear h hp
 obtain⟨Q,hQ⟩:∃Q,Hid (sumQ ps=Q):=⟨_,rfl⟩
 obtain⟨C,hC⟩:∃C,Hid (sumC ps=C):=⟨_,rfl⟩
 obtain⟨t,ht⟩:∃t,Hid (C*q/Q=t):=⟨_,rfl⟩
 have EC:=zh (show meanC ps q=t by unfold meanC;rw[zu hQ,zu hC,zu ht])
 have EL:=zh (show meanL ps q=if q=Q then[] else[((el5 ps 0).1,(el5 ps 0).2.1,(el5 ps 0).2.2.1,Q-q,C-t)] by unfold meanL;rw[zu hQ,zu hC,zu ht])
 rw[zu hQ] at q2 hs sp
 rw[zu hC] at hs sp
 have td:=div_le (c:=C) (t:=q) (x:=Q) sp.2 (by omega) q2 (by omega)
 have MT:=zh (md_tells (a:=C) (b:=q) (c:=Q) sp.2 hs.2 (by omega) q2 (by omega))
 rw[zu ht] at td MT
 go_enter Tryz.func112,Tryz.ntmps112
 go_wp2_with fail
 refine(sQty w g n cap ps hl h20 (zu H) (zu HP) (by rw[zu hQ];exact hs.1)).mono ?_
 rw[zu hQ]
 rintro e w1 ⟨rfl,b1⟩
 have H1:=zh ((zu H).below b1 hg)
 have B1:=zh b1
 have hg1:=Nat.lt_of_lt_of_le hg b1.size
 clear b1
 go_wp2_with fail
 refine(sCost w1 g n cap ps hl h20 (zu H1) (zu HP) (by rw[zu hC];exact hs.2)).mono ?_
 rw[zu hC]
 rintro e w2 ⟨rfl,b2⟩
 have H2:=zh ((zu H1).below b2 hg1)
 have B2:=zh (next (zu B1) b2)
 have hg2:=Nat.lt_of_lt_of_le hg1 b2.size
 clear b2 H1 B1 H
 have c0:=sp.2
 have c1:=hs.2
 have q3:=hs.1
 go_wp2_with fail
 refine(MulC.sMD C q Q t (C*q%Q) true _ c0 c1 (by omega) (by omega) (by omega) q3 MT).mono ?_
 rintro e w3 ⟨rfl,rfl⟩
 by_cases e:q=Q
 ·have EL:=zh ((zu EL).trans (if_pos e))
  have O1:=zh (lit50 188 w3 w.heap.size (zu B2).size)
  have B3:=zh ((zu B2).alloc (zu B2).size (.cells #[] 188))
  have eq:(Q==q)=true:=by simpa using e.symm
  go_wp2
  go_ret2
  rw[zu EL,zu EC]
  exact⟨w3.heap.size,0,rfl,zu O1,zu B3⟩
 ·have EL:=zh ((zu EL).trans (if_neg e))
  have ne:(Q==q)=false:=by rw[beq_eq_false_iff_ne];exact fun h=>e h.symm
  obtain⟨e0,e1,e2,e3,e4⟩:=(zu H2) 0 (by omega)
  generalize (el5 ps 0).1=x0 at *
  generalize (el5 ps 0).2.1=x1 at *
  generalize (el5 ps 0).2.2.1=x2 at *
  generalize (el5 ps 0).2.2.2.1=x3 at *
  generalize (el5 ps 0).2.2.2.2=x4 at *
  have B3:=zh ((zu B2).alloc (zu B2).size (.cells #[.int .i64 x0,.int .i64 x1,.int .i64 x2,.int .i64 (Q-q),.int .i64 (C-t)] 188))
  have O1:=zh (lit51 188 (w3.alloc (.cells #[.int .i64 x0,.int .i64 x1,.int .i64 x2,.int .i64 (Q-q),.int .i64 (C-t)] 188)) w.heap.size x0 x1 x2 (Q-q) (C-t) (zu B3).size)
  simp only[World.size_alloc] at O1
  have B4:=zh ((zu B3).alloc (zu B3).size (.cells #[.int .i64 x0,.int .i64 x1,.int .i64 x2,.int .i64 (Q-q),.int .i64 (C-t)] 188))
  go_wp2
  go_ret2
  rw[zu EL,zu EC]
  exact⟨w3.heap.size+1,1,rfl,zu O1,zu B4⟩
end SMean
end Go.Proofs.YtcjgepkdpkhljaaGreat
