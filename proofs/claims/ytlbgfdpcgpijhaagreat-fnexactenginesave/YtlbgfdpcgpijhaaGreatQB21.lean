/- Texts of one proof. -/
import Derived.Test.YtlbgfdpcgpijhaaGreatQB7
import Derived.Test.YtlbgfdpcgpijhaaGreatQB19
open Go.ChangeShapes Go.WideShapes Go.ChangeAt Go.RowKit
set_option linter.unusedVariables false
set_option linter.unusedSimpArgs false
set_option maxRecDepth 100000
set_option maxHeartbeats 32000000
namespace Go.Proofs.YtlbgfdpcgpijhaaGreat
namespace SSplit
open Tup5 Lots Takes SOk5 Quieter
theorem sSplit(w:World)(g n cap:Nat)(ps:List T5)(a i:Int)(hl:ps.length=n)(h20:n≤100000)(hg:g<w.heap.size)(h:At5 w g ps):
  Calls Tryz.prog 137 #[.slice (some ⟨g,0,none⟩) n cap,.int .i64 a,.int .i64 i] w fun e w'=>∃g1 c1 g2 c2,e= .returned (.tuple #[.slice (some ⟨g1,0,none⟩) (ownL ps a i).length c1,.slice (some ⟨g2,0,none⟩) (restL ps a i).length c2])∧Own5 113 w' w.heap.size g1 (ownL ps a i).length c1 (ownL ps a i)∧Own5 113 w' w.heap.size g2 (restL ps a i).length c2 (restL ps a i)∧g1≠g2∧Below w.heap.size w w':=by
 have H:=zh h
 clear h
 have O1:=zh ((lit50 113 w w.heap.size (Nat.le_refl _)).alloc (.cells #[] 113))
 have O2:=zh (lit50 113 (w.alloc (.cells #[] 113)) w.heap.size (by simp))
 have B0:=zh (show Below w.heap.size w ((w.alloc (.cells #[] 113)).alloc (.cells #[] 113)) from((Below.refl _ _).alloc (Nat.le_refl _) _).alloc (by simp) _)
 simp only[World.size_alloc] at O2
 go_enter Tryz.func137,Tryz.ntmps137
 go_wp2
 generalize (w.alloc (.cells #[] 113)).alloc (.cells #[] 113)=w0 at *
 go_loopw [8,9,10] (fun l m j wr=>∃(p q:List T5) (g1 c1 g2 c2 k:Nat),l= .slice (some ⟨g1,0,none⟩) p.length c1∧m= .slice (some ⟨g2,0,none⟩) q.length c2∧j= .int .i64 k∧k≤n∧p.length≤k∧q.length≤k∧g1≠g2∧Hid (p=ownL (ps.take k) a i)∧Hid (q=restL (ps.take k) a i)∧Hid (Own5 113 wr w.heap.size g1 p.length c1 p)∧Hid (Own5 113 wr w.heap.size g2 q.length c2 q)∧Hid (Below w.heap.size w wr)) (fun _ _ j _=>n-(intOf j).toNat)
 case atStart=>exact⟨[],[],w.heap.size,0,w.heap.size+1,0,0,rfl,rfl,rfl,by omega,by simp,by simp,by omega,zh rfl,zh rfl,O1,O2,B0⟩
 case round=>
  clear O1 O2 B0
  obtain⟨p,q,g1,c1,g2,c2,k,rfl,rfl,rfl,hk,pl,ql,g12,HP,HQ,H1,H2,HB⟩:=hrel
  have bs:=(zu HB).size
  have gl1:=(zu H1).lt.2
  have gl2:=(zu H2).lt.2
  by_cases t:k<n
  ·obtain⟨e0,e1,e2,e3,e4⟩:=(zu H).below (zu HB) hg k (by omega)
   have NP:=zh (own_next (ps:=ps) (k:=k) (by omega) a i)
   have NQ:=zh (rest_next (ps:=ps) (k:=k) (by omega) a i)
   rw[←zu HP] at NP
   rw[←zu HQ] at NQ
   have EQ:el5 ps k=((el5 ps k).1,(el5 ps k).2.1,(el5 ps k).2.2.1,(el5 ps k).2.2.2.1,(el5 ps k).2.2.2.2):=rfl
   rw[EQ] at NP NQ
   clear EQ HP HQ
   generalize (el5 ps k).1=x0 at *
   generalize (el5 ps k).2.1=x1 at *
   generalize (el5 ps k).2.2.1=x2 at *
   generalize (el5 ps k).2.2.2.1=x3 at *
   generalize (el5 ps k).2.2.2.2=x4 at *
   have V5:=zh (show Holds5 (wr.alloc (.cells #[.int .i64 x0,.int .i64 x1,.int .i64 x2,.int .i64 x3,.int .i64 x4] 113)) wr.heap.size 0 (x0,x1,x2,x3,x4) from by unfold Holds5;simp)
   by_cases own:x0=a∧x1=i
   ·have NP1:Hid (ownL (ps.take (k+1)) a i=p++[(x0,x1,x2,x3,x4)]):=zh (by rw[zu NP,if_pos own])
    have NQ1:Hid (restL (ps.take (k+1)) a i=q):=zh (by rw[zu NQ,if_pos own,List.append_nil])
    clear NP NQ
    obtain⟨rfl,rfl⟩:=own
    go_wp2_with (first|(at_builtin;refine LotApp.wp_app _ rfl _ _ rfl w.heap.size g1 p.length c1 p wr.heap.size x0 x1 x2 x3 x4 rfl rfl ((zu H1).alloc _) (zu V5) (by omega) (by simp;omega) ?_)|go_in)
    intro g5 c5 w5 o5 gr5 loc5
    have O5:=zh o5
    have K5:=zh (((zu H2).alloc (.cells #[.int .i64 x0,.int .i64 x1,.int .i64 x2,.int .i64 x3,.int .i64 x4] 113)).kept gr5 (by simp;omega))
    have B5:=zh (((zu HB).alloc bs (.cells #[.int .i64 x0,.int .i64 x1,.int .i64 x2,.int .i64 x3,.int .i64 x4] 113)).grown gr5 (by simp;omega) (fun j hj=>by cases hj;exact(zu H1).lt.1))
    have g5B:g5≠g2:=by
     try simp at loc5
     omega
    clear o5 gr5 loc5 V5
    go_wp2
    go_roundw
    case rel=>exact⟨p++[(x0,x1,x2,x3,x4)],q,g5,c5,g2,c2,k+1,by rw[show(p++[(x0,x1,x2,x3,x4)]).length=p.length+1 by simp],rfl,by go_num,by omega,by simp;omega,by omega,g5B,zh (zu NP1).symm,zh (zu NQ1).symm,zh (by rw[show(p++[(x0,x1,x2,x3,x4)]).length=p.length+1 by simp];exact zu O5),K5,B5⟩
    case measure=>simp[intOf];omega
   ·have NP1:Hid (ownL (ps.take (k+1)) a i=p):=zh (by rw[zu NP,if_neg own,List.append_nil])
    have NQ1:Hid (restL (ps.take (k+1)) a i=q++[(x0,x1,x2,x3,x4)]):=zh (by rw[zu NQ,if_neg own])
    clear NP NQ
    rcases(show x0≠a∨(x0=a∧x1≠i) by omega) with o2|⟨rfl,o2⟩
    ·have ob:(x0==a)=false:=by simpa using o2
     go_wp2_with (first|(at_builtin;refine LotApp.wp_app _ rfl _ _ rfl w.heap.size g2 q.length c2 q wr.heap.size x0 x1 x2 x3 x4 rfl rfl ((zu H2).alloc _) (zu V5) (by omega) (by simp;omega) ?_)|go_in)
     intro g5 c5 w5 o5 gr5 loc5
     have O5:=zh o5
     have K5:=zh (((zu H1).alloc (.cells #[.int .i64 x0,.int .i64 x1,.int .i64 x2,.int .i64 x3,.int .i64 x4] 113)).kept gr5 (by simp;omega))
     have B5:=zh (((zu HB).alloc bs (.cells #[.int .i64 x0,.int .i64 x1,.int .i64 x2,.int .i64 x3,.int .i64 x4] 113)).grown gr5 (by simp;omega) (fun j hj=>by cases hj;exact(zu H2).lt.1))
     have g5B:g5≠g1:=by
      try simp at loc5
      omega
     clear o5 gr5 loc5 V5
     go_wp2
     go_roundw
     case rel=>exact⟨p,q++[(x0,x1,x2,x3,x4)],g1,c1,g5,c5,k+1,rfl,by rw[show(q++[(x0,x1,x2,x3,x4)]).length=q.length+1 by simp],by go_num,by omega,by omega,by simp;omega,fun e=>g5B e.symm,zh (zu NP1).symm,zh (zu NQ1).symm,K5,zh (by rw[show(q++[(x0,x1,x2,x3,x4)]).length=q.length+1 by simp];exact zu O5),B5⟩
     case measure=>simp[intOf];omega
    ·have ob:(x1==i)=false:=by simpa using o2
     go_wp2_with (first|(at_builtin;refine LotApp.wp_app _ rfl _ _ rfl w.heap.size g2 q.length c2 q wr.heap.size x0 x1 x2 x3 x4 rfl rfl ((zu H2).alloc _) (zu V5) (by omega) (by simp;omega) ?_)|go_in)
     intro g5 c5 w5 o5 gr5 loc5
     have O5:=zh o5
     have K5:=zh (((zu H1).alloc (.cells #[.int .i64 x0,.int .i64 x1,.int .i64 x2,.int .i64 x3,.int .i64 x4] 113)).kept gr5 (by simp;omega))
     have B5:=zh (((zu HB).alloc bs (.cells #[.int .i64 x0,.int .i64 x1,.int .i64 x2,.int .i64 x3,.int .i64 x4] 113)).grown gr5 (by simp;omega) (fun j hj=>by cases hj;exact(zu H2).lt.1))
     have g5B:g5≠g1:=by
      try simp at loc5
      omega
     clear o5 gr5 loc5 V5
     go_wp2
     go_roundw
     case rel=>exact⟨p,q++[(x0,x1,x2,x3,x4)],g1,c1,g5,c5,k+1,rfl,by rw[show(q++[(x0,x1,x2,x3,x4)]).length=q.length+1 by simp],by go_num,by omega,by omega,by simp;omega,fun e=>g5B e.symm,zh (zu NP1).symm,zh (zu NQ1).symm,K5,zh (by rw[show(q++[(x0,x1,x2,x3,x4)]).length=q.length+1 by simp];exact zu O5),B5⟩
     case measure=>simp[intOf];omega
  ·obtain rfl:k=n:=by omega
   have EP:=zh (show p=ownL ps a i by rw[zu HP,List.take_of_length_le (by omega)])
   have EQ:=zh (show q=restL ps a i by rw[zu HQ,List.take_of_length_le (by omega)])
   clear HP HQ
   go_wp2
   go_ret2
   rw[←zu EP,←zu EQ]
   exact⟨g1,c1,g2,c2,rfl,zu H1,zu H2,g12,zu HB⟩
theorem take_sum{ps:List T5}(h:∀p∈ps,Pos p)(k:Nat):0≤sumQ (ps.take k)∧sumQ (ps.take k)≤sumQ ps∧0≤sumC (ps.take k)∧sumC (ps.take k)≤sumC ps:=by
 have e:ps=ps.take k++ps.drop k:=(List.take_append_drop k ps).symm
 have p1:=sum_pos (ps.take k) (fun p hp=>h p (List.mem_of_mem_take hp))
 have p2:=sum_pos (ps.drop k) (fun p hp=>h p (List.mem_of_mem_drop hp))
 have e1:=sumQ_append (ps.take k) (ps.drop k)
 have e2:=sumC_append (ps.take k) (ps.drop k)
 rw[←e] at e1 e2
 omega
theorem sQty(w:World)(g n cap:Nat)(ps:List T5)(hl:ps.length=n)(h20:n≤1048576)(h:At5 w g ps)(hp:∀p∈ps,Pos p)(hs:sumQ ps≤1000000000000000):
  Calls Tryz.prog 138 #[.slice (some ⟨g,0,none⟩) n cap] w fun e w'=>e= .returned (.int .i64 (sumQ ps))∧Below w.heap.size w w':=by
 have HP:=zh hp
 clear hp
 go_enter Tryz.func138,Tryz.ntmps138
 go_wp2
 go_loopw [3,4] (fun q j wr=>∃(k:Nat) (s:Int),q= .int .i64 s∧j= .int .i64 k∧k≤n∧At5 wr g ps∧Hid (s=sumQ (ps.take k))∧Hid (Below w.heap.size w wr)) (fun _ j _=>n-(intOf j).toNat)
 case atStart=>exact⟨0,0,rfl,rfl,by omega,h,zh rfl,zh (Below.refl _ _)⟩
 case round=>
  clear h
  obtain⟨k,s,rfl,rfl,hk,h,HS,HB⟩:=hrel
  have ts:=take_sum (zu HP) k
  have s0:0≤s:=by rw[zu HS];omega
  by_cases t:k<n
  ·obtain⟨e0,e1,e2,e3,e4⟩:=h k (by omega)
   have ts1:=take_sum (zu HP) (k+1)
   have NX:=zh (sumQ_next (ps:=ps) (k:=k) (by omega))
   rw[←zu HS] at NX
   have xp:=(zu HP) _ (getD_mem (ps:=ps) (i:=k) (by omega))
   unfold Pos at xp
   have b1:s+(el5 ps k).2.2.2.1≤1000000000000000:=by rw[←zu NX];omega
   have HA:=zh h
   clear h HS ts ts1
   obtain⟨⟨x31,x32⟩,x41,x42⟩:=xp
   generalize (el5 ps k).1=x0 at *
   generalize (el5 ps k).2.1=x1 at *
   generalize (el5 ps k).2.2.1=x2 at *
   generalize (el5 ps k).2.2.2.1=x3 at *
   generalize (el5 ps k).2.2.2.2=x4 at *
   have wS:IntKind.i64.wrap (s+x3)=s+x3:=by rw[IntKind.wrap_i64];omega
   go_wp2
   go_roundw
   case rel=>exact⟨k+1,s+x3,rfl,by go_num,by omega,zu HA,zh (zu NX).symm,HB⟩
   case measure=>simp[intOf];omega
  ·obtain rfl:k=n:=by omega
   have E:=zh (show s=sumQ ps by rw[zu HS,List.take_of_length_le (by omega)])
   clear h HS ts
   go_wp2
   go_ret
   exact⟨by rw[←zu E];rfl,zu HB⟩
end SSplit
end Go.Proofs.YtlbgfdpcgpijhaaGreat
