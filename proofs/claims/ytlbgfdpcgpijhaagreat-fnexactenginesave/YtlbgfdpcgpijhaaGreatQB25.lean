/- Texts of one proof. -/
import Derived.Test.YtlbgfdpcgpijhaaGreatQB13
import Derived.Test.YtlbgfdpcgpijhaaGreatQB24
open Go.ChangeShapes Go.WideShapes Go.ChangeAt Go.RowKit
set_option linter.unusedVariables false
set_option linter.unusedSimpArgs false
set_option maxRecDepth 100000
set_option maxHeartbeats 32000000
namespace Go.Proofs.YtlbgfdpcgpijhaaGreat
namespace Out
open Bals Triples Cmp Tab Look Sort3
def Coll(qs:List T3)(f:Int→Int→Int)(left:Int→Int→Bool):Prop:=
 qs.Pairwise (fun p q=>other p q)∧∀p:T3,p∈qs↔p.2.2≠0∧f p.1 p.2.1=p.2.2∧Wf p.1 p.2.1∧left p.1 p.2.1=false
theorem coll_start{f:Int→Int→Int}{left:Int→Int→Bool}(h:∀a i,f a i≠0→left a i=true):Coll [] f left:=by
 refine⟨List.Pairwise.nil,fun p=>⟨fun h=>absurd h List.not_mem_nil,fun⟨h1,h2,_,h3⟩=>?_⟩⟩
 rw[h p.1 p.2.1 (by rw[h2];exact h1)] at h3
 cases h3
theorem coll_zero{qs:List T3}{f:Int→Int→Int}{left left':Int→Int→Bool}{a i:Int}(h:Coll qs f left)(hl:∀b j,Wf b j→left' b j=(left b j&& !decide (b=a∧j=i)))(hz:f a i=0):Coll qs f left':=by
 refine⟨h.1,fun p=>?_⟩
 rw[h.2 p]
 constructor
 ·rintro⟨h1,h2,h3,h4⟩
  exact⟨h1,h2,h3,by rw[hl _ _ h3,h4];rfl⟩
 ·rintro⟨h1,h2,h3,h4⟩
  refine⟨h1,h2,h3,?_⟩
  rw[hl _ _ h3] at h4
  by_cases e:p.1=a∧p.2.1=i
  ·rw[e.1,e.2,hz] at h2
   exact absurd h2.symm h1
  ·simpa[e] using h4
theorem coll_more{qs:List T3}{f:Int→Int→Int}{left left':Int→Int→Bool}{a i:Int}(h:Coll qs f left)(hw:Wf a i)(hla:left a i=true)(hl:∀b j,Wf b j→left' b j=(left b j&& !decide (b=a∧j=i)))(hz:f a i≠0):Coll (qs++[(a,i,f a i)]) f left':=by
 refine⟨?_,fun p=>?_⟩
 ·rw[List.pairwise_append]
  refine⟨h.1,List.pairwise_singleton _ _,fun p hp q hq=>?_⟩
  rw[List.mem_singleton] at hq
  subst hq
  obtain⟨_,_,_,h4⟩:=(h.2 p).1 hp
  unfold other
  show a≠p.1∨i≠p.2.1
  refine Classical.byContradiction fun n=>?_
  have n1:p.1=a:=Classical.byContradiction fun q=>n (.inl (Ne.symm q))
  have n2:p.2.1=i:=Classical.byContradiction fun q=>n (.inr (Ne.symm q))
  rw[n1,n2,hla] at h4
  cases h4
 ·rw[List.mem_append,List.mem_singleton,h.2 p]
  constructor
  ·rintro(⟨h1,h2,h3,h4⟩|rfl)
   ·exact⟨h1,h2,h3,by rw[hl _ _ h3,h4];rfl⟩
   ·exact⟨hz,rfl,hw,by rw[hl _ _ hw];simp⟩
  ·rintro⟨h1,h2,h3,h4⟩
   by_cases e:p.1=a∧p.2.1=i
   ·obtain⟨p1,p2,p3⟩:=p
    obtain⟨rfl,rfl⟩:=e
    simp only at h2
    subst h2
    exact .inr rfl
   ·rw[hl _ _ h3] at h4
    exact .inl ⟨h1,h2,h3,by simpa[e] using h4⟩
theorem coll_end{qs rs:List T3}{f:Int→Int→Int}{left:Int→Int→Bool}(h:Coll qs f left)(hf:∀a i,f a i≠0→Wf a i)(hl:∀a i,Wf a i→left a i=false)(hp:rs.Perm qs)(hs:rs.Pairwise (fun p q=>¬Bef q p)):ListOf f rs:=by
 have hd:rs.Pairwise (fun p q=>other p q):=(hp.pairwise_iff (fun{a b} (o:other a b)=>by unfold other at o⊢;rcases o with o|o;exact .inl (Ne.symm o);exact .inr (Ne.symm o))).2 h.1
 have asc:rs.Pairwise Bef:=by
  rw[List.pairwise_iff_getElem] at hs hd⊢
  intro i j hi hj hij
  have h1:=hs i j hi hj hij
  have h2:=hd i j hi hj hij
  unfold other at h2
  unfold Bef at h1⊢
  omega
 have mem:∀p:T3,p∈rs↔p.2.2≠0∧f p.1 p.2.1=p.2.2:=fun p=>by
  rw[hp.mem_iff,h.2 p]
  constructor
  ·rintro⟨h1,h2,_⟩
   exact⟨h1,h2⟩
  ·rintro⟨h1,h2⟩
   have w:=hf p.1 p.2.1 (by rw[h2];exact h1)
   exact⟨h1,h2,w,hl _ _ w⟩
 refine⟨⟨asc,fun p hp'=>((mem p).1 hp').1⟩,fun a i=>?_⟩
 by_cases z:f a i=0
 ·rw[z]
  refine Classical.byContradiction fun nz=>?_
  have hm:=val_mem rs a i nz
  have:=((mem _).1 hm).2
  simp only at this
  rw[z] at this
  exact nz this.symm
 ·have hm:=(mem (a,i,f a i)).2 ⟨z,rfl⟩
  exact val_of_mem rs asc _ hm
theorem own_apart{e:TypeId}{w:World}{base g n cap:Nat}{ps:List T3}{B r m:Nat}{f:Int→Int→Int}{left:Int→Int→Bool}{cnt:Nat}(h:Own3 e w base g n cap ps)(k:RTab w B r m f left cnt):g≠B∧g≠r:=by
 obtain⟨D,lf,⟨es,clock,since,seen,c0,hb,_,_,_,hr,_⟩,_⟩:=k
 rcases h.2 with⟨z,_⟩|⟨g',c,cur,z,_,hc,_⟩
 ·simp at z
 ·obtain⟨rfl,rfl⟩:g=g'∧cap=c:=by simpa using z
  constructor
  ·intro e
   rw[e,hb] at hc
   simp at hc
  ·intro e
   rw[e,hr] at hc
   simp at hc
theorem Tab.wf{w:World}{B n:Nat}{f:Int→Int→Int}(h:Tab w B n f):∀a i,f a i≠0→Wf a i:=by
 obtain⟨D,_,h2⟩:=h
 exact h2.2
theorem iBals(w:World)(B n:Nat)(f:Int→Int→Int)(hn:n≤100000)(ht:Tab w B n f):
  Calls Tryz.prog 158 #[.map (some B)] w fun e w'=>∃qs g c,ListOf f qs∧qs.length≤n∧e= .returned (.slice (some ⟨g,0,none⟩) qs.length c)∧Own3 111 w' w.heap.size g qs.length c qs∧Below w.heap.size w w':=by
 have hB:=ht.lt
 have HWF:=zh (Tab.wf ht)
 have t1:=ht.kept (World.grownBy_alloc w (.cells #[] 111) none) (by simp)
 have HT:=zh t1
 have O0:=zh (lit30 111 w w.heap.size (Nat.le_refl _))
 have B0:=zh (show Below w.heap.size w (w.alloc (.cells #[] 111)) from(Below.refl _ _).alloc (Nat.le_refl _) _)
 clear ht t1
 go_enter Tryz.func158,Tryz.ntmps158
 go_wp2_with (first|(at_range;refine wp_range _ rfl _ 178 rfl Tryz.underlying178 B n f rfl (zu HT) ?_;intro w0 left0 cnt0 rt0 c0 lz0 g0 s0)|go_in)
 go_frame
 have RT:=zh rt0
 have CO:=zh (coll_start lz0)
 have O1:=zh ((zu O0).kept g0 (by simp))
 have B1:=zh (next (zu B0) (grownBy_below g0))
 clear rt0 lz0 g0 HT O0 B0
 simp only[World.size_alloc] at RT s0
 simp only[World.size_alloc]
 generalize hR:w.heap.size+1=R at *
 have hRl:w.heap.size<R:=by omega
 go_loopw [3,4,5] (fun l _ _ wr=>∃(qs:List T3) (g c:Nat) (left:Int→Int→Bool) (cnt:Nat),l= .slice (some ⟨g,0,none⟩) qs.length c∧Hid (Own3 111 wr w.heap.size g qs.length c qs)∧Hid (RTab wr B R n f left cnt)∧Hid (Coll qs f left)∧qs.length+cnt≤n∧Hid (Below w.heap.size w wr)) (fun _ _ _ wr=>wr.rangeLeft B R)
 case atStart=>exact⟨[],w.heap.size,0,left0,cnt0,rfl,O1,RT,CO,by simpa using c0,B1⟩
 case round=>
  clear RT CO O1 B1 c0 s0
  obtain⟨qs,g,c,left,cnt,rfl,HO,RT,CO,hc,HB⟩:=hrel
  go_wp2_with (first|(at_next;refine wp_next _ rfl _ rfl B R n f left cnt rfl (zu RT) ?_ ?_)|go_in)
  ·intro c0 l0
   have LZ:=zh l0
   have sz:=(zu HO).lt
   clear l0
   go_wp2_with fail
   refine(sorts _ w.heap.size g qs.length c qs (by omega) (zu HO)).mono ?_
   rintro e w2 ⟨rfl,rs,hp,hs,o2,b2⟩
   have LO:=zh (coll_end (zu CO) (zu HWF) (zu LZ) hp hs)
   have el:rs.length=qs.length:=hp.length_eq
   have O2:=zh o2
   have B2:=zh ((zu HB).trans (b2.mono sz.1))
   clear hp hs o2 b2
   go_wp2
   go_ret
   exact⟨rs,g,c,zu LO,by omega,by rw[el];rfl,by rw[el];exact zu O2,zu B2⟩
  ·intro a i w2 left2 cnt2 wf wv la l2 rt2 lt2 g2 s2 hen
   have l2:∀b j,Wf b j→left2 b j=(left b j&& !decide (b=a∧j=i)):=fun b j h=>by
    rw[l2 b j h]
    by_cases e1:b=a<;>by_cases e2:j=i<;>simp[e1,e2]
   have ap:=own_apart (zu HO) (zu RT)
   have ML:=zh (show w2.rangeLeft B R<wr.rangeLeft B R by rw[rt2.lt.2.2.2,(zu RT).lt.2.2.2];exact lt2)
   have RT2:=zh rt2
   have O2:=zh ((zu HO).kept g2 (by simp;exact ap.2))
   have B2:=zh ((zu HB).grown g2 (zu HB).size (fun j hj=>by cases hj;exact Nat.le_of_lt hRl))
   have CZ:=zh (fun hz=>coll_zero (zu CO) l2 hz)
   have CM:=zh (fun hz=>coll_more (zu CO) wf la l2 hz)
   clear rt2 l2 g2 s2 la wf wv CO
   generalize f a i=v at *
   have O3:=zh ((zu O2).alloc (.cells #[.int .i64 a,.int .i64 i] 180))
   have R3:=zh ((zu RT2).kept (World.grownBy_alloc w2 (.cells #[.int .i64 a,.int .i64 i] 180) none) (by simp) (by simp))
   have B3:=zh ((zu B2).alloc (zu B2).size (.cells #[.int .i64 a,.int .i64 i] 180))
   have M3:World.rangeLeft (w2.alloc (.cells #[.int .i64 a,.int .i64 i] 180)) B R=w2.rangeLeft B R:=by rw[(zu R3).lt.2.2.2,(zu RT2).lt.2.2.2]
   have M3:=zh M3
   have bs:=(zu B2).size
   by_cases v0:v=0
   ·have CC:=zh ((zu CZ) v0)
    clear CZ CM
    subst v0
    go_wp2
    go_roundw
    case rel=>exact⟨qs,g,c,left2,cnt2,rfl,O3,R3,CC,by omega,B3⟩
    case measure=>rw[zu M3];exact zu ML
   ·have CC:=zh ((zu CM) v0)
    have v0b:(v==0)=false:=by simpa using v0
    clear CZ CM
    have O4:=zh ((zu O3).alloc (.cells #[.int .i64 a,.int .i64 i,.int .i64 v] 111))
    have R4:=zh ((zu R3).kept (World.grownBy_alloc _ (.cells #[.int .i64 a,.int .i64 i,.int .i64 v] 111) none) (by simp) (by simp))
    have B4:=zh ((zu B3).alloc (zu B3).size (.cells #[.int .i64 a,.int .i64 i,.int .i64 v] 111))
    have V4:=zh (show Holds3 ((w2.alloc (.cells #[.int .i64 a,.int .i64 i] 180)).alloc (.cells #[.int .i64 a,.int .i64 i,.int .i64 v] 111)) (w2.heap.size+1) 0 (a,i,v) from by unfold Holds3;simp)
    go_wp2_with (first|(at_builtin;refine BalApp.wp_app _ rfl _ _ rfl w.heap.size g qs.length c qs (w2.heap.size+1) a i v rfl rfl (zu O4) (zu V4) (by omega) (by simp;omega) ?_;intro g5 c5 w5 o5 gr5 _)|go_in)
    have R5:=zh ((zu R4).kept gr5 (by simp;exact Ne.symm ap.1) (by simp;exact Ne.symm ap.2))
    have M5:=zh (show w5.rangeLeft B R=w2.rangeLeft B R by rw[(zu R5).lt.2.2.2,(zu RT2).lt.2.2.2])
    have B5:=zh ((zu B4).grown gr5 (by simp;omega) (fun j hj=>by cases hj;exact(zu HO).lt.1))
    have el:(qs++[(a,i,v)]).length=qs.length+1:=by simp
    have O5:=zh o5
    clear o5 gr5
    go_wp2
    go_roundw
    case rel=>exact⟨qs++[(a,i,v)],g5,c5,left2,cnt2,by rw[el],zh (by rw[el];exact zu O5),R5,CC,by rw[el];omega,B5⟩
    case measure=>rw[zu M5];exact zu ML
end Out
namespace Post
open Bals Triples Cmp SOk3 IOk3 Tab Look Out
theorem look_run{w:World}{B n:Nat}{f:Int→Int→Int}(h:Tab w B n f){a i:Int}(hw:Wf a i):(Instr.lookup 178 (.map (some B)) (.agg #[.int .i64 a,.int .i64 i]) false).run Tryz.prog w= .ok (.int .i64 (f a i)) w:=by
 obtain⟨D,h1,h2,_⟩:=h
 obtain⟨c,hrun,hat,_⟩:=h1.lookup_int law Tryz.underlying178 Tryz.underlying3 (zero _) (key_of hw)
 rw[h2 a i hw] at hat
 have:f a i=c:=by simpa using hat
 rw[this]
 exact hrun
end Post
end Go.Proofs.YtlbgfdpcgpijhaaGreat
