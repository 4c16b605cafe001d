/- Lemmas. -/
import Derived.Test.YtppkkmaoaiopaaaGreatQF14
import Derived.Test.YtppkkmaoaiopaaaGreatQF16
import Derived.WideKeyEntry
open Go.ChangeShapes Go.WideShapes Go.ChangeAt Go.RowKit
set_option linter.unusedVariables false
set_option linter.unusedSimpArgs false
set_option maxRecDepth 100000
set_option maxHeartbeats 32000000
namespace Go.Proofs.YtppkkmaoaiopaaaGreat
namespace Out
open Bals Triples Cmp Tab Look Sort3
def Coll(qs:List T3)(f:Int→Int→Int)(left:Int→Int→Bool):Prop:=
 qs.Pairwise (fun p q=>other p q)∧∀p:T3,p∈qs↔p.2.2≠0∧f p.1 p.2.1=p.2.2∧Wf p.1 p.2.1∧left p.1 p.2.1=false
theorem coll_start{f:Int→Int→Int}{left:Int→Int→Bool}(h:∀a i,f a i≠0→left a i=true):Coll [] f left:=by
 refine⟨List.Pairwise.nil,fun p=>⟨fun h=>absurd h List.not_mem_nil,fun⟨h1,h2,_,h3⟩=>?_⟩⟩
 rw[h p.1 p.2.1 (by rw[h2];exact h1)] at h3
 cases h3
theorem coll_zero{qs:List T3}{f:Int→Int→Int}{left left':Int→Int→Bool}{a i:Int}(h:Coll qs f left)(hl:∀b j,Wf b j→left' b j=(left b j&& !decide (b=a∧j=i)))(hz:f a i=0):Coll qs f left':=by
 refine⟨h.1,fun p=>?_⟩
 rw[h.2 p]
 constructor
 ·rintro⟨h1,h2,h3,h4⟩
  exact⟨h1,h2,h3,by rw[hl _ _ h3,h4];rfl⟩
 ·rintro⟨h1,h2,h3,h4⟩
  refine⟨h1,h2,h3,?_⟩
  rw[hl _ _ h3] at h4
  by_cases e:p.1=a∧p.2.1=i
  ·rw[e.1,e.2,hz] at h2
   exact absurd h2.symm h1
  ·simpa[e] using h4
theorem coll_more{qs:List T3}{f:Int→Int→Int}{left left':Int→Int→Bool}{a i:Int}(h:Coll qs f left)(hw:Wf a i)(hla:left a i=true)(hl:∀b j,Wf b j→left' b j=(left b j&& !decide (b=a∧j=i)))(hz:f a i≠0):Coll (qs++[(a,i,f a i)]) f left':=by
 refine⟨?_,fun p=>?_⟩
 ·rw[List.pairwise_append]
  refine⟨h.1,List.pairwise_singleton _ _,fun p hp q hq=>?_⟩
  rw[List.mem_singleton] at hq
  subst hq
  obtain⟨_,_,_,h4⟩:=(h.2 p).1 hp
  unfold other
  show a≠p.1∨i≠p.2.1
  refine Classical.byContradiction fun n=>?_
  have n1:p.1=a:=Classical.byContradiction fun q=>n (.inl (Ne.symm q))
  have n2:p.2.1=i:=Classical.byContradiction fun q=>n (.inr (Ne.symm q))
  rw[n1,n2,hla] at h4
  cases h4
 ·rw[List.mem_append,List.mem_singleton,h.2 p]
  constructor
  ·rintro(⟨h1,h2,h3,h4⟩|rfl)
   ·exact⟨h1,h2,h3,by rw[hl _ _ h3,h4];rfl⟩
   ·exact⟨hz,rfl,hw,by rw[hl _ _ hw];simp⟩
  ·rintro⟨h1,h2,h3,h4⟩
   by_cases e:p.1=a∧p.2.1=i
   ·obtain⟨p1,p2,p3⟩:=p
    obtain⟨rfl,rfl⟩:=e
    simp only at h2
    subst h2
    exact .inr rfl
   ·rw[hl _ _ h3] at h4
    exact .inl ⟨h1,h2,h3,by simpa[e] using h4⟩
theorem coll_end{qs rs:List T3}{f:Int→Int→Int}{left:Int→Int→Bool}(h:Coll qs f left)(hf:∀a i,f a i≠0→Wf a i)(hl:∀a i,Wf a i→left a i=false)(hp:rs.Perm qs)(hs:rs.Pairwise (fun p q=>¬Bef q p)):ListOf f rs:=by
 have hd:rs.Pairwise (fun p q=>other p q):=(hp.pairwise_iff (fun{a b} (o:other a b)=>by unfold other at o⊢;rcases o with o|o;exact .inl (Ne.symm o);exact .inr (Ne.symm o))).2 h.1
 have asc:rs.Pairwise Bef:=by
  rw[List.pairwise_iff_getElem] at hs hd⊢
  intro i j hi hj hij
  have h1:=hs i j hi hj hij
  have h2:=hd i j hi hj hij
  unfold other at h2
  unfold Bef at h1⊢
  omega
 have mem:∀p:T3,p∈rs↔p.2.2≠0∧f p.1 p.2.1=p.2.2:=fun p=>by
  rw[hp.mem_iff,h.2 p]
  constructor
  ·rintro⟨h1,h2,_⟩
   exact⟨h1,h2⟩
  ·rintro⟨h1,h2⟩
   have w:=hf p.1 p.2.1 (by rw[h2];exact h1)
   exact⟨h1,h2,w,hl _ _ w⟩
 refine⟨⟨asc,fun p hp'=>((mem p).1 hp').1⟩,fun a i=>?_⟩
 by_cases z:f a i=0
 ·rw[z]
  refine Classical.byContradiction fun nz=>?_
  have hm:=val_mem rs a i nz
  have:=((mem _).1 hm).2
  simp only at this
  rw[z] at this
  exact nz this.symm
 ·have hm:=(mem (a,i,f a i)).2 ⟨z,rfl⟩
  exact val_of_mem rs asc _ hm
theorem own_apart{e:TypeId}{w:World}{base g n cap:Nat}{ps:List T3}{B r m:Nat}{f:Int→Int→Int}{left:Int→Int→Bool}{cnt:Nat}(h:Own3 e w base g n cap ps)(k:RTab w B r m f left cnt):g≠B∧g≠r:=by
 obtain⟨D,lf,⟨es,clock,since,seen,c0,hb,_,_,_,hr,_⟩,_⟩:=k
 rcases h.2 with⟨z,_⟩|⟨g',c,cur,z,_,hc,_⟩
 ·simp at z
 ·obtain⟨rfl,rfl⟩:g=g'∧cap=c:=by simpa using z
  constructor
  ·intro e
   rw[e,hb] at hc
   simp at hc
  ·intro e
   rw[e,hr] at hc
   simp at hc
theorem Tab.wf{w:World}{B n:Nat}{f:Int→Int→Int}(h:Tab w B n f):∀a i,f a i≠0→Wf a i:=by
 obtain⟨D,_,h2⟩:=h
 exact h2.2
theorem iBals(w:World)(B n:Nat)(f:Int→Int→Int)(hn:n≤100000)(ht:Tab w B n f):
  Calls Tryz.prog 189 #[.map (some B)] w fun e w'=>∃qs g c,ListOf f qs∧qs.length≤n∧e= .returned (.slice (some ⟨g,0,none⟩) qs.length c)∧Own3 132 w' w.heap.size g qs.length c qs∧Below w.heap.size w w':=by
 have hB:=ht.lt
 have HWF:=zh (Tab.wf ht)
 have t1:=ht.kept (World.grownBy_alloc w (.cells #[] 132) none) (by simp)
 have HT:=zh t1
 have O0:=zh (lit30 132 w w.heap.size (Nat.le_refl _))
 have B0:=zh (show Below w.heap.size w (w.alloc (.cells #[] 132)) from(Below.refl _ _).alloc (Nat.le_refl _) _)
 clear ht t1
 go_enter Tryz.func189,Tryz.ntmps189
 go_wp2_with (first|(at_range;refine wp_range _ rfl _ 207 rfl Tryz.underlying207 B n f rfl (zu HT) ?_;intro w0 left0 cnt0 rt0 c0 lz0 g0 s0)|go_in)
 go_frame
 have RT:=zh rt0
 have CO:=zh (coll_start lz0)
 have O1:=zh ((zu O0).kept g0 (by simp))
 have B1:=zh (next (zu B0) (grownBy_below g0))
 clear rt0 lz0 g0 HT O0 B0
 simp only[World.size_alloc] at RT s0
 simp only[World.size_alloc]
 generalize hR:w.heap.size+1=R at *
 have hRl:w.heap.size<R:=by omega
 go_loopw [3,4,5] (fun l _ _ wr=>∃(qs:List T3) (g c:Nat) (left:Int→Int→Bool) (cnt:Nat),l= .slice (some ⟨g,0,none⟩) qs.length c∧Hid (Own3 132 wr w.heap.size g qs.length c qs)∧Hid (RTab wr B R n f left cnt)∧Hid (Coll qs f left)∧qs.length+cnt≤n∧Hid (Below w.heap.size w wr)) (fun _ _ _ wr=>wr.rangeLeft B R)
 case atStart=>exact⟨[],w.heap.size,0,left0,cnt0,rfl,O1,RT,CO,by simpa using c0,B1⟩
 case round=>
  clear RT CO O1 B1 c0 s0
  obtain⟨qs,g,c,left,cnt,rfl,HO,RT,CO,hc,HB⟩:=hrel
  go_wp2_with (first|(at_next;refine wp_next _ rfl _ rfl B R n f left cnt rfl (zu RT) ?_ ?_)|go_in)
  ·intro c0 l0
   have LZ:=zh l0
   have sz:=(zu HO).lt
   clear l0
   go_wp2_with fail
   refine(sorts _ w.heap.size g qs.length c qs (by omega) (zu HO)).mono ?_
   rintro e w2 ⟨rfl,rs,hp,hs,o2,b2⟩
   have LO:=zh (coll_end (zu CO) (zu HWF) (zu LZ) hp hs)
   have el:rs.length=qs.length:=hp.length_eq
   have O2:=zh o2
   have B2:=zh ((zu HB).trans (b2.mono sz.1))
   clear hp hs o2 b2
   go_wp2
   go_ret
   exact⟨rs,g,c,zu LO,by omega,by rw[el];rfl,by rw[el];exact zu O2,zu B2⟩
  ·intro a i w2 left2 cnt2 wf wv la l2 rt2 lt2 g2 s2 hen
   have l2:∀b j,Wf b j→left2 b j=(left b j&& !decide (b=a∧j=i)):=fun b j h=>by
    rw[l2 b j h]
    by_cases e1:b=a<;>by_cases e2:j=i<;>simp[e1,e2]
   have ap:=own_apart (zu HO) (zu RT)
   have ML:=zh (show w2.rangeLeft B R<wr.rangeLeft B R by rw[rt2.lt.2.2.2,(zu RT).lt.2.2.2];exact lt2)
   have RT2:=zh rt2
   have O2:=zh ((zu HO).kept g2 (by simp;exact ap.2))
   have B2:=zh ((zu HB).grown g2 (zu HB).size (fun j hj=>by cases hj;exact Nat.le_of_lt hRl))
   have CZ:=zh (fun hz=>coll_zero (zu CO) l2 hz)
   have CM:=zh (fun hz=>coll_more (zu CO) wf la l2 hz)
   clear rt2 l2 g2 s2 la wf wv CO
   generalize f a i=v at *
   have O3:=zh ((zu O2).alloc (.cells #[.int .i64 a,.int .i64 i] 209))
   have R3:=zh ((zu RT2).kept (World.grownBy_alloc w2 (.cells #[.int .i64 a,.int .i64 i] 209) none) (by simp) (by simp))
   have B3:=zh ((zu B2).alloc (zu B2).size (.cells #[.int .i64 a,.int .i64 i] 209))
   have M3:World.rangeLeft (w2.alloc (.cells #[.int .i64 a,.int .i64 i] 209)) B R=w2.rangeLeft B R:=by rw[(zu R3).lt.2.2.2,(zu RT2).lt.2.2.2]
   have M3:=zh M3
   have bs:=(zu B2).size
   by_cases v0:v=0
   ·have CC:=zh ((zu CZ) v0)
    clear CZ CM
    subst v0
    go_wp2
    go_roundw
    case rel=>exact⟨qs,g,c,left2,cnt2,rfl,O3,R3,CC,by omega,B3⟩
    case measure=>rw[zu M3];exact zu ML
   ·have CC:=zh ((zu CM) v0)
    have v0b:(v==0)=false:=by simpa using v0
    clear CZ CM
    have O4:=zh ((zu O3).alloc (.cells #[.int .i64 a,.int .i64 i,.int .i64 v] 132))
    have R4:=zh ((zu R3).kept (World.grownBy_alloc _ (.cells #[.int .i64 a,.int .i64 i,.int .i64 v] 132) none) (by simp) (by simp))
    have B4:=zh ((zu B3).alloc (zu B3).size (.cells #[.int .i64 a,.int .i64 i,.int .i64 v] 132))
    have V4:=zh (show Holds3 ((w2.alloc (.cells #[.int .i64 a,.int .i64 i] 209)).alloc (.cells #[.int .i64 a,.int .i64 i,.int .i64 v] 132)) (w2.heap.size+1) 0 (a,i,v) from by unfold Holds3;simp)
    go_wp2_with (first|(at_builtin;refine BalApp.wp_app _ rfl _ _ rfl w.heap.size g qs.length c qs (w2.heap.size+1) a i v rfl rfl (zu O4) (zu V4) (by omega) (by simp;omega) ?_;intro g5 c5 w5 o5 gr5 _)|go_in)
    have R5:=zh ((zu R4).kept gr5 (by simp;exact Ne.symm ap.1) (by simp;exact Ne.symm ap.2))
    have M5:=zh (show w5.rangeLeft B R=w2.rangeLeft B R by rw[(zu R5).lt.2.2.2,(zu RT2).lt.2.2.2])
    have B5:=zh ((zu B4).grown gr5 (by simp;omega) (fun j hj=>by cases hj;exact(zu HO).lt.1))
    have el:(qs++[(a,i,v)]).length=qs.length+1:=by simp
    have O5:=zh o5
    clear o5 gr5
    go_wp2
    go_roundw
    case rel=>exact⟨qs++[(a,i,v)],g5,c5,left2,cnt2,by rw[el],zh (by rw[el];exact zu O5),R5,CC,by rw[el];omega,B5⟩
    case measure=>rw[zu M5];exact zu ML
end Out
namespace Post
open Bals Triples Cmp SOk3 IOk3 Tab Look Out
theorem look_run{w:World}{B n:Nat}{f:Int→Int→Int}(h:Tab w B n f){a i:Int}(hw:Wf a i):(Instr.lookup 207 (.map (some B)) (.agg #[.int .i64 a,.int .i64 i]) false).run Tryz.prog w= .ok (.int .i64 (f a i)) w:=by
 obtain⟨D,h1,h2,_⟩:=h
 obtain⟨c,hrun,hat,_⟩:=h1.lookup_int law Tryz.underlying207 Tryz.underlying3 (zero _) (key_of hw)
 rw[h2 a i hw] at hat
 have:f a i=c:=by simpa using hat
 rw[this]
 exact hrun
end Post
namespace Entry
open Bals Tab Post
open Go.MapKept Go.ChangeMaps Go.WideElems
open Go.WideMaps (KeyLaw)
theorem klaw:KeyLaw Tryz.prog 209:=deep_law_laid laidOut (m:=2) (by omega) row (by kernel_rfl) wide
theorem owns_block{H:Type}{P:Program}{k:TypeId}{R:Value→Option (DataW H×List MemPlace)}{w w':World}{b n:Nat}{D:DataW H}(h:w.ownsMap P k R b n D)(e:w'.heap[b]?=w.heap[b]?):w'.ownsMap P k R b n D:=by
 obtain⟨es,clock,hb,F,hs,hD⟩:=h
 exact⟨es,clock,e.trans hb,F,hs,hD⟩
theorem tab_block{w w':World}{B n:Nat}{f:Int→Int→Int}(h:Tab w B n f)(e:w'.heap[B]?=w.heap[B]?):Tab w' B n f:=by
 obtain⟨D,h1,h2⟩:=h
 exact⟨D,owns_block h1 e,h2⟩
theorem put_run{w:World}{B n:Nat}{f:Int→Int→Int}(h:Tab w B n f)(hn:n≤1048576){a i v:Int}(hw:Wf a i)(hv:(Lit.int .i64 v).wf=true):
  ∃w',(Instr.mapUpdate 207 (.map (some B)) (.agg #[.int .i64 a,.int .i64 i]) (.int .i64 v)).run Tryz.prog w= .ok () w'∧Tab w' B (n+1) (upd f a i v)∧w.grownBy w' (some B):=by
 obtain⟨D,h1,h2⟩:=h
 obtain⟨w',r,o,g⟩:=h1.update law Tryz.underlying207 (by unfold maxLen;omega) (key_of hw) (plainElem_int Tryz.underlying3 hv)
 exact⟨w',r,⟨_,o,tells_put h2 (isMap_of h1) hw⟩,g⟩
theorem entry_run{w:World}{B n:Nat}{f:Int→Int→Int}(h:Tab w B n f)(hn:n≤1048576){a i:Int}(hw:Wf a i):
  ∃(v0:Value) (st:Nat) (w2:World),(Instr.mapEntry 207 (.map (some B)) (.agg #[.int .i64 a,.int .i64 i])).run Tryz.prog w= .ok (.tuple #[v0,goInt st]) w2∧Tab w2 B (n+1) f∧w.grownBy w2 (some B)∧
   ∀v:Int,(Lit.int .i64 v).wf=true→∃w3,(Instr.entryStore 207 (.map (some B)) (goInt st) (.int .i64 v)).run Tryz.prog w2= .ok () w3∧Tab w3 B (n+1) (upd f a i v)∧w.grownBy w3 (some B):=by
 have h':=h
 obtain⟨D,⟨es,clock,hb,F,hs,hD⟩,hT⟩:=h
 obtain⟨v0,st,es1,clock1,hE,hd,hS⟩:=entry_then_store klaw Tryz.underlying207 (z:= .int .i64 0) zero hb F (key_of hw)
 refine⟨v0,st,_,hE,?_,⟨rfl,rfl,rfl,by simp[setBlock],fun j _ hj=>heap_setBlock_other hb _ (fun e=>hj (by rw[e]))⟩,fun v hv=>?_⟩
 ·rcases law.find w (key_of hw) es.toList F.keys with⟨h1,h2⟩|⟨j,e0,h1,h2,h3⟩
  ·have hE':(Instr.mapEntry 207 (.map (some B)) (.agg #[.int .i64 a,.int .i64 i])).run Tryz.prog w= .ok (.tuple #[.int .i64 0,goInt clock]) (setBlock w B (.map (es.push ⟨.agg #[.int .i64 a,.int .i64 i],.int .i64 0,clock⟩) (clock+1))):=by
    simp[Instr.mapEntry,run_underlying Tryz.underlying207,MapKept.run_getObj_map hb,law.check w false (key_of hw),h1,zero,MapKept.run_setObj_map _ hb,Result.andThen,setBlock]
   obtain⟨w',r,t,g⟩:=put_run h' hn (v:=0) hw (by decide)
   have r':(Instr.mapUpdate 207 (.map (some B)) (.agg #[.int .i64 a,.int .i64 i]) (.int .i64 0)).run Tryz.prog w= .ok () (setBlock w B (.map (es.push ⟨.agg #[.int .i64 a,.int .i64 i],.int .i64 0,clock⟩) (clock+1))):=by
    simp[Instr.mapUpdate,run_underlying Tryz.underlying207,MapKept.run_getObj_map hb,law.check w false (key_of hw),h1,MapKept.run_setObj_map _ hb,Result.andThen,setBlock]
   have ew:setBlock w B (.map es1 clock1)=w':=by
    rw[hE] at hE'
    rw[r] at r'
    injection hE' with _ e1
    injection r' with _ e2
    rw[e1,e2]
   have fz:f a i=0:=by
    have l1:=look_run h' hw
    have l2:(Instr.lookup 207 (.map (some B)) (.agg #[.int .i64 a,.int .i64 i]) false).run Tryz.prog w= .ok (.int .i64 0) w:=by
     simp[Instr.lookup,run_underlying Tryz.underlying207,MapKept.run_getObj_map hb,fun em=>law.check w em (key_of hw),h1,zero,Result.andThen]
    rw[l1] at l2
    injection l2 with e1 _
    simpa using e1
   rw[ew]
   refine t.congr fun b j=>?_
   unfold upd
   by_cases e:b=a∧j=i
   ·rw[if_pos e,e.1,e.2,fz]
   ·rw[if_neg e]
  ·have hj:es[j]?=some e0:=by simpa using h2
   have hsame:es.modify j (fun e=>{e with key:= .agg #[.int .i64 a,.int .i64 i]})=es:=by
    apply Array.ext'
    rw[Array.toList_modify,modify_eq_set _ _ _ _ h2]
    have:({e0 with key:= .agg #[.int .i64 a,.int .i64 i]}:MapEntry)=e0:=by rw[←h3]
    rw[this]
    exact set_self _ _ _ h2
   have hE':(Instr.mapEntry 207 (.map (some B)) (.agg #[.int .i64 a,.int .i64 i])).run Tryz.prog w= .ok (.tuple #[e0.val,goInt e0.born]) (setBlock w B (.map es clock)):=by
    simp[Instr.mapEntry,run_underlying Tryz.underlying207,MapKept.run_getObj_map hb,law.check w false (key_of hw),h1,hj,h3,law.stays w (key_of hw),hsame,MapKept.run_setObj_map _ hb,Result.andThen,setBlock]
   rw[hE] at hE'
   injection hE' with _ e1
   rw[e1]
   obtain⟨D',o1,t1⟩:=tab_block (w':=setBlock w B (.map es clock)) h' (by rw[heap_setBlock_same hb];exact hb.symm)
   exact⟨D',o1.mono (by omega),t1⟩
 ·obtain⟨es',clock',s1,s2⟩:=hS _ (.int .i64 v) (heap_setBlock_same hb _)
  obtain⟨w',r,t,g⟩:=put_run h' hn hw hv
  have ew:w'=setBlock w B (.map es' clock'):=by
   rw[r] at s2
   injection s2
  refine⟨_,s1,tab_block t ?_,⟨rfl,rfl,rfl,by simp[setBlock],fun j _ hj=>?_⟩⟩
  ·rw[ew,heap_setBlock_same hb,heap_setBlock_same (heap_setBlock_same hb _)]
  ·rw[heap_setBlock_other (heap_setBlock_same hb _) _ (fun e=>hj (by rw[e])),heap_setBlock_other hb _ (fun e=>hj (by rw[e]))]
end Entry
namespace ILotsFit
open BMem Bks IRead IHave ITrade ILists IBalsFit
open Lots (Says says_of NoOk qtyOf)
open Bals (T3 el3 val sumI upd ListOf)
open Tup5 (T5 el5)
open Tab (Tab Wf wf_no wf_amt)
def leftB(b:Bk)(k:Nat)(a i:Int):Int:=if kindOf b.ac a=1∧kindOf b.ic i=2 then val (b.bs.take k) a i else 0
def leftL(b:Bk)(k:Nat)(a i:Int):Int:=leftB b b.bs.length a i-qtyOf (b.ls.take k) a i
theorem leftB_zero(b:Bk)(a i:Int):leftB b 0 a i=0:=by
 unfold leftB
 split<;>rfl
theorem leftB_yes{b:Bk}(hr:Bals.Right b.bs){k:Nat}(hk:k<b.bs.length)(h:kindOf b.ac (el3 b.bs k).1=1∧kindOf b.ic (el3 b.bs k).2.1=2)(a i:Int):leftB b (k+1) a i=upd (leftB b k) (el3 b.bs k).1 (el3 b.bs k).2.1 (el3 b.bs k).2.2 a i:=by
 unfold leftB
 rw[Look.val_take hr hk]
 unfold upd
 by_cases e:a=(el3 b.bs k).1∧i=(el3 b.bs k).2.1
 ·rw[if_pos e,if_pos e,e.1,e.2,if_pos h]
 ·rw[if_neg e,if_neg e]
theorem leftB_no{b:Bk}(hr:Bals.Right b.bs){k:Nat}(hk:k<b.bs.length)(h:¬(kindOf b.ac (el3 b.bs k).1=1∧kindOf b.ic (el3 b.bs k).2.1=2))(a i:Int):leftB b (k+1) a i=leftB b k a i:=by
 unfold leftB
 by_cases q:kindOf b.ac a=1∧kindOf b.ic i=2
 ·rw[if_pos q,if_pos q,Look.val_take hr hk]
  unfold upd
  rw[if_neg (fun e=>h (by rw[←e.1,←e.2];exact q))]
 ·rw[if_neg q,if_neg q]
theorem leftL_zero(b:Bk)(a i:Int):leftL b 0 a i=leftB b b.bs.length a i:=by
 unfold leftL
 simp[qtyOf]
theorem leftL_next{b:Bk}{k:Nat}(hk:k<b.ls.length)(a i:Int):leftL b (k+1) a i=upd (leftL b k) (el5 b.ls k).1 (el5 b.ls k).2.1 (leftL b k (el5 b.ls k).1 (el5 b.ls k).2.1-(el5 b.ls k).2.2.2.1) a i:=by
 unfold upd
 by_cases e:a=(el5 b.ls k).1∧i=(el5 b.ls k).2.1
 ·rw[if_pos e]
  unfold leftL
  rw[Lots.qtyOf_next hk,if_pos ⟨e.1.symm,e.2.symm⟩,e.1,e.2]
  omega
 ·rw[if_neg e]
  unfold leftL
  rw[Lots.qtyOf_next hk,if_neg (fun r=>e ⟨r.1.symm,r.2.symm⟩)]
  omega
theorem leftL_all(b:Bk)(a i:Int):leftL b b.ls.length a i=leftT b a i:=by
 unfold leftL leftT leftB
 rw[List.take_length,List.take_length]
theorem leftL_bd{b:Bk}(hl:Lists b)(k:Nat)(a i:Int): -3000000000000000≤leftL b k a i∧leftL b k a i≤3000000000000000:=by
 obtain⟨_,_,hb,hL,_⟩:=hl
 have h1:=(hb.val_in a i).1
 have h2:=Lots.take_le (ps:=b.ls) (fun p hp=>by
  obtain⟨j,_,hj,rfl⟩:=Lots.mem_take (ps:=b.ls) (k:=b.ls.length) (p:=p) (by rw[List.take_length];exact hp)
  exact(hL.2.1 j hj).1) k a i
 have h3:=Lots.qty_pos (a:=a) (i:=i) (b.ls.take k) (fun p hp=>by
  obtain⟨j,_,hj,rfl⟩:=Lots.mem_take hp
  exact(hL.2.1 j hj).1)
 have h4:=hL.2.2 a i
 unfold leftL leftB
 unfold Bals.Amt at h1
 rw[List.take_length]
 split<;>omega
theorem list_none{f:Int→Int→Int}{qs:List T3}(h:ListOf f qs):qs.length=0↔∀a i,f a i=0:=by
 constructor
 ·intro e a i
  rw[←h.2 a i,List.length_eq_zero_iff.1 e]
  rfl
 ·intro e
  cases qs with
  |nil=>rfl
  |cons p r=>
   have:=(h.1.mem p).1 List.mem_cons_self
   rw[h.2,e] at this
   exact absurd this.2.symm this.1
theorem below_of_drew{w w':World}(h:Below w.drew.heap.size w.drew w'):Below w.heap.size w w':=⟨h.os,h.tape,h.output,h.size,h.block⟩
theorem St.grown{w W W':World}{x:Bx}{M:Nat}(H:Rd w x)(h:St w W x)(k:W.grownBy W' (some M))(hM:w.heap.size<M):St w W' x:=by
 have b:Below w.heap.size w W':=h.b.grown k (Nat.le_of_lt h.s) (fun j e=>by cases e;omega)
 have ne:some w.heap.size≠some M:=fun e=>by cases e;omega
 exact⟨H.below b,⟨k.cell h.c.c0 ne,k.cell h.c.c1 ne,k.cell h.c.c2 ne,k.cell h.c.c3 ne,k.cell h.c.c4 ne,k.cell h.c.c5 ne⟩,b,Nat.lt_of_lt_of_le h.s k.size⟩
theorem iLotsFit(w:World)(x:Bx)(b:Bool)(h:Rd w x)(hl:Lists x.b)(hb:Says b (LotsFit x.b)):
  Calls Tryz.prog 164 #[.agg #[.slice (some ⟨x.ga,0,none⟩) x.b.ac.length x.ca,.slice (some ⟨x.gi,0,none⟩) x.b.ic.length x.ci,.slice (some ⟨x.gb,0,none⟩) x.b.bs.length x.cb,.slice (some ⟨x.gl,0,none⟩) x.b.ls.length x.cl,.slice (some ⟨x.gt,0,none⟩) x.b.ts.length x.ct,.int .i64 x.b.lot]] w fun e w'=>e= .returned (.bool b)∧Below w.heap.size w w':=by
 have T:=zh hb
 have L:=zh hl
 have H:=zh h
 have S0:=zh ((St.start h 44).step (one_more _ (.map #[] 0)))
 have nb:=h.nb
 have nl:=h.nl
 have n160:x.b.bs.length≤160:=hl.2.2.1.1
 have n120:x.b.ls.length≤120:=hl.2.2.2.1.1
 have TM:=zh (Tab.tab_made (w.alloc (.cells #[.slice (some ⟨x.ga,0,none⟩) x.b.ac.length x.ca,.slice (some ⟨x.gi,0,none⟩) x.b.ic.length x.ci,.slice (some ⟨x.gb,0,none⟩) x.b.bs.length x.cb,.slice (some ⟨x.gl,0,none⟩) x.b.ls.length x.cl,.slice (some ⟨x.gt,0,none⟩) x.b.ts.length x.ct,.int .i64 x.b.lot] 44)))
 have hmm:= @run_makeMap Tryz.prog
 clear hb hl h
 go_enter Tryz.func164,Tryz.ntmps164
 go_wp2
 go_loopw [12] (fun i wr=>∃(k:Nat),k≤x.b.bs.length∧i= .int .i64 k∧St w wr x∧Hid (Tab wr (w.heap.size+1) k (leftB x.b k))) (fun i _=>x.b.bs.length-(intOf i).toNat)
 case atStart=>exact⟨0,by omega,rfl,zu S0,zh ((by simpa using zu TM:Tab _ (w.heap.size+1) 0 (fun _ _=>0)).congr (fun a i=>(leftB_zero _ a i).symm))⟩
 case round=>
  obtain⟨k,hk,rfl,hS,HT⟩:=hrel
  clear S0 TM
  by_cases t:k<x.b.bs.length
  ·obtain⟨d0,d1,d2⟩:=(hS.r.rb k t)
   obtain⟨c0,c1,c2,c3,c4,c5⟩:=hS.c
   obtain⟨r1,r2,r3,r4,_⟩:=(zu L).2.2.1.2 k t
   have WF:=zh (wf_no r1 r2)
   have WA:=wf_amt r3
   have YES:=zh (fun hh=>leftB_yes (zu L).2.2.1 t hh)
   have NO:=zh (fun hh=>leftB_no (zu L).2.2.1 t hh)
   have wz:=hS.s
   have S1:=zh (hS.step (one_more wr (.cells #[.int .i64 (el3 x.b.bs k).1,.int .i64 (el3 x.b.bs k).2.1,.int .i64 (el3 x.b.bs k).2.2] 132)))
   have T1:=zh ((zu HT).below (one_more wr (.cells #[.int .i64 (el3 x.b.bs k).1,.int .i64 (el3 x.b.bs k).2.1,.int .i64 (el3 x.b.bs k).2.2] 132)))
   clear hS HT r1 r2 r3 r4
   generalize (el3 x.b.bs k).1=y0 at *
   generalize (el3 x.b.bs k).2.1=y1 at *
   generalize (el3 x.b.bs k).2.2=y2 at *
   obtain⟨b0,h0⟩:=says_of (kindOf x.b.ac y0=1)
   obtain⟨b1,h1⟩:=says_of (kindOf x.b.ic y1=2)
   have H0:=zh h0
   have H1:=zh h1
   clear h0 h1
   go_wp2_with fail
   refine(iHolder _ x y0 b0 (zu S1).r (zu L).1 (zu H0)).mono ?_
   rintro e w1 ⟨rfl,bb⟩
   have S2:=zh ((zu S1).step bb)
   have T2:=zh ((zu T1).below bb)
   have f0:w1.cell? ⟨wr.heap.size,0,none⟩=some (.int .i64 y0):=(bb.cell (p:=⟨wr.heap.size,0,none⟩) (by simp)).trans (by simp)
   have f1:w1.cell? ⟨wr.heap.size,1,none⟩=some (.int .i64 y1):=(bb.cell (p:=⟨wr.heap.size,1,none⟩) (by simp)).trans (by simp)
   have f2:w1.cell? ⟨wr.heap.size,2,none⟩=some (.int .i64 y2):=(bb.cell (p:=⟨wr.heap.size,2,none⟩) (by simp)).trans (by simp)
   have z1:wr.heap.size<w1.heap.size:=by have:=bb.size;simp at this;omega
   clear bb c0 c1 c2 c3 c4 c5 d0 d1 d2 S1 T1
   obtain⟨c0,c1,c2,c3,c4,c5⟩:=(zu S2).c
   cases b0
   ·have E:=zh ((zu NO) (fun hh=>(zu H0).no hh.1))
    clear YES NO
    go_wp2
    go_roundw
    case rel=>
     refine⟨k+1,by omega,by go_num,zu S2,zh ?_⟩
     obtain⟨D,o1,o2⟩:=(zu T2).congr (fun a i=>((zu E) a i).symm)
     exact⟨D,o1.mono (by omega),o2⟩
    case measure=>simp[intOf];omega
   go_wp2_with fail
   refine(iPaper _ x y1 b1 (zu S2).r (zu L).2.1 (zu H1)).mono ?_
   rintro e w2 ⟨rfl,bb⟩
   have S3:=zh ((zu S2).step bb)
   have T3:=zh ((zu T2).below bb)
   replace f0:w2.cell? ⟨wr.heap.size,0,none⟩=some (.int .i64 y0):=(bb.cell (p:=⟨wr.heap.size,0,none⟩) z1).trans f0
   replace f1:w2.cell? ⟨wr.heap.size,1,none⟩=some (.int .i64 y1):=(bb.cell (p:=⟨wr.heap.size,1,none⟩) z1).trans f1
   replace f2:w2.cell? ⟨wr.heap.size,2,none⟩=some (.int .i64 y2):=(bb.cell (p:=⟨wr.heap.size,2,none⟩) z1).trans f2
   clear bb c0 c1 c2 c3 c4 c5 S2 T2
   cases b1
   ·have E:=zh ((zu NO) (fun hh=>(zu H1).no hh.2))
    clear YES NO
    go_wp2
    go_roundw
    case rel=>
     refine⟨k+1,by omega,by go_num,zu S3,zh ?_⟩
     obtain⟨D,o1,o2⟩:=(zu T3).congr (fun a i=>((zu E) a i).symm)
     exact⟨D,o1.mono (by omega),o2⟩
    case measure=>simp[intOf];omega
   have E:=zh ((zu YES) ⟨(zu H0).yes,(zu H1).yes⟩)
   clear YES NO
   go_wp2_with (first|(at_mapUpdate;refine Tab.wp_put _ rfl _ _ _ 207 rfl Tryz.underlying207 (w.heap.size+1) k _ rfl (zu T3) (by omega) y0 y1 y2 rfl rfl (zu WF) WA ?_;intro w3 t3 g3)|go_in)
   go_roundw
   case rel=>exact⟨k+1,by omega,by go_num,St.grown (zu H) (zu S3) g3 (by omega),zh (t3.congr (fun a i=>((zu E) a i).symm))⟩
   case measure=>simp[intOf];omega
  ·obtain rfl:k=x.b.bs.length:=by omega
   obtain⟨c0,c1,c2,c3,c4,c5⟩:=hS.c
   have S1:=zh hS
   have T1:=zh ((zu HT).congr (fun a i=>(leftL_zero x.b a i).symm))
   clear hS HT
   go_wp2
   go_loopw [38] (fun i wr=>∃(k:Nat),k≤x.b.ls.length∧i= .int .i64 k∧St w wr x∧Hid (Tab wr (w.heap.size+1) (x.b.bs.length+k) (leftL x.b k))∧Hid (∀j,j<k→LotFit x.b (el5 x.b.ls j))) (fun i _=>x.b.ls.length-(intOf i).toNat)
   case atStart=>exact⟨0,by omega,rfl,zu S1,T1,zh (fun i hi=>absurd hi (by omega))⟩
   case round=>
    clear c0 c1 c2 c3 c4 c5 S1 T1 hk t
    obtain⟨k,hk,rfl,hS,HT,HG⟩:=hrel
    by_cases t:k<x.b.ls.length
    ·obtain⟨d0,d1,d2,d3,d4⟩:=(hS.r.rl k t)
     obtain⟨c0,c1,c2,c3,c4,c5⟩:=hS.c
     have BAD:=zh (show ¬LotFit x.b (el5 x.b.ls k)→b=false from fun hr=>(zu T).not (fun r=>hr (r.1 k t)))
     have GOOD:=zh (show LotFit x.b (el5 x.b.ls k)→∀i,i<k+1→LotFit x.b (el5 x.b.ls i) from fun hr i hi=>by
      by_cases e:i=k
      ·subst e;exact hr
      ·exact(zu HG) i (by omega))
     have FIT:=zh (show LotFit x.b (el5 x.b.ls k)↔kindOf x.b.ac (el5 x.b.ls k).1=1∧kindOf x.b.ic (el5 x.b.ls k).2.1=2∧(el5 x.b.ls k).2.2.1≤x.b.lot from Iff.rfl)
     have NX:=zh (leftL_next t)
     obtain⟨r1,r2,_,r4,_⟩:=((zu L).2.2.2.1.2.1 k t).1
     have WF:=zh (wf_no r1 r2)
     have BD:=leftL_bd (zu L) k (el5 x.b.ls k).1 (el5 x.b.ls k).2.1
     have wz:=hS.s
     have mz:=(zu HT).lt
     have S1:=zh (hS.step (one_more wr (.cells #[.int .i64 (el5 x.b.ls k).1,.int .i64 (el5 x.b.ls k).2.1,.int .i64 (el5 x.b.ls k).2.2.1,.int .i64 (el5 x.b.ls k).2.2.2.1,.int .i64 (el5 x.b.ls k).2.2.2.2] 134)))
     have T1:=zh ((zu HT).below (one_more wr (.cells #[.int .i64 (el5 x.b.ls k).1,.int .i64 (el5 x.b.ls k).2.1,.int .i64 (el5 x.b.ls k).2.2.1,.int .i64 (el5 x.b.ls k).2.2.2.1,.int .i64 (el5 x.b.ls k).2.2.2.2] 134)))
     clear hS HT r1 r2
     generalize (el5 x.b.ls k).1=y0 at *
     generalize (el5 x.b.ls k).2.1=y1 at *
     generalize (el5 x.b.ls k).2.2.1=y2 at *
     generalize (el5 x.b.ls k).2.2.2.1=y3 at *
     generalize (el5 x.b.ls k).2.2.2.2=y4 at *
     obtain⟨b0,h0⟩:=says_of (kindOf x.b.ac y0=1)
     obtain⟨b1,h1⟩:=says_of (kindOf x.b.ic y1=2)
     have H0:=zh h0
     have H1:=zh h1
     clear h0 h1
     go_wp2_with fail
     refine(iHolder _ x y0 b0 (zu S1).r (zu L).1 (zu H0)).mono ?_
     rintro e w1 ⟨rfl,bb⟩
     have S2:=zh ((zu S1).step bb)
     have T2:=zh ((zu T1).below bb)
     have f0:w1.cell? ⟨wr.heap.size,0,none⟩=some (.int .i64 y0):=(bb.cell (p:=⟨wr.heap.size,0,none⟩) (by simp)).trans (by simp)
     have f1:w1.cell? ⟨wr.heap.size,1,none⟩=some (.int .i64 y1):=(bb.cell (p:=⟨wr.heap.size,1,none⟩) (by simp)).trans (by simp)
     have f2:w1.cell? ⟨wr.heap.size,2,none⟩=some (.int .i64 y2):=(bb.cell (p:=⟨wr.heap.size,2,none⟩) (by simp)).trans (by simp)
     have f3:w1.cell? ⟨wr.heap.size,3,none⟩=some (.int .i64 y3):=(bb.cell (p:=⟨wr.heap.size,3,none⟩) (by simp)).trans (by simp)
     have f4:w1.cell? ⟨wr.heap.size,4,none⟩=some (.int .i64 y4):=(bb.cell (p:=⟨wr.heap.size,4,none⟩) (by simp)).trans (by simp)
     have z1:wr.heap.size<w1.heap.size:=by have:=bb.size;simp at this;omega
     clear bb c0 c1 c2 c3 c4 c5 d0 d1 d2 d3 d4 S1 T1
     obtain⟨c0,c1,c2,c3,c4,c5⟩:=(zu S2).c
     cases b0
     ·have F:=zh ((zu BAD) (fun hh=>(zu H0).no ((zu FIT).1 hh).1))
      clear BAD GOOD FIT T
      go_wp2
      go_ret
      exact⟨by rw[zu F];rfl,(zu S2).b⟩
     go_wp2_with fail
     refine(iPaper _ x y1 b1 (zu S2).r (zu L).2.1 (zu H1)).mono ?_
     rintro e w2 ⟨rfl,bb⟩
     have S3:=zh ((zu S2).step bb)
     have T3:=zh ((zu T2).below bb)
     replace f0:w2.cell? ⟨wr.heap.size,0,none⟩=some (.int .i64 y0):=(bb.cell (p:=⟨wr.heap.size,0,none⟩) z1).trans f0
     replace f1:w2.cell? ⟨wr.heap.size,1,none⟩=some (.int .i64 y1):=(bb.cell (p:=⟨wr.heap.size,1,none⟩) z1).trans f1
     replace f2:w2.cell? ⟨wr.heap.size,2,none⟩=some (.int .i64 y2):=(bb.cell (p:=⟨wr.heap.size,2,none⟩) z1).trans f2
     replace f3:w2.cell? ⟨wr.heap.size,3,none⟩=some (.int .i64 y3):=(bb.cell (p:=⟨wr.heap.size,3,none⟩) z1).trans f3
     replace f4:w2.cell? ⟨wr.heap.size,4,none⟩=some (.int .i64 y4):=(bb.cell (p:=⟨wr.heap.size,4,none⟩) z1).trans f4
     have z2:wr.heap.size<w2.heap.size:=Nat.lt_of_lt_of_le z1 bb.size
     clear bb c0 c1 c2 c3 c4 c5 S2 T2
     have c5:=(zu S3).c.c5
     cases b1
     ·have F:=zh ((zu BAD) (fun hh=>(zu H1).no ((zu FIT).1 hh).2.1))
      clear BAD GOOD FIT T
      go_wp2
      go_ret
      exact⟨by rw[zu F];rfl,(zu S3).b⟩
     by_cases q:y2>x.b.lot
     ·have F:=zh ((zu BAD) (fun hh=>by have:=((zu FIT).1 hh).2.2;omega))
      clear BAD GOOD FIT T
      go_wp2
      go_ret
      exact⟨by rw[zu F];rfl,(zu S3).b⟩
     have G:=zh ((zu GOOD) ((zu FIT).2 ⟨(zu H0).yes,(zu H1).yes,by omega⟩))
     have hq:decide (y2>x.b.lot)=false:=decide_eq_false q
     clear BAD GOOD FIT q
     go_wp2_with fail
     clear c5
     generalize hfv:leftL x.b k y0 y1=fv at *
     have FV:=zh hfv
     have wrap1:IntKind.i64.wrap (fv-y3)=fv-y3:=by rw[IntKind.wrap_i64];omega
     have WV:(Lit.int .i64 (fv-y3)).wf=true:=WalkArith.wf_i64 (by omega)
     clear hfv
     have M1:=zh (fun(W:World) (bW:Below w2.heap.size w2 W)=>Entry.entry_run ((zu T3).below bW) (by omega) (zu WF))
     go_region_held3 (fun w'=>w'.cell? ⟨wr.heap.size,0,none⟩=some (.int .i64 y0)∧w'.cell? ⟨wr.heap.size,1,none⟩=some (.int .i64 y1)∧w'.cell? ⟨wr.heap.size,2,none⟩=some (.int .i64 y2)∧w'.cell? ⟨wr.heap.size,3,none⟩=some (.int .i64 y3)∧w'.cell? ⟨wr.heap.size,4,none⟩=some (.int .i64 y4)) (go_keep)
      (first|(go_at_call 188;refine(CmpL.keyL y0 y1 y2 y3 y4 w2.drew).mono ?_;rintro e w3 ⟨rfl,bb⟩;have bW:Below w2.heap.size w2 w3:=below_of_drew bb;have t3:=(zu T3).below bW;have l3:=Post.look_run t3 (zu WF);rw[zu FV] at l3;obtain⟨v0,st,w4,E4,t4,g4,ST⟩:=(zu M1) w3 bW;have l4:=Post.look_run t4 (zu WF);rw[zu FV] at l4;obtain⟨w5,E5,t5,g5⟩:=ST (fv-y3) WV;replace E5:(Instr.entryStore 207 (.map (some (w.heap.size+1))) (.int .i64 (st:Int)) (.int .i64 (fv-y3))).run Tryz.prog w4= .ok () w5:=E5;have ne:some wr.heap.size≠some (w.heap.size+1):=(fun e=>by injection e;omega);have p0:w3.cell? ⟨wr.heap.size,0,none⟩=some (.int .i64 y0):=(bW.cell (p:=⟨wr.heap.size,0,none⟩) z2).trans f0;have q0:=g4.cell p0 ne;have o0:=g5.cell p0 ne;have p1:w3.cell? ⟨wr.heap.size,1,none⟩=some (.int .i64 y1):=(bW.cell (p:=⟨wr.heap.size,1,none⟩) z2).trans f1;have q1:=g4.cell p1 ne;have o1:=g5.cell p1 ne;have p2:w3.cell? ⟨wr.heap.size,2,none⟩=some (.int .i64 y2):=(bW.cell (p:=⟨wr.heap.size,2,none⟩) z2).trans f2;have q2:=g4.cell p2 ne;have o2:=g5.cell p2 ne;have p3:w3.cell? ⟨wr.heap.size,3,none⟩=some (.int .i64 y3):=(bW.cell (p:=⟨wr.heap.size,3,none⟩) z2).trans f3;have q3:=g4.cell p3 ne;have o3:=g5.cell p3 ne;have p4:w3.cell? ⟨wr.heap.size,4,none⟩=some (.int .i64 y4):=(bW.cell (p:=⟨wr.heap.size,4,none⟩) z2).trans f4;have q4:=g4.cell p4 ne;have o4:=g5.cell p4 ne;clear bb ST))
     all_goals
      have S4:=zh (St.grown (zu H) ((zu S3).step bW) g5 (by omega))
      have T5:=zh (t5.congr (fun a i=>(by rw[zu NX]:leftL x.b (k+1) a i=upd (leftL x.b k) y0 y1 (fv-y3) a i).symm))
      clear t3 l3 E4 t4 g4 l4 t5 g5 E5 p0 p1 p2 p3 p4 q0 q1 q2 q3 q4 o0 o1 o2 o3 o4 f0 f1 f2 f3 f4 S3 T3 M1 bW NX
      go_wp2
      go_roundw
      case rel=>exact⟨k+1,by omega,by go_num,zu S4,T5,G⟩
      case measure=>simp[intOf];omega
    ·obtain rfl:k=x.b.ls.length:=by omega
     have ALL:=zh (show ∀j,j<x.b.ls.length→LotFit x.b (el5 x.b.ls j) from zu HG)
     have S1:=zh hS
     have T1:=zh ((zu HT).congr (fun a i=>leftL_all x.b a i))
     clear hS HT HG
     go_wp2_with fail
     refine(Out.iBals _ (w.heap.size+1) _ _ (by omega) (zu T1)).mono ?_
     rintro e w1 ⟨qs,g,c,hq,hn,rfl,ho,bb⟩
     have B1:=zh ((zu S1).b.trans (bb.mono (Nat.le_of_lt (zu S1).s)))
     have hd:((qs.length:Int)==0)=b:=by
      have hz:=(list_none hq).trans (lots_impl (zu ALL))
      by_cases z:qs.length=0
      ·rw[(zu T).of (hz.1 z),z];rfl
      ·rw[(zu T).not (fun r=>z (hz.2 r))]
       simp only[beq_eq_false_iff_ne]
       omega
     clear bb ho hq hn
     go_wp2
     go_ret
     exact⟨rfl,zu B1⟩
end ILotsFit
namespace SLots
open BMem Bks IRead IHave ITrade ILists IBalsFit SBals
open Lots (Says says_of NoOk ownL restL)
open Bals (T3 el3 val sumI)
open Tup5 (T5 el5)
open Takes (sumQ)
open ILotsFit (below_of_drew)
def Even(b:Bk)(j k:Nat):Prop:=(Chart.el b.ac j).2=1→(Chart.el b.ic k).2=2→sumQ (ownL b.ls (Chart.el b.ac j).1 (Chart.el b.ic k).1)=val b.bs (Chart.el b.ac j).1 (Chart.el b.ic k).1
theorem sLots(w:World)(x:Bx)(b:Bool)(h:Rd w x)(hl:Lists x.b)(hb:Says b (LotsFit x.b)):
  Calls Tryz.prog 92 #[.agg #[.slice (some ⟨x.ga,0,none⟩) x.b.ac.length x.ca,.slice (some ⟨x.gi,0,none⟩) x.b.ic.length x.ci,.slice (some ⟨x.gb,0,none⟩) x.b.bs.length x.cb,.slice (some ⟨x.gl,0,none⟩) x.b.ls.length x.cl,.slice (some ⟨x.gt,0,none⟩) x.b.ts.length x.ct,.int .i64 x.b.lot]] w fun e w'=>e= .returned (.bool b)∧Below w.heap.size w w':=by
 have T:=zh hb
 have L:=zh hl
 have S0:=zh (St.start h 44)
 have nl:=h.nl
 have na:=h.na
 have ni:=h.ni
 have nb:=h.nb
 have n120:x.b.ls.length≤120:=hl.2.2.2.1.1
 clear hb hl h
 go_enter Tryz.func92,Tryz.ntmps92
 go_wp2
 go_loopw [3] (fun i wr=>∃(k:Nat),k≤x.b.ls.length∧i= .int .i64 k∧St w wr x∧Hid (∀j,j<k→LotFit x.b (el5 x.b.ls j))) (fun i _=>x.b.ls.length-(intOf i).toNat)
 case atStart=>exact⟨0,by omega,rfl,zu S0,zh (fun i hi=>absurd hi (by omega))⟩
 case round=>
  obtain⟨k,hk,rfl,hS,HG⟩:=hrel
  clear S0
  by_cases t:k<x.b.ls.length
  ·obtain⟨d0,d1,d2,d3,d4⟩:=(hS.r.rl k t)
   obtain⟨c0,c1,c2,c3,c4,c5⟩:=hS.c
   have BAD:=zh (show ¬LotFit x.b (el5 x.b.ls k)→b=false from fun hr=>(zu T).not (fun r=>hr (r.1 k t)))
   have GOOD:=zh (show LotFit x.b (el5 x.b.ls k)→∀i,i<k+1→LotFit x.b (el5 x.b.ls i) from fun hr i hi=>by
    by_cases e:i=k
    ·subst e;exact hr
    ·exact(zu HG) i (by omega))
   have FIT:=zh (show LotFit x.b (el5 x.b.ls k)↔kindOf x.b.ac (el5 x.b.ls k).1=1∧kindOf x.b.ic (el5 x.b.ls k).2.1=2∧(el5 x.b.ls k).2.2.1≤x.b.lot from Iff.rfl)
   have wz:=hS.s
   have S1:=zh (hS.step (one_more wr (.cells #[.int .i64 (el5 x.b.ls k).1,.int .i64 (el5 x.b.ls k).2.1,.int .i64 (el5 x.b.ls k).2.2.1,.int .i64 (el5 x.b.ls k).2.2.2.1,.int .i64 (el5 x.b.ls k).2.2.2.2] 134)))
   clear hS
   generalize LotFit x.b (el5 x.b.ls k)=FP at *
   generalize (el5 x.b.ls k).1=y0 at *
   generalize (el5 x.b.ls k).2.1=y1 at *
   generalize (el5 x.b.ls k).2.2.1=y2 at *
   generalize (el5 x.b.ls k).2.2.2.1=y3 at *
   generalize (el5 x.b.ls k).2.2.2.2=y4 at *
   generalize hK:kindOf x.b.ac y0=K at *
   generalize hJ:kindOf x.b.ic y1=J at *
   have HK:=zh hK
   have HJ:=zh hJ
   clear hK hJ
   go_wp2_with fail
   refine(sKindA _ x y0 K (zu S1).r (zu L).1 (zu HK)).mono ?_
   rintro e w1 ⟨rfl,bb⟩
   have S2:=zh ((zu S1).step bb)
   have f1:w1.cell? ⟨wr.heap.size,1,none⟩=some (.int .i64 y1):=(bb.cell (p:=⟨wr.heap.size,1,none⟩) (by simp)).trans (by simp)
   have f2:w1.cell? ⟨wr.heap.size,2,none⟩=some (.int .i64 y2):=(bb.cell (p:=⟨wr.heap.size,2,none⟩) (by simp)).trans (by simp)
   have z1:wr.heap.size<w1.heap.size:=by have:=bb.size;simp at this;omega
   clear bb c0 c1 c2 c3 c4 c5 d0 d1 d2 d3 d4
   obtain⟨c0,c1,c2,c3,c4,c5⟩:=(zu S2).c
   by_cases q0:K=1
   ·have hq0:(K !=1)=false:=by simp[q0]
    have Q0:=zh q0
    clear q0
    go_wp2_with fail
    refine(sKindI _ x y1 J (zu S2).r (zu L).2.1 (zu HJ)).mono ?_
    rintro e w2 ⟨rfl,bb⟩
    have S3:=zh ((zu S2).step bb)
    replace f2:w2.cell? ⟨wr.heap.size,2,none⟩=some (.int .i64 y2):=(bb.cell (p:=⟨wr.heap.size,2,none⟩) z1).trans f2
    clear bb c0 c1 c2 c3 c4 c5
    obtain⟨c0,c1,c2,c3,c4,c5⟩:=(zu S3).c
    by_cases q1:J=2
    ·have hq1:(J !=2)=false:=by simp[q1]
     by_cases q2:y2>x.b.lot
     ·have F:=zh ((zu BAD) (fun hh=>by have:=((zu FIT).1 hh).2.2;omega))
      clear BAD GOOD FIT T q1
      go_wp2
      go_ret
      exact⟨by rw[zu F];rfl,(zu S3).b⟩
     ·have G:=zh ((zu GOOD) ((zu FIT).2 ⟨zu Q0,q1,by omega⟩))
      have hq2:decide (y2>x.b.lot)=false:=decide_eq_false q2
      clear BAD GOOD FIT q1 q2
      go_wp2
      go_roundw
      case rel=>exact⟨k+1,by omega,by go_num,zu S3,G⟩
      case measure=>simp[intOf];omega
    ·have F:=zh ((zu BAD) (fun hh=>q1 ((zu FIT).1 hh).2.1))
     have hq1:(J !=2)=true:=by simp[q1]
     clear BAD GOOD FIT T q1
     go_wp2
     go_ret
     exact⟨by rw[zu F];rfl,(zu S3).b⟩
   ·have F:=zh ((zu BAD) (fun hh=>q0 ((zu FIT).1 hh).1))
    have hq:(K !=1)=true:=by simp[q0]
    clear BAD GOOD FIT T q0
    go_wp2
    go_ret
    exact⟨by rw[zu F];rfl,(zu S2).b⟩
  ·have ALL:=zh (show ∀j,j<x.b.ls.length→LotFit x.b (el5 x.b.ls j) from fun j hj=>(zu HG) j (by omega))
   have IFF:=zh (lots_spec (zu L).1 (zu L).2.1 (zu ALL))
   obtain⟨c0,c1,c2,c3,c4,c5⟩:=hS.c
   have S1:=zh hS
   clear hS HG
   go_wp2
   go_loopw [5] (fun i wr=>∃(j:Nat),j≤x.b.ac.length∧i= .int .i64 j∧St w wr x∧Hid (∀j',j'<j→∀k,k<x.b.ic.length→Even x.b j' k)) (fun i _=>x.b.ac.length-(intOf i).toNat)
   case atStart=>exact⟨0,by omega,rfl,zu S1,zh (fun i hi=>absurd hi (by omega))⟩
   case round=>
    clear c0 c1 c2 c3 c4 c5 S1 hk t
    obtain⟨j,hj,rfl,hS,HG⟩:=hrel
    obtain⟨c0,c1,c2,c3,c4,c5⟩:=hS.c
    have S1:=zh hS
    clear hS
    by_cases t:j<x.b.ac.length
    ·go_wp2
     go_loopw [6] (fun i wr=>∃(k:Nat),k≤x.b.ic.length∧i= .int .i64 k∧St w wr x∧Hid (∀k',k'<k→Even x.b j k')) (fun i _=>x.b.ic.length-(intOf i).toNat)
     case atStart=>exact⟨0,by omega,rfl,zu S1,zh (fun i hi=>absurd hi (by omega))⟩
     case round=>
      clear c0 c1 c2 c3 c4 c5 S1
      obtain⟨k,hk,rfl,hS,HK⟩:=hrel
      obtain⟨c0,c1,c2,c3,c4,c5⟩:=hS.c
      by_cases u:k<x.b.ic.length
      ·obtain⟨a0,a1⟩:=hS.r.ra j t
       obtain⟨i0,i1⟩:=hS.r.ri k u
       have S2:=zh hS
       have wz:=hS.s
       clear hS
       have BAD:=zh (show ¬Even x.b j k→b=false from fun hr=>(zu T).not (fun r=>hr (((zu IFF).1 r) j t k u)))
       have GOOD:=zh (show Even x.b j k→∀i,i<k+1→Even x.b j i from fun hr i hi=>by
        by_cases e:i=k
        ·subst e;exact hr
        ·exact(zu HK) i (by omega))
       have DEF:=zh (show Even x.b j k↔((Chart.el x.b.ac j).2=1→(Chart.el x.b.ic k).2=2→sumQ (ownL x.b.ls (Chart.el x.b.ac j).1 (Chart.el x.b.ic k).1)=val x.b.bs (Chart.el x.b.ac j).1 (Chart.el x.b.ic k).1) from Iff.rfl)
       generalize Even x.b j k=EP at *
       generalize (Chart.el x.b.ac j).1=y0 at *
       generalize (Chart.el x.b.ac j).2=y1 at *
       generalize (Chart.el x.b.ic k).1=z0 at *
       generalize (Chart.el x.b.ic k).2=z1 at *
       by_cases q0:y1=1
       ·by_cases q1:z1=2
        ·have DEF2:=zh (show EP↔sumQ (ownL x.b.ls y0 z0)=val x.b.bs y0 z0 from(zu DEF).trans ⟨fun hh=>hh q0 q1,fun hh _ _=>hh⟩)
         have hq0:(y1==1)=true:=by simp[q0]
         have hq1:(z1==2)=true:=by simp[q1]
         have kj:(0:Int)≤(j:Int):=by omega
         have kj2:(j:Int)<(x.b.ac.length:Int):=by omega
         have kk:(0:Int)≤(k:Int):=by omega
         have kk2:(k:Int)<(x.b.ic.length:Int):=by omega
         clear DEF q0 q1
         go_wp2_with fail
         have ga:=(zu S2).r.la
         have gi:=(zu S2).r.li
         go_region_held3 (fun w'=>w'.cell? ⟨w.heap.size,0,none⟩=some (.slice (some ⟨x.ga,0,none⟩) x.b.ac.length x.ca)∧w'.cell? ⟨w.heap.size,1,none⟩=some (.slice (some ⟨x.gi,0,none⟩) x.b.ic.length x.ci)∧w'.cell? ⟨w.heap.size,2,none⟩=some (.slice (some ⟨x.gb,0,none⟩) x.b.bs.length x.cb)∧w'.cell? ⟨w.heap.size,3,none⟩=some (.slice (some ⟨x.gl,0,none⟩) x.b.ls.length x.cl)∧w'.cell? ⟨x.ga,j*2,none⟩=some (.int .i64 y0)∧w'.cell? ⟨x.gi,k*2,none⟩=some (.int .i64 z0)) (go_keep)
          (first|(go_at_call 131;refine(SSplit.sSplit wr.drew x.gl _ x.cl x.b.ls y0 z0 rfl (by omega) (zu S2).r.ll (zu S2).r.rl).mono ?_;rintro e w3 ⟨g1,k1,g2,k2,rfl,o1,o2,ne,bb⟩;have bW:Below wr.heap.size wr w3:=below_of_drew bb;have pc0:w3.cell? ⟨w.heap.size,0,none⟩=some (.slice (some ⟨x.ga,0,none⟩) x.b.ac.length x.ca):=(bW.cell (p:=⟨w.heap.size,0,none⟩) wz).trans c0;have pc1:w3.cell? ⟨w.heap.size,1,none⟩=some (.slice (some ⟨x.gi,0,none⟩) x.b.ic.length x.ci):=(bW.cell (p:=⟨w.heap.size,1,none⟩) wz).trans c1;have pc2:w3.cell? ⟨w.heap.size,2,none⟩=some (.slice (some ⟨x.gb,0,none⟩) x.b.bs.length x.cb):=(bW.cell (p:=⟨w.heap.size,2,none⟩) wz).trans c2;have pc3:w3.cell? ⟨w.heap.size,3,none⟩=some (.slice (some ⟨x.gl,0,none⟩) x.b.ls.length x.cl):=(bW.cell (p:=⟨w.heap.size,3,none⟩) wz).trans c3;have pa0:w3.cell? ⟨x.ga,j*2,none⟩=some (.int .i64 y0):=(bW.cell (p:=⟨x.ga,j*2,none⟩) ga).trans a0;have pi0:w3.cell? ⟨x.gi,k*2,none⟩=some (.int .i64 z0):=(bW.cell (p:=⟨x.gi,k*2,none⟩) gi).trans i0))
         have S3:=zh ((zu S2).step bW)
         have O1:=zh o1
         have l1:=o1.lt.2
         clear c0 c1 c2 c3 c4 c5 a0 a1 i0 i1 bb bW o1 o2 ne
         obtain⟨ps1,ps2,ps3⟩:=Takes.own_pos (zu L).2.2.2.1 y0 z0
         have P1:=zh ps1
         have n1:(ownL x.b.ls y0 z0).length≤1048576:=Nat.le_trans (List.length_filter_le _ _) nl
         have w3z:=(zu S3).s
         have ga3:=(zu S3).r.la
         have gi3:=(zu S3).r.li
         clear ps1 ps3
         generalize hQ:sumQ (ownL x.b.ls y0 z0)=QV at *
         generalize hV:val x.b.bs y0 z0=VV at *
         have HQ:=zh hQ
         have HV:=zh hV
         clear hQ hV
         go_wp2_with fail
         go_region_held3 (fun w'=>w'.cell? ⟨w.heap.size,0,none⟩=some (.slice (some ⟨x.ga,0,none⟩) x.b.ac.length x.ca)∧w'.cell? ⟨w.heap.size,1,none⟩=some (.slice (some ⟨x.gi,0,none⟩) x.b.ic.length x.ci)∧w'.cell? ⟨w.heap.size,2,none⟩=some (.slice (some ⟨x.gb,0,none⟩) x.b.bs.length x.cb)∧w'.cell? ⟨w.heap.size,3,none⟩=some (.slice (some ⟨x.gl,0,none⟩) x.b.ls.length x.cl)∧w'.cell? ⟨x.ga,j*2,none⟩=some (.int .i64 y0)∧w'.cell? ⟨x.gi,k*2,none⟩=some (.int .i64 z0)) (go_keep)
          (first|(go_at_call 132;refine(SSplit.sQty w3.drew g1 _ k1 (ownL x.b.ls y0 z0) rfl n1 (zu O1).at (zu P1) (by rw[zu HQ];exact ps2)).mono ?_;rintro e w4 ⟨he,bb⟩;rw[zu HQ] at he;subst he;have bW:Below w3.heap.size w3 w4:=below_of_drew bb;have qc0:w4.cell? ⟨w.heap.size,0,none⟩=some (.slice (some ⟨x.ga,0,none⟩) x.b.ac.length x.ca):=(bW.cell (p:=⟨w.heap.size,0,none⟩) w3z).trans pc0;have qc1:w4.cell? ⟨w.heap.size,1,none⟩=some (.slice (some ⟨x.gi,0,none⟩) x.b.ic.length x.ci):=(bW.cell (p:=⟨w.heap.size,1,none⟩) w3z).trans pc1;have qc2:w4.cell? ⟨w.heap.size,2,none⟩=some (.slice (some ⟨x.gb,0,none⟩) x.b.bs.length x.cb):=(bW.cell (p:=⟨w.heap.size,2,none⟩) w3z).trans pc2;have qc3:w4.cell? ⟨w.heap.size,3,none⟩=some (.slice (some ⟨x.gl,0,none⟩) x.b.ls.length x.cl):=(bW.cell (p:=⟨w.heap.size,3,none⟩) w3z).trans pc3;have qa0:w4.cell? ⟨x.ga,j*2,none⟩=some (.int .i64 y0):=(bW.cell (p:=⟨x.ga,j*2,none⟩) ga3).trans pa0;have qi0:w4.cell? ⟨x.gi,k*2,none⟩=some (.int .i64 z0):=(bW.cell (p:=⟨x.gi,k*2,none⟩) gi3).trans pi0)|(go_at_call 133;refine(Look.sOf w4 x.gb _ x.cb x.b.bs y0 z0 rfl nb ((zu S3).r.below bW).rb).mono ?_;rintro e w5 ⟨he,rfl⟩;rw[zu HV] at he;subst he))
         have S4:=zh ((zu S3).step bW)
         clear bb bW qc0 qc1 qc2 qc3 qa0 qi0 pc0 pc1 pc2 pc3 pa0 pi0
         by_cases q2:QV=VV
         ·have G:=zh ((zu GOOD) ((zu DEF2).2 q2))
          have hq2:(QV !=VV)=false:=by simp[q2]
          clear BAD GOOD DEF2 q2
          go_wp2
          go_roundw
          case rel=>exact⟨k+1,by omega,by go_num,zu S4,G⟩
          case measure=>simp[intOf];omega
         ·have F:=zh ((zu BAD) (fun hh=>q2 ((zu DEF2).1 hh)))
          have hq2:(QV !=VV)=true:=by simp[q2]
          clear BAD GOOD DEF2 T q2
          go_wp2
          go_ret
          exact⟨by rw[zu F];rfl,(zu S4).b⟩
        ·have G:=zh ((zu GOOD) ((zu DEF).2 (fun _ e=>absurd e q1)))
         have hq0:(y1==1)=true:=by simp[q0]
         have hq1:(z1==2)=false:=by simp[q1]
         clear BAD GOOD DEF q0 q1
         go_wp2
         go_roundw
         case rel=>exact⟨k+1,by omega,by go_num,zu S2,G⟩
         case measure=>simp[intOf];omega
       ·have G:=zh ((zu GOOD) ((zu DEF).2 (fun e _=>absurd e q0)))
        have hq0:(y1==1)=false:=by simp[q0]
        clear BAD GOOD DEF q0
        go_wp2
        go_roundw
        case rel=>exact⟨k+1,by omega,by go_num,zu S2,G⟩
        case measure=>simp[intOf];omega
      ·have G:=zh (show ∀j',j'<j+1→∀k,k<x.b.ic.length→Even x.b j' k from fun j' hj' k' hk'=>by
        by_cases e:j'=j
        ·subst e;exact(zu HK) k' (by omega)
        ·exact(zu HG) j' (by omega) k' hk')
       have S2:=zh hS
       clear hS
       go_wp2
       go_roundw
       case rel=>exact⟨j+1,by omega,by go_num,zu S2,G⟩
       case measure=>simp[intOf];omega
    ·have F:=zh ((zu T).of ((zu IFF).2 (fun j' hj' k hk=>(zu HG) j' (by omega) k hk)))
     go_wp2
     go_ret
     exact⟨by rw[zu F];rfl,(zu S1).b⟩
end SLots
namespace SBooksOk
open BMem Bks IRead IHave ITrade ILists IBalsFit SBals SLots
open Lots (Says says_of NoOk)
open Tup8 (T8 el8)
theorem sOksA(w:World)(x:Bx)(ok:Bool)(h:Rd w x)(hok:Chart.Says ok 20 4 x.b.ac):Calls Tryz.prog 86 #[.slice (some ⟨x.ga,0,none⟩) x.b.ac.length x.ca] w fun e w'=>e= .returned (.bool ok)∧Below w.heap.size w w':=
 (AccountSOk.sOk w x.ga _ x.ca x.b.ac ok rfl h.na h.ra hok).mono fun e w' ⟨h1,q,h2⟩=>⟨h1,by rw[h2];exact below_drewN (Below.refl _ _) q⟩
theorem sOksI(w:World)(x:Bx)(ok:Bool)(h:Rd w x)(hok:Chart.Says ok 8 2 x.b.ic):Calls Tryz.prog 87 #[.slice (some ⟨x.gi,0,none⟩) x.b.ic.length x.ci] w fun e w'=>e= .returned (.bool ok)∧Below w.heap.size w w':=
 (InstrSOk.sOk w x.gi _ x.ci x.b.ic ok rfl h.ni h.ri hok).mono fun e w' ⟨h1,q,h2⟩=>⟨h1,by rw[h2];exact below_drewN (Below.refl _ _) q⟩
theorem sBooksOk(w:World)(x:Bx)(b:Bool)(h:Rd w x)(hb:Says b (Ok x.b)):
  Calls Tryz.prog 37 #[.agg #[.slice (some ⟨x.ga,0,none⟩) x.b.ac.length x.ca,.slice (some ⟨x.gi,0,none⟩) x.b.ic.length x.ci,.slice (some ⟨x.gb,0,none⟩) x.b.bs.length x.cb,.slice (some ⟨x.gl,0,none⟩) x.b.ls.length x.cl,.slice (some ⟨x.gt,0,none⟩) x.b.ts.length x.ct,.int .i64 x.b.lot]] w fun e w'=>e= .returned (.bool b)∧Below w.heap.size w w':=by
 have T:=zh hb
 have S0:=zh (St.start h 44)
 have nb:=h.nb
 have nl:=h.nl
 have nt:=h.nt
 obtain⟨b0,h0⟩:=Chart.says_of 20 4 x.b.ac
 obtain⟨b1,h1⟩:=Chart.says_of 8 2 x.b.ic
 obtain⟨b2,h2⟩:=Bals.says_of (Bals.Right x.b.bs)
 obtain⟨b3,h3⟩:=says_of (Lots.Right x.b.ls)
 obtain⟨b4,h4⟩:=says_of (TRight x.b.ts)
 obtain⟨b5,h5⟩:=says_of (0≤x.b.lot∧x.b.lot≤1000000000)
 obtain⟨b6,h6⟩:=says_of (BalsFit x.b)
 obtain⟨b7,h7⟩:=says_of (LotsFit x.b)
 have H0:=zh h0
 have H1:=zh h1
 have H2:=zh h2
 have H3:=zh h3
 have H4:=zh h4
 have H5:=zh h5
 have H6:=zh h6
 have H7:=zh h7
 clear hb h h0 h1 h2 h3 h4 h5 h6 h7
 go_enter Tryz.func37,Tryz.ntmps37
 go_wp2_with fail
 refine(sOksA _ x b0 (zu S0).r (zu H0)).mono ?_
 rintro e w1 ⟨rfl,bb⟩
 have S1:=zh ((zu S0).step bb)
 clear bb
 obtain⟨c0,c1,c2,c3,c4,c5⟩:=(zu S1).c
 cases b0
 ·have F:=zh ((zu T).not (fun hh=>(zu H0).no hh.1.1))
  clear T
  go_wp2
  go_ret
  exact⟨by rw[zu F];rfl,(zu S1).b⟩
 go_wp2_with fail
 refine(sOksI _ x b1 (zu S1).r (zu H1)).mono ?_
 rintro e w2 ⟨rfl,bb⟩
 have S2:=zh ((zu S1).step bb)
 clear bb
 clear c0 c1 c2 c3 c4 c5
 obtain⟨c0,c1,c2,c3,c4,c5⟩:=(zu S2).c
 cases b1
 ·have F:=zh ((zu T).not (fun hh=>(zu H1).no hh.1.2.1))
  clear T
  go_wp2
  go_ret
  exact⟨by rw[zu F];rfl,(zu S2).b⟩
 go_wp2_with fail
 refine(SOk3.sOk _ x.gb _ x.cb x.b.bs b2 rfl nb (zu S2).r.lb (zu S2).r.rb (zu H2)).mono ?_
 rintro e w3 ⟨rfl,bb⟩
 have S3:=zh ((zu S2).step bb)
 clear bb
 clear c0 c1 c2 c3 c4 c5
 obtain⟨c0,c1,c2,c3,c4,c5⟩:=(zu S3).c
 cases b2
 ·have F:=zh ((zu T).not (fun hh=>(zu H2).no hh.1.2.2.1))
  clear T
  go_wp2
  go_ret
  exact⟨by rw[zu F];rfl,(zu S3).b⟩
 go_wp2_with fail
 refine(SOk5.sOk _ x.gl _ x.cl x.b.ls b3 rfl nl (zu S3).r.ll (zu S3).r.rl (zu H3)).mono ?_
 rintro e w4 ⟨rfl,bb⟩
 have S4:=zh ((zu S3).step bb)
 clear bb
 clear c0 c1 c2 c3 c4 c5
 obtain⟨c0,c1,c2,c3,c4,c5⟩:=(zu S4).c
 cases b3
 ·have F:=zh ((zu T).not (fun hh=>(zu H3).no hh.1.2.2.2.1))
  clear T
  go_wp2
  go_ret
  exact⟨by rw[zu F];rfl,(zu S4).b⟩
 go_wp2_with fail
 refine(ITrade.sOk _ x.gt _ x.ct x.b.ts b4 rfl nt (zu S4).r.lt (zu S4).r.rt (zu H4)).mono ?_
 rintro e w5 ⟨rfl,bb⟩
 have S5:=zh ((zu S4).step bb)
 clear bb
 clear c0 c1 c2 c3 c4 c5
 obtain⟨c0,c1,c2,c3,c4,c5⟩:=(zu S5).c
 cases b4
 ·have F:=zh ((zu T).not (fun hh=>(zu H4).no hh.1.2.2.2.2.1))
  clear T
  go_wp2
  go_ret
  exact⟨by rw[zu F];rfl,(zu S5).b⟩
 go_wp2_with fail
 refine(SOk5.sIn x.b.lot 0 1000000000 b5 _ (zu H5)).mono ?_
 rintro e w6 ⟨rfl,rfl⟩
 have S6:=S5
 cases b5
 ·have F:=zh ((zu T).not (fun hh=>(zu H5).no hh.1.2.2.2.2.2))
  clear T
  go_wp2
  go_ret
  exact⟨by rw[zu F];rfl,(zu S6).b⟩
 have L:=zh (show Lists x.b from⟨(zu H0).yes,(zu H1).yes,(zu H2).yes,(zu H3).yes,(zu H4).yes,(zu H5).yes⟩)
 go_wp2_with fail
 refine(sBals _ x b6 (zu S6).r (zu L) (zu H6)).mono ?_
 rintro e w7 ⟨rfl,bb⟩
 have S7:=zh ((zu S6).step bb)
 clear bb
 clear c0 c1 c2 c3 c4 c5
 obtain⟨c0,c1,c2,c3,c4,c5⟩:=(zu S7).c
 cases b6
 ·have F:=zh ((zu T).not (fun hh=>(zu H6).no hh.2.1))
  clear T
  go_wp2
  go_ret
  exact⟨by rw[zu F];rfl,(zu S7).b⟩
 go_wp2_with fail
 refine(sLots _ x b7 (zu S7).r (zu L) (zu H7)).mono ?_
 rintro e w8 ⟨rfl,bb⟩
 have S8:=zh ((zu S7).step bb)
 clear bb
 clear c0 c1 c2 c3 c4 c5
 obtain⟨c0,c1,c2,c3,c4,c5⟩:=(zu S8).c
 cases b7
 ·have F:=zh ((zu T).not (fun hh=>(zu H7).no hh.2.2.1))
  clear T
  go_wp2
  go_ret
  exact⟨by rw[zu F];rfl,(zu S8).b⟩
 go_wp2
 go_loopw [3] (fun i wr=>∃(k:Nat),k≤x.b.ts.length∧i= .int .i64 k∧St w wr x∧Hid (∀j,j<k→TradeFit x.b (el8 x.b.ts j))) (fun i _=>x.b.ts.length-(intOf i).toNat)
 case atStart=>exact⟨0,by omega,rfl,zu S8,zh (fun i hi=>absurd hi (by omega))⟩
 case round=>
  obtain⟨k,hk,rfl,hS,HG⟩:=hrel
  clear S0 S1 S2 S3 S4 S5 S6 S7 S8 c0 c1 c2 c3 c4 c5
  obtain⟨c0,c1,c2,c3,c4,c5⟩:=hS.c
  by_cases t:k<x.b.ts.length
  ·obtain⟨d0,d1,d2,d3,d4,d5,d6,d7⟩:=(hS.r.rt k t)
   have BAD:=zh (show ¬TradeFit x.b (el8 x.b.ts k)→b=false from fun hr=>(zu T).not (fun r=>hr (r.2.2.2 k t)))
   have GOOD:=zh (show TradeFit x.b (el8 x.b.ts k)→∀i,i<k+1→TradeFit x.b (el8 x.b.ts i) from fun hr i hi=>by
    by_cases e:i=k
    ·subst e;exact hr
    ·exact(zu HG) i (by omega))
   have FIT:=zh (show TradeFit x.b (el8 x.b.ts k)↔kindOf x.b.ac (el8 x.b.ts k).2.1=1∧kindOf x.b.ac (el8 x.b.ts k).2.2.1=1∧kindOf x.b.ic (el8 x.b.ts k).2.2.2.1=2∧kindOf x.b.ic (el8 x.b.ts k).2.2.2.2.2.1=1 from Iff.rfl)
   have wz:=hS.s
   have S1:=zh (hS.step (one_more wr (.cells #[.int .i64 (el8 x.b.ts k).1,.int .i64 (el8 x.b.ts k).2.1,.int .i64 (el8 x.b.ts k).2.2.1,.int .i64 (el8 x.b.ts k).2.2.2.1,.int .i64 (el8 x.b.ts k).2.2.2.2.1,.int .i64 (el8 x.b.ts k).2.2.2.2.2.1,.int .i64 (el8 x.b.ts k).2.2.2.2.2.2.1,.int .i64 (el8 x.b.ts k).2.2.2.2.2.2.2] 136)))
   clear hS
   generalize TradeFit x.b (el8 x.b.ts k)=FP at *
   generalize (el8 x.b.ts k).1=y0 at *
   generalize (el8 x.b.ts k).2.1=y1 at *
   generalize (el8 x.b.ts k).2.2.1=y2 at *
   generalize (el8 x.b.ts k).2.2.2.1=y3 at *
   generalize (el8 x.b.ts k).2.2.2.2.1=y4 at *
   generalize (el8 x.b.ts k).2.2.2.2.2.1=y5 at *
   generalize (el8 x.b.ts k).2.2.2.2.2.2.1=y6 at *
   generalize (el8 x.b.ts k).2.2.2.2.2.2.2=y7 at *
   generalize hK1:kindOf x.b.ac y1=K1 at *
   generalize hK2:kindOf x.b.ac y2=K2 at *
   generalize hK3:kindOf x.b.ic y3=K3 at *
   generalize hK4:kindOf x.b.ic y5=K4 at *
   have N1:=zh hK1
   have N2:=zh hK2
   have N3:=zh hK3
   have N4:=zh hK4
   clear hK1 hK2 hK3 hK4
   go_wp2_with fail
   refine(sKindA _ x y1 K1 (zu S1).r (zu L).1 (zu N1)).mono ?_
   rintro e v1 ⟨rfl,bb⟩
   have S2:=zh ((zu S1).step bb)
   have f2:v1.cell? ⟨wr.heap.size,2,none⟩=some (.int .i64 y2):=(bb.cell (p:=⟨wr.heap.size,2,none⟩) (by simp)).trans (by simp)
   have f3:v1.cell? ⟨wr.heap.size,3,none⟩=some (.int .i64 y3):=(bb.cell (p:=⟨wr.heap.size,3,none⟩) (by simp)).trans (by simp)
   have f5:v1.cell? ⟨wr.heap.size,5,none⟩=some (.int .i64 y5):=(bb.cell (p:=⟨wr.heap.size,5,none⟩) (by simp)).trans (by simp)
   have z1:wr.heap.size<v1.heap.size:=by have:=bb.size;simp at this;omega
   clear d0 d1 d2 d3 d4 d5 d6 d7
   clear bb c0 c1 c2 c3 c4 c5
   obtain⟨c0,c1,c2,c3,c4,c5⟩:=(zu S2).c
   by_cases q1:K1=1
   rotate_left
   ·have F:=zh ((zu BAD) (fun hh=>q1 ((zu FIT).1 hh).1))
    have hq:(K1 !=1)=true:=by simp[q1]
    clear BAD GOOD FIT T q1
    go_wp2
    go_ret
    exact⟨by rw[zu F];rfl,(zu S2).b⟩
   have hq1:(K1 !=1)=false:=by simp[q1]
   have Q1:=zh q1
   clear q1
   go_wp2_with fail
   refine(sKindA _ x y2 K2 (zu S2).r (zu L).1 (zu N2)).mono ?_
   rintro e v2 ⟨rfl,bb⟩
   have S3:=zh ((zu S2).step bb)
   replace f2:v2.cell? ⟨wr.heap.size,2,none⟩=some (.int .i64 y2):=(bb.cell (p:=⟨wr.heap.size,2,none⟩) z1).trans f2
   replace f3:v2.cell? ⟨wr.heap.size,3,none⟩=some (.int .i64 y3):=(bb.cell (p:=⟨wr.heap.size,3,none⟩) z1).trans f3
   replace f5:v2.cell? ⟨wr.heap.size,5,none⟩=some (.int .i64 y5):=(bb.cell (p:=⟨wr.heap.size,5,none⟩) z1).trans f5
   have z2:wr.heap.size<v2.heap.size:=Nat.lt_of_lt_of_le z1 bb.size
   clear bb c0 c1 c2 c3 c4 c5
   obtain⟨c0,c1,c2,c3,c4,c5⟩:=(zu S3).c
   by_cases q2:K2=1
   rotate_left
   ·have F:=zh ((zu BAD) (fun hh=>q2 ((zu FIT).1 hh).2.1))
    have hq:(K2 !=1)=true:=by simp[q2]
    clear BAD GOOD FIT T q2
    go_wp2
    go_ret
    exact⟨by rw[zu F];rfl,(zu S3).b⟩
   have hq2:(K2 !=1)=false:=by simp[q2]
   have Q2:=zh q2
   clear q2
   go_wp2_with fail
   refine(sKindI _ x y3 K3 (zu S3).r (zu L).2.1 (zu N3)).mono ?_
   rintro e v3 ⟨rfl,bb⟩
   have S4:=zh ((zu S3).step bb)
   replace f2:v3.cell? ⟨wr.heap.size,2,none⟩=some (.int .i64 y2):=(bb.cell (p:=⟨wr.heap.size,2,none⟩) z2).trans f2
   replace f3:v3.cell? ⟨wr.heap.size,3,none⟩=some (.int .i64 y3):=(bb.cell (p:=⟨wr.heap.size,3,none⟩) z2).trans f3
   replace f5:v3.cell? ⟨wr.heap.size,5,none⟩=some (.int .i64 y5):=(bb.cell (p:=⟨wr.heap.size,5,none⟩) z2).trans f5
   have z3:wr.heap.size<v3.heap.size:=Nat.lt_of_lt_of_le z2 bb.size
   clear bb c0 c1 c2 c3 c4 c5
   obtain⟨c0,c1,c2,c3,c4,c5⟩:=(zu S4).c
   by_cases q3:K3=2
   rotate_left
   ·have F:=zh ((zu BAD) (fun hh=>q3 ((zu FIT).1 hh).2.2.1))
    have hq:(K3 !=2)=true:=by simp[q3]
    clear BAD GOOD FIT T q3
    go_wp2
    go_ret
    exact⟨by rw[zu F];rfl,(zu S4).b⟩
   have hq3:(K3 !=2)=false:=by simp[q3]
   have Q3:=zh q3
   clear q3
   go_wp2_with fail
   refine(sKindI _ x y5 K4 (zu S4).r (zu L).2.1 (zu N4)).mono ?_
   rintro e v4 ⟨rfl,bb⟩
   have S5:=zh ((zu S4).step bb)
   clear bb c0 c1 c2 c3 c4 c5
   obtain⟨c0,c1,c2,c3,c4,c5⟩:=(zu S5).c
   by_cases q4:K4=1
   rotate_left
   ·have F:=zh ((zu BAD) (fun hh=>q4 ((zu FIT).1 hh).2.2.2))
    have hq:(K4 !=1)=true:=by simp[q4]
    clear BAD GOOD FIT T q4
    go_wp2
    go_ret
    exact⟨by rw[zu F];rfl,(zu S5).b⟩
   have hq4:(K4 !=1)=false:=by simp[q4]
   have Q4:=zh q4
   clear q4
   have G:=zh ((zu GOOD) ((zu FIT).2 ⟨zu Q1,zu Q2,zu Q3,zu Q4⟩))
   clear BAD GOOD FIT
   go_wp2
   go_roundw
   case rel=>exact⟨k+1,by omega,by go_num,zu S5,G⟩
   case measure=>simp[intOf];omega
  ·have F:=zh ((zu T).of ⟨zu L,(zu H6).yes,(zu H7).yes,fun j hj=>(zu HG) j (by omega)⟩)
   have S1:=zh hS
   clear hS
   go_wp2
   go_ret
   exact⟨by rw[zu F];rfl,(zu S1).b⟩
end SBooksOk
namespace SPack13
open BMem Bks SPuts11 SNums13
open IBalsFit (St one_more)
open Lots (Says says_of)
open Bals (T3 el3)
open Tup5 (T5 el5)
open Tup8 (T8 el8)
open SPut11 (lit0)
abbrev Nm(y:Int):Prop:=0≤y∧y≤2000000000000000
theorem flat_all{α:Type}{ps:List α}{f:α→List Int}{d:α}(h:∀i,i<ps.length→∀y∈f (ps.getD i d),Nm y):∀y∈ps.flatMap f,Nm y:=by
 intro y hy
 obtain⟨p,hp,hy⟩:=List.mem_flatMap.1 hy
 obtain⟨i,hi,rfl⟩:=List.getElem_of_mem hp
 refine h i hi y ?_
 simpa[List.getD,hi] using hy
theorem flat_len{α:Type}{ps:List α}{f:α→List Int}{m:Nat}(h:∀p,(f p).length=m):(ps.flatMap f).length=m*ps.length:=by
 induction ps with
 |nil=>simp
 |cons p r ih=>rw[List.flatMap_cons,List.length_append,ih,h,List.length_cons,Nat.mul_succ];omega
theorem in2{a b:Int}(ha:Nm a)(hb:Nm b):∀y∈row2 (a,b),Nm y:=by
 intro y hy
 simp only[row2,List.mem_cons,List.not_mem_nil,or_false] at hy
 rcases hy with rfl|rfl<;>assumption
theorem nums_in{b:Bk}(h:Lists b):∀y∈nums b,Nm y:=by
 obtain⟨h1,h2,h3,h4,h5,h6⟩:=h
 have l1:=h1.1
 have l2:=h2.1
 have l3:=h3.1
 have l4:=h4.1
 have l5:=h5.1
 have c1:∀y∈b.ac.flatMap row2,Nm y:=flat_all (d:=(0,0)) fun i hi y hy=>by
  obtain⟨a1,a2,_⟩:=h1.2 i hi
  change y∈row2 (Chart.el b.ac i) at hy
  generalize Chart.el b.ac i=p at *
  obtain⟨p0,p1⟩:=p
  simp only at a1 a2
  exact in2 ⟨by omega,by omega⟩ ⟨by omega,by omega⟩ y hy
 have c2:∀y∈b.ic.flatMap row2,Nm y:=flat_all (d:=(0,0)) fun i hi y hy=>by
  obtain⟨a1,a2,_⟩:=h2.2 i hi
  change y∈row2 (Chart.el b.ic i) at hy
  generalize Chart.el b.ic i=p at *
  obtain⟨p0,p1⟩:=p
  simp only at a1 a2
  exact in2 ⟨by omega,by omega⟩ ⟨by omega,by omega⟩ y hy
 have c3:∀y∈b.bs.flatMap row3,Nm y:=flat_all (d:=(0,0,0)) fun i hi y hy=>by
  obtain⟨a1,a2,a3,_⟩:=h3.2 i hi
  change y∈row3 (el3 b.bs i) at hy
  generalize el3 b.bs i=p at *
  obtain⟨p0,p1,p2⟩:=p
  simp only[Bals.NoOk,Bals.Amt] at a1 a2 a3
  simp only[row3,List.mem_cons,List.not_mem_nil,or_false] at hy
  unfold Nm
  omega
 have c4:∀y∈b.ls.flatMap row5,Nm y:=flat_all (d:=(0,0,0,0,0)) fun i hi y hy=>by
  obtain⟨a1,a2,a3,a4,a5⟩:=(h4.2.1 i hi).1
  change y∈row5 (el5 b.ls i) at hy
  generalize el5 b.ls i=p at *
  obtain⟨p0,p1,p2,p3,p4⟩:=p
  simp only[Lots.NoOk] at a1 a2 a3 a4 a5
  simp only[row5,List.mem_cons,List.not_mem_nil,or_false] at hy
  unfold Nm
  omega
 have c5:∀y∈b.ts.flatMap row8,Nm y:=flat_all (d:=(0,0,0,0,0,0,0,0)) fun i hi y hy=>by
  have a:=(h5.2 i hi).1
  change y∈row8 (el8 b.ts i) at hy
  generalize el8 b.ts i=p at *
  obtain⟨p0,p1,p2,p3,p4,p5,p6,p7⟩:=p
  simp only[TOne,Lots.NoOk] at a
  simp only[row8,List.mem_cons,List.not_mem_nil,or_false] at hy
  unfold Nm
  omega
 intro y hy
 unfold nums at hy
 simp only[List.mem_append,List.mem_cons,List.not_mem_nil,or_false] at hy
 rcases hy with((((((((((rfl|hy)|rfl)|hy)|rfl)|hy)|rfl)|hy)|rfl)|hy)|rfl)
 ·unfold Nm;omega
 ·exact c1 y hy
 ·unfold Nm;omega
 ·exact c2 y hy
 ·unfold Nm;omega
 ·exact c3 y hy
 ·unfold Nm;omega
 ·exact c4 y hy
 ·unfold Nm;omega
 ·exact c5 y hy
 ·unfold Nm;omega
theorem nums_len{b:Bk}(h:Lists b):(nums b).length≤100000:=by
 obtain⟨h1,h2,h3,h4,h5,_⟩:=h
 have l1:=h1.1
 have l2:=h2.1
 have l3:=h3.1
 have l4:=h4.1
 have l5:=h5.1
 unfold nums
 simp only[List.length_append,List.length_cons,List.length_nil,flat_len (f:=row2) (m:=2) (fun _=>rfl),flat_len (f:=row3) (m:=3) (fun _=>rfl),flat_len (f:=row5) (m:=5) (fun _=>rfl),flat_len (f:=row8) (m:=8) (fun _=>rfl)]
 omega
theorem nums_get{b:Bk}(h:Lists b)(i:Nat)(hi:i<(nums b).length):(nums b).getD i 0≤9223372036854775807:=by
 have:=nums_in h ((nums b)[i]) (List.getElem_mem _)
 unfold Nm at this
 simp[List.getD,hi]
 omega
open Classical in
noncomputable def packB (b:Bk):List Int:=if Ok b then numsB (nums b) else[]
theorem sBooksPack(w:World)(x:Bx)(b:Bool)(h:Rd w x)(hb:Says b (Ok x.b)):
  Calls Tryz.prog 95 #[.agg #[.slice (some ⟨x.ga,0,none⟩) x.b.ac.length x.ca,.slice (some ⟨x.gi,0,none⟩) x.b.ic.length x.ci,.slice (some ⟨x.gb,0,none⟩) x.b.bs.length x.cb,.slice (some ⟨x.gl,0,none⟩) x.b.ls.length x.cl,.slice (some ⟨x.gt,0,none⟩) x.b.ts.length x.ct,.int .i64 x.b.lot]] w fun e w'=>∃g c,e= .returned (.tuple #[.slice (some ⟨g,0,none⟩) (packB x.b).length c,.bool b])∧ByteH.Own w' w.heap.size g (packB x.b).length c (packB x.b)∧Below w.heap.size w w':=by
 have S0:=zh (St.start h 44)
 have HB:=zh hb
 cases b with
 |false=>
  have e:packB x.b=[]:=if_neg (fun r=>by have:=hb.of r;simp at this)
  rw[e]
  clear e h hb
  have s0:=(zu S0).c
  obtain⟨c0,c1,c2,c3,c4,c5⟩:=s0
  go_enter Tryz.func95,Tryz.ntmps95
  go_wp2_with fail
  refine(SBooksOk.sBooksOk _ x false (zu S0).r (zu HB)).mono ?_
  rintro e u ⟨rfl,bb⟩
  have S1:=zh ((zu S0).step bb)
  have us:=bb.size
  clear bb
  have O5:=zh (lit0 u w.heap.size (by have:=(zu S1).b.size;omega) rfl)
  have B5:=zh ((zu S1).b.alloc (by have:=(zu S1).b.size;omega) (.cells #[] 5))
  go_wp2
  go_ret2
  exact⟨_,0,rfl,zu O5,zu B5⟩
 |true=>
  have ok:=hb.yes
  have e:packB x.b=numsB (nums x.b):=if_pos ok
  rw[e]
  have li:=ok.1
  have SN:=zh (fun u h=>sNums u x h (fun i hi=>(li.2.2.1.2 i hi).2.2.1))
  have SP:=zh (fun u g c hg hr=>sPutNums u g c (nums x.b) (by have:=nums_len li;omega) hg hr (nums_get li))
  clear e h hb ok li
  obtain⟨c0,c1,c2,c3,c4,c5⟩:=(zu S0).c
  generalize nums x.b=ys at *
  go_enter Tryz.func95,Tryz.ntmps95
  go_wp2_with fail
  refine(SBooksOk.sBooksOk _ x true (zu S0).r (zu HB)).mono ?_
  rintro e u ⟨rfl,bb⟩
  have S1:=zh ((zu S0).step bb)
  clear bb c0 c1 c2 c3 c4 c5
  obtain⟨c0,c1,c2,c3,c4,c5⟩:=(zu S1).c
  go_wp2_with fail
  refine((zu SN) _ (zu S1).r).mono ?_
  rintro e u2 ⟨g2,k2,rfl,o2,b2⟩
  have S2:=zh ((zu S1).step b2)
  have O2:=zh o2
  clear o2 b2 S1 S0
  go_wp2_with fail
  refine((zu SP) _ g2 k2 (zu O2).lt.2 (zu O2).at).mono ?_
  rintro e u3 ⟨g3,k3,rfl,o3,b3⟩
  have O3:=zh (o3.mono (base':=w.heap.size) (by have:=(zu S2).b.size;omega))
  have B3:=zh ((zu S2).b.trans (b3.mono (by have:=(zu S2).b.size;omega)))
  clear o3 b3
  go_wp2
  go_ret2
  exact⟨g3,k3,rfl,zu O3,zu B3⟩
end SPack13
namespace IBooksOk
open BMem Bks IRead IHave ITrade ILists IBalsFit ILotsFit ITradesFit
open Lots (Says says_of NoOk)
theorem iBooksOk(w:World)(x:Bx)(b:Bool)(h:Rd w x)(hb:Says b (Ok x.b)):
  Calls Tryz.prog 139 #[.agg #[.slice (some ⟨x.ga,0,none⟩) x.b.ac.length x.ca,.slice (some ⟨x.gi,0,none⟩) x.b.ic.length x.ci,.slice (some ⟨x.gb,0,none⟩) x.b.bs.length x.cb,.slice (some ⟨x.gl,0,none⟩) x.b.ls.length x.cl,.slice (some ⟨x.gt,0,none⟩) x.b.ts.length x.ct,.int .i64 x.b.lot]] w fun e w'=>e= .returned (.bool b)∧Below w.heap.size w w':=by
 have T:=zh hb
 have S0:=zh (St.start h 44)
 obtain⟨b0,h0⟩:=says_of (Lists x.b)
 obtain⟨b1,h1⟩:=says_of (BalsFit x.b)
 obtain⟨b2,h2⟩:=says_of (LotsFit x.b)
 obtain⟨b3,h3⟩:=says_of (TradesFit x.b)
 have H0:=zh h0
 have H1:=zh h1
 have H2:=zh h2
 have H3:=zh h3
 clear hb h h0 h1 h2 h3
 go_enter Tryz.func139,Tryz.ntmps139
 go_wp2_with fail
 refine(iLists _ x b0 (zu S0).r (zu H0)).mono ?_
 rintro e w1 ⟨rfl,bb⟩
 have S1:=zh ((zu S0).step bb)
 clear bb
 obtain⟨c0,c1,c2,c3,c4,c5⟩:=(zu S1).c
 cases b0
 ·have F:=zh ((zu T).not (fun hh=>(zu H0).no hh.1))
  clear T
  go_wp2
  go_ret
  exact⟨by rw[zu F];rfl,(zu S1).b⟩
 go_wp2_with fail
 refine(iBalsFit _ x b1 (zu S1).r (zu H0).yes (zu H1)).mono ?_
 rintro e w2 ⟨rfl,bb⟩
 have S2:=zh ((zu S1).step bb)
 clear bb
 clear c0 c1 c2 c3 c4 c5
 obtain⟨c0,c1,c2,c3,c4,c5⟩:=(zu S2).c
 cases b1
 ·have F:=zh ((zu T).not (fun hh=>(zu H1).no hh.2.1))
  clear T
  go_wp2
  go_ret
  exact⟨by rw[zu F];rfl,(zu S2).b⟩
 go_wp2_with fail
 refine(iLotsFit _ x b2 (zu S2).r (zu H0).yes (zu H2)).mono ?_
 rintro e w3 ⟨rfl,bb⟩
 have S3:=zh ((zu S2).step bb)
 clear bb
 clear c0 c1 c2 c3 c4 c5
 obtain⟨c0,c1,c2,c3,c4,c5⟩:=(zu S3).c
 cases b2
 ·have F:=zh ((zu T).not (fun hh=>(zu H2).no hh.2.2.1))
  clear T
  go_wp2
  go_ret
  exact⟨by rw[zu F];rfl,(zu S3).b⟩
 go_wp2_with fail
 refine(iTradesFit _ x b3 (zu S3).r (zu H0).yes (zu H3)).mono ?_
 rintro e w4 ⟨rfl,bb⟩
 have S4:=zh ((zu S3).step bb)
 clear bb
 clear c0 c1 c2 c3 c4 c5
 obtain⟨c0,c1,c2,c3,c4,c5⟩:=(zu S4).c
 cases b3
 ·have F:=zh ((zu T).not (fun hh=>(zu H3).no hh.2.2.2))
  clear T
  go_wp2
  go_ret
  exact⟨by rw[zu F];rfl,(zu S4).b⟩
 have F:=zh ((zu T).of ⟨(zu H0).yes,(zu H1).yes,(zu H2).yes,(zu H3).yes⟩)
 clear T
 go_wp2
 go_ret
 exact⟨by rw[zu F];rfl,(zu S4).b⟩
end IBooksOk
end Go.Proofs.YtppkkmaoaiopaaaGreat
