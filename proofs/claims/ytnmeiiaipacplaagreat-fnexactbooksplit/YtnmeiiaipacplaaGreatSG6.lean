/- Texts of one proof, one behind the other: Lay, Sort3, Out, Post, Entry, ILotsFit, IBooksOk, SLots, SBooksOk, Ans, ICmdB, ICmd, Post2, SPost, SBk, ITakeBk, SHeld, SIssue, Corp, Pay, Split. -/
import Derived.Test.YtnmeiiaipacplaaGreatRows
import Derived.Test.YtnmeiiaipacplaaGreatSG1
import Derived.Test.YtnmeiiaipacplaaGreatSG2
import Derived.Test.YtnmeiiaipacplaaGreatSG3
import Derived.Test.YtnmeiiaipacplaaGreatSG4
import Derived.Test.YtnmeiiaipacplaaGreatSG5
import Derived.Shelf.SlGeneric
import Derived.Shelf.SlSortCmp.WholeK
import Derived.Ground.SlsfProg
import Derived.WideKeyEntry
import Derived.Deep.RegionHeld3
import Derived.Defers
set_option linter.unusedVariables false
set_option linter.unusedSimpArgs false
open Go.ChangeShapes Go.WideShapes Go.ChangeAt Go.RowKit
set_option maxRecDepth 100000
set_option maxHeartbeats 32000000
namespace Go.Proofs
open Go.Shelf
def Tryz.sortL_ren : Go.Shelf.Ren := ⟨fun | 6 => 173 | 15 => 192 | 14 => 191 | 28 => 213 | 29 => 214 | 20 => 205 | 21 => 206 | 22 => 207 | 23 => 208 | 24 => 209 | 25 => 210 | 26 => 211 | 27 => 212 | 46 => 217 | 47 => 218 | 48 => 219 | 49 => 220 | 50 => 221 | 57 => 223 | n => n, fun | 22 => 32 | 24 => 119 | 25 => 194 | 3 => 3 | 39 => 169 | 0 => 0 | 53 => 170 | 55 => 130 | 4 => 4 | 46 => 222 | 45 => 221 | 50 => 136 | 5 => 5 | 9 => 9 | 66 => 231 | 70 => 235 | 76 => 238 | 77 => 102 | n => n, fun | n => n⟩
theorem Tryz.sortL : Go.Proofs.SlLaysF0.n6 Tryz.prog Tryz.sortL_ren := {
  mixed := by kernel_rfl
  f6 := ⟨Tryz.f173.name, by decide, Tryz.func173.trans (congrArg some (by kernel_rfl))⟩
  f14 := ⟨Tryz.f191.name, by decide, Tryz.func191.trans (congrArg some (by kernel_rfl))⟩
  f15 := Tryz.func192.trans (congrArg some (by kernel_rfl))
  f20 := ⟨Tryz.f205.name, by decide, Tryz.func205.trans (congrArg some (by kernel_rfl))⟩
  f21 := ⟨Tryz.f206.name, by decide, Tryz.func206.trans (congrArg some (by kernel_rfl))⟩
  f22 := ⟨Tryz.f207.name, by decide, Tryz.func207.trans (congrArg some (by kernel_rfl))⟩
  f23 := ⟨Tryz.f208.name, by decide, Tryz.func208.trans (congrArg some (by kernel_rfl))⟩
  f24 := ⟨Tryz.f209.name, by decide, Tryz.func209.trans (congrArg some (by kernel_rfl))⟩
  f25 := ⟨Tryz.f210.name, by decide, Tryz.func210.trans (congrArg some (by kernel_rfl))⟩
  f26 := ⟨Tryz.f211.name, by decide, Tryz.func211.trans (congrArg some (by kernel_rfl))⟩
  f27 := ⟨Tryz.f212.name, by decide, Tryz.func212.trans (congrArg some (by kernel_rfl))⟩
  f28 := Tryz.func213.trans (congrArg some (by kernel_rfl))
  f29 := Tryz.func214.trans (congrArg some (by kernel_rfl))
  f46 := ⟨Tryz.f217.name, by decide, Tryz.func217.trans (congrArg some (by kernel_rfl))⟩
  f47 := Tryz.func218.trans (congrArg some (by kernel_rfl))
  f48 := Tryz.func219.trans (congrArg some (by kernel_rfl))
  f49 := ⟨Tryz.f220.name, by decide, Tryz.func220.trans (congrArg some (by kernel_rfl))⟩
  f50 := ⟨Tryz.f221.name, by decide, Tryz.func221.trans (congrArg some (by kernel_rfl))⟩
  f57 := ⟨Tryz.f223.name, by decide, Tryz.func223.trans (congrArg some (by kernel_rfl))⟩
  t0 := Tryz.underlying0
  a0 := Tryz.isAgg0
  z0 := Tryz.sizeOf0
  v0 := Tryz.zeroValue0
  t3 := Tryz.underlying3
  a3 := Tryz.isAgg3
  z3 := Tryz.sizeOf3
  v3 := Tryz.zeroValue3
  t4 := Tryz.underlying4
  a4 := Tryz.isAgg4
  z4 := Tryz.sizeOf4
  v4 := Tryz.zeroValue4
  t5 := Tryz.underlying5
  a5 := Tryz.isAgg5
  z5 := Tryz.sizeOf5
  v5 := Tryz.zeroValue5
  t9 := Tryz.underlying9
  a9 := Tryz.isAgg9
  z9 := Tryz.sizeOf9
  v9 := Tryz.zeroValue9
  t22 := Tryz.underlying32
  a22 := Tryz.isAgg32
  z22 := Tryz.sizeOf32
  v22 := Tryz.zeroValue32
  t25 := Tryz.underlying194
  a25 := Tryz.isAgg194
  z25 := Tryz.sizeOf194
  v25 := Tryz.zeroValue194
  t39 := Tryz.underlying169
  a39 := Tryz.isAgg169
  z39 := Tryz.sizeOf169
  v39 := Tryz.zeroValue169
  t45 := Tryz.underlying221
  a45 := Tryz.isAgg221
  z45 := Tryz.sizeOf221
  v45 := Tryz.zeroValue221
  t46 := Tryz.underlying222
  a46 := Tryz.isAgg222
  z46 := Tryz.sizeOf222
  v46 := Tryz.zeroValue222
  t50 := Tryz.underlying136
  a50 := Tryz.isAgg136
  z50 := Tryz.sizeOf136
  v50 := Tryz.zeroValue136
  t53 := Tryz.underlying170
  a53 := Tryz.isAgg170
  z53 := Tryz.sizeOf170
  v53 := Tryz.zeroValue170
  t55 := Tryz.underlying130
  a55 := Tryz.isAgg130
  z55 := Tryz.sizeOf130
  v55 := Tryz.zeroValue130
  t66 := Tryz.underlying231
  a66 := Tryz.isAgg231
  z66 := Tryz.sizeOf231
  v66 := Tryz.zeroValue231
  t70 := Tryz.underlying235
  a70 := Tryz.isAgg235
  z70 := Tryz.sizeOf235
  v70 := Tryz.zeroValue235
  t76 := Tryz.underlying238
  a76 := Tryz.isAgg238
  z76 := Tryz.sizeOf238
  v76 := Tryz.zeroValue238
  t77 := Tryz.underlying102
  a77 := Tryz.isAgg102
  z77 := Tryz.sizeOf102
  v77 := Tryz.zeroValue102 }
end Go.Proofs
namespace Go.Proofs.YtnmeiiaipacplaaGreat
namespace Sort3
open Bals Triples Cmp
open Go.Sort (putRow putCells mapBlock onCells Holds SWO PermIn SortedIn grow flatK get_flatK size_flatK HoldsK)
def enc(p:T3):List Value:=[.int .i64 p.1,.int .i64 p.2.1,.int .i64 p.2.2]
def cf(p q:T3):Int:=cmpK p.1 p.2.1 q.1 q.2.1
theorem lt_iff(p q:T3):ltOf cf p q=true↔Bef p q:=by
 unfold ltOf cf Bef
 rw[decide_eq_true_eq,cmpK_lt]
theorem lt_not(p q:T3):ltOf cf p q=false↔¬Bef p q:=by
 rw[←lt_iff]
 simp
theorem swo:SWO (ltOf cf) where
 irrefl x:=by rw[lt_not];exact bef_irrefl x
 trans x y z h1 h2:=by rw[lt_iff] at *;exact bef_trans h1 h2
 ntrans x y z h1 h2:=by rw[lt_not] at *;unfold Bef at *;omega
theorem flat_flatK(d:Array T3):(flatK enc 3 d).toList=flat3 d.toList:=by
 apply List.ext_getElem?
 intro t
 by_cases ht:t<d.size*3
 ·have e1:(flatK enc 3 d).toList[t]?=some ((enc d[t/3]!)[t%3]!):=by
   have:=get_flatK enc 3 d t ht
   rw[getElem!_pos _ t (by simpa using ht)] at this
   simp only[Array.getElem?_toList]
   rw[Array.getElem?_eq_getElem (by simpa using ht),this]
  have hq:t/3<d.size:=by omega
  have e2:el3 d.toList (t/3)=d[t/3]! :=by
   rw[getElem!_pos d (t/3) hq]
   simp[el3,List.getD,hq]
  obtain⟨f0,f1,f2⟩:=flat3_get d.toList (t/3) (by simpa using hq)
  rw[e2] at f0 f1 f2
  rw[e1]
  rcases(show t%3=0∨t%3=1∨t%3=2 by omega) with e|e|e
  ·rw[show t/3*3=t by omega] at f0
   rw[f0,e];rfl
  ·rw[show t/3*3+1=t by omega] at f1
   rw[f1,e];rfl
  ·rw[show t/3*3+2=t by omega] at f2
   rw[f2,e];rfl
 ·rw[List.getElem?_eq_none (by simp;omega),List.getElem?_eq_none (by rw[flat3_len];simp;omega)]
theorem sw_heap(w:World)(blk q:Nat)(d:Array T3)(os:Array Obj):(sortWorldK enc 3 w blk 0 q d os).heap=(w.heap.modify blk (onCells (putCells id 0 (flatK enc 3 d))))++os:=rfl
theorem sw_other(w:World)(blk q:Nat)(d:Array T3)(os:Array Obj)(k:Nat)(hk:k<w.heap.size)(hne:k≠blk):(sortWorldK enc 3 w blk 0 q d os).heap[k]?=w.heap[k]?:=by
 rw[sw_heap,Array.getElem?_append_left (by simpa using hk),Array.getElem?_modify,if_neg (Ne.symm hne)]
theorem sw_same(w:World)(blk q:Nat)(d:Array T3)(os:Array Obj)(cur:Array Value)(e:TypeId)(fr:Nat×Nat)(h:w.heap[blk]?=some (.cells cur e fr)):(sortWorldK enc 3 w blk 0 q d os).heap[blk]?=some (.cells (putCells id 0 (flatK enc 3 d) cur) e fr):=by
 have hb:blk<w.heap.size:=(Array.getElem?_eq_some_iff.1 h).1
 rw[sw_heap,Array.getElem?_append_left (by simpa using hb),Array.getElem?_modify,if_pos rfl,h]
 rfl
theorem sw_below(w:World)(blk q:Nat)(d:Array T3)(os:Array Obj)(hb:blk<w.heap.size):Below blk w (sortWorldK enc 3 w blk 0 q d os):=by
 refine⟨rfl,rfl,rfl,?_,fun k hk=>?_⟩
 ·rw[sw_heap];simp
 ·exact sw_other w blk q d os k (by omega) (by omega)
theorem put_take(F cur:Array Value)(h:F.size≤cur.size):(putCells id 0 F cur).toList.take F.size=F.toList:=by
 apply List.ext_getElem?
 intro i
 by_cases hi:i<F.size
 ·rw[List.getElem?_take,if_pos hi]
  have e1:(putCells id 0 F cur).toList[i]?=some F[i]! :=by
   simp[putCells,hi,show i<cur.size by omega]
  rw[e1,getElem!_pos F i hi]
  simp[hi]
 ·rw[List.getElem?_take,if_neg hi,List.getElem?_eq_none (by simp;omega)]
theorem own_sorted(w:World)(base blk n cap q:Nat)(d:Array T3)(os:Array Obj)(ps:List T3)(hd:d.size=n)(h:Own3 119 w base blk n cap ps):
  Own3 119 (sortWorldK enc 3 w blk 0 q d os) base blk n cap d.toList:=by
 refine⟨by rw[flat3_len];simp[hd],?_⟩
 rcases h.2 with⟨z,_⟩|⟨g',c,cur,z,hb,hc,h1,h2,h3,h4⟩
 ·simp at z
 ·obtain⟨rfl,rfl⟩:blk=g'∧cap=c:=by simpa using z
  refine Or.inr ⟨blk,cap,_,rfl,hb,sw_same w blk q d os cur 119 (0,0) hc,h1,h2,by simpa[putCells] using h3,?_⟩
  have:=put_take (flatK enc 3 d) cur (by rw[size_flatK,hd,h3];exact Nat.mul_le_mul_right 3 h1)
  rw[size_flatK,hd,flat_flatK] at this
  exact this
theorem holds_of(w:World)(base blk n cap:Nat)(ps:List T3)(h:Own3 119 w base blk n cap ps):HoldsK enc 3 w blk 0 ps.toArray:=by
 intro j hj
 have hl:=h.len
 have hj':j<n*3:=by simpa[hl] using hj
 refine⟨?_,by simpa using h.free (0+j)⟩
 rw[Nat.zero_add]
 have e:=World.ownsRow.cellAt h j hj'
 rw[e]
 have f:=flat_flatK ps.toArray
 have g:flat3 ps=(flatK enc 3 ps.toArray).toList:=by rw[f]
 rw[g,Array.getElem?_toList,Array.getElem?_eq_getElem hj,getElem!_pos _ j hj]
 rfl
theorem closure(x y:T3)(w:World):Calls Tryz.prog 174 #[.agg #[.int .i64 x.1,.int .i64 x.2.1,.int .i64 x.2.2],.agg #[.int .i64 y.1,.int .i64 y.2.1,.int .i64 y.2.2]] w fun e w'=>e= .returned (.int .i64 (cf x y))∧∃q os,w'=grow (w.drewN q) os:=by
 obtain⟨a,i,p⟩:=x
 obtain⟨b,j,q⟩:=y
 go_enter Tryz.func174,Tryz.ntmps174
 go_wp2_with fail
 refine(compareG a i b j _).mono ?_
 rintro e w1 ⟨rfl,n,os,rfl⟩
 go_wp2
 go_ret
 refine⟨rfl,n,#[.cells #[.int .i64 a,.int .i64 i,.int .i64 p] 119]++ #[.cells #[.int .i64 b,.int .i64 j,.int .i64 q] 119]++os,?_⟩
 rw[Go.Sort.alloc_eq_grow,Go.Sort.alloc_eq_grow,Go.Sort.grow_grow]
 exact Go.Sort.grow_grow (w.drewN n) _ _
theorem cmpLays(blk size:Nat)(w:World):CmpLays Tryz.prog 174 #[] enc 3 cf blk 0 size w:=fun _ _ _ _ x y=>closure x y _
theorem sorts(w:World)(base blk n cap:Nat)(ps:List T3)(hn:n≤1048576)(ho:Own3 119 w base blk n cap ps):
  Calls Tryz.prog 173 #[.slice (some ⟨blk,0,none⟩) n cap,.func (.func 174) #[] #[]] w fun e w'=>
   e= .returned (.tuple #[])∧∃qs,qs.Perm ps∧qs.Pairwise (fun p q=>¬Bef q p)∧Own3 119 w' base blk n cap qs∧Below blk w w':=by
 have hl:=ho.len
 have hs:ps.toArray.size=n:=by simpa using hl
 have eg:∀args w,(callFunc 174 args).run Tryz.prog w= .ok (.enter 174 args) w:=enters_of Tryz.func174 (by kernel_rfl) rfl
 have hcon:=AnyQ.slices_SortFunc Tryz.sortL 3 Tryz.isAgg119 Tryz.sizeOf119 enc (fun _=>rfl) (fun x v hv=>by simp[enc] at hv;rcases hv with rfl|rfl|rfl<;>rfl) cf swo 174 #[] blk 0 cap ps.toArray w eg (cmpLays blk _ w) (holds_of w base blk n cap ps ho) ho.lt.2 (by rw[hs];omega)
 change Calls Tryz.prog 173 _ _ _ at hcon
 rw[hs] at hcon
 refine hcon.mono ?_
 rintro e w' ⟨rfl,d',q,os,hp,hso,rfl⟩
 have hd:d'.size=n:=hp.1.trans hs
 refine⟨rfl,d'.toList,?_,?_,own_sorted w base blk n cap q d' os ps hd ho,sw_below w blk q d' os ho.lt.2⟩
 ·have:=hp.2.2
  rw[Array.extract_eq_self_of_le (by omega),Array.extract_eq_self_of_le (by omega)] at this
  simpa using this
 ·rw[List.pairwise_iff_getElem]
  intro i j hi hj hij
  have hj':j<d'.size:=by simpa using hj
  have:=hso i j (Nat.zero_le _) hij (by omega)
  rw[getElem!_pos d' j hj',getElem!_pos d' i (by omega),lt_not] at this
  simpa using this
end Sort3
namespace Out
open Bals Triples Cmp Tab Look Sort3
def Coll(qs:List T3)(f:Int→Int→Int)(left:Int→Int→Bool):Prop:=
 qs.Pairwise (fun p q=>other p q)∧∀p:T3,p∈qs↔p.2.2≠0∧f p.1 p.2.1=p.2.2∧Wf p.1 p.2.1∧left p.1 p.2.1=false
theorem coll_start{f:Int→Int→Int}{left:Int→Int→Bool}(h:∀a i,f a i≠0→left a i=true):Coll [] f left:=by
 refine⟨List.Pairwise.nil,fun p=>⟨fun h=>absurd h List.not_mem_nil,fun⟨h1,h2,_,h3⟩=>?_⟩⟩
 rw[h p.1 p.2.1 (by rw[h2];exact h1)] at h3
 cases h3
theorem coll_zero{qs:List T3}{f:Int→Int→Int}{left left':Int→Int→Bool}{a i:Int}(h:Coll qs f left)(hl:∀b j,Wf b j→left' b j=(left b j&& !decide (b=a∧j=i)))(hz:f a i=0):Coll qs f left':=by
 refine⟨h.1,fun p=>?_⟩
 rw[h.2 p]
 constructor
 ·rintro⟨h1,h2,h3,h4⟩
  exact⟨h1,h2,h3,by rw[hl _ _ h3,h4];rfl⟩
 ·rintro⟨h1,h2,h3,h4⟩
  refine⟨h1,h2,h3,?_⟩
  rw[hl _ _ h3] at h4
  by_cases e:p.1=a∧p.2.1=i
  ·rw[e.1,e.2,hz] at h2
   exact absurd h2.symm h1
  ·simpa[e] using h4
theorem coll_more{qs:List T3}{f:Int→Int→Int}{left left':Int→Int→Bool}{a i:Int}(h:Coll qs f left)(hw:Wf a i)(hla:left a i=true)(hl:∀b j,Wf b j→left' b j=(left b j&& !decide (b=a∧j=i)))(hz:f a i≠0):Coll (qs++[(a,i,f a i)]) f left':=by
 refine⟨?_,fun p=>?_⟩
 ·rw[List.pairwise_append]
  refine⟨h.1,List.pairwise_singleton _ _,fun p hp q hq=>?_⟩
  rw[List.mem_singleton] at hq
  subst hq
  obtain⟨_,_,_,h4⟩:=(h.2 p).1 hp
  unfold other
  show a≠p.1∨i≠p.2.1
  refine Classical.byContradiction fun n=>?_
  have n1:p.1=a:=Classical.byContradiction fun q=>n (.inl (Ne.symm q))
  have n2:p.2.1=i:=Classical.byContradiction fun q=>n (.inr (Ne.symm q))
  rw[n1,n2,hla] at h4
  cases h4
 ·rw[List.mem_append,List.mem_singleton,h.2 p]
  constructor
  ·rintro(⟨h1,h2,h3,h4⟩|rfl)
   ·exact⟨h1,h2,h3,by rw[hl _ _ h3,h4];rfl⟩
   ·exact⟨hz,rfl,hw,by rw[hl _ _ hw];simp⟩
  ·rintro⟨h1,h2,h3,h4⟩
   by_cases e:p.1=a∧p.2.1=i
   ·obtain⟨p1,p2,p3⟩:=p
    obtain⟨rfl,rfl⟩:=e
    simp only at h2
    subst h2
    exact .inr rfl
   ·rw[hl _ _ h3] at h4
    exact .inl ⟨h1,h2,h3,by simpa[e] using h4⟩
theorem coll_end{qs rs:List T3}{f:Int→Int→Int}{left:Int→Int→Bool}(h:Coll qs f left)(hf:∀a i,f a i≠0→Wf a i)(hl:∀a i,Wf a i→left a i=false)(hp:rs.Perm qs)(hs:rs.Pairwise (fun p q=>¬Bef q p)):ListOf f rs:=by
 have hd:rs.Pairwise (fun p q=>other p q):=(hp.pairwise_iff (fun{a b} (o:other a b)=>by unfold other at o⊢;rcases o with o|o;exact .inl (Ne.symm o);exact .inr (Ne.symm o))).2 h.1
 have asc:rs.Pairwise Bef:=by
  rw[List.pairwise_iff_getElem] at hs hd⊢
  intro i j hi hj hij
  have h1:=hs i j hi hj hij
  have h2:=hd i j hi hj hij
  unfold other at h2
  unfold Bef at h1⊢
  omega
 have mem:∀p:T3,p∈rs↔p.2.2≠0∧f p.1 p.2.1=p.2.2:=fun p=>by
  rw[hp.mem_iff,h.2 p]
  constructor
  ·rintro⟨h1,h2,_⟩
   exact⟨h1,h2⟩
  ·rintro⟨h1,h2⟩
   have w:=hf p.1 p.2.1 (by rw[h2];exact h1)
   exact⟨h1,h2,w,hl _ _ w⟩
 refine⟨⟨asc,fun p hp'=>((mem p).1 hp').1⟩,fun a i=>?_⟩
 by_cases z:f a i=0
 ·rw[z]
  refine Classical.byContradiction fun nz=>?_
  have hm:=val_mem rs a i nz
  have:=((mem _).1 hm).2
  simp only at this
  rw[z] at this
  exact nz this.symm
 ·have hm:=(mem (a,i,f a i)).2 ⟨z,rfl⟩
  exact val_of_mem rs asc _ hm
theorem own_apart{e:TypeId}{w:World}{base g n cap:Nat}{ps:List T3}{B r m:Nat}{f:Int→Int→Int}{left:Int→Int→Bool}{cnt:Nat}(h:Own3 e w base g n cap ps)(k:RTab w B r m f left cnt):g≠B∧g≠r:=by
 obtain⟨D,lf,⟨es,clock,since,seen,c0,hb,_,_,_,hr,_⟩,_⟩:=k
 rcases h.2 with⟨z,_⟩|⟨g',c,cur,z,_,hc,_⟩
 ·simp at z
 ·obtain⟨rfl,rfl⟩:g=g'∧cap=c:=by simpa using z
  constructor
  ·intro e
   rw[e,hb] at hc
   simp at hc
  ·intro e
   rw[e,hr] at hc
   simp at hc
theorem Tab.wf{w:World}{B n:Nat}{f:Int→Int→Int}(h:Tab w B n f):∀a i,f a i≠0→Wf a i:=by
 obtain⟨D,_,h2⟩:=h
 exact h2.2
theorem iBals(w:World)(B n:Nat)(f:Int→Int→Int)(hn:n≤100000)(ht:Tab w B n f):
  Calls Tryz.prog 148 #[.map (some B)] w fun e w'=>∃qs g c,ListOf f qs∧qs.length≤n∧e= .returned (.slice (some ⟨g,0,none⟩) qs.length c)∧Own3 119 w' w.heap.size g qs.length c qs∧Below w.heap.size w w':=by
 have hB:=ht.lt
 have HWF:=zh (Tab.wf ht)
 have t1:=ht.kept (World.grownBy_alloc w (.cells #[] 119) none) (by simp)
 have HT:=zh t1
 have O0:=zh (lit30 119 w w.heap.size (Nat.le_refl _))
 have B0:=zh (show Below w.heap.size w (w.alloc (.cells #[] 119)) from(Below.refl _ _).alloc (Nat.le_refl _) _)
 clear ht t1
 go_enter Tryz.func148,Tryz.ntmps148
 go_wp2_with (first|(at_range;refine wp_range _ rfl _ 172 rfl Tryz.underlying172 B n f rfl (zu HT) ?_;intro w0 left0 cnt0 rt0 c0 lz0 g0 s0)|go_in)
 go_frame
 have RT:=zh rt0
 have CO:=zh (coll_start lz0)
 have O1:=zh ((zu O0).kept g0 (by simp))
 have B1:=zh (next (zu B0) (grownBy_below g0))
 clear rt0 lz0 g0 HT O0 B0
 simp only[World.size_alloc] at RT s0
 simp only[World.size_alloc]
 generalize hR:w.heap.size+1=R at *
 have hRl:w.heap.size<R:=by omega
 go_loopw [3,4,5] (fun l _ _ wr=>∃(qs:List T3) (g c:Nat) (left:Int→Int→Bool) (cnt:Nat),l= .slice (some ⟨g,0,none⟩) qs.length c∧Hid (Own3 119 wr w.heap.size g qs.length c qs)∧Hid (RTab wr B R n f left cnt)∧Hid (Coll qs f left)∧qs.length+cnt≤n∧Hid (Below w.heap.size w wr)) (fun _ _ _ wr=>wr.rangeLeft B R)
 case atStart=>exact⟨[],w.heap.size,0,left0,cnt0,rfl,O1,RT,CO,by simpa using c0,B1⟩
 case round=>
  clear RT CO O1 B1 c0 s0
  obtain⟨qs,g,c,left,cnt,rfl,HO,RT,CO,hc,HB⟩:=hrel
  go_wp2_with (first|(at_next;refine wp_next _ rfl _ rfl B R n f left cnt rfl (zu RT) ?_ ?_)|go_in)
  ·intro c0 l0
   have LZ:=zh l0
   have sz:=(zu HO).lt
   clear l0
   go_wp2_with fail
   refine(sorts _ w.heap.size g qs.length c qs (by omega) (zu HO)).mono ?_
   rintro e w2 ⟨rfl,rs,hp,hs,o2,b2⟩
   have LO:=zh (coll_end (zu CO) (zu HWF) (zu LZ) hp hs)
   have el:rs.length=qs.length:=hp.length_eq
   have O2:=zh o2
   have B2:=zh ((zu HB).trans (b2.mono sz.1))
   clear hp hs o2 b2
   go_wp2
   go_ret
   exact⟨rs,g,c,zu LO,by omega,by rw[el];rfl,by rw[el];exact zu O2,zu B2⟩
  ·intro a i w2 left2 cnt2 wf wv la l2 rt2 lt2 g2 s2 hen
   have l2:∀b j,Wf b j→left2 b j=(left b j&& !decide (b=a∧j=i)):=fun b j h=>by
    rw[l2 b j h]
    by_cases e1:b=a<;>by_cases e2:j=i<;>simp[e1,e2]
   have ap:=own_apart (zu HO) (zu RT)
   have ML:=zh (show w2.rangeLeft B R<wr.rangeLeft B R by rw[rt2.lt.2.2.2,(zu RT).lt.2.2.2];exact lt2)
   have RT2:=zh rt2
   have O2:=zh ((zu HO).kept g2 (by simp;exact ap.2))
   have B2:=zh ((zu HB).grown g2 (zu HB).size (fun j hj=>by cases hj;exact Nat.le_of_lt hRl))
   have CZ:=zh (fun hz=>coll_zero (zu CO) l2 hz)
   have CM:=zh (fun hz=>coll_more (zu CO) wf la l2 hz)
   clear rt2 l2 g2 s2 la wf wv CO
   generalize f a i=v at *
   have O3:=zh ((zu O2).alloc (.cells #[.int .i64 a,.int .i64 i] 177))
   have R3:=zh ((zu RT2).kept (World.grownBy_alloc w2 (.cells #[.int .i64 a,.int .i64 i] 177) none) (by simp) (by simp))
   have B3:=zh ((zu B2).alloc (zu B2).size (.cells #[.int .i64 a,.int .i64 i] 177))
   have M3:World.rangeLeft (w2.alloc (.cells #[.int .i64 a,.int .i64 i] 177)) B R=w2.rangeLeft B R:=by rw[(zu R3).lt.2.2.2,(zu RT2).lt.2.2.2]
   have M3:=zh M3
   have bs:=(zu B2).size
   by_cases v0:v=0
   ·have CC:=zh ((zu CZ) v0)
    clear CZ CM
    subst v0
    go_wp2
    go_roundw
    case rel=>exact⟨qs,g,c,left2,cnt2,rfl,O3,R3,CC,by omega,B3⟩
    case measure=>rw[zu M3];exact zu ML
   ·have CC:=zh ((zu CM) v0)
    have v0b:(v==0)=false:=by simpa using v0
    clear CZ CM
    have O4:=zh ((zu O3).alloc (.cells #[.int .i64 a,.int .i64 i,.int .i64 v] 119))
    have R4:=zh ((zu R3).kept (World.grownBy_alloc _ (.cells #[.int .i64 a,.int .i64 i,.int .i64 v] 119) none) (by simp) (by simp))
    have B4:=zh ((zu B3).alloc (zu B3).size (.cells #[.int .i64 a,.int .i64 i,.int .i64 v] 119))
    have V4:=zh (show Holds3 ((w2.alloc (.cells #[.int .i64 a,.int .i64 i] 177)).alloc (.cells #[.int .i64 a,.int .i64 i,.int .i64 v] 119)) (w2.heap.size+1) 0 (a,i,v) from by unfold Holds3;simp)
    go_wp2_with (first|(at_builtin;refine BalApp.wp_app _ rfl _ _ rfl w.heap.size g qs.length c qs (w2.heap.size+1) a i v rfl rfl (zu O4) (zu V4) (by omega) (by simp;omega) ?_;intro g5 c5 w5 o5 gr5 _)|go_in)
    have R5:=zh ((zu R4).kept gr5 (by simp;exact Ne.symm ap.1) (by simp;exact Ne.symm ap.2))
    have M5:=zh (show w5.rangeLeft B R=w2.rangeLeft B R by rw[(zu R5).lt.2.2.2,(zu RT2).lt.2.2.2])
    have B5:=zh ((zu B4).grown gr5 (by simp;omega) (fun j hj=>by cases hj;exact(zu HO).lt.1))
    have el:(qs++[(a,i,v)]).length=qs.length+1:=by simp
    have O5:=zh o5
    clear o5 gr5
    go_wp2
    go_roundw
    case rel=>exact⟨qs++[(a,i,v)],g5,c5,left2,cnt2,by rw[el],zh (by rw[el];exact zu O5),R5,CC,by rw[el];omega,B5⟩
    case measure=>rw[zu M5];exact zu ML
end Out
namespace Post
open Bals Triples Cmp SOk3 IOk3 Tab Look SPut3 Out Legs
def sumIn(a b:Int)(c:Bool):Int:=if c then a+b else 0
theorem sAdd(a b:Int)(c:Bool)(w:World)(ha:Amt a)(hb:Amt b)(hc:Says c (Amt (a+b))):
  Calls Tryz.prog 140 #[.int .i64 a,.int .i64 b] w fun e w'=>e= .returned (.tuple #[.int .i64 (sumIn a b c),.bool c])∧w'=w:=by
 have hs:IntKind.i64.wrap (a+b)=a+b:=by unfold Amt at ha hb;rw[IntKind.wrap_i64];omega
 have SA:Says true (Amt a):=⟨fun _=>ha,fun _=>rfl⟩
 have SB:Says true (Amt b):=⟨fun _=>hb,fun _=>rfl⟩
 have T:=zh (show(true=true∧Amt (a+b)∧sumIn a b c=a+b∧c=true)∨(¬(true=true∧Amt (a+b))∧sumIn a b c=0∧c=false) from by
  cases c
  ·exact .inr ⟨fun q=>hc.no q.2,rfl,rfl⟩
  ·exact .inl ⟨rfl,hc.yes,rfl,rfl⟩)
 clear ha hb hc
 generalize sumIn a b c=r at *
 go_enter Tryz.func140,Tryz.ntmps140
 go_wp2_with fail
 refine(sAmt a true _ SA).mono ?_
 rintro e w1 ⟨rfl,rfl⟩
 go_wp2_with fail
 refine(sAmt b true _ SB).mono ?_
 rintro e w2 ⟨rfl,rfl⟩
 go_wp2_with fail
 refine(sTold (a+b) true c r _ (by have:=zu T;simpa using this)).mono ?_
 rintro e w3 ⟨rfl,rfl⟩
 go_wp2
 go_ret2
 exact⟨rfl,rfl⟩
theorem iAdd(a b:Int)(c:Bool)(w:World)(ha:Amt a)(hb:Amt b)(hc:Says c (Amt (a+b))):
  Calls Tryz.prog 119 #[.int .i64 a,.int .i64 b] w fun e w'=>e= .returned (.tuple #[.int .i64 (sumIn a b c),.bool c])∧w'=w:=by
 have hs:IntKind.i64.wrap (a+b)=a+b:=by unfold Amt at ha hb;rw[IntKind.wrap_i64];omega
 have SA:Says true (Amt a):=⟨fun _=>ha,fun _=>rfl⟩
 have SB:Says true (Amt b):=⟨fun _=>hb,fun _=>rfl⟩
 have T:=zh (show(Amt (a+b)∧sumIn a b c=a+b∧c=true)∨(¬Amt (a+b)∧sumIn a b c=0∧c=false) from by
  cases c
  ·exact .inr ⟨hc.no,rfl,rfl⟩
  ·exact .inl ⟨hc.yes,rfl,rfl⟩)
 clear ha hb hc
 generalize sumIn a b c=r at *
 go_enter Tryz.func119,Tryz.ntmps119
 go_wp2_with fail
 refine(iAmt a true _ SA).mono ?_
 rintro e w1 ⟨rfl,rfl⟩
 go_wp2_with fail
 refine(iAmt b true _ SB).mono ?_
 rintro e w2 ⟨rfl,rfl⟩
 go_wp2_with fail
 refine(iOnly (a+b) c r _ (zu T)).mono ?_
 rintro e w3 ⟨rfl,rfl⟩
 go_wp2
 go_ret2
 exact⟨rfl,rfl⟩
theorem in_iff{xs:List Int}{x:Int}:x∈xs↔∃i,i<xs.length∧xs.getD i 0=x:=by
 constructor
 ·intro h
  obtain⟨i,hi,e⟩:=List.getElem_of_mem h
  exact⟨i,hi,by simp[List.getD,hi,e]⟩
 ·rintro⟨i,hi,e⟩
  rw[←e]
  simp only[List.getD,List.getElem?_eq_getElem hi,Option.getD_some]
  exact List.getElem_mem hi
theorem sHas(w:World)(g n cap:Nat)(xs:List Int)(x:Int)(b:Bool)(hl:xs.length=n)(h20:n≤1048576)(h:Ints.At w g xs)(hb:Says b (x∈xs)):
  Calls Tryz.prog 142 #[.slice (some ⟨g,0,none⟩) n cap,.int .i64 x] w fun e w'=>e= .returned (.bool b)∧w'=w:=by
 go_enter Tryz.func142,Tryz.ntmps142
 go_wp2
 go_loop [5] (fun j=>∃(k:Nat),k≤n∧j= .int .i64 k∧Hid (∀i,i<k→xs.getD i 0≠x)) (fun j=>n-(intOf j).toNat)
 case atStart=>exact⟨0,by omega,rfl,zh (fun i hi=>by omega)⟩
 case round=>
  obtain⟨k,hk,rfl,HG⟩:=hrel
  by_cases t:k<n
  ·have e1:=h k (by omega)
   have YES:=zh (show xs.getD k 0=x→b=true from fun e=>hb.of (in_iff.2 ⟨k,by omega,e⟩))
   have GO:=zh (show xs.getD k 0≠x→∀i,i<k+1→xs.getD i 0≠x from fun hn i hi=>by
    by_cases e:i=k
    ·subst e;exact hn
    ·exact(zu HG) i (by omega))
   clear h
   generalize xs.getD k 0=y at *
   by_cases c1:y=x
   ·obtain rfl:b=true:=(zu YES) c1
    clear YES GO
    subst c1
    go_wp2
    go_ret
    exact⟨rfl,rfl⟩
   ·have G:=zh ((zu GO) c1)
    have c1b:(y==x)=false:=by simpa using c1
    clear YES GO
    go_wp2
    go_round
    case rel=>exact⟨k+1,by omega,by go_num,G⟩
    case measure=>simp[intOf];omega
  ·obtain rfl:k=n:=by omega
   obtain rfl:b=false:=hb.not (fun r=>by
    obtain⟨i,hi,e⟩:=in_iff.1 r
    exact(zu HG) i (by omega) e)
   clear h hb
   go_wp2
   go_ret
   exact⟨rfl,rfl⟩
theorem iIndex(w:World)(g n cap:Nat)(xs:List Int)(x:Int)(b:Bool)(hl:xs.length=n)(h20:n≤1048576)(h:Ints.At w g xs)(hb:Says b (x∈xs)):
  Calls Tryz.prog 204 #[.slice (some ⟨g,0,none⟩) n cap,.int .i64 x] w fun e w'=>∃r,(b=true↔(0:Int)≤r)∧e= .returned (.int .i64 r)∧w'=w:=by
 go_enter Tryz.func204,Tryz.ntmps204
 go_wp2
 go_loop [5,8] (fun _ j=>∃(k:Nat),k≤n∧j= .int .i64 k∧Hid (∀i,i<k→xs.getD i 0≠x)) (fun _ j=>n-(intOf j).toNat)
 case atStart=>exact⟨0,by omega,rfl,zh (fun i hi=>by omega)⟩
 case round=>
  obtain⟨k,hk,rfl,HG⟩:=hrel
  by_cases t:k<n
  ·have e1:=h k (by omega)
   have YES:=zh (show xs.getD k 0=x→b=true from fun e=>hb.of (in_iff.2 ⟨k,by omega,e⟩))
   have GO:=zh (show xs.getD k 0≠x→∀i,i<k+1→xs.getD i 0≠x from fun hn i hi=>by
    by_cases e:i=k
    ·subst e;exact hn
    ·exact(zu HG) i (by omega))
   clear h
   generalize xs.getD k 0=y at *
   by_cases c1:y=x
   ·have BT:=zh ((zu YES) c1)
    clear YES GO
    subst c1
    go_wp2
    go_ret
    exact⟨(k:Int),⟨fun _=>by omega,fun _=>zu BT⟩,rfl,rfl⟩
   ·have G:=zh ((zu GO) c1)
    have c1b:(x==y)=false:=by simpa using(fun e=>c1 (Eq.symm e))
    clear YES GO
    go_wp2
    go_round
    case rel=>exact⟨k+1,by omega,by go_num,G⟩
    case measure=>simp[intOf];omega
  ·obtain rfl:k=n:=by omega
   have BF:=zh (hb.not (fun r=>by
    obtain⟨i,hi,e⟩:=in_iff.1 r
    exact(zu HG) i (by omega) e))
   clear h hb
   go_wp2
   go_ret
   exact⟨-1,⟨(fun e=>by rw[zu BF] at e;cases e),(fun e=>by omega)⟩,rfl,rfl⟩
theorem iHas(w:World)(g n cap:Nat)(xs:List Int)(x:Int)(b:Bool)(hl:xs.length=n)(h20:n≤1048576)(h:Ints.At w g xs)(hb:Says b (x∈xs)):
  Calls Tryz.prog 190 #[.slice (some ⟨g,0,none⟩) n cap,.int .i64 x] w fun e w'=>e= .returned (.bool b)∧w'=w:=by
 have H:=zh h
 clear h
 go_enter Tryz.func190,Tryz.ntmps190
 go_wp2_with fail
 refine(iIndex _ g n cap xs x b hl h20 (zu H) hb).mono ?_
 rintro e w1 ⟨r,hr,rfl,rfl⟩
 cases b
 ·have r0:¬(0:Int)≤r:=fun q=>by have:=hr.2 q;cases this
  have rb:decide ((0:Int)≤r)=false:=decide_eq_false r0
  clear hr hb
  go_wp2
  go_ret
  exact⟨by first|rfl|simp[rb],rfl⟩
 ·have r0:(0:Int)≤r:=hr.1 rfl
  clear hr hb
  go_wp2
  go_ret
  exact⟨rfl,rfl⟩
theorem at3_grown{w w':World}{g B:Nat}{ps:List T3}(h:At3 w g ps)(k:w.grownBy w' (some B))(hg:g<w.heap.size)(hne:g≠B):At3 w' g ps:=by
 intro i hi
 obtain⟨a,b,c⟩:=h i hi
 have e:w'.heap[g]?=w.heap[g]?:=k.block g hg (by simp;exact hne)
 exact⟨(World.cell?_of_block (w:=w) (a:=⟨g,i*3,none⟩) e).trans a,(World.cell?_of_block (w:=w) (a:=⟨g,i*3+1,none⟩) e).trans b,(World.cell?_of_block (w:=w) (a:=⟨g,i*3+2,none⟩) e).trans c⟩
theorem grown_drewN{w u:World}{row:Option Nat}(h:w.grownBy u row)(q:Nat):w.grownBy (u.drewN q) row:=⟨h.os,h.tape,h.output,h.size,h.block⟩
theorem grown_of_drewN{w u:World}{row:Option Nat}{q:Nat}(h:(w.drewN q).grownBy u row):w.grownBy u row:=⟨h.os,h.tape,h.output,h.size,h.block⟩
theorem tab_drewN{w:World}{B n:Nat}{f:Int→Int→Int}(h:Tab w B n f)(q:Nat):Tab (w.drewN q) B n f:=h
theorem look_run{w:World}{B n:Nat}{f:Int→Int→Int}(h:Tab w B n f){a i:Int}(hw:Wf a i):(Instr.lookup 172 (.map (some B)) (.agg #[.int .i64 a,.int .i64 i]) false).run Tryz.prog w= .ok (.int .i64 (f a i)) w:=by
 obtain⟨D,h1,h2,_⟩:=h
 obtain⟨c,hrun,hat,_⟩:=h1.lookup_int law Tryz.underlying172 Tryz.underlying3 (zero _) (key_of hw)
 rw[h2 a i hw] at hat
 have:f a i=c:=by simpa using hat
 rw[this]
 exact hrun
theorem iAddT(w:World)(B n gL m capL:Nat)(f:Int→Int→Int)(ls:List T3)(hl:ls.length=m)(hn:n≤1000)(hg:gL<w.heap.size)(hne:gL≠B)(h:At3 w gL ls)(hF:Formed ls)(hf:Fine f)(ht:Tab w B n f):
  Calls Tryz.prog 171 #[.map (some B),.slice (some ⟨gL,0,none⟩) m capL] w fun e w'=>∃ok:Bool,e= .returned (.bool ok)∧(ok=true→∃f',posts f ls=some f'∧Tab w' B (n+m) f'∧Fine f')∧(ok=false→posts f ls=none)∧w.grownBy w' (some B):=by
 have m160:m≤160:=by have:=hF.1;omega
 have H:=zh h
 have HF:=zh hF
 have T0:=zh ht
 have F0:=zh hf
 clear h hF ht hf
 go_enter Tryz.func171,Tryz.ntmps171
 go_wp2
 go_loopw [6,7,8,9,12] (fun _ _ _ _ j wr=>∃(k:Nat) (fk:Int→Int→Int),k≤m∧j= .int .i64 k∧Hid (Tab wr B (n+k) fk)∧Hid (Fine fk)∧Hid (posts f ls=posts fk (ls.drop k))∧Hid (w.grownBy wr (some B))) (fun _ _ _ _ j _=>m-(intOf j).toNat)
 case atStart=>exact⟨0,f,by omega,rfl,T0,F0,zh rfl,zh (World.grownBy.refl _ _)⟩
 case round=>
  obtain⟨k,fk,hk,rfl,HT,FK,HE,HG⟩:=hrel
  by_cases t:k<m
  ·obtain⟨e1,e2,e3⟩:=at3_grown (zu H) (zu HG) hg hne k (by omega)
   obtain⟨l1,l2,l3⟩:=(zu HF).2 k (by omega)
   have WF:=wf_no l1 l2
   have AM:=((zu FK) (el3 ls k).1 (el3 ls k).2.1).1
   obtain⟨c,SC⟩:=says_of (Amt (fk (el3 ls k).1 (el3 ls k).2.1+(el3 ls k).2.2))
   have PY:=zh (fun a=>(zu HE).trans (posts_yes (f:=fk) (ps:=ls) (k:=k) (by omega) a))
   have PN:=zh (fun a=>(zu HE).trans (posts_no (f:=fk) (ps:=ls) (k:=k) (by omega) a))
   have FU:=zh (fun a=>(zu FK).upd (a:=(el3 ls k).1) (i:=(el3 ls k).2.1) (x:=fk (el3 ls k).1 (el3 ls k).2.1+(el3 ls k).2.2) l1 l2 a)
   have bl:=(zu HT).lt
   clear HE
   generalize (el3 ls k).1=x at *
   generalize (el3 ls k).2.1=y at *
   generalize (el3 ls k).2.2=z at *
   have G1:=zh (grown_trans (grown_trans (zu HG) (World.grownBy_alloc wr (.cells #[.int .i64 x,.int .i64 y,.int .i64 z] 80) (some B))) (World.grownBy_alloc (wr.alloc (.cells #[.int .i64 x,.int .i64 y,.int .i64 z] 80)) (.cells #[.int .i64 x,.int .i64 y] 177) (some B)))
   have T1:=zh (((zu HT).kept (World.grownBy_alloc wr (.cells #[.int .i64 x,.int .i64 y,.int .i64 z] 80) none) (by simp)).kept (World.grownBy_alloc (wr.alloc (.cells #[.int .i64 x,.int .i64 y,.int .i64 z] 80)) (.cells #[.int .i64 x,.int .i64 y] 177) none) (by simp))
   go_wp2_with fail
   have d0:((wr.alloc (.cells #[.int .i64 x,.int .i64 y,.int .i64 z] 80)).alloc (.cells #[.int .i64 x,.int .i64 y] 177)).cell? ⟨wr.heap.size+1,0,none⟩=some (.int .i64 x):=by simp
   have d1:((wr.alloc (.cells #[.int .i64 x,.int .i64 y,.int .i64 z] 80)).alloc (.cells #[.int .i64 x,.int .i64 y] 177)).cell? ⟨wr.heap.size+1,1,none⟩=some (.int .i64 y):=by simp
   have d2:((wr.alloc (.cells #[.int .i64 x,.int .i64 y,.int .i64 z] 80)).alloc (.cells #[.int .i64 x,.int .i64 y] 177)).cell? ⟨wr.heap.size,2,none⟩=some (.int .i64 z):=by simp
   generalize (wr.alloc (.cells #[.int .i64 x,.int .i64 y,.int .i64 z] 80)).alloc (.cells #[.int .i64 x,.int .i64 y] 177)=u at *
   generalize wr.heap.size+1=kb at *
   have LK:∀q,(Instr.lookup 172 (.map (some B)) (.agg #[.int .i64 x,.int .i64 y]) false).run Tryz.prog (u.drewN q)= .ok (.int .i64 (fk x y)) (u.drewN q):=fun q=>look_run (tab_drewN (zu T1) q) WF
   generalize hv:fk x y=v at *
   have HV:=zh hv
   clear hv e1 e2 e3
   go_quiet (first|(go_at_call 119;refine Calls.quiet_of_same (iAdd v z c _ AM l3 SC)))
   cases c
   ·have NO:=zh ((zu PN) SC.no)
    clear PY PN FU
    go_wp2
    go_ret
    exact⟨false,rfl,(fun e=>by cases e),(fun _=>zu NO),grown_drewN (zu G1) _⟩
   ·have YES:=zh ((zu PY) SC.yes)
    have FN:=zh ((zu FU) SC.yes)
    have WV:=wf_amt SC.yes
    clear PY PN FU
    have e0:sumIn v z true=v+z:=rfl
    rw[e0]
    go_wp2_with (first|(at_mapUpdate;refine wp_put _ rfl _ _ _ 172 rfl Tryz.underlying172 B (n+k) fk rfl (tab_drewN (zu T1) _) (by omega) x y (v+z) rfl rfl WF WV ?_)|go_in)
    intro w5 t5 g5
    have T5:=zh t5
    have G5:=zh (grown_trans (zu G1) (grown_of_drewN g5))
    clear t5 g5
    go_wp2
    go_roundw
    case rel=>exact⟨k+1,_,by omega,by go_num,T5,FN,YES,G5⟩
    case measure=>simp[intOf];omega
  ·obtain rfl:k=m:=by omega
   have E:=zh (show posts f ls=some fk from by rw[zu HE,List.drop_of_length_le (by omega)];rfl)
   go_wp2
   go_ret
   exact⟨true,rfl,(fun _=>⟨fk,zu E,zu HT,zu FK⟩),(fun e=>by cases e),zu HG⟩
end Post
namespace Entry
open Bals Tab Post
open Go.MapKept Go.ChangeMaps Go.WideElems
open Go.WideMaps (KeyLaw)
theorem klaw:KeyLaw Tryz.prog 177:=deep_law_laid laidOut (m:=2) (by omega) row (by kernel_rfl) wide
theorem owns_block{H:Type}{P:Program}{k:TypeId}{R:Value→Option (DataW H×List MemPlace)}{w w':World}{b n:Nat}{D:DataW H}(h:w.ownsMap P k R b n D)(e:w'.heap[b]?=w.heap[b]?):w'.ownsMap P k R b n D:=by
 obtain⟨es,clock,hb,F,hs,hD⟩:=h
 exact⟨es,clock,e.trans hb,F,hs,hD⟩
theorem tab_block{w w':World}{B n:Nat}{f:Int→Int→Int}(h:Tab w B n f)(e:w'.heap[B]?=w.heap[B]?):Tab w' B n f:=by
 obtain⟨D,h1,h2⟩:=h
 exact⟨D,owns_block h1 e,h2⟩
theorem put_run{w:World}{B n:Nat}{f:Int→Int→Int}(h:Tab w B n f)(hn:n≤1048576){a i v:Int}(hw:Wf a i)(hv:(Lit.int .i64 v).wf=true):
  ∃w',(Instr.mapUpdate 172 (.map (some B)) (.agg #[.int .i64 a,.int .i64 i]) (.int .i64 v)).run Tryz.prog w= .ok () w'∧Tab w' B (n+1) (upd f a i v)∧w.grownBy w' (some B):=by
 obtain⟨D,h1,h2⟩:=h
 obtain⟨w',r,o,g⟩:=h1.update law Tryz.underlying172 (by unfold maxLen;omega) (key_of hw) (plainElem_int Tryz.underlying3 hv)
 exact⟨w',r,⟨_,o,tells_put h2 (isMap_of h1) hw⟩,g⟩
theorem entry_run{w:World}{B n:Nat}{f:Int→Int→Int}(h:Tab w B n f)(hn:n≤1048576){a i:Int}(hw:Wf a i):
  ∃(v0:Value) (st:Nat) (w2:World),(Instr.mapEntry 172 (.map (some B)) (.agg #[.int .i64 a,.int .i64 i])).run Tryz.prog w= .ok (.tuple #[v0,goInt st]) w2∧Tab w2 B (n+1) f∧w.grownBy w2 (some B)∧
   ∀v:Int,(Lit.int .i64 v).wf=true→∃w3,(Instr.entryStore 172 (.map (some B)) (goInt st) (.int .i64 v)).run Tryz.prog w2= .ok () w3∧Tab w3 B (n+1) (upd f a i v)∧w.grownBy w3 (some B):=by
 have h':=h
 obtain⟨D,⟨es,clock,hb,F,hs,hD⟩,hT⟩:=h
 obtain⟨v0,st,es1,clock1,hE,hd,hS⟩:=entry_then_store klaw Tryz.underlying172 (z:= .int .i64 0) zero hb F (key_of hw)
 refine⟨v0,st,_,hE,?_,⟨rfl,rfl,rfl,by simp[setBlock],fun j _ hj=>heap_setBlock_other hb _ (fun e=>hj (by rw[e]))⟩,fun v hv=>?_⟩
 ·rcases law.find w (key_of hw) es.toList F.keys with⟨h1,h2⟩|⟨j,e0,h1,h2,h3⟩
  ·have hE':(Instr.mapEntry 172 (.map (some B)) (.agg #[.int .i64 a,.int .i64 i])).run Tryz.prog w= .ok (.tuple #[.int .i64 0,goInt clock]) (setBlock w B (.map (es.push ⟨.agg #[.int .i64 a,.int .i64 i],.int .i64 0,clock⟩) (clock+1))):=by
    simp[Instr.mapEntry,run_underlying Tryz.underlying172,MapKept.run_getObj_map hb,law.check w false (key_of hw),h1,zero,MapKept.run_setObj_map _ hb,Result.andThen,setBlock]
   obtain⟨w',r,t,g⟩:=put_run h' hn (v:=0) hw (by decide)
   have r':(Instr.mapUpdate 172 (.map (some B)) (.agg #[.int .i64 a,.int .i64 i]) (.int .i64 0)).run Tryz.prog w= .ok () (setBlock w B (.map (es.push ⟨.agg #[.int .i64 a,.int .i64 i],.int .i64 0,clock⟩) (clock+1))):=by
    simp[Instr.mapUpdate,run_underlying Tryz.underlying172,MapKept.run_getObj_map hb,law.check w false (key_of hw),h1,MapKept.run_setObj_map _ hb,Result.andThen,setBlock]
   have ew:setBlock w B (.map es1 clock1)=w':=by
    rw[hE] at hE'
    rw[r] at r'
    injection hE' with _ e1
    injection r' with _ e2
    rw[e1,e2]
   have fz:f a i=0:=by
    have l1:=look_run h' hw
    have l2:(Instr.lookup 172 (.map (some B)) (.agg #[.int .i64 a,.int .i64 i]) false).run Tryz.prog w= .ok (.int .i64 0) w:=by
     simp[Instr.lookup,run_underlying Tryz.underlying172,MapKept.run_getObj_map hb,fun em=>law.check w em (key_of hw),h1,zero,Result.andThen]
    rw[l1] at l2
    injection l2 with e1 _
    simpa using e1
   rw[ew]
   refine t.congr fun b j=>?_
   unfold upd
   by_cases e:b=a∧j=i
   ·rw[if_pos e,e.1,e.2,fz]
   ·rw[if_neg e]
  ·have hj:es[j]?=some e0:=by simpa using h2
   have hsame:es.modify j (fun e=>{e with key:= .agg #[.int .i64 a,.int .i64 i]})=es:=by
    apply Array.ext'
    rw[Array.toList_modify,modify_eq_set _ _ _ _ h2]
    have:({e0 with key:= .agg #[.int .i64 a,.int .i64 i]}:MapEntry)=e0:=by rw[←h3]
    rw[this]
    exact set_self _ _ _ h2
   have hE':(Instr.mapEntry 172 (.map (some B)) (.agg #[.int .i64 a,.int .i64 i])).run Tryz.prog w= .ok (.tuple #[e0.val,goInt e0.born]) (setBlock w B (.map es clock)):=by
    simp[Instr.mapEntry,run_underlying Tryz.underlying172,MapKept.run_getObj_map hb,law.check w false (key_of hw),h1,hj,h3,law.stays w (key_of hw),hsame,MapKept.run_setObj_map _ hb,Result.andThen,setBlock]
   rw[hE] at hE'
   injection hE' with _ e1
   rw[e1]
   obtain⟨D',o1,t1⟩:=tab_block (w':=setBlock w B (.map es clock)) h' (by rw[heap_setBlock_same hb];exact hb.symm)
   exact⟨D',o1.mono (by omega),t1⟩
 ·obtain⟨es',clock',s1,s2⟩:=hS _ (.int .i64 v) (heap_setBlock_same hb _)
  obtain⟨w',r,t,g⟩:=put_run h' hn hw hv
  have ew:w'=setBlock w B (.map es' clock'):=by
   rw[r] at s2
   injection s2
  refine⟨_,s1,tab_block t ?_,⟨rfl,rfl,rfl,by simp[setBlock],fun j _ hj=>?_⟩⟩
  ·rw[ew,heap_setBlock_same hb,heap_setBlock_same (heap_setBlock_same hb _)]
  ·rw[heap_setBlock_other (heap_setBlock_same hb _) _ (fun e=>hj (by rw[e])),heap_setBlock_other hb _ (fun e=>hj (by rw[e]))]
end Entry
namespace ILotsFit
open BMem Bks IRead IHave ITrade ILists IBalsFit
open Lots (Says says_of NoOk qtyOf)
open Bals (T3 el3 val sumI upd ListOf)
open Tup5 (T5 el5)
open Tab (Tab Wf wf_no wf_amt)
def leftB(b:Bk)(k:Nat)(a i:Int):Int:=if kindOf b.ac a=1∧kindOf b.ic i=2 then val (b.bs.take k) a i else 0
def leftL(b:Bk)(k:Nat)(a i:Int):Int:=leftB b b.bs.length a i-qtyOf (b.ls.take k) a i
theorem leftB_zero(b:Bk)(a i:Int):leftB b 0 a i=0:=by
 unfold leftB
 split<;>rfl
theorem leftB_yes{b:Bk}(hr:Bals.Right b.bs){k:Nat}(hk:k<b.bs.length)(h:kindOf b.ac (el3 b.bs k).1=1∧kindOf b.ic (el3 b.bs k).2.1=2)(a i:Int):leftB b (k+1) a i=upd (leftB b k) (el3 b.bs k).1 (el3 b.bs k).2.1 (el3 b.bs k).2.2 a i:=by
 unfold leftB
 rw[Look.val_take hr hk]
 unfold upd
 by_cases e:a=(el3 b.bs k).1∧i=(el3 b.bs k).2.1
 ·rw[if_pos e,if_pos e,e.1,e.2,if_pos h]
 ·rw[if_neg e,if_neg e]
theorem leftB_no{b:Bk}(hr:Bals.Right b.bs){k:Nat}(hk:k<b.bs.length)(h:¬(kindOf b.ac (el3 b.bs k).1=1∧kindOf b.ic (el3 b.bs k).2.1=2))(a i:Int):leftB b (k+1) a i=leftB b k a i:=by
 unfold leftB
 by_cases q:kindOf b.ac a=1∧kindOf b.ic i=2
 ·rw[if_pos q,if_pos q,Look.val_take hr hk]
  unfold upd
  rw[if_neg (fun e=>h (by rw[←e.1,←e.2];exact q))]
 ·rw[if_neg q,if_neg q]
theorem leftL_zero(b:Bk)(a i:Int):leftL b 0 a i=leftB b b.bs.length a i:=by
 unfold leftL
 simp[qtyOf]
theorem leftL_next{b:Bk}{k:Nat}(hk:k<b.ls.length)(a i:Int):leftL b (k+1) a i=upd (leftL b k) (el5 b.ls k).1 (el5 b.ls k).2.1 (leftL b k (el5 b.ls k).1 (el5 b.ls k).2.1-(el5 b.ls k).2.2.2.1) a i:=by
 unfold upd
 by_cases e:a=(el5 b.ls k).1∧i=(el5 b.ls k).2.1
 ·rw[if_pos e]
  unfold leftL
  rw[Lots.qtyOf_next hk,if_pos ⟨e.1.symm,e.2.symm⟩,e.1,e.2]
  omega
 ·rw[if_neg e]
  unfold leftL
  rw[Lots.qtyOf_next hk,if_neg (fun r=>e ⟨r.1.symm,r.2.symm⟩)]
  omega
theorem leftL_all(b:Bk)(a i:Int):leftL b b.ls.length a i=leftT b a i:=by
 unfold leftL leftT leftB
 rw[List.take_length,List.take_length]
theorem leftL_bd{b:Bk}(hl:Lists b)(k:Nat)(a i:Int): -3000000000000000≤leftL b k a i∧leftL b k a i≤3000000000000000:=by
 obtain⟨_,_,hb,hL,_⟩:=hl
 have h1:=(hb.val_in a i).1
 have h2:=Lots.take_le (ps:=b.ls) (fun p hp=>by
  obtain⟨j,_,hj,rfl⟩:=Lots.mem_take (ps:=b.ls) (k:=b.ls.length) (p:=p) (by rw[List.take_length];exact hp)
  exact(hL.2.1 j hj).1) k a i
 have h3:=Lots.qty_pos (a:=a) (i:=i) (b.ls.take k) (fun p hp=>by
  obtain⟨j,_,hj,rfl⟩:=Lots.mem_take hp
  exact(hL.2.1 j hj).1)
 have h4:=hL.2.2 a i
 unfold leftL leftB
 unfold Bals.Amt at h1
 rw[List.take_length]
 split<;>omega
theorem list_none{f:Int→Int→Int}{qs:List T3}(h:ListOf f qs):qs.length=0↔∀a i,f a i=0:=by
 constructor
 ·intro e a i
  rw[←h.2 a i,List.length_eq_zero_iff.1 e]
  rfl
 ·intro e
  cases qs with
  |nil=>rfl
  |cons p r=>
   have:=(h.1.mem p).1 List.mem_cons_self
   rw[h.2,e] at this
   exact absurd this.2.symm this.1
theorem below_of_drew{w w':World}(h:Below w.drew.heap.size w.drew w'):Below w.heap.size w w':=⟨h.os,h.tape,h.output,h.size,h.block⟩
theorem St.grown{w W W':World}{x:Bx}{M:Nat}(H:Rd w x)(h:St w W x)(k:W.grownBy W' (some M))(hM:w.heap.size<M):St w W' x:=by
 have b:Below w.heap.size w W':=h.b.grown k (Nat.le_of_lt h.s) (fun j e=>by cases e;omega)
 have ne:some w.heap.size≠some M:=fun e=>by cases e;omega
 exact⟨H.below b,⟨k.cell h.c.c0 ne,k.cell h.c.c1 ne,k.cell h.c.c2 ne,k.cell h.c.c3 ne,k.cell h.c.c4 ne,k.cell h.c.c5 ne⟩,b,Nat.lt_of_lt_of_le h.s k.size⟩
theorem iLotsFit(w:World)(x:Bx)(b:Bool)(h:Rd w x)(hl:Lists x.b)(hb:Says b (LotsFit x.b)):
  Calls Tryz.prog 116 #[.agg #[.slice (some ⟨x.ga,0,none⟩) x.b.ac.length x.ca,.slice (some ⟨x.gi,0,none⟩) x.b.ic.length x.ci,.slice (some ⟨x.gb,0,none⟩) x.b.bs.length x.cb,.slice (some ⟨x.gl,0,none⟩) x.b.ls.length x.cl,.slice (some ⟨x.gt,0,none⟩) x.b.ts.length x.ct,.int .i64 x.b.lot]] w fun e w'=>e= .returned (.bool b)∧Below w.heap.size w w':=by
 have T:=zh hb
 have L:=zh hl
 have H:=zh h
 have S0:=zh ((St.start h 36).step (one_more _ (.map #[] 0)))
 have nb:=h.nb
 have nl:=h.nl
 have n160:x.b.bs.length≤160:=hl.2.2.1.1
 have n120:x.b.ls.length≤120:=hl.2.2.2.1.1
 have TM:=zh (Tab.tab_made (w.alloc (.cells #[.slice (some ⟨x.ga,0,none⟩) x.b.ac.length x.ca,.slice (some ⟨x.gi,0,none⟩) x.b.ic.length x.ci,.slice (some ⟨x.gb,0,none⟩) x.b.bs.length x.cb,.slice (some ⟨x.gl,0,none⟩) x.b.ls.length x.cl,.slice (some ⟨x.gt,0,none⟩) x.b.ts.length x.ct,.int .i64 x.b.lot] 36)))
 have hmm:= @run_makeMap Tryz.prog
 clear hb hl h
 go_enter Tryz.func116,Tryz.ntmps116
 go_wp2
 go_loopw [12] (fun i wr=>∃(k:Nat),k≤x.b.bs.length∧i= .int .i64 k∧St w wr x∧Hid (Tab wr (w.heap.size+1) k (leftB x.b k))) (fun i _=>x.b.bs.length-(intOf i).toNat)
 case atStart=>exact⟨0,by omega,rfl,zu S0,zh ((by simpa using zu TM:Tab _ (w.heap.size+1) 0 (fun _ _=>0)).congr (fun a i=>(leftB_zero _ a i).symm))⟩
 case round=>
  obtain⟨k,hk,rfl,hS,HT⟩:=hrel
  clear S0 TM
  by_cases t:k<x.b.bs.length
  ·obtain⟨d0,d1,d2⟩:=(hS.r.rb k t)
   obtain⟨c0,c1,c2,c3,c4,c5⟩:=hS.c
   obtain⟨r1,r2,r3,r4,_⟩:=(zu L).2.2.1.2 k t
   have WF:=zh (wf_no r1 r2)
   have WA:=wf_amt r3
   have YES:=zh (fun hh=>leftB_yes (zu L).2.2.1 t hh)
   have NO:=zh (fun hh=>leftB_no (zu L).2.2.1 t hh)
   have wz:=hS.s
   have S1:=zh (hS.step (one_more wr (.cells #[.int .i64 (el3 x.b.bs k).1,.int .i64 (el3 x.b.bs k).2.1,.int .i64 (el3 x.b.bs k).2.2] 119)))
   have T1:=zh ((zu HT).below (one_more wr (.cells #[.int .i64 (el3 x.b.bs k).1,.int .i64 (el3 x.b.bs k).2.1,.int .i64 (el3 x.b.bs k).2.2] 119)))
   clear hS HT r1 r2 r3 r4
   generalize (el3 x.b.bs k).1=y0 at *
   generalize (el3 x.b.bs k).2.1=y1 at *
   generalize (el3 x.b.bs k).2.2=y2 at *
   obtain⟨b0,h0⟩:=says_of (kindOf x.b.ac y0=1)
   obtain⟨b1,h1⟩:=says_of (kindOf x.b.ic y1=2)
   have H0:=zh h0
   have H1:=zh h1
   clear h0 h1
   go_wp2_with fail
   refine(iHolder _ x y0 b0 (zu S1).r (zu L).1 (zu H0)).mono ?_
   rintro e w1 ⟨rfl,bb⟩
   have S2:=zh ((zu S1).step bb)
   have T2:=zh ((zu T1).below bb)
   have f0:w1.cell? ⟨wr.heap.size,0,none⟩=some (.int .i64 y0):=(bb.cell (p:=⟨wr.heap.size,0,none⟩) (by simp)).trans (by simp)
   have f1:w1.cell? ⟨wr.heap.size,1,none⟩=some (.int .i64 y1):=(bb.cell (p:=⟨wr.heap.size,1,none⟩) (by simp)).trans (by simp)
   have f2:w1.cell? ⟨wr.heap.size,2,none⟩=some (.int .i64 y2):=(bb.cell (p:=⟨wr.heap.size,2,none⟩) (by simp)).trans (by simp)
   have z1:wr.heap.size<w1.heap.size:=by have:=bb.size;simp at this;omega
   clear bb c0 c1 c2 c3 c4 c5 d0 d1 d2 S1 T1
   obtain⟨c0,c1,c2,c3,c4,c5⟩:=(zu S2).c
   cases b0
   ·have E:=zh ((zu NO) (fun hh=>(zu H0).no hh.1))
    clear YES NO
    go_wp2
    go_roundw
    case rel=>
     refine⟨k+1,by omega,by go_num,zu S2,zh ?_⟩
     obtain⟨D,o1,o2⟩:=(zu T2).congr (fun a i=>((zu E) a i).symm)
     exact⟨D,o1.mono (by omega),o2⟩
    case measure=>simp[intOf];omega
   go_wp2_with fail
   refine(iPaper _ x y1 b1 (zu S2).r (zu L).2.1 (zu H1)).mono ?_
   rintro e w2 ⟨rfl,bb⟩
   have S3:=zh ((zu S2).step bb)
   have T3:=zh ((zu T2).below bb)
   replace f0:w2.cell? ⟨wr.heap.size,0,none⟩=some (.int .i64 y0):=(bb.cell (p:=⟨wr.heap.size,0,none⟩) z1).trans f0
   replace f1:w2.cell? ⟨wr.heap.size,1,none⟩=some (.int .i64 y1):=(bb.cell (p:=⟨wr.heap.size,1,none⟩) z1).trans f1
   replace f2:w2.cell? ⟨wr.heap.size,2,none⟩=some (.int .i64 y2):=(bb.cell (p:=⟨wr.heap.size,2,none⟩) z1).trans f2
   clear bb c0 c1 c2 c3 c4 c5 S2 T2
   cases b1
   ·have E:=zh ((zu NO) (fun hh=>(zu H1).no hh.2))
    clear YES NO
    go_wp2
    go_roundw
    case rel=>
     refine⟨k+1,by omega,by go_num,zu S3,zh ?_⟩
     obtain⟨D,o1,o2⟩:=(zu T3).congr (fun a i=>((zu E) a i).symm)
     exact⟨D,o1.mono (by omega),o2⟩
    case measure=>simp[intOf];omega
   have E:=zh ((zu YES) ⟨(zu H0).yes,(zu H1).yes⟩)
   clear YES NO
   go_wp2_with (first|(at_mapUpdate;refine Tab.wp_put _ rfl _ _ _ 172 rfl Tryz.underlying172 (w.heap.size+1) k _ rfl (zu T3) (by omega) y0 y1 y2 rfl rfl (zu WF) WA ?_;intro w3 t3 g3)|go_in)
   go_roundw
   case rel=>exact⟨k+1,by omega,by go_num,St.grown (zu H) (zu S3) g3 (by omega),zh (t3.congr (fun a i=>((zu E) a i).symm))⟩
   case measure=>simp[intOf];omega
  ·obtain rfl:k=x.b.bs.length:=by omega
   obtain⟨c0,c1,c2,c3,c4,c5⟩:=hS.c
   have S1:=zh hS
   have T1:=zh ((zu HT).congr (fun a i=>(leftL_zero x.b a i).symm))
   clear hS HT
   go_wp2
   go_loopw [38] (fun i wr=>∃(k:Nat),k≤x.b.ls.length∧i= .int .i64 k∧St w wr x∧Hid (Tab wr (w.heap.size+1) (x.b.bs.length+k) (leftL x.b k))∧Hid (∀j,j<k→LotFit x.b (el5 x.b.ls j))) (fun i _=>x.b.ls.length-(intOf i).toNat)
   case atStart=>exact⟨0,by omega,rfl,zu S1,T1,zh (fun i hi=>absurd hi (by omega))⟩
   case round=>
    clear c0 c1 c2 c3 c4 c5 S1 T1 hk t
    obtain⟨k,hk,rfl,hS,HT,HG⟩:=hrel
    by_cases t:k<x.b.ls.length
    ·obtain⟨d0,d1,d2,d3,d4⟩:=(hS.r.rl k t)
     obtain⟨c0,c1,c2,c3,c4,c5⟩:=hS.c
     have BAD:=zh (show ¬LotFit x.b (el5 x.b.ls k)→b=false from fun hr=>(zu T).not (fun r=>hr (r.1 k t)))
     have GOOD:=zh (show LotFit x.b (el5 x.b.ls k)→∀i,i<k+1→LotFit x.b (el5 x.b.ls i) from fun hr i hi=>by
      by_cases e:i=k
      ·subst e;exact hr
      ·exact(zu HG) i (by omega))
     have FIT:=zh (show LotFit x.b (el5 x.b.ls k)↔kindOf x.b.ac (el5 x.b.ls k).1=1∧kindOf x.b.ic (el5 x.b.ls k).2.1=2∧(el5 x.b.ls k).2.2.1≤x.b.lot from Iff.rfl)
     have NX:=zh (leftL_next t)
     obtain⟨r1,r2,_,r4,_⟩:=((zu L).2.2.2.1.2.1 k t).1
     have WF:=zh (wf_no r1 r2)
     have BD:=leftL_bd (zu L) k (el5 x.b.ls k).1 (el5 x.b.ls k).2.1
     have wz:=hS.s
     have mz:=(zu HT).lt
     have S1:=zh (hS.step (one_more wr (.cells #[.int .i64 (el5 x.b.ls k).1,.int .i64 (el5 x.b.ls k).2.1,.int .i64 (el5 x.b.ls k).2.2.1,.int .i64 (el5 x.b.ls k).2.2.2.1,.int .i64 (el5 x.b.ls k).2.2.2.2] 123)))
     have T1:=zh ((zu HT).below (one_more wr (.cells #[.int .i64 (el5 x.b.ls k).1,.int .i64 (el5 x.b.ls k).2.1,.int .i64 (el5 x.b.ls k).2.2.1,.int .i64 (el5 x.b.ls k).2.2.2.1,.int .i64 (el5 x.b.ls k).2.2.2.2] 123)))
     clear hS HT r1 r2
     generalize (el5 x.b.ls k).1=y0 at *
     generalize (el5 x.b.ls k).2.1=y1 at *
     generalize (el5 x.b.ls k).2.2.1=y2 at *
     generalize (el5 x.b.ls k).2.2.2.1=y3 at *
     generalize (el5 x.b.ls k).2.2.2.2=y4 at *
     obtain⟨b0,h0⟩:=says_of (kindOf x.b.ac y0=1)
     obtain⟨b1,h1⟩:=says_of (kindOf x.b.ic y1=2)
     have H0:=zh h0
     have H1:=zh h1
     clear h0 h1
     go_wp2_with fail
     refine(iHolder _ x y0 b0 (zu S1).r (zu L).1 (zu H0)).mono ?_
     rintro e w1 ⟨rfl,bb⟩
     have S2:=zh ((zu S1).step bb)
     have T2:=zh ((zu T1).below bb)
     have f0:w1.cell? ⟨wr.heap.size,0,none⟩=some (.int .i64 y0):=(bb.cell (p:=⟨wr.heap.size,0,none⟩) (by simp)).trans (by simp)
     have f1:w1.cell? ⟨wr.heap.size,1,none⟩=some (.int .i64 y1):=(bb.cell (p:=⟨wr.heap.size,1,none⟩) (by simp)).trans (by simp)
     have f2:w1.cell? ⟨wr.heap.size,2,none⟩=some (.int .i64 y2):=(bb.cell (p:=⟨wr.heap.size,2,none⟩) (by simp)).trans (by simp)
     have f3:w1.cell? ⟨wr.heap.size,3,none⟩=some (.int .i64 y3):=(bb.cell (p:=⟨wr.heap.size,3,none⟩) (by simp)).trans (by simp)
     have f4:w1.cell? ⟨wr.heap.size,4,none⟩=some (.int .i64 y4):=(bb.cell (p:=⟨wr.heap.size,4,none⟩) (by simp)).trans (by simp)
     have z1:wr.heap.size<w1.heap.size:=by have:=bb.size;simp at this;omega
     clear bb c0 c1 c2 c3 c4 c5 d0 d1 d2 d3 d4 S1 T1
     obtain⟨c0,c1,c2,c3,c4,c5⟩:=(zu S2).c
     cases b0
     ·have F:=zh ((zu BAD) (fun hh=>(zu H0).no ((zu FIT).1 hh).1))
      clear BAD GOOD FIT T
      go_wp2
      go_ret
      exact⟨by rw[zu F];rfl,(zu S2).b⟩
     go_wp2_with fail
     refine(iPaper _ x y1 b1 (zu S2).r (zu L).2.1 (zu H1)).mono ?_
     rintro e w2 ⟨rfl,bb⟩
     have S3:=zh ((zu S2).step bb)
     have T3:=zh ((zu T2).below bb)
     replace f0:w2.cell? ⟨wr.heap.size,0,none⟩=some (.int .i64 y0):=(bb.cell (p:=⟨wr.heap.size,0,none⟩) z1).trans f0
     replace f1:w2.cell? ⟨wr.heap.size,1,none⟩=some (.int .i64 y1):=(bb.cell (p:=⟨wr.heap.size,1,none⟩) z1).trans f1
     replace f2:w2.cell? ⟨wr.heap.size,2,none⟩=some (.int .i64 y2):=(bb.cell (p:=⟨wr.heap.size,2,none⟩) z1).trans f2
     replace f3:w2.cell? ⟨wr.heap.size,3,none⟩=some (.int .i64 y3):=(bb.cell (p:=⟨wr.heap.size,3,none⟩) z1).trans f3
     replace f4:w2.cell? ⟨wr.heap.size,4,none⟩=some (.int .i64 y4):=(bb.cell (p:=⟨wr.heap.size,4,none⟩) z1).trans f4
     have z2:wr.heap.size<w2.heap.size:=Nat.lt_of_lt_of_le z1 bb.size
     clear bb c0 c1 c2 c3 c4 c5 S2 T2
     have c5:=(zu S3).c.c5
     cases b1
     ·have F:=zh ((zu BAD) (fun hh=>(zu H1).no ((zu FIT).1 hh).2.1))
      clear BAD GOOD FIT T
      go_wp2
      go_ret
      exact⟨by rw[zu F];rfl,(zu S3).b⟩
     by_cases q:y2>x.b.lot
     ·have F:=zh ((zu BAD) (fun hh=>by have:=((zu FIT).1 hh).2.2;omega))
      clear BAD GOOD FIT T
      go_wp2
      go_ret
      exact⟨by rw[zu F];rfl,(zu S3).b⟩
     have G:=zh ((zu GOOD) ((zu FIT).2 ⟨(zu H0).yes,(zu H1).yes,by omega⟩))
     have hq:decide (y2>x.b.lot)=false:=decide_eq_false q
     clear BAD GOOD FIT q
     go_wp2_with fail
     clear c5
     generalize hfv:leftL x.b k y0 y1=fv at *
     have FV:=zh hfv
     have wrap1:IntKind.i64.wrap (fv-y3)=fv-y3:=by rw[IntKind.wrap_i64];omega
     have WV:(Lit.int .i64 (fv-y3)).wf=true:=WalkArith.wf_i64 (by omega)
     clear hfv
     have M1:=zh (fun(W:World) (bW:Below w2.heap.size w2 W)=>Entry.entry_run ((zu T3).below bW) (by omega) (zu WF))
     go_region_held3 (fun w'=>w'.cell? ⟨wr.heap.size,0,none⟩=some (.int .i64 y0)∧w'.cell? ⟨wr.heap.size,1,none⟩=some (.int .i64 y1)∧w'.cell? ⟨wr.heap.size,2,none⟩=some (.int .i64 y2)∧w'.cell? ⟨wr.heap.size,3,none⟩=some (.int .i64 y3)∧w'.cell? ⟨wr.heap.size,4,none⟩=some (.int .i64 y4)) (go_keep)
      (first|(go_at_call 154;refine(CmpL.keyL y0 y1 y2 y3 y4 w2.drew).mono ?_;rintro e w3 ⟨rfl,bb⟩;have bW:Below w2.heap.size w2 w3:=below_of_drew bb;have t3:=(zu T3).below bW;have l3:=Post.look_run t3 (zu WF);rw[zu FV] at l3;obtain⟨v0,st,w4,E4,t4,g4,ST⟩:=(zu M1) w3 bW;have l4:=Post.look_run t4 (zu WF);rw[zu FV] at l4;obtain⟨w5,E5,t5,g5⟩:=ST (fv-y3) WV;replace E5:(Instr.entryStore 172 (.map (some (w.heap.size+1))) (.int .i64 (st:Int)) (.int .i64 (fv-y3))).run Tryz.prog w4= .ok () w5:=E5;have ne:some wr.heap.size≠some (w.heap.size+1):=(fun e=>by injection e;omega);have p0:w3.cell? ⟨wr.heap.size,0,none⟩=some (.int .i64 y0):=(bW.cell (p:=⟨wr.heap.size,0,none⟩) z2).trans f0;have q0:=g4.cell p0 ne;have o0:=g5.cell p0 ne;have p1:w3.cell? ⟨wr.heap.size,1,none⟩=some (.int .i64 y1):=(bW.cell (p:=⟨wr.heap.size,1,none⟩) z2).trans f1;have q1:=g4.cell p1 ne;have o1:=g5.cell p1 ne;have p2:w3.cell? ⟨wr.heap.size,2,none⟩=some (.int .i64 y2):=(bW.cell (p:=⟨wr.heap.size,2,none⟩) z2).trans f2;have q2:=g4.cell p2 ne;have o2:=g5.cell p2 ne;have p3:w3.cell? ⟨wr.heap.size,3,none⟩=some (.int .i64 y3):=(bW.cell (p:=⟨wr.heap.size,3,none⟩) z2).trans f3;have q3:=g4.cell p3 ne;have o3:=g5.cell p3 ne;have p4:w3.cell? ⟨wr.heap.size,4,none⟩=some (.int .i64 y4):=(bW.cell (p:=⟨wr.heap.size,4,none⟩) z2).trans f4;have q4:=g4.cell p4 ne;have o4:=g5.cell p4 ne;clear bb ST))
     all_goals
      have S4:=zh (St.grown (zu H) ((zu S3).step bW) g5 (by omega))
      have T5:=zh (t5.congr (fun a i=>(by rw[zu NX]:leftL x.b (k+1) a i=upd (leftL x.b k) y0 y1 (fv-y3) a i).symm))
      clear t3 l3 E4 t4 g4 l4 t5 g5 E5 p0 p1 p2 p3 p4 q0 q1 q2 q3 q4 o0 o1 o2 o3 o4 f0 f1 f2 f3 f4 S3 T3 M1 bW NX
      go_wp2
      go_roundw
      case rel=>exact⟨k+1,by omega,by go_num,zu S4,T5,G⟩
      case measure=>simp[intOf];omega
    ·obtain rfl:k=x.b.ls.length:=by omega
     have ALL:=zh (show ∀j,j<x.b.ls.length→LotFit x.b (el5 x.b.ls j) from zu HG)
     have S1:=zh hS
     have T1:=zh ((zu HT).congr (fun a i=>leftL_all x.b a i))
     clear hS HT HG
     go_wp2_with fail
     refine(Out.iBals _ (w.heap.size+1) _ _ (by omega) (zu T1)).mono ?_
     rintro e w1 ⟨qs,g,c,hq,hn,rfl,ho,bb⟩
     have B1:=zh ((zu S1).b.trans (bb.mono (Nat.le_of_lt (zu S1).s)))
     have hd:((qs.length:Int)==0)=b:=by
      have hz:=(list_none hq).trans (lots_impl (zu ALL))
      by_cases z:qs.length=0
      ·rw[(zu T).of (hz.1 z),z];rfl
      ·rw[(zu T).not (fun r=>z (hz.2 r))]
       simp only[beq_eq_false_iff_ne]
       omega
     clear bb ho hq hn
     go_wp2
     go_ret
     exact⟨rfl,zu B1⟩
end ILotsFit
namespace IBooksOk
open BMem Bks IRead IHave ITrade ILists IBalsFit ILotsFit ITradesFit
open Lots (Says says_of NoOk)
theorem iBooksOk(w:World)(x:Bx)(b:Bool)(h:Rd w x)(hb:Says b (Ok x.b)):
  Calls Tryz.prog 68 #[.agg #[.slice (some ⟨x.ga,0,none⟩) x.b.ac.length x.ca,.slice (some ⟨x.gi,0,none⟩) x.b.ic.length x.ci,.slice (some ⟨x.gb,0,none⟩) x.b.bs.length x.cb,.slice (some ⟨x.gl,0,none⟩) x.b.ls.length x.cl,.slice (some ⟨x.gt,0,none⟩) x.b.ts.length x.ct,.int .i64 x.b.lot]] w fun e w'=>e= .returned (.bool b)∧Below w.heap.size w w':=by
 have T:=zh hb
 have S0:=zh (St.start h 36)
 obtain⟨b0,h0⟩:=says_of (Lists x.b)
 obtain⟨b1,h1⟩:=says_of (BalsFit x.b)
 obtain⟨b2,h2⟩:=says_of (LotsFit x.b)
 obtain⟨b3,h3⟩:=says_of (TradesFit x.b)
 have H0:=zh h0
 have H1:=zh h1
 have H2:=zh h2
 have H3:=zh h3
 clear hb h h0 h1 h2 h3
 go_enter Tryz.func68,Tryz.ntmps68
 go_wp2_with fail
 refine(iLists _ x b0 (zu S0).r (zu H0)).mono ?_
 rintro e w1 ⟨rfl,bb⟩
 have S1:=zh ((zu S0).step bb)
 clear bb
 obtain⟨c0,c1,c2,c3,c4,c5⟩:=(zu S1).c
 cases b0
 ·have F:=zh ((zu T).not (fun hh=>(zu H0).no hh.1))
  clear T
  go_wp2
  go_ret
  exact⟨by rw[zu F];rfl,(zu S1).b⟩
 go_wp2_with fail
 refine(iBalsFit _ x b1 (zu S1).r (zu H0).yes (zu H1)).mono ?_
 rintro e w2 ⟨rfl,bb⟩
 have S2:=zh ((zu S1).step bb)
 clear bb
 clear c0 c1 c2 c3 c4 c5
 obtain⟨c0,c1,c2,c3,c4,c5⟩:=(zu S2).c
 cases b1
 ·have F:=zh ((zu T).not (fun hh=>(zu H1).no hh.2.1))
  clear T
  go_wp2
  go_ret
  exact⟨by rw[zu F];rfl,(zu S2).b⟩
 go_wp2_with fail
 refine(iLotsFit _ x b2 (zu S2).r (zu H0).yes (zu H2)).mono ?_
 rintro e w3 ⟨rfl,bb⟩
 have S3:=zh ((zu S2).step bb)
 clear bb
 clear c0 c1 c2 c3 c4 c5
 obtain⟨c0,c1,c2,c3,c4,c5⟩:=(zu S3).c
 cases b2
 ·have F:=zh ((zu T).not (fun hh=>(zu H2).no hh.2.2.1))
  clear T
  go_wp2
  go_ret
  exact⟨by rw[zu F];rfl,(zu S3).b⟩
 go_wp2_with fail
 refine(iTradesFit _ x b3 (zu S3).r (zu H0).yes (zu H3)).mono ?_
 rintro e w4 ⟨rfl,bb⟩
 have S4:=zh ((zu S3).step bb)
 clear bb
 clear c0 c1 c2 c3 c4 c5
 obtain⟨c0,c1,c2,c3,c4,c5⟩:=(zu S4).c
 cases b3
 ·have F:=zh ((zu T).not (fun hh=>(zu H3).no hh.2.2.2))
  clear T
  go_wp2
  go_ret
  exact⟨by rw[zu F];rfl,(zu S4).b⟩
 have F:=zh ((zu T).of ⟨(zu H0).yes,(zu H1).yes,(zu H2).yes,(zu H3).yes⟩)
 clear T
 go_wp2
 go_ret
 exact⟨by rw[zu F];rfl,(zu S4).b⟩
end IBooksOk
namespace SLots
open BMem Bks IRead IHave ITrade ILists IBalsFit SBals
open Lots (Says says_of NoOk ownL restL)
open Bals (T3 el3 val sumI)
open Tup5 (T5 el5)
open Takes (sumQ)
open ILotsFit (below_of_drew)
def Even(b:Bk)(j k:Nat):Prop:=(Chart.el b.ac j).2=1→(Chart.el b.ic k).2=2→sumQ (ownL b.ls (Chart.el b.ac j).1 (Chart.el b.ic k).1)=val b.bs (Chart.el b.ac j).1 (Chart.el b.ic k).1
theorem sLots(w:World)(x:Bx)(b:Bool)(h:Rd w x)(hl:Lists x.b)(hb:Says b (LotsFit x.b)):
  Calls Tryz.prog 89 #[.agg #[.slice (some ⟨x.ga,0,none⟩) x.b.ac.length x.ca,.slice (some ⟨x.gi,0,none⟩) x.b.ic.length x.ci,.slice (some ⟨x.gb,0,none⟩) x.b.bs.length x.cb,.slice (some ⟨x.gl,0,none⟩) x.b.ls.length x.cl,.slice (some ⟨x.gt,0,none⟩) x.b.ts.length x.ct,.int .i64 x.b.lot]] w fun e w'=>e= .returned (.bool b)∧Below w.heap.size w w':=by
 have T:=zh hb
 have L:=zh hl
 have S0:=zh (St.start h 36)
 have nl:=h.nl
 have na:=h.na
 have ni:=h.ni
 have nb:=h.nb
 have n120:x.b.ls.length≤120:=hl.2.2.2.1.1
 clear hb hl h
 go_enter Tryz.func89,Tryz.ntmps89
 go_wp2
 go_loopw [3] (fun i wr=>∃(k:Nat),k≤x.b.ls.length∧i= .int .i64 k∧St w wr x∧Hid (∀j,j<k→LotFit x.b (el5 x.b.ls j))) (fun i _=>x.b.ls.length-(intOf i).toNat)
 case atStart=>exact⟨0,by omega,rfl,zu S0,zh (fun i hi=>absurd hi (by omega))⟩
 case round=>
  obtain⟨k,hk,rfl,hS,HG⟩:=hrel
  clear S0
  by_cases t:k<x.b.ls.length
  ·obtain⟨d0,d1,d2,d3,d4⟩:=(hS.r.rl k t)
   obtain⟨c0,c1,c2,c3,c4,c5⟩:=hS.c
   have BAD:=zh (show ¬LotFit x.b (el5 x.b.ls k)→b=false from fun hr=>(zu T).not (fun r=>hr (r.1 k t)))
   have GOOD:=zh (show LotFit x.b (el5 x.b.ls k)→∀i,i<k+1→LotFit x.b (el5 x.b.ls i) from fun hr i hi=>by
    by_cases e:i=k
    ·subst e;exact hr
    ·exact(zu HG) i (by omega))
   have FIT:=zh (show LotFit x.b (el5 x.b.ls k)↔kindOf x.b.ac (el5 x.b.ls k).1=1∧kindOf x.b.ic (el5 x.b.ls k).2.1=2∧(el5 x.b.ls k).2.2.1≤x.b.lot from Iff.rfl)
   have wz:=hS.s
   have S1:=zh (hS.step (one_more wr (.cells #[.int .i64 (el5 x.b.ls k).1,.int .i64 (el5 x.b.ls k).2.1,.int .i64 (el5 x.b.ls k).2.2.1,.int .i64 (el5 x.b.ls k).2.2.2.1,.int .i64 (el5 x.b.ls k).2.2.2.2] 123)))
   clear hS
   generalize LotFit x.b (el5 x.b.ls k)=FP at *
   generalize (el5 x.b.ls k).1=y0 at *
   generalize (el5 x.b.ls k).2.1=y1 at *
   generalize (el5 x.b.ls k).2.2.1=y2 at *
   generalize (el5 x.b.ls k).2.2.2.1=y3 at *
   generalize (el5 x.b.ls k).2.2.2.2=y4 at *
   generalize hK:kindOf x.b.ac y0=K at *
   generalize hJ:kindOf x.b.ic y1=J at *
   have HK:=zh hK
   have HJ:=zh hJ
   clear hK hJ
   go_wp2_with fail
   refine(sKindA _ x y0 K (zu S1).r (zu L).1 (zu HK)).mono ?_
   rintro e w1 ⟨rfl,bb⟩
   have S2:=zh ((zu S1).step bb)
   have f1:w1.cell? ⟨wr.heap.size,1,none⟩=some (.int .i64 y1):=(bb.cell (p:=⟨wr.heap.size,1,none⟩) (by simp)).trans (by simp)
   have f2:w1.cell? ⟨wr.heap.size,2,none⟩=some (.int .i64 y2):=(bb.cell (p:=⟨wr.heap.size,2,none⟩) (by simp)).trans (by simp)
   have z1:wr.heap.size<w1.heap.size:=by have:=bb.size;simp at this;omega
   clear bb c0 c1 c2 c3 c4 c5 d0 d1 d2 d3 d4
   obtain⟨c0,c1,c2,c3,c4,c5⟩:=(zu S2).c
   by_cases q0:K=1
   ·have hq0:(K !=1)=false:=by simp[q0]
    have Q0:=zh q0
    clear q0
    go_wp2_with fail
    refine(sKindI _ x y1 J (zu S2).r (zu L).2.1 (zu HJ)).mono ?_
    rintro e w2 ⟨rfl,bb⟩
    have S3:=zh ((zu S2).step bb)
    replace f2:w2.cell? ⟨wr.heap.size,2,none⟩=some (.int .i64 y2):=(bb.cell (p:=⟨wr.heap.size,2,none⟩) z1).trans f2
    clear bb c0 c1 c2 c3 c4 c5
    obtain⟨c0,c1,c2,c3,c4,c5⟩:=(zu S3).c
    by_cases q1:J=2
    ·have hq1:(J !=2)=false:=by simp[q1]
     by_cases q2:y2>x.b.lot
     ·have F:=zh ((zu BAD) (fun hh=>by have:=((zu FIT).1 hh).2.2;omega))
      clear BAD GOOD FIT T q1
      go_wp2
      go_ret
      exact⟨by rw[zu F];rfl,(zu S3).b⟩
     ·have G:=zh ((zu GOOD) ((zu FIT).2 ⟨zu Q0,q1,by omega⟩))
      have hq2:decide (y2>x.b.lot)=false:=decide_eq_false q2
      clear BAD GOOD FIT q1 q2
      go_wp2
      go_roundw
      case rel=>exact⟨k+1,by omega,by go_num,zu S3,G⟩
      case measure=>simp[intOf];omega
    ·have F:=zh ((zu BAD) (fun hh=>q1 ((zu FIT).1 hh).2.1))
     have hq1:(J !=2)=true:=by simp[q1]
     clear BAD GOOD FIT T q1
     go_wp2
     go_ret
     exact⟨by rw[zu F];rfl,(zu S3).b⟩
   ·have F:=zh ((zu BAD) (fun hh=>q0 ((zu FIT).1 hh).1))
    have hq:(K !=1)=true:=by simp[q0]
    clear BAD GOOD FIT T q0
    go_wp2
    go_ret
    exact⟨by rw[zu F];rfl,(zu S2).b⟩
  ·have ALL:=zh (show ∀j,j<x.b.ls.length→LotFit x.b (el5 x.b.ls j) from fun j hj=>(zu HG) j (by omega))
   have IFF:=zh (lots_spec (zu L).1 (zu L).2.1 (zu ALL))
   obtain⟨c0,c1,c2,c3,c4,c5⟩:=hS.c
   have S1:=zh hS
   clear hS HG
   go_wp2
   go_loopw [5] (fun i wr=>∃(j:Nat),j≤x.b.ac.length∧i= .int .i64 j∧St w wr x∧Hid (∀j',j'<j→∀k,k<x.b.ic.length→Even x.b j' k)) (fun i _=>x.b.ac.length-(intOf i).toNat)
   case atStart=>exact⟨0,by omega,rfl,zu S1,zh (fun i hi=>absurd hi (by omega))⟩
   case round=>
    clear c0 c1 c2 c3 c4 c5 S1 hk t
    obtain⟨j,hj,rfl,hS,HG⟩:=hrel
    obtain⟨c0,c1,c2,c3,c4,c5⟩:=hS.c
    have S1:=zh hS
    clear hS
    by_cases t:j<x.b.ac.length
    ·go_wp2
     go_loopw [6] (fun i wr=>∃(k:Nat),k≤x.b.ic.length∧i= .int .i64 k∧St w wr x∧Hid (∀k',k'<k→Even x.b j k')) (fun i _=>x.b.ic.length-(intOf i).toNat)
     case atStart=>exact⟨0,by omega,rfl,zu S1,zh (fun i hi=>absurd hi (by omega))⟩
     case round=>
      clear c0 c1 c2 c3 c4 c5 S1
      obtain⟨k,hk,rfl,hS,HK⟩:=hrel
      obtain⟨c0,c1,c2,c3,c4,c5⟩:=hS.c
      by_cases u:k<x.b.ic.length
      ·obtain⟨a0,a1⟩:=hS.r.ra j t
       obtain⟨i0,i1⟩:=hS.r.ri k u
       have S2:=zh hS
       have wz:=hS.s
       clear hS
       have BAD:=zh (show ¬Even x.b j k→b=false from fun hr=>(zu T).not (fun r=>hr (((zu IFF).1 r) j t k u)))
       have GOOD:=zh (show Even x.b j k→∀i,i<k+1→Even x.b j i from fun hr i hi=>by
        by_cases e:i=k
        ·subst e;exact hr
        ·exact(zu HK) i (by omega))
       have DEF:=zh (show Even x.b j k↔((Chart.el x.b.ac j).2=1→(Chart.el x.b.ic k).2=2→sumQ (ownL x.b.ls (Chart.el x.b.ac j).1 (Chart.el x.b.ic k).1)=val x.b.bs (Chart.el x.b.ac j).1 (Chart.el x.b.ic k).1) from Iff.rfl)
       generalize Even x.b j k=EP at *
       generalize (Chart.el x.b.ac j).1=y0 at *
       generalize (Chart.el x.b.ac j).2=y1 at *
       generalize (Chart.el x.b.ic k).1=z0 at *
       generalize (Chart.el x.b.ic k).2=z1 at *
       by_cases q0:y1=1
       ·by_cases q1:z1=2
        ·have DEF2:=zh (show EP↔sumQ (ownL x.b.ls y0 z0)=val x.b.bs y0 z0 from(zu DEF).trans ⟨fun hh=>hh q0 q1,fun hh _ _=>hh⟩)
         have hq0:(y1==1)=true:=by simp[q0]
         have hq1:(z1==2)=true:=by simp[q1]
         have kj:(0:Int)≤(j:Int):=by omega
         have kj2:(j:Int)<(x.b.ac.length:Int):=by omega
         have kk:(0:Int)≤(k:Int):=by omega
         have kk2:(k:Int)<(x.b.ic.length:Int):=by omega
         clear DEF q0 q1
         go_wp2_with fail
         have ga:=(zu S2).r.la
         have gi:=(zu S2).r.li
         go_region_held3 (fun w'=>w'.cell? ⟨w.heap.size,0,none⟩=some (.slice (some ⟨x.ga,0,none⟩) x.b.ac.length x.ca)∧w'.cell? ⟨w.heap.size,1,none⟩=some (.slice (some ⟨x.gi,0,none⟩) x.b.ic.length x.ci)∧w'.cell? ⟨w.heap.size,2,none⟩=some (.slice (some ⟨x.gb,0,none⟩) x.b.bs.length x.cb)∧w'.cell? ⟨w.heap.size,3,none⟩=some (.slice (some ⟨x.gl,0,none⟩) x.b.ls.length x.cl)∧w'.cell? ⟨x.ga,j*2,none⟩=some (.int .i64 y0)∧w'.cell? ⟨x.gi,k*2,none⟩=some (.int .i64 z0)) (go_keep)
          (first|(go_at_call 123;refine(SSplit.sSplit wr.drew x.gl _ x.cl x.b.ls y0 z0 rfl (by omega) (zu S2).r.ll (zu S2).r.rl).mono ?_;rintro e w3 ⟨g1,k1,g2,k2,rfl,o1,o2,ne,bb⟩;have bW:Below wr.heap.size wr w3:=below_of_drew bb;have pc0:w3.cell? ⟨w.heap.size,0,none⟩=some (.slice (some ⟨x.ga,0,none⟩) x.b.ac.length x.ca):=(bW.cell (p:=⟨w.heap.size,0,none⟩) wz).trans c0;have pc1:w3.cell? ⟨w.heap.size,1,none⟩=some (.slice (some ⟨x.gi,0,none⟩) x.b.ic.length x.ci):=(bW.cell (p:=⟨w.heap.size,1,none⟩) wz).trans c1;have pc2:w3.cell? ⟨w.heap.size,2,none⟩=some (.slice (some ⟨x.gb,0,none⟩) x.b.bs.length x.cb):=(bW.cell (p:=⟨w.heap.size,2,none⟩) wz).trans c2;have pc3:w3.cell? ⟨w.heap.size,3,none⟩=some (.slice (some ⟨x.gl,0,none⟩) x.b.ls.length x.cl):=(bW.cell (p:=⟨w.heap.size,3,none⟩) wz).trans c3;have pa0:w3.cell? ⟨x.ga,j*2,none⟩=some (.int .i64 y0):=(bW.cell (p:=⟨x.ga,j*2,none⟩) ga).trans a0;have pi0:w3.cell? ⟨x.gi,k*2,none⟩=some (.int .i64 z0):=(bW.cell (p:=⟨x.gi,k*2,none⟩) gi).trans i0))
         have S3:=zh ((zu S2).step bW)
         have O1:=zh o1
         have l1:=o1.lt.2
         clear c0 c1 c2 c3 c4 c5 a0 a1 i0 i1 bb bW o1 o2 ne
         obtain⟨ps1,ps2,ps3⟩:=Takes.own_pos (zu L).2.2.2.1 y0 z0
         have P1:=zh ps1
         have n1:(ownL x.b.ls y0 z0).length≤1048576:=Nat.le_trans (List.length_filter_le _ _) nl
         have w3z:=(zu S3).s
         have ga3:=(zu S3).r.la
         have gi3:=(zu S3).r.li
         clear ps1 ps3
         generalize hQ:sumQ (ownL x.b.ls y0 z0)=QV at *
         generalize hV:val x.b.bs y0 z0=VV at *
         have HQ:=zh hQ
         have HV:=zh hV
         clear hQ hV
         go_wp2_with fail
         go_region_held3 (fun w'=>w'.cell? ⟨w.heap.size,0,none⟩=some (.slice (some ⟨x.ga,0,none⟩) x.b.ac.length x.ca)∧w'.cell? ⟨w.heap.size,1,none⟩=some (.slice (some ⟨x.gi,0,none⟩) x.b.ic.length x.ci)∧w'.cell? ⟨w.heap.size,2,none⟩=some (.slice (some ⟨x.gb,0,none⟩) x.b.bs.length x.cb)∧w'.cell? ⟨w.heap.size,3,none⟩=some (.slice (some ⟨x.gl,0,none⟩) x.b.ls.length x.cl)∧w'.cell? ⟨x.ga,j*2,none⟩=some (.int .i64 y0)∧w'.cell? ⟨x.gi,k*2,none⟩=some (.int .i64 z0)) (go_keep)
          (first|(go_at_call 137;refine(SSplit.sQty w3.drew g1 _ k1 (ownL x.b.ls y0 z0) rfl n1 (zu O1).at (zu P1) (by rw[zu HQ];exact ps2)).mono ?_;rintro e w4 ⟨he,bb⟩;rw[zu HQ] at he;subst he;have bW:Below w3.heap.size w3 w4:=below_of_drew bb;have qc0:w4.cell? ⟨w.heap.size,0,none⟩=some (.slice (some ⟨x.ga,0,none⟩) x.b.ac.length x.ca):=(bW.cell (p:=⟨w.heap.size,0,none⟩) w3z).trans pc0;have qc1:w4.cell? ⟨w.heap.size,1,none⟩=some (.slice (some ⟨x.gi,0,none⟩) x.b.ic.length x.ci):=(bW.cell (p:=⟨w.heap.size,1,none⟩) w3z).trans pc1;have qc2:w4.cell? ⟨w.heap.size,2,none⟩=some (.slice (some ⟨x.gb,0,none⟩) x.b.bs.length x.cb):=(bW.cell (p:=⟨w.heap.size,2,none⟩) w3z).trans pc2;have qc3:w4.cell? ⟨w.heap.size,3,none⟩=some (.slice (some ⟨x.gl,0,none⟩) x.b.ls.length x.cl):=(bW.cell (p:=⟨w.heap.size,3,none⟩) w3z).trans pc3;have qa0:w4.cell? ⟨x.ga,j*2,none⟩=some (.int .i64 y0):=(bW.cell (p:=⟨x.ga,j*2,none⟩) ga3).trans pa0;have qi0:w4.cell? ⟨x.gi,k*2,none⟩=some (.int .i64 z0):=(bW.cell (p:=⟨x.gi,k*2,none⟩) gi3).trans pi0)|(go_at_call 66;refine(Look.sOf w4 x.gb _ x.cb x.b.bs y0 z0 rfl nb ((zu S3).r.below bW).rb).mono ?_;rintro e w5 ⟨he,rfl⟩;rw[zu HV] at he;subst he))
         have S4:=zh ((zu S3).step bW)
         clear bb bW qc0 qc1 qc2 qc3 qa0 qi0 pc0 pc1 pc2 pc3 pa0 pi0
         by_cases q2:QV=VV
         ·have G:=zh ((zu GOOD) ((zu DEF2).2 q2))
          have hq2:(QV !=VV)=false:=by simp[q2]
          clear BAD GOOD DEF2 q2
          go_wp2
          go_roundw
          case rel=>exact⟨k+1,by omega,by go_num,zu S4,G⟩
          case measure=>simp[intOf];omega
         ·have F:=zh ((zu BAD) (fun hh=>q2 ((zu DEF2).1 hh)))
          have hq2:(QV !=VV)=true:=by simp[q2]
          clear BAD GOOD DEF2 T q2
          go_wp2
          go_ret
          exact⟨by rw[zu F];rfl,(zu S4).b⟩
        ·have G:=zh ((zu GOOD) ((zu DEF).2 (fun _ e=>absurd e q1)))
         have hq0:(y1==1)=true:=by simp[q0]
         have hq1:(z1==2)=false:=by simp[q1]
         clear BAD GOOD DEF q0 q1
         go_wp2
         go_roundw
         case rel=>exact⟨k+1,by omega,by go_num,zu S2,G⟩
         case measure=>simp[intOf];omega
       ·have G:=zh ((zu GOOD) ((zu DEF).2 (fun e _=>absurd e q0)))
        have hq0:(y1==1)=false:=by simp[q0]
        clear BAD GOOD DEF q0
        go_wp2
        go_roundw
        case rel=>exact⟨k+1,by omega,by go_num,zu S2,G⟩
        case measure=>simp[intOf];omega
      ·have G:=zh (show ∀j',j'<j+1→∀k,k<x.b.ic.length→Even x.b j' k from fun j' hj' k' hk'=>by
        by_cases e:j'=j
        ·subst e;exact(zu HK) k' (by omega)
        ·exact(zu HG) j' (by omega) k' hk')
       have S2:=zh hS
       clear hS
       go_wp2
       go_roundw
       case rel=>exact⟨j+1,by omega,by go_num,zu S2,G⟩
       case measure=>simp[intOf];omega
    ·have F:=zh ((zu T).of ((zu IFF).2 (fun j' hj' k hk=>(zu HG) j' (by omega) k hk)))
     go_wp2
     go_ret
     exact⟨by rw[zu F];rfl,(zu S1).b⟩
end SLots
namespace SBooksOk
open BMem Bks IRead IHave ITrade ILists IBalsFit SBals SLots
open Lots (Says says_of NoOk)
open Tup8 (T8 el8)
theorem sOksA(w:World)(x:Bx)(ok:Bool)(h:Rd w x)(hok:Chart.Says ok 20 4 x.b.ac):Calls Tryz.prog 83 #[.slice (some ⟨x.ga,0,none⟩) x.b.ac.length x.ca] w fun e w'=>e= .returned (.bool ok)∧Below w.heap.size w w':=
 (AccountSOk.sOk w x.ga _ x.ca x.b.ac ok rfl h.na h.ra hok).mono fun e w' ⟨h1,q,h2⟩=>⟨h1,by rw[h2];exact below_drewN (Below.refl _ _) q⟩
theorem sOksI(w:World)(x:Bx)(ok:Bool)(h:Rd w x)(hok:Chart.Says ok 8 2 x.b.ic):Calls Tryz.prog 84 #[.slice (some ⟨x.gi,0,none⟩) x.b.ic.length x.ci] w fun e w'=>e= .returned (.bool ok)∧Below w.heap.size w w':=
 (InstrSOk.sOk w x.gi _ x.ci x.b.ic ok rfl h.ni h.ri hok).mono fun e w' ⟨h1,q,h2⟩=>⟨h1,by rw[h2];exact below_drewN (Below.refl _ _) q⟩
theorem sBooksOk(w:World)(x:Bx)(b:Bool)(h:Rd w x)(hb:Says b (Ok x.b)):
  Calls Tryz.prog 28 #[.agg #[.slice (some ⟨x.ga,0,none⟩) x.b.ac.length x.ca,.slice (some ⟨x.gi,0,none⟩) x.b.ic.length x.ci,.slice (some ⟨x.gb,0,none⟩) x.b.bs.length x.cb,.slice (some ⟨x.gl,0,none⟩) x.b.ls.length x.cl,.slice (some ⟨x.gt,0,none⟩) x.b.ts.length x.ct,.int .i64 x.b.lot]] w fun e w'=>e= .returned (.bool b)∧Below w.heap.size w w':=by
 have T:=zh hb
 have S0:=zh (St.start h 36)
 have nb:=h.nb
 have nl:=h.nl
 have nt:=h.nt
 obtain⟨b0,h0⟩:=Chart.says_of 20 4 x.b.ac
 obtain⟨b1,h1⟩:=Chart.says_of 8 2 x.b.ic
 obtain⟨b2,h2⟩:=Bals.says_of (Bals.Right x.b.bs)
 obtain⟨b3,h3⟩:=says_of (Lots.Right x.b.ls)
 obtain⟨b4,h4⟩:=says_of (TRight x.b.ts)
 obtain⟨b5,h5⟩:=says_of (0≤x.b.lot∧x.b.lot≤1000000000)
 obtain⟨b6,h6⟩:=says_of (BalsFit x.b)
 obtain⟨b7,h7⟩:=says_of (LotsFit x.b)
 have H0:=zh h0
 have H1:=zh h1
 have H2:=zh h2
 have H3:=zh h3
 have H4:=zh h4
 have H5:=zh h5
 have H6:=zh h6
 have H7:=zh h7
 clear hb h h0 h1 h2 h3 h4 h5 h6 h7
 go_enter Tryz.func28,Tryz.ntmps28
 go_wp2_with fail
 refine(sOksA _ x b0 (zu S0).r (zu H0)).mono ?_
 rintro e w1 ⟨rfl,bb⟩
 have S1:=zh ((zu S0).step bb)
 clear bb
 obtain⟨c0,c1,c2,c3,c4,c5⟩:=(zu S1).c
 cases b0
 ·have F:=zh ((zu T).not (fun hh=>(zu H0).no hh.1.1))
  clear T
  go_wp2
  go_ret
  exact⟨by rw[zu F];rfl,(zu S1).b⟩
 go_wp2_with fail
 refine(sOksI _ x b1 (zu S1).r (zu H1)).mono ?_
 rintro e w2 ⟨rfl,bb⟩
 have S2:=zh ((zu S1).step bb)
 clear bb
 clear c0 c1 c2 c3 c4 c5
 obtain⟨c0,c1,c2,c3,c4,c5⟩:=(zu S2).c
 cases b1
 ·have F:=zh ((zu T).not (fun hh=>(zu H1).no hh.1.2.1))
  clear T
  go_wp2
  go_ret
  exact⟨by rw[zu F];rfl,(zu S2).b⟩
 go_wp2_with fail
 refine(SOk3.sOk _ x.gb _ x.cb x.b.bs b2 rfl nb (zu S2).r.lb (zu S2).r.rb (zu H2)).mono ?_
 rintro e w3 ⟨rfl,bb⟩
 have S3:=zh ((zu S2).step bb)
 clear bb
 clear c0 c1 c2 c3 c4 c5
 obtain⟨c0,c1,c2,c3,c4,c5⟩:=(zu S3).c
 cases b2
 ·have F:=zh ((zu T).not (fun hh=>(zu H2).no hh.1.2.2.1))
  clear T
  go_wp2
  go_ret
  exact⟨by rw[zu F];rfl,(zu S3).b⟩
 go_wp2_with fail
 refine(SOk5.sOk _ x.gl _ x.cl x.b.ls b3 rfl nl (zu S3).r.ll (zu S3).r.rl (zu H3)).mono ?_
 rintro e w4 ⟨rfl,bb⟩
 have S4:=zh ((zu S3).step bb)
 clear bb
 clear c0 c1 c2 c3 c4 c5
 obtain⟨c0,c1,c2,c3,c4,c5⟩:=(zu S4).c
 cases b3
 ·have F:=zh ((zu T).not (fun hh=>(zu H3).no hh.1.2.2.2.1))
  clear T
  go_wp2
  go_ret
  exact⟨by rw[zu F];rfl,(zu S4).b⟩
 go_wp2_with fail
 refine(ITrade.sOk _ x.gt _ x.ct x.b.ts b4 rfl nt (zu S4).r.lt (zu S4).r.rt (zu H4)).mono ?_
 rintro e w5 ⟨rfl,bb⟩
 have S5:=zh ((zu S4).step bb)
 clear bb
 clear c0 c1 c2 c3 c4 c5
 obtain⟨c0,c1,c2,c3,c4,c5⟩:=(zu S5).c
 cases b4
 ·have F:=zh ((zu T).not (fun hh=>(zu H4).no hh.1.2.2.2.2.1))
  clear T
  go_wp2
  go_ret
  exact⟨by rw[zu F];rfl,(zu S5).b⟩
 go_wp2_with fail
 refine(SOk5.sIn x.b.lot 0 1000000000 b5 _ (zu H5)).mono ?_
 rintro e w6 ⟨rfl,rfl⟩
 have S6:=S5
 cases b5
 ·have F:=zh ((zu T).not (fun hh=>(zu H5).no hh.1.2.2.2.2.2))
  clear T
  go_wp2
  go_ret
  exact⟨by rw[zu F];rfl,(zu S6).b⟩
 have L:=zh (show Lists x.b from⟨(zu H0).yes,(zu H1).yes,(zu H2).yes,(zu H3).yes,(zu H4).yes,(zu H5).yes⟩)
 go_wp2_with fail
 refine(sBals _ x b6 (zu S6).r (zu L) (zu H6)).mono ?_
 rintro e w7 ⟨rfl,bb⟩
 have S7:=zh ((zu S6).step bb)
 clear bb
 clear c0 c1 c2 c3 c4 c5
 obtain⟨c0,c1,c2,c3,c4,c5⟩:=(zu S7).c
 cases b6
 ·have F:=zh ((zu T).not (fun hh=>(zu H6).no hh.2.1))
  clear T
  go_wp2
  go_ret
  exact⟨by rw[zu F];rfl,(zu S7).b⟩
 go_wp2_with fail
 refine(sLots _ x b7 (zu S7).r (zu L) (zu H7)).mono ?_
 rintro e w8 ⟨rfl,bb⟩
 have S8:=zh ((zu S7).step bb)
 clear bb
 clear c0 c1 c2 c3 c4 c5
 obtain⟨c0,c1,c2,c3,c4,c5⟩:=(zu S8).c
 cases b7
 ·have F:=zh ((zu T).not (fun hh=>(zu H7).no hh.2.2.1))
  clear T
  go_wp2
  go_ret
  exact⟨by rw[zu F];rfl,(zu S8).b⟩
 go_wp2
 go_loopw [3] (fun i wr=>∃(k:Nat),k≤x.b.ts.length∧i= .int .i64 k∧St w wr x∧Hid (∀j,j<k→TradeFit x.b (el8 x.b.ts j))) (fun i _=>x.b.ts.length-(intOf i).toNat)
 case atStart=>exact⟨0,by omega,rfl,zu S8,zh (fun i hi=>absurd hi (by omega))⟩
 case round=>
  obtain⟨k,hk,rfl,hS,HG⟩:=hrel
  clear S0 S1 S2 S3 S4 S5 S6 S7 S8 c0 c1 c2 c3 c4 c5
  obtain⟨c0,c1,c2,c3,c4,c5⟩:=hS.c
  by_cases t:k<x.b.ts.length
  ·obtain⟨d0,d1,d2,d3,d4,d5,d6,d7⟩:=(hS.r.rt k t)
   have BAD:=zh (show ¬TradeFit x.b (el8 x.b.ts k)→b=false from fun hr=>(zu T).not (fun r=>hr (r.2.2.2 k t)))
   have GOOD:=zh (show TradeFit x.b (el8 x.b.ts k)→∀i,i<k+1→TradeFit x.b (el8 x.b.ts i) from fun hr i hi=>by
    by_cases e:i=k
    ·subst e;exact hr
    ·exact(zu HG) i (by omega))
   have FIT:=zh (show TradeFit x.b (el8 x.b.ts k)↔kindOf x.b.ac (el8 x.b.ts k).2.1=1∧kindOf x.b.ac (el8 x.b.ts k).2.2.1=1∧kindOf x.b.ic (el8 x.b.ts k).2.2.2.1=2∧kindOf x.b.ic (el8 x.b.ts k).2.2.2.2.2.1=1 from Iff.rfl)
   have wz:=hS.s
   have S1:=zh (hS.step (one_more wr (.cells #[.int .i64 (el8 x.b.ts k).1,.int .i64 (el8 x.b.ts k).2.1,.int .i64 (el8 x.b.ts k).2.2.1,.int .i64 (el8 x.b.ts k).2.2.2.1,.int .i64 (el8 x.b.ts k).2.2.2.2.1,.int .i64 (el8 x.b.ts k).2.2.2.2.2.1,.int .i64 (el8 x.b.ts k).2.2.2.2.2.2.1,.int .i64 (el8 x.b.ts k).2.2.2.2.2.2.2] 110)))
   clear hS
   generalize TradeFit x.b (el8 x.b.ts k)=FP at *
   generalize (el8 x.b.ts k).1=y0 at *
   generalize (el8 x.b.ts k).2.1=y1 at *
   generalize (el8 x.b.ts k).2.2.1=y2 at *
   generalize (el8 x.b.ts k).2.2.2.1=y3 at *
   generalize (el8 x.b.ts k).2.2.2.2.1=y4 at *
   generalize (el8 x.b.ts k).2.2.2.2.2.1=y5 at *
   generalize (el8 x.b.ts k).2.2.2.2.2.2.1=y6 at *
   generalize (el8 x.b.ts k).2.2.2.2.2.2.2=y7 at *
   generalize hK1:kindOf x.b.ac y1=K1 at *
   generalize hK2:kindOf x.b.ac y2=K2 at *
   generalize hK3:kindOf x.b.ic y3=K3 at *
   generalize hK4:kindOf x.b.ic y5=K4 at *
   have N1:=zh hK1
   have N2:=zh hK2
   have N3:=zh hK3
   have N4:=zh hK4
   clear hK1 hK2 hK3 hK4
   go_wp2_with fail
   refine(sKindA _ x y1 K1 (zu S1).r (zu L).1 (zu N1)).mono ?_
   rintro e v1 ⟨rfl,bb⟩
   have S2:=zh ((zu S1).step bb)
   have f2:v1.cell? ⟨wr.heap.size,2,none⟩=some (.int .i64 y2):=(bb.cell (p:=⟨wr.heap.size,2,none⟩) (by simp)).trans (by simp)
   have f3:v1.cell? ⟨wr.heap.size,3,none⟩=some (.int .i64 y3):=(bb.cell (p:=⟨wr.heap.size,3,none⟩) (by simp)).trans (by simp)
   have f5:v1.cell? ⟨wr.heap.size,5,none⟩=some (.int .i64 y5):=(bb.cell (p:=⟨wr.heap.size,5,none⟩) (by simp)).trans (by simp)
   have z1:wr.heap.size<v1.heap.size:=by have:=bb.size;simp at this;omega
   clear d0 d1 d2 d3 d4 d5 d6 d7
   clear bb c0 c1 c2 c3 c4 c5
   obtain⟨c0,c1,c2,c3,c4,c5⟩:=(zu S2).c
   by_cases q1:K1=1
   rotate_left
   ·have F:=zh ((zu BAD) (fun hh=>q1 ((zu FIT).1 hh).1))
    have hq:(K1 !=1)=true:=by simp[q1]
    clear BAD GOOD FIT T q1
    go_wp2
    go_ret
    exact⟨by rw[zu F];rfl,(zu S2).b⟩
   have hq1:(K1 !=1)=false:=by simp[q1]
   have Q1:=zh q1
   clear q1
   go_wp2_with fail
   refine(sKindA _ x y2 K2 (zu S2).r (zu L).1 (zu N2)).mono ?_
   rintro e v2 ⟨rfl,bb⟩
   have S3:=zh ((zu S2).step bb)
   replace f2:v2.cell? ⟨wr.heap.size,2,none⟩=some (.int .i64 y2):=(bb.cell (p:=⟨wr.heap.size,2,none⟩) z1).trans f2
   replace f3:v2.cell? ⟨wr.heap.size,3,none⟩=some (.int .i64 y3):=(bb.cell (p:=⟨wr.heap.size,3,none⟩) z1).trans f3
   replace f5:v2.cell? ⟨wr.heap.size,5,none⟩=some (.int .i64 y5):=(bb.cell (p:=⟨wr.heap.size,5,none⟩) z1).trans f5
   have z2:wr.heap.size<v2.heap.size:=Nat.lt_of_lt_of_le z1 bb.size
   clear bb c0 c1 c2 c3 c4 c5
   obtain⟨c0,c1,c2,c3,c4,c5⟩:=(zu S3).c
   by_cases q2:K2=1
   rotate_left
   ·have F:=zh ((zu BAD) (fun hh=>q2 ((zu FIT).1 hh).2.1))
    have hq:(K2 !=1)=true:=by simp[q2]
    clear BAD GOOD FIT T q2
    go_wp2
    go_ret
    exact⟨by rw[zu F];rfl,(zu S3).b⟩
   have hq2:(K2 !=1)=false:=by simp[q2]
   have Q2:=zh q2
   clear q2
   go_wp2_with fail
   refine(sKindI _ x y3 K3 (zu S3).r (zu L).2.1 (zu N3)).mono ?_
   rintro e v3 ⟨rfl,bb⟩
   have S4:=zh ((zu S3).step bb)
   replace f2:v3.cell? ⟨wr.heap.size,2,none⟩=some (.int .i64 y2):=(bb.cell (p:=⟨wr.heap.size,2,none⟩) z2).trans f2
   replace f3:v3.cell? ⟨wr.heap.size,3,none⟩=some (.int .i64 y3):=(bb.cell (p:=⟨wr.heap.size,3,none⟩) z2).trans f3
   replace f5:v3.cell? ⟨wr.heap.size,5,none⟩=some (.int .i64 y5):=(bb.cell (p:=⟨wr.heap.size,5,none⟩) z2).trans f5
   have z3:wr.heap.size<v3.heap.size:=Nat.lt_of_lt_of_le z2 bb.size
   clear bb c0 c1 c2 c3 c4 c5
   obtain⟨c0,c1,c2,c3,c4,c5⟩:=(zu S4).c
   by_cases q3:K3=2
   rotate_left
   ·have F:=zh ((zu BAD) (fun hh=>q3 ((zu FIT).1 hh).2.2.1))
    have hq:(K3 !=2)=true:=by simp[q3]
    clear BAD GOOD FIT T q3
    go_wp2
    go_ret
    exact⟨by rw[zu F];rfl,(zu S4).b⟩
   have hq3:(K3 !=2)=false:=by simp[q3]
   have Q3:=zh q3
   clear q3
   go_wp2_with fail
   refine(sKindI _ x y5 K4 (zu S4).r (zu L).2.1 (zu N4)).mono ?_
   rintro e v4 ⟨rfl,bb⟩
   have S5:=zh ((zu S4).step bb)
   clear bb c0 c1 c2 c3 c4 c5
   obtain⟨c0,c1,c2,c3,c4,c5⟩:=(zu S5).c
   by_cases q4:K4=1
   rotate_left
   ·have F:=zh ((zu BAD) (fun hh=>q4 ((zu FIT).1 hh).2.2.2))
    have hq:(K4 !=1)=true:=by simp[q4]
    clear BAD GOOD FIT T q4
    go_wp2
    go_ret
    exact⟨by rw[zu F];rfl,(zu S5).b⟩
   have hq4:(K4 !=1)=false:=by simp[q4]
   have Q4:=zh q4
   clear q4
   have G:=zh ((zu GOOD) ((zu FIT).2 ⟨zu Q1,zu Q2,zu Q3,zu Q4⟩))
   clear BAD GOOD FIT
   go_wp2
   go_roundw
   case rel=>exact⟨k+1,by omega,by go_num,zu S5,G⟩
   case measure=>simp[intOf];omega
  ·have F:=zh ((zu T).of ⟨zu L,(zu H6).yes,(zu H7).yes,fun j hj=>(zu HG) j (by omega)⟩)
   have S1:=zh hS
   clear hS
   go_wp2
   go_ret
   exact⟨by rw[zu F];rfl,(zu S1).b⟩
end SBooksOk
namespace Ans
open BMem Bks ILists BHelp
open IBalsFit (one_more)
def Off(z:Bx)(g:Nat):Prop:=z.ga≠g∧z.gi≠g∧z.gb≠g∧z.gl≠g∧z.gt≠g
theorem off_up{z:Bx}{N g:Nat}(h:Up z N)(k:N≤g):Off z g:=by
 unfold Up at h
 unfold Off
 omega
theorem off_lo{z:Bx}{N g:Nat}(h:Lo z N)(k:g<N):Off z g:=by
 unfold Lo at h
 unfold Off
 omega
theorem row_set{w:World}{base:Nat}{e:TypeId}{size g n cap:Nat}{xs:List Value}(h:w.ownsRow base e size (.slice (some ⟨g,0,none⟩) n cap) n xs){g0:Nat}(ne:g≠g0)(j:Nat)(u:Value):(w.setCell ⟨g0,j,none⟩ u).ownsRow base e size (.slice (some ⟨g,0,none⟩) n cap) n xs:=
 row_block h (Below.heap_setCell w ⟨g0,j,none⟩ u g ne)
theorem ow_set{w:World}{base:Nat}{z:Bx}{g:Nat}(h:Ow w base z)(off:Off z g)(j:Nat)(u:Value):Ow (w.setCell ⟨g,j,none⟩ u) base z:=
 ⟨row_set h.oa off.1 j u,row_set h.oi off.2.1 j u,row_set h.ob off.2.2.1 j u,row_set h.ol off.2.2.2.1 j u,row_set h.ot off.2.2.2.2 j u⟩
theorem ow_alloc{w:World}{base:Nat}{z:Bx}(h:Ow w base z)(o:Obj):Ow (w.alloc o) base z:=
 ⟨h.oa.alloc o,h.oi.alloc o,h.ob.alloc o,h.ol.alloc o,h.ot.alloc o⟩
theorem six{B:Nat}{a w:World}{g:Nat}(h:Below B a w)(hg:B≤g)(u0 u1 u2 u3 u4 u5:Value):Below B a ((((((w.setCell ⟨g,0,none⟩ u0).setCell ⟨g,1,none⟩ u1).setCell ⟨g,2,none⟩ u2).setCell ⟨g,3,none⟩ u3).setCell ⟨g,4,none⟩ u4).setCell ⟨g,5,none⟩ u5):=
 (((((h.setCell (p:=⟨g,0,none⟩) hg u0).setCell (p:=⟨g,1,none⟩) hg u1).setCell (p:=⟨g,2,none⟩) hg u2).setCell (p:=⟨g,3,none⟩) hg u3).setCell (p:=⟨g,4,none⟩) hg u4).setCell (p:=⟨g,5,none⟩) hg u5
theorem ow_six{w:World}{base:Nat}{z:Bx}{g:Nat}(h:Ow w base z)(off:Off z g)(u0 u1 u2 u3 u4 u5:Value):Ow ((((((w.setCell ⟨g,0,none⟩ u0).setCell ⟨g,1,none⟩ u1).setCell ⟨g,2,none⟩ u2).setCell ⟨g,3,none⟩ u3).setCell ⟨g,4,none⟩ u4).setCell ⟨g,5,none⟩ u5) base z:=
 ow_set (ow_set (ow_set (ow_set (ow_set (ow_set h off 0 u0) off 1 u1) off 2 u2) off 3 u3) off 4 u4) off 5 u5
theorem box_six{w:World}{base g:Nat}{v0 v1 v2 v3 v4 v5:Value}(h:Box w base g v0 v1 v2 v3 v4 v5)(u0 u1 u2 u3 u4 u5:Value):Box ((((((w.setCell ⟨g,0,none⟩ u0).setCell ⟨g,1,none⟩ u1).setCell ⟨g,2,none⟩ u2).setCell ⟨g,3,none⟩ u3).setCell ⟨g,4,none⟩ u4).setCell ⟨g,5,none⟩ u5) base g u0 u1 u2 u3 u4 u5∧w.grownBy ((((((w.setCell ⟨g,0,none⟩ u0).setCell ⟨g,1,none⟩ u1).setCell ⟨g,2,none⟩ u2).setCell ⟨g,3,none⟩ u3).setCell ⟨g,4,none⟩ u4).setCell ⟨g,5,none⟩ u5) (some g):=by
 obtain⟨s0,y0⟩:=h.set0 u0
 obtain⟨s1,y1⟩:=s0.set1 u1
 obtain⟨s2,y2⟩:=s1.set2 u2
 obtain⟨s3,y3⟩:=s2.set3 u3
 obtain⟨s4,y4⟩:=s3.set4 u4
 obtain⟨s5,y5⟩:=s4.set5 u5
 exact⟨s5,Pairs.grown_trans (Pairs.grown_trans (Pairs.grown_trans (Pairs.grown_trans (Pairs.grown_trans y0 y1) y2) y3) y4) y5⟩
structure SR(w W:World)(x:Bx):Prop where
 r:Rd W x
 c:Cl W w.heap.size x
 v:Box W w.heap.size (w.heap.size+1) (.slice none 0 0) (.slice none 0 0) (.slice none 0 0) (.slice none 0 0) (.slice none 0 0) (.int .i64 0)
 b:Below w.heap.size w W
theorem SR.start{w:World}{x:Bx}(h:Rd w x):SR w ((w.alloc (.cells #[.slice (some ⟨x.ga,0,none⟩) x.b.ac.length x.ca,.slice (some ⟨x.gi,0,none⟩) x.b.ic.length x.ci,.slice (some ⟨x.gb,0,none⟩) x.b.bs.length x.cb,.slice (some ⟨x.gl,0,none⟩) x.b.ls.length x.cl,.slice (some ⟨x.gt,0,none⟩) x.b.ts.length x.ct,.int .i64 x.b.lot] 36)).alloc (.cells #[.slice none 0 0,.slice none 0 0,.slice none 0 0,.slice none 0 0,.slice none 0 0,.int .i64 0] 36)) x:=
 ⟨(h.alloc _).alloc _,(boxed w x 36).below (one_more _ _) (by simp),Box.made _ _ _ _ _ _ (by simp) (by simp),((Below.refl w.heap.size w).alloc (Nat.le_refl _) _).alloc (by simp) _⟩
theorem SR.step{w W W':World}{x:Bx}(h:SR w W x)(k:Below W.heap.size W W'):SR w W' x:=by
 have l:=h.v.lt
 exact⟨h.r.below k,h.c.below k (by omega),h.v.below k (by omega),h.b.trans (k.mono h.b.size)⟩
theorem ok_small{b:Bk}(h:Ok b):Small b:=by
 obtain⟨⟨h1,h2,h3,h4,h5,_⟩,_⟩:=h
 have a:=h1.1
 have b:=h2.1
 have c:=h3.1
 have d:=h4.1
 have e:=h5.1
 exact⟨by omega,by omega,by omega,by omega,by omega⟩
end Ans
namespace ICmdB
open BMem Bks ILists BHelp Ans ICopied
open IBalsFit (one_more)
open Lots (Says says_of NoOk)
def AnyBox(w:World)(base g:Nat):Prop:=∃(a0 a1 a2 a3 a4:Option Addr) (n0 n1 n2 n3 n4 k0 k1 k2 k3 k4:Nat) (l:Int),Box w base g (.slice a0 n0 k0) (.slice a1 n1 k1) (.slice a2 n2 k2) (.slice a3 n3 k3) (.slice a4 n4 k4) (.int .i64 l)
def Var(w:World)(base g:Nat)(x:Bx):Prop:=Box w base g (.slice (some ⟨x.ga,0,none⟩) x.b.ac.length x.ca) (.slice (some ⟨x.gi,0,none⟩) x.b.ic.length x.ci) (.slice (some ⟨x.gb,0,none⟩) x.b.bs.length x.cb) (.slice (some ⟨x.gl,0,none⟩) x.b.ls.length x.cl) (.slice (some ⟨x.gt,0,none⟩) x.b.ts.length x.ct) (.int .i64 x.b.lot)
theorem Var.any{w:World}{base g:Nat}{x:Bx}(h:Var w base g x):AnyBox w base g:=⟨_,_,_,_,_,_,_,_,_,_,_,_,_,_,_,_,h⟩
def Kept(B:Nat)(w w':World):Prop:=w.heap.size≤w'.heap.size∧∀j,B≤j→j<w.heap.size→w'.heap[j]?=w.heap[j]?
theorem Kept.of{B:Nat}{w w':World}(h:Below w.heap.size w w'):Kept B w w':=⟨h.size,fun j _ hj=>h.block j hj⟩
theorem Kept.drew{B:Nat}{w w':World}(h:Kept B w w'):Kept B w w'.drew:=⟨h.1,h.2⟩
theorem Kept.trans{B:Nat}{u v w:World}(h:Kept B u v)(k:Kept B v w):Kept B u w:=⟨Nat.le_trans h.1 k.1,fun j hj hl=>(k.2 j hj (Nat.lt_of_lt_of_le hl h.1)).trans (h.2 j hj hl)⟩
theorem Kept.set{B:Nat}{w w':World}(h:Kept B w w'){g:Nat}(hg:g<B)(j:Nat)(u:Value):Kept B w (w'.setCell ⟨g,j,none⟩ u):=
 ⟨by simpa[World.setCell] using h.1,fun k hk hl=>(Below.heap_setCell _ _ _ _ (by show k≠g;omega)).trans (h.2 k hk hl)⟩
theorem Kept.six{B:Nat}{w w':World}(h:Kept B w w'){g:Nat}(hg:g<B)(u0 u1 u2 u3 u4 u5:Value):Kept B w ((((((w'.setCell ⟨g,0,none⟩ u0).setCell ⟨g,1,none⟩ u1).setCell ⟨g,2,none⟩ u2).setCell ⟨g,3,none⟩ u3).setCell ⟨g,4,none⟩ u4).setCell ⟨g,5,none⟩ u5):=
 (((((h.set hg 0 u0).set hg 1 u1).set hg 2 u2).set hg 3 u3).set hg 4 u4).set hg 5 u5
theorem back_no(p8 p3 p6 p7:Addr)(u:FrameMode)(w:World)(hc:w.cell? p8=some (.int .i64 0)):
  CallsD Tryz.prog 100 #[.pointer (some p8),.pointer (some p3),.pointer (some p6),.pointer (some p7)] u w fun e u' w'=>u'=u∧(e= .returned (.tuple #[])∧w'=w):=by
 go_enter_d Tryz.func100,Tryz.ntmps100
 go_wp2
 go_end0
 exact⟨rfl,rfl⟩
theorem back_yes(w0:World)(x:Bx)(c t:Int)(u:FrameMode)(w:World)(hne:c≠0)(h:Rd w x)(hb:Cl w w0.heap.size x)(hl:w0.heap.size+1+1+1<w.heap.size)(hr:AnyBox w w0.heap.size (w0.heap.size+1))(hc:w.cell? ⟨w0.heap.size+1+1+1,0,none⟩=some (.int .i64 c))(ht:w.cell? ⟨w0.heap.size+1+1,0,none⟩=some (.int .i64 t))(hf:w.frozen? ⟨w0.heap.size+1+1,0,none⟩=false):
  CallsD Tryz.prog 100 #[.pointer (some ⟨w0.heap.size+1+1+1,0,none⟩),.pointer (some ⟨w0.heap.size,0,none⟩),.pointer (some ⟨w0.heap.size+1,0,none⟩),.pointer (some ⟨w0.heap.size+1+1,0,none⟩)] u w fun e u' w'=>u'=u∧(e= .returned (.tuple #[])∧∃z:Bx,z.b=x.b∧Var w' w0.heap.size (w0.heap.size+1) z∧Ow w' (w0.heap.size+4) z∧w'.cell? ⟨w0.heap.size+1+1+1,0,none⟩=some (.int .i64 c)∧w'.cell? ⟨w0.heap.size+1+1,0,none⟩=some (.int .i64 0)∧Below w0.heap.size w w'∧Kept (w0.heap.size+4) w w'):=by
 have hq:(c !=0)=true:=by simp[hne]
 have H:=zh h
 have R:=zh hr
 obtain⟨c0,c1,c2,c3,c4,c5⟩:=hb
 clear h hr hne
 go_enter_d Tryz.func100,Tryz.ntmps100
 go_wp2_with fail
 refine(iCopied _ x (zu H)).mono ?_
 rintro e w1 ⟨z,hz,rfl,oz,bb⟩
 have HZ:=zh hz
 have OZ:=zh oz
 have LZ:=zh (ow_lo oz)
 have B1:=zh bb
 have e3:w1.cell? ⟨w0.heap.size+1+1+1,0,none⟩=some (.int .i64 c):=(bb.cell (p:=⟨w0.heap.size+1+1+1,0,none⟩) hl).trans hc
 have e2:w1.cell? ⟨w0.heap.size+1+1,0,none⟩=some (.int .i64 t):=(bb.cell (p:=⟨w0.heap.size+1+1,0,none⟩) (by simp;omega)).trans ht
 have e2f:w1.frozen? ⟨w0.heap.size+1+1,0,none⟩=false:=(bb.frozen (p:=⟨w0.heap.size+1+1,0,none⟩) (by simp;omega)).trans hf
 obtain⟨a0,a1,a2,a3,a4,n0,n1,n2,n3,n4,k0,k1,k2,k3,k4,l,bx⟩:=zu R
 have bx1:=bx.below bb (by omega)
 have BX:=zh bx1
 obtain⟨r0,r1,r2,r3,r4,r5,f0,f1,f2,f3,f4,f5⟩:=Box.all bx1
 have hs:=bb.size
 clear bb oz hz bx bx1 c0 c1 c2 c3 c4 c5 hc ht hf R
 go_wp2
 go_end0
 refine⟨rfl,z,zu HZ,?_,?_,?_,?_,?_,?_⟩
 ·exact row_set (box_six (zu BX) _ _ _ _ _ _).1 (by omega) 0 _
 ·exact(ow_set (ow_six (zu OZ) (off_lo (zu LZ) (by omega)) _ _ _ _ _ _) (off_lo (zu LZ) (by omega)) 0 _).rebase (by omega)
 ·simp[go_sem,e3]
 ·simp[go_sem,e2]
 ·exact(six ((zu B1).mono (by omega)) (by omega) _ _ _ _ _ _).setCell (p:=⟨w0.heap.size+1+1,0,none⟩) (by simp;omega) _
 ·exact((Kept.of (zu B1)).six (by omega) _ _ _ _ _ _).set (by omega) 0 _
theorem lo_mono{x:Bx}{N M:Nat}(h:Lo x N)(hm:M≤N):Lo x M:=by
 unfold Lo at *
 omega
structure CW(w W:World)(x:Bx)(t c:Int):Prop where
 r:Rd W x
 cl:Cl W w.heap.size x
 b:Below w.heap.size w W
 s:w.heap.size+1+1+1<W.heap.size
 t:W.cell? ⟨w.heap.size+1+1,0,none⟩=some (.int .i64 t)
 tf:W.frozen? ⟨w.heap.size+1+1,0,none⟩=false
 c:W.cell? ⟨w.heap.size+1+1+1,0,none⟩=some (.int .i64 c)
 cf:W.frozen? ⟨w.heap.size+1+1+1,0,none⟩=false
theorem free_new(w:World)(v:Value)(e:TypeId){g:Nat}(hg:g=w.heap.size):(w.alloc (.cells #[v] e)).frozen? ⟨g,0,none⟩=false:=by
 subst hg
 exact World.ownsRow.frozenAt (base:=0) (e:=e) (size:=1) (n:=1) (cap:=1) (xs:=[v]) ⟨rfl,.inr ⟨w.heap.size,1,#[v],rfl,Nat.zero_le _,heap_alloc_new w _,Nat.le_refl _,by unfold maxLen;omega,rfl,rfl⟩⟩ 0
theorem cell_new(w:World)(v:Value)(e:TypeId){g:Nat}(hg:g=w.heap.size):(w.alloc (.cells #[v] e)).cell? ⟨g,0,none⟩=some v:=by
 subst hg
 simp
theorem CW.step{w W W':World}{x:Bx}{t c:Int}(h:CW w W x t c)(k:Below W.heap.size W W'):CW w W' x t c:=by
 have s:=h.s
 exact⟨h.r.below k,h.cl.below k (by omega),h.b.trans (k.mono h.b.size),Nat.lt_of_lt_of_le h.s k.size,(k.cell (p:=⟨w.heap.size+1+1,0,none⟩) (by simp;omega)).trans h.t,(k.frozen (p:=⟨w.heap.size+1+1,0,none⟩) (by simp;omega)).trans h.tf,(k.cell (p:=⟨w.heap.size+1+1+1,0,none⟩) h.s).trans h.c,(k.frozen (p:=⟨w.heap.size+1+1+1,0,none⟩) h.s).trans h.cf⟩
theorem CW.grown{w W W':World}{x:Bx}{t c:Int}(H:Rd w x)(h:CW w W x t c)(k:W.grownBy W' (some (w.heap.size+1))):CW w W' x t c:=by
 have s:=h.s
 have b:Below w.heap.size w W':=h.b.grown k h.b.size (fun j e=>by injection e;omega)
 have n0:some w.heap.size≠some (w.heap.size+1):=fun e=>by injection e;omega
 have n2:some (w.heap.size+1+1)≠some (w.heap.size+1):=fun e=>by injection e;omega
 have n3:some (w.heap.size+1+1+1)≠some (w.heap.size+1):=fun e=>by injection e;omega
 exact⟨H.below b,⟨k.cell h.cl.c0 n0,k.cell h.cl.c1 n0,k.cell h.cl.c2 n0,k.cell h.cl.c3 n0,k.cell h.cl.c4 n0,k.cell h.cl.c5 n0⟩,b,Nat.lt_of_lt_of_le h.s k.size,k.cell h.t n2,(World.frozen?_of_block (a:=⟨w.heap.size+1+1,0,none⟩) (k.block (w.heap.size+1+1) (by omega) n2)).trans h.tf,k.cell h.c n3,(World.frozen?_of_block (a:=⟨w.heap.size+1+1+1,0,none⟩) (k.block (w.heap.size+1+1+1) (by omega) n3)).trans h.cf⟩
theorem CW.start{w:World}{x:Bx}(h:Rd w x):CW w ((((w.alloc (.cells #[.slice (some ⟨x.ga,0,none⟩) x.b.ac.length x.ca,.slice (some ⟨x.gi,0,none⟩) x.b.ic.length x.ci,.slice (some ⟨x.gb,0,none⟩) x.b.bs.length x.cb,.slice (some ⟨x.gl,0,none⟩) x.b.ls.length x.cl,.slice (some ⟨x.gt,0,none⟩) x.b.ts.length x.ct,.int .i64 x.b.lot] 36)).alloc (.cells #[.slice none 0 0,.slice none 0 0,.slice none 0 0,.slice none 0 0,.slice none 0 0,.int .i64 0] 36)).alloc (.cells #[.int .i64 0] 3)).alloc (.cells #[.int .i64 0] 3)) x 0 0:=by
 have s:=SR.start h
 have b:Below ((w.alloc (.cells #[.slice (some ⟨x.ga,0,none⟩) x.b.ac.length x.ca,.slice (some ⟨x.gi,0,none⟩) x.b.ic.length x.ci,.slice (some ⟨x.gb,0,none⟩) x.b.bs.length x.cb,.slice (some ⟨x.gl,0,none⟩) x.b.ls.length x.cl,.slice (some ⟨x.gt,0,none⟩) x.b.ts.length x.ct,.int .i64 x.b.lot] 36)).alloc (.cells #[.slice none 0 0,.slice none 0 0,.slice none 0 0,.slice none 0 0,.slice none 0 0,.int .i64 0] 36)).heap.size ((w.alloc (.cells #[.slice (some ⟨x.ga,0,none⟩) x.b.ac.length x.ca,.slice (some ⟨x.gi,0,none⟩) x.b.ic.length x.ci,.slice (some ⟨x.gb,0,none⟩) x.b.bs.length x.cb,.slice (some ⟨x.gl,0,none⟩) x.b.ls.length x.cl,.slice (some ⟨x.gt,0,none⟩) x.b.ts.length x.ct,.int .i64 x.b.lot] 36)).alloc (.cells #[.slice none 0 0,.slice none 0 0,.slice none 0 0,.slice none 0 0,.slice none 0 0,.int .i64 0] 36)) ((((w.alloc (.cells #[.slice (some ⟨x.ga,0,none⟩) x.b.ac.length x.ca,.slice (some ⟨x.gi,0,none⟩) x.b.ic.length x.ci,.slice (some ⟨x.gb,0,none⟩) x.b.bs.length x.cb,.slice (some ⟨x.gl,0,none⟩) x.b.ls.length x.cl,.slice (some ⟨x.gt,0,none⟩) x.b.ts.length x.ct,.int .i64 x.b.lot] 36)).alloc (.cells #[.slice none 0 0,.slice none 0 0,.slice none 0 0,.slice none 0 0,.slice none 0 0,.int .i64 0] 36)).alloc (.cells #[.int .i64 0] 3)).alloc (.cells #[.int .i64 0] 3)):=((Below.refl _ _).alloc (Nat.le_refl _) _).alloc (by simp) _
 have s2:=s.step b
 exact⟨s2.r,s2.c,s2.b,by simp,((one_more _ _).cell (p:=⟨w.heap.size+1+1,0,none⟩) (by simp)).trans (cell_new _ _ _ (by simp)),((one_more _ _).frozen (p:=⟨w.heap.size+1+1,0,none⟩) (by simp)).trans (free_new _ _ _ (by simp)),cell_new _ _ _ (by simp),free_new _ _ _ (by simp)⟩
theorem var_start(w:World)(x:Bx):Box ((((w.alloc (.cells #[.slice (some ⟨x.ga,0,none⟩) x.b.ac.length x.ca,.slice (some ⟨x.gi,0,none⟩) x.b.ic.length x.ci,.slice (some ⟨x.gb,0,none⟩) x.b.bs.length x.cb,.slice (some ⟨x.gl,0,none⟩) x.b.ls.length x.cl,.slice (some ⟨x.gt,0,none⟩) x.b.ts.length x.ct,.int .i64 x.b.lot] 36)).alloc (.cells #[.slice none 0 0,.slice none 0 0,.slice none 0 0,.slice none 0 0,.slice none 0 0,.int .i64 0] 36)).alloc (.cells #[.int .i64 0] 3)).alloc (.cells #[.int .i64 0] 3)) w.heap.size (w.heap.size+1) (.slice none 0 0) (.slice none 0 0) (.slice none 0 0) (.slice none 0 0) (.slice none 0 0) (.int .i64 0):=
 World.ownsRow.alloc (World.ownsRow.alloc (Box.made (w:=w.alloc (.cells #[.slice (some ⟨x.ga,0,none⟩) x.b.ac.length x.ca,.slice (some ⟨x.gi,0,none⟩) x.b.ic.length x.ci,.slice (some ⟨x.gb,0,none⟩) x.b.bs.length x.cb,.slice (some ⟨x.gl,0,none⟩) x.b.ls.length x.cl,.slice (some ⟨x.gt,0,none⟩) x.b.ts.length x.ct,.int .i64 x.b.lot] 36)) (base:=w.heap.size) (g:=w.heap.size+1) _ _ _ _ _ _ (by simp) (by simp)) _) _
theorem cell_off(w:World){g g':Nat}(j j':Nat)(u:Value)(ne:g≠g'):(w.setCell ⟨g,j,none⟩ u).cell? ⟨g',j',none⟩=w.cell? ⟨g',j',none⟩:=
 World.cell?_setCell_other _ _ _ _ (fun e=>ne (congrArg Addr.block e))
theorem CW.told{w W:World}{x:Bx}{t c:Int}(H:Rd w x)(h:CW w W x t c)(t' c':Int):CW w ((W.setCell ⟨w.heap.size+1+1,0,none⟩ (.int .i64 t')).setCell ⟨w.heap.size+1+1+1,0,none⟩ (.int .i64 c')) x t' c':=by
 have b:=(h.b.setCell (p:=⟨w.heap.size+1+1,0,none⟩) (by simp;omega) (.int .i64 t')).setCell (p:=⟨w.heap.size+1+1+1,0,none⟩) (by simp;omega) (.int .i64 c')
 have s:=h.s
 refine⟨H.below b,⟨?_,?_,?_,?_,?_,?_⟩,b,by simpa using s,?_,?_,?_,?_⟩
 ·rw[cell_off _ _ _ _ (by omega),cell_off _ _ _ _ (by omega)];exact h.cl.c0
 ·rw[cell_off _ _ _ _ (by omega),cell_off _ _ _ _ (by omega)];exact h.cl.c1
 ·rw[cell_off _ _ _ _ (by omega),cell_off _ _ _ _ (by omega)];exact h.cl.c2
 ·rw[cell_off _ _ _ _ (by omega),cell_off _ _ _ _ (by omega)];exact h.cl.c3
 ·rw[cell_off _ _ _ _ (by omega),cell_off _ _ _ _ (by omega)];exact h.cl.c4
 ·rw[cell_off _ _ _ _ (by omega),cell_off _ _ _ _ (by omega)];exact h.cl.c5
 ·rw[cell_off _ _ _ _ (by omega)];exact World.cell?_setCell_same _ _ _ h.t
 ·rw[World.frozen?_setCell,World.frozen?_setCell];exact h.tf
 ·exact World.cell?_setCell_same _ _ _ ((cell_off W (g:=w.heap.size+1+1) (g':=w.heap.size+1+1+1) 0 0 _ (by omega)).trans h.c)
 ·rw[World.frozen?_setCell,World.frozen?_setCell];exact h.cf
theorem CW.drew{w W:World}{x:Bx}{t c:Int}(H:Rd w x)(h:CW w W x t c):CW w W.drew x t c:=
 ⟨H.below h.b.drew,⟨h.cl.c0,h.cl.c1,h.cl.c2,h.cl.c3,h.cl.c4,h.cl.c5⟩,h.b.drew,h.s,h.t,h.tf,h.c,h.cf⟩
theorem ow_drew{w:World}{base:Nat}{z:Bx}(h:Ow w base z):Ow w.drew base z:=⟨h.oa,h.oi,h.ob,h.ol,h.ot⟩
abbrev fin0(g:Nat)(W:World)(a b:Value):World:=(W.setCell ⟨g+1+1,0,none⟩ a).setCell ⟨g+1+1+1,0,none⟩ b
abbrev fin1(g:Nat)(W:World)(v0 v1 v2 v3 v4 v5:Value):World:=(((((W.setCell ⟨g+1,0,none⟩ v0).setCell ⟨g+1,1,none⟩ v1).setCell ⟨g+1,2,none⟩ v2).setCell ⟨g+1,3,none⟩ v3).setCell ⟨g+1,4,none⟩ v4).setCell ⟨g+1,5,none⟩ v5
abbrev fin(g:Nat)(W:World)(v0 v1 v2 v3 v4 v5 a b:Value):World:=(fin0 g (fin1 g (fin0 g W a b) v0 v1 v2 v3 v4 v5) a b).drew
theorem box_drew{w:World}{base g:Nat}{v0 v1 v2 v3 v4 v5:Value}(h:Box w base g v0 v1 v2 v3 v4 v5):Box w.drew base g v0 v1 v2 v3 v4 v5:=h
theorem box_fin0{w W:World}{v0 v1 v2 v3 v4 v5:Value}(X:Box W w.heap.size (w.heap.size+1) v0 v1 v2 v3 v4 v5)(a b:Value):Box (fin0 w.heap.size W a b) w.heap.size (w.heap.size+1) v0 v1 v2 v3 v4 v5:=
 row_set (row_set X (show w.heap.size+1≠w.heap.size+1+1 by omega) 0 a) (show w.heap.size+1≠w.heap.size+1+1+1 by omega) 0 b
theorem CW.final{w W:World}{x:Bx}{v0 v1 v2 v3 v4 v5:Value}{t0 c0:Int}(H:Rd w x)(h:CW w W x t0 c0)(X:Box W w.heap.size (w.heap.size+1) v0 v1 v2 v3 v4 v5)(t c:Int):
  CW w (fin w.heap.size W v0 v1 v2 v3 v4 v5 (.int .i64 t) (.int .i64 c)) x t c∧Box (fin w.heap.size W v0 v1 v2 v3 v4 v5 (.int .i64 t) (.int .i64 c)) w.heap.size (w.heap.size+1) v0 v1 v2 v3 v4 v5:=by
 have b:=box_six (box_fin0 X (.int .i64 t) (.int .i64 c)) v0 v1 v2 v3 v4 v5
 exact⟨(CW.told H (CW.grown H (CW.told H h t c) b.2) t c).drew H,box_drew (box_fin0 b.1 _ _)⟩
theorem kept_final{B base:Nat}{W0 W:World}(h:Kept B W0 W)(hb:base+4≤B)(v0 v1 v2 v3 v4 v5 a b:Value):Kept B W0 (fin base W v0 v1 v2 v3 v4 v5 a b):=by
 have h1:=(h.set (g:=base+1+1) (by omega) 0 a).set (g:=base+1+1+1) (by omega) 0 b
 have h2:=h1.six (g:=base+1) (by omega) v0 v1 v2 v3 v4 v5
 have h3:=(h2.set (g:=base+1+1) (by omega) 0 a).set (g:=base+1+1+1) (by omega) 0 b
 exact h3.drew
structure DW(u W:World)(z:Bx)(base g:Nat):Prop where
 r:Rd W z
 v:Var W base g z
 o:Ow W (base+4) z
 b:Below u.heap.size u W
theorem DW.start{u:World}{z:Bx}{base g:Nat}(V:Var u base g z)(O:Ow u (base+4) z)(s:Small z.b):DW u u z base g:=⟨O.rd s,V,O,Below.refl _ _⟩
theorem DW.step{u W W':World}{z:Bx}{base g:Nat}(h:DW u W z base g)(k:Below W.heap.size W W'):DW u W' z base g:=
 ⟨h.r.below k,Box.below h.v k (Box.lt h.v).2,h.o.below k (Nat.le_refl _),h.b.trans (k.mono h.b.size)⟩
theorem DW.drew{u W:World}{z:Bx}{base g:Nat}(h:DW u W z base g):DW u W.drew z base g:=h.step (Below.refl _ _).drew
theorem DW.grown{u W:World}{z:Bx}{base g:Nat}(h:DW u W z base g):u.grownBy W (some g):=⟨h.b.os,h.b.tape,h.b.output,h.b.size,fun j hj _=>h.b.block j hj⟩
end ICmdB
namespace ICmd
open BMem Bks ILists BHelp Ans ICopied ICmdB
open Lots (Says says_of NoOk)
theorem to_w{P:Program}{fn:Func}{R:Ending→World→Prop}{ex:Exit}{a:Act}{W:World}(Pr:World→Prop)(h:Pr W)(k:∀W,Pr W→bodyPostD P fn R ex a W):bodyPostD P fn R ex a W:=k W h
end ICmd
namespace Post2
open Bals Triples Cmp SOk3 IOk3 Tab Look SPut3 Out Legs Post
theorem iLacks(w:World)(B n gL m capL gS s capS:Nat)(f:Int→Int→Int)(ls:List T3)(xs:List Int)(b:Bool)(hl:ls.length=m)(hs:xs.length=s)(s20:s≤20)(hg:gL<w.heap.size)(hgs:gS<w.heap.size)(h:At3 w gL ls)(hx:Ints.At w gS xs)(hF:Formed ls)(ht:Tab w B n f)(hb:Says b (Lacks f ls xs)):
  Calls Tryz.prog 172 #[.map (some B),.slice (some ⟨gL,0,none⟩) m capL,.slice (some ⟨gS,0,none⟩) s capS] w fun e w'=>e= .returned (.bool b)∧Below w.heap.size w w':=by
 have m160:m≤160:=by have:=hF.1;omega
 have H:=zh h
 have HX:=zh hx
 have HF:=zh hF
 have T0:=zh ht
 have HS:=zh hb
 clear h hF ht hx hb
 go_enter Tryz.func172,Tryz.ntmps172
 go_wp2
 go_loopw [8,11] (fun _ j wr=>∃(k:Nat),k≤m∧j= .int .i64 k∧Hid (Below w.heap.size w wr)∧Hid (∀j,j<k→¬(f (el3 ls j).1 (el3 ls j).2.1<0∧(el3 ls j).1∉xs))) (fun _ j _=>m-(intOf j).toNat)
 case atStart=>exact⟨0,by omega,rfl,zh (Below.refl _ _),zh (fun j hj=>by omega)⟩
 case round=>
  obtain⟨k,hk,rfl,HB,HG⟩:=hrel
  by_cases t:k<m
  ·obtain⟨e1,e2,e3⟩:=(zu H).below (zu HB) hg k (by omega)
   obtain⟨l1,l2,l3⟩:=(zu HF).2 k (by omega)
   have WF:=wf_no l1 l2
   obtain⟨c,SC⟩:=says_of ((el3 ls k).1∈xs)
   have YES:=zh (show f (el3 ls k).1 (el3 ls k).2.1<0∧(el3 ls k).1∉xs→b=true from fun q=>(zu HS).of ⟨k,by omega,q.1,q.2⟩)
   have GO:=zh (show ¬(f (el3 ls k).1 (el3 ls k).2.1<0∧(el3 ls k).1∉xs)→∀j,j<k+1→¬(f (el3 ls j).1 (el3 ls j).2.1<0∧(el3 ls j).1∉xs) from fun q j hj=>by
    by_cases e:j=k
    ·subst e;exact q
    ·exact(zu HG) j (by omega))
   have bs:=(zu HB).size
   have X1:=zh ((zu HX).below (next (zu HB) (one_more wr (.cells #[.int .i64 (el3 ls k).1,.int .i64 (el3 ls k).2.1,.int .i64 (el3 ls k).2.2] 80))) hgs)
   have T1:=zh ((zu T0).below (next (zu HB) (one_more wr (.cells #[.int .i64 (el3 ls k).1,.int .i64 (el3 ls k).2.1,.int .i64 (el3 ls k).2.2] 80))))
   have B1:=zh ((zu HB).alloc bs (.cells #[.int .i64 (el3 ls k).1,.int .i64 (el3 ls k).2.1,.int .i64 (el3 ls k).2.2] 80))
   clear l1 l2 l3
   generalize (el3 ls k).1=x at *
   generalize (el3 ls k).2.1=y at *
   generalize (el3 ls k).2.2=z at *
   generalize hv:f x y=v at *
   have HV:=zh hv
   clear hv
   by_cases v0:v<0
   ·cases c
    ·obtain rfl:b=true:=(zu YES) ⟨v0,SC.no⟩
     clear YES GO
     go_wp2_with (first|(at_lookup;refine wp_look _ rfl _ _ 172 rfl Tryz.underlying172 B n f rfl (zu T1) x y rfl WF ?_;rw[zu HV])|(go_at_call 190;refine(iHas _ gS s capS xs x false hs (by omega) (zu X1) SC).mono ?_;rintro e w2 ⟨rfl,rfl⟩)|go_in)
     go_ret
     exact⟨rfl,zu B1⟩
    ·have G:=zh ((zu GO) (fun q=>q.2 SC.yes))
     clear YES GO
     go_wp2_with (first|(at_lookup;refine wp_look _ rfl _ _ 172 rfl Tryz.underlying172 B n f rfl (zu T1) x y rfl WF ?_;rw[zu HV])|(go_at_call 190;refine(iHas _ gS s capS xs x true hs (by omega) (zu X1) SC).mono ?_;rintro e w2 ⟨rfl,rfl⟩)|go_in)
     go_roundw
     case rel=>exact⟨k+1,by omega,by go_num,B1,G⟩
     case measure=>simp[intOf];omega
   ·have G:=zh ((zu GO) (fun q=>v0 q.1))
    clear YES GO
    go_wp2_with (first|(at_lookup;refine wp_look _ rfl _ _ 172 rfl Tryz.underlying172 B n f rfl (zu T1) x y rfl WF ?_;rw[zu HV])|go_in)
    go_roundw
    case rel=>exact⟨k+1,by omega,by go_num,B1,G⟩
    case measure=>simp[intOf];omega
  ·obtain rfl:k=m:=by omega
   obtain rfl:b=false:=(zu HS).not (fun r=>by
    obtain⟨j,hj,q⟩:=r
    exact(zu HG) j (by omega) q)
   go_wp2
   go_ret
   exact⟨rfl,zu HB⟩
def IsCode(f:Int→Int→Int)(ls:List T3)(xs:List Int)(w':World)(B:Nat)(c:Int):Prop:=
 (¬Even ls∧c=2)∨
 (Even ls∧posts f ls=none∧c=4)∨
 (∃f',Even ls∧posts f ls=some f'∧Lacks f' ls xs∧c=3)∨
 (∃f' qs,Even ls∧posts f ls=some f'∧¬Lacks f' ls xs∧ListOf f' qs∧¬qs.length≤160∧c=5)∨
 (∃f' qs n,Even ls∧posts f ls=some f'∧¬Lacks f' ls xs∧ListOf f' qs∧qs.length≤160∧n≤1000∧Tab w' B n f'∧c=0)
theorem ints_grown{w w':World}{g B:Nat}{xs:List Int}(h:Ints.At w g xs)(k:w.grownBy w' (some B))(hg:g<w.heap.size)(hne:g≠B):Ints.At w' g xs:=by
 intro i hi
 have e:w'.heap[g]?=w.heap[g]?:=k.block g hg (by simp;exact hne)
 exact(World.cell?_of_block (w:=w) (a:=⟨g,i,none⟩) e).trans (h i hi)
theorem below_row{w w':World}(h:Below w.heap.size w w')(B:Nat):w.grownBy w' (some B):=⟨h.os,h.tape,h.output,h.size,fun j hj _=>h.block j hj⟩
theorem iPost(w:World)(B n gL m capL gS s capS:Nat)(f:Int→Int→Int)(ls:List T3)(xs:List Int)(hl:ls.length=m)(hs:xs.length=s)(s20:s≤20)(hn:n≤200)(hg:gL<w.heap.size)(hgs:gS<w.heap.size)(ne1:gL≠B)(ne2:gS≠B)(h:At3 w gL ls)(hx:Ints.At w gS xs)(hF:Formed ls)(hf:Fine f)(ht:Tab w B n f):
  Calls Tryz.prog 147 #[.map (some B),.slice (some ⟨gL,0,none⟩) m capL,.slice (some ⟨gS,0,none⟩) s capS] w fun e w'=>∃c,e= .returned (.int .i64 c)∧IsCode f ls xs w' B c∧w.grownBy w' (some B):=by
 have m160:m≤160:=by have:=hF.1;omega
 obtain⟨b,SB⟩:=says_of (Even ls)
 have H:=zh h
 have HX:=zh hx
 have HF:=zh hF
 have T0:=zh ht
 have FF:=zh hf
 clear h hF ht hx hf
 go_enter Tryz.func147,Tryz.ntmps147
 go_wp2_with fail
 refine(iEven _ gL m capL ls b hl hg (zu H) (zu HF) SB).mono ?_
 rintro e w1 ⟨rfl,n1⟩
 have A1:=zh ((zu H).below n1 hg)
 have X1:=zh ((zu HX).below n1 hgs)
 have T1:=zh ((zu T0).below n1)
 have G1:=zh (below_row n1 B)
 have s1:=n1.size
 clear n1
 cases b
 ·go_wp2
  go_ret
  exact⟨2,rfl,.inl ⟨SB.no,rfl⟩,zu G1⟩
 go_wp2_with fail
 refine(iAddT _ B n gL m capL f ls hl (by omega) (by omega) ne1 (zu A1) (zu HF) (zu FF) (zu T1)).mono ?_
 rintro e w2 ⟨ok,rfl,hy,hno,g2⟩
 have HY:=zh hy
 have HN:=zh hno
 have A2:=zh (at3_grown (zu A1) g2 (by omega) ne1)
 have X2:=zh (ints_grown (zu X1) g2 (by omega) ne2)
 have G2:=zh (grown_trans (zu G1) g2)
 have s2:=g2.size
 clear hy hno g2
 cases ok
 ·have E:=zh ((zu HN) rfl)
  clear HY HN
  go_wp2
  go_ret
  exact⟨4,rfl,.inr (.inl ⟨SB.yes,zu E,rfl⟩),zu G2⟩
 obtain⟨f',E,t2,fi⟩:=(zu HY) rfl
 have T2:=zh t2
 have EE:=zh E
 clear HY HN t2 fi E
 obtain⟨c,SC⟩:=says_of (Lacks f' ls xs)
 go_wp2_with fail
 refine(iLacks _ B (n+m) gL m capL gS s capS f' ls xs c hl hs s20 (by omega) (by omega) (zu A2) (zu X2) (zu HF) (zu T2) SC).mono ?_
 rintro e w3 ⟨rfl,n3⟩
 have T3:=zh ((zu T2).below n3)
 have G3:=zh (grown_trans (zu G2) (below_row n3 B))
 clear n3
 cases c
 ·go_wp2_with fail
  refine(iBals _ B (n+m) f' (by omega) (zu T3)).mono ?_
  rintro e w4 ⟨qs,g4,c4,lo,ll,rfl,o4,n4⟩
  have LO:=zh lo
  have T4:=zh ((zu T3).below n4)
  have G4:=zh (grown_trans (zu G3) (below_row n4 B))
  clear lo o4 n4
  by_cases ln:qs.length≤160
  ·have ln2:¬(160:Int)<(qs.length:Int):=by omega
   go_wp2
   go_ret
   exact⟨0,rfl,.inr (.inr (.inr (.inr ⟨f',qs,n+m,SB.yes,zu EE,SC.no,zu LO,ln,by omega,zu T4,rfl⟩))),zu G4⟩
  ·have ln2:(160:Int)<(qs.length:Int):=by omega
   go_wp2
   go_ret
   exact⟨5,rfl,.inr (.inr (.inr (.inl ⟨f',qs,SB.yes,zu EE,SC.no,zu LO,ln,rfl⟩))),zu G4⟩
 ·go_wp2
  go_ret
  exact⟨3,rfl,.inr (.inr (.inl ⟨f',SB.yes,zu EE,SC.yes,rfl⟩)),zu G3⟩
def PostAnswers(w:World)(ps ls:List T3)(xs:List Int)(e:Ending)(w':World):Prop:=
 ∃qs c g cap,IsPost ps ls xs qs c∧e= .returned (.tuple #[.slice (some ⟨g,0,none⟩) qs.length cap,.int .i64 c])∧Own3 119 w' w.heap.size g qs.length cap qs∧Below w.heap.size w w'
theorem none_posted{w u:World}{ps ls:List T3}{xs:List Int}(hp:IsPost ps ls xs [] 1)(hb:Below w.heap.size w u):PostAnswers w ps ls xs (.returned (.tuple #[.slice (some ⟨u.heap.size,0,none⟩) 0 0,.int .i64 1])) (u.alloc (.cells #[] 119)):=
 ⟨[],1,u.heap.size,0,hp,rfl,lit30 _ _ _ hb.size,hb.alloc hb.size _⟩
theorem iBalsPost(w:World)(g n cap gL m capL gS s capS:Nat)(ps ls:List T3)(xs:List Int)(hp:ps.length=n)(hl:ls.length=m)(hs:xs.length=s)(n20:n≤1048576)(m20:m≤1048576)(s20:s≤1048576)
  (hg:g<w.heap.size)(hgL:gL<w.heap.size)(hgS:gS<w.heap.size)(h:At3 w g ps)(hL:At3 w gL ls)(hX:Ints.At w gS xs):
  Calls Tryz.prog 107 #[.slice (some ⟨g,0,none⟩) n cap,.slice (some ⟨gL,0,none⟩) m capL,.slice (some ⟨gS,0,none⟩) s capS] w (PostAnswers w ps ls xs):=by
 obtain⟨b0,S0⟩:=says_of (Right ps)
 obtain⟨b1,S1⟩:=says_of (Formed ls)
 have BAD:=zh (show ¬(b0=true∧b1=true∧s≤20)→IsPost ps ls xs [] 1 from fun hb=> .bad (fun r=>hb ⟨S0.of r.1,S1.of r.2.1,by omega⟩))
 have H:=zh h
 have HL:=zh hL
 have HX:=zh hX
 clear h hL hX
 go_enter Tryz.func107,Tryz.ntmps107
 go_wp2_with fail
 refine(iOk _ g n cap ps b0 hp n20 hg (zu H) S0).mono ?_
 rintro e w1 ⟨rfl,n1⟩
 have A1:=zh ((zu H).below n1 hg)
 have L1:=zh ((zu HL).below n1 hgL)
 have X1:=zh ((zu HX).below n1 hgS)
 have B1:=zh n1
 have s1:=n1.size
 clear n1
 cases b0
 ·have P0:=zh ((zu BAD) (fun q=>by cases q.1))
  go_wp2
  go_ret2
  exact none_posted (zu P0) (zu B1)
 go_wp2_with fail
 refine(iFormed _ gL m capL ls b1 hl m20 (by omega) (zu L1) S1).mono ?_
 rintro e w2 ⟨rfl,n2⟩
 have A2:=zh ((zu A1).below n2 (by omega))
 have L2:=zh ((zu L1).below n2 (by omega))
 have X2:=zh ((zu X1).below n2 (by omega))
 have B2:=zh (next (zu B1) n2)
 have s2:=n2.size
 clear n2
 cases b1
 ·have P0:=zh ((zu BAD) (fun q=>by cases q.2.1))
  go_wp2
  go_ret2
  exact none_posted (zu P0) (zu B2)
 by_cases ts:s≤20
 ·have ts2:¬(20:Int)<(s:Int):=by omega
  have ALL:=zh (show Right ps∧Formed ls∧xs.length≤20 from⟨S0.yes,S1.yes,by omega⟩)
  have n160:n≤160:=by have:=S0.yes.1;omega
  have FF:=zh (fine_of S0.yes)
  clear BAD
  go_wp2_with fail
  refine(iTable _ g n cap ps hp (by omega) (zu A2) S0.yes).mono ?_
  rintro e w3 ⟨rfl,t3,n3⟩
  have A3:=zh ((zu A2).below n3 (by omega))
  have L3:=zh ((zu L2).below n3 (by omega))
  have X3:=zh ((zu X2).below n3 (by omega))
  have B3:=zh (next (zu B2) n3)
  have T3:=zh t3
  have s3:=n3.size
  have tl:=t3.lt
  clear n3 t3
  go_wp2_with fail
  refine(iPost _ w2.heap.size n gL m capL gS s capS (val ps) ls xs hl hs ts (by omega) (by omega) (by omega) (by omega) (by omega) (zu L3) (zu X3) S1.yes (zu FF) (zu T3)).mono ?_
  rintro e w4 ⟨c,rfl,hc,g4⟩
  have A4:=zh (at3_grown (zu A3) g4 (by omega) (by omega))
  have B4:=zh ((zu B3).grown g4 (zu B3).size (fun j hj=>by cases hj;omega))
  have s4:=g4.size
  have b4:=(zu B4).size
  have HC:=zh hc
  clear g4 hc
  by_cases c0:c=0
  ·subst c0
   have TT:=zh (show ∃f' qs k,Even ls∧posts (val ps) ls=some f'∧¬Lacks f' ls xs∧ListOf f' qs∧qs.length≤160∧k≤1000∧Tab w4 w2.heap.size k f' from by
    rcases zu HC with⟨_,e⟩|⟨_,_,e⟩|⟨_,_,_,_,e⟩|⟨_,_,_,_,_,_,_,e⟩|⟨f',qs,k,a,b,c,d,e,f,g,_⟩
    ·omega
    ·omega
    ·omega
    ·omega
    ·exact⟨f',qs,k,a,b,c,d,e,f,g⟩)
   obtain⟨f',qs,k,EV,EP,NL,LO,LN,k1000,t4⟩:=zu TT
   have T4:=zh t4
   have P0:=zh (IsPost.done f' qs (zu ALL) EV EP NL LO LN)
   have LO:=zh LO
   clear TT HC EV EP NL t4
   go_wp2_with fail
   refine(iBals _ w2.heap.size k f' (by omega) (zu T4)).mono ?_
   rintro e w5 ⟨rs,g5,c5,lo,ll,rfl,o5,n5⟩
   obtain rfl:=(zu LO).same lo
   have O5:=zh (o5.rebase (base':=w.heap.size) (by have:=o5.lt.1;omega))
   have B5:=zh (next (zu B4) n5)
   clear lo o5 n5
   go_wp2
   go_ret2
   exact⟨_,0,g5,c5,zu P0,rfl,zu O5,zu B5⟩
  ·have P0:=zh (show IsPost ps ls xs ps c from by
    rcases zu HC with⟨a,rfl⟩|⟨a,b,rfl⟩|⟨f',a,b,d,rfl⟩|⟨f',qs,a,b,d,e,q,rfl⟩|⟨_,_,_,_,_,_,_,_,_,_,e⟩
    ·exact .uneven (zu ALL) a
    ·exact .large (zu ALL) a b
    ·exact .short f' (zu ALL) a b d
    ·exact .full f' qs (zu ALL) a b d e q
    ·exact absurd e c0)
   have c0b:(c==0)=false:=by simpa using c0
   clear HC
   have Z:=zh (lit30 119 w4 w.heap.size b4)
   have A5:=zh ((zu A4).below (one_more w4 (.cells #[] 119)) (by omega))
   go_wp2_with (first|(at_builtin;refine BalApp.wp_copy _ rfl _ _ rfl w.heap.size w4.heap.size n 0 ps g cap rfl rfl (zu Z) hp (zu A5) (by omega) (by simp;omega) ?_)|go_in)
   intro g6 c6 w6 o6 gr6 _
   have O6:=zh o6
   have B6:=zh (((zu B4).alloc b4 (.cells #[] 119)).grown gr6 (by simp;omega) (fun j hj=>by cases hj;exact b4))
   clear o6 gr6
   go_wp2
   go_ret2
   exact⟨ps,c,g6,c6,zu P0,by rw[hp];rfl,by rw[hp];exact zu O6,zu B6⟩
 ·have ts2:(20:Int)<(s:Int):=by omega
  have P0:=zh ((zu BAD) (fun q=>ts q.2.2))
  go_wp2
  go_ret2
  exact none_posted (zu P0) (zu B2)
end Post2
namespace SPost
open Bals Triples Cmp SOk3 IOk3 Tab Look SPut3 Out Legs Post Post2
theorem ints_drewN{w:World}{g:Nat}{xs:List Int}(h:Ints.At w g xs)(m:Nat):Ints.At (w.drewN m) g xs:=h
theorem sBalsPost(w:World)(g n cap gL m capL gS s capS:Nat)(ps ls:List T3)(xs:List Int)(hp:ps.length=n)(hl:ls.length=m)(hs:xs.length=s)(n20:n≤1048576)(m20:m≤1048576)(s20:s≤1048576)
  (hg:g<w.heap.size)(hgL:gL<w.heap.size)(hgS:gS<w.heap.size)(h:At3 w g ps)(hL:At3 w gL ls)(hX:Ints.At w gS xs):
  Calls Tryz.prog 90 #[.slice (some ⟨g,0,none⟩) n cap,.slice (some ⟨gL,0,none⟩) m capL,.slice (some ⟨gS,0,none⟩) s capS] w (PostAnswers w ps ls xs):=by
 obtain⟨b0,S0⟩:=says_of (Right ps)
 obtain⟨b1,S1⟩:=says_of (Formed ls)
 have BAD:=zh (show ¬(b0=true∧b1=true∧s≤20)→IsPost ps ls xs [] 1 from fun hb=> .bad (fun r=>hb ⟨S0.of r.1,S1.of r.2.1,by omega⟩))
 have H:=zh h
 have HL:=zh hL
 have HX:=zh hX
 clear h hL hX
 go_enter Tryz.func90,Tryz.ntmps90
 go_wp2_with fail
 refine(sOk _ g n cap ps b0 hp n20 hg (zu H) S0).mono ?_
 rintro e w1 ⟨rfl,n1⟩
 have A1:=zh ((zu H).below n1 hg)
 have L1:=zh ((zu HL).below n1 hgL)
 have B1:=zh n1
 have s1:=n1.size
 clear n1
 cases b0
 ·have P0:=zh ((zu BAD) (fun q=>by cases q.1))
  go_wp2
  go_ret2
  exact none_posted (zu P0) (zu B1)
 go_wp2_with fail
 refine(sRight _ gL m capL ls b1 hl m20 (zu L1) S1).mono ?_
 rintro e w2 ⟨rfl,rfl⟩
 cases b1
 ·have P0:=zh ((zu BAD) (fun q=>by cases q.2.1))
  go_wp2
  go_ret2
  exact none_posted (zu P0) (zu B1)
 by_cases ts:¬s≤20
 ·have ts2:(20:Int)<(s:Int):=by omega
  have P0:=zh ((zu BAD) (fun q=>ts q.2.2))
  go_wp2
  go_ret2
  exact none_posted (zu P0) (zu B1)
 have ts:s≤20:=by omega
 have ts2:¬(20:Int)<(s:Int):=by omega
 have ALL:=zh (show Right ps∧Formed ls∧xs.length≤20 from⟨S0.yes,S1.yes,by omega⟩)
 have n160:n≤160:=by have:=S0.yes.1;omega
 have m160:m≤160:=by have:=S1.yes.1;omega
 have FF:=zh (fine_of S0.yes)
 clear BAD
 have bq:=(zu B1).size
 have Z:=zh (lit30 119 w2 w.heap.size bq)
 have A5:=zh ((zu A1).below (one_more w2 (.cells #[] 119)) (by omega))
 go_wp2_with (first|(at_builtin;refine BalApp.wp_copy _ rfl _ _ rfl w.heap.size w2.heap.size n 0 ps g cap rfl rfl (zu Z) hp (zu A5) (by omega) (by simp;omega) ?_)|go_in)
 intro g6 c6 w6 o6 gr6 _
 have O6:=zh o6
 have B6:=zh (((zu B1).alloc bq (.cells #[] 119)).grown gr6 (by simp;omega) (fun j hj=>by cases hj;exact bq))
 clear o6 gr6
 have gl6:=(zu O6).lt.2
 have b6:=(zu B6).size
 obtain⟨b,SB⟩:=says_of (Formed ls∧Even ls)
 go_wp2_with fail
 refine(sLegsOk _ gL m capL ls b hl m20 ((zu HL).below (zu B6) hgL) SB).mono ?_
 rintro e w7 ⟨rfl,q7,rfl⟩
 have O7:=zh (show Own3 119 (w6.drewN q7) w.heap.size g6 n c6 ps from zu O6)
 have B7:=zh (below_drewN (zu B6) q7)
 generalize w6.drewN q7=w7 at *
 clear A1 L1 B1 Z A5 B6 O6 gl6 b6 bq s1
 cases b
 ·have P0:=zh (IsPost.uneven (zu ALL) (fun e=>SB.no ⟨S1.yes,e⟩))
  go_wp2
  go_ret2
  exact⟨ps,2,g6,c6,zu P0,by rw[hp];rfl,by rw[hp];exact zu O7,zu B7⟩
 have EV:=zh SB.yes.2
 go_wp2
 go_loopw [9,10,11,12] (fun l j _ _ wr=>∃(out:List T3) (gO cO k:Nat),l= .slice (some ⟨gO,0,none⟩) out.length cO∧j= .int .i64 k∧k≤m∧out.length≤160+k∧Hid (Own3 119 wr w.heap.size gO out.length cO out)∧Hid (Below w.heap.size w wr)∧Hid (Bals.Good out)∧Hid (Fine (val out))∧Hid (posts (val ps) ls=posts (val out) (ls.drop k))) (fun _ j _ _ _=>m-(intOf j).toNat)
 case atStart=>exact⟨ps,g6,c6,0,by rw[hp],rfl,by omega,by omega,zh (by rw[hp];exact zu O7),B7,zh S0.yes.good,FF,zh rfl⟩
 case round=>
  clear O7 B7
  obtain⟨out,gO,cO,k,rfl,rfl,hk,ol,HO,HB,GD,FN,HE⟩:=hrel
  have gol:=(zu HO).lt.2
  have bs:=(zu HB).size
  by_cases t:k<m
  ·obtain⟨e1,e2,e3⟩:=(zu HL).below (zu HB) hgL k (by omega)
   obtain⟨l1,l2,l3⟩:=S1.yes.2 k (by omega)
   have AM:=((zu FN) (el3 ls k).1 (el3 ls k).2.1).1
   obtain⟨c,SC⟩:=says_of (Amt (val out (el3 ls k).1 (el3 ls k).2.1+(el3 ls k).2.2))
   have PY:=zh (fun a=>(zu HE).trans (posts_yes (f:=val out) (ps:=ls) (k:=k) (by omega) a))
   have PN:=zh (fun a=>(zu HE).trans (posts_no (f:=val out) (ps:=ls) (k:=k) (by omega) a))
   have FU:=zh (fun a=>(zu FN).upd (a:=(el3 ls k).1) (i:=(el3 ls k).2.1) (x:=val out (el3 ls k).1 (el3 ls k).2.1+(el3 ls k).2.2) l1 l2 a)
   have OFC:=zh (fun q=>sOf (wr.drewN q) gO out.length cO out (el3 ls k).1 (el3 ls k).2.1 rfl (by omega) (at_drewN (zu HO).at q))
   clear HE FN
   generalize (el3 ls k).1=x at *
   generalize (el3 ls k).2.1=y at *
   generalize (el3 ls k).2.2=z at *
   generalize hv:val out x y=v at *
   have HV:=zh hv
   clear hv
   have kn:(k:Int)<(m:Int):=by omega
   go_wp2_with fail
   go_quiet (first|(go_at_call 66;refine Calls.quiet_of_same ((zu OFC) _))|(go_at_call 140;refine Calls.quiet_of_same (sAdd v z c _ AM l3 SC)))
   have O1:=zh (show Own3 119 (wr.drewN nq) w.heap.size gO out.length cO out from zu HO)
   have B1:=zh (below_drewN (zu HB) nq)
   have d1:(wr.drewN nq).cell? ⟨gL,k*3,none⟩=some (.int .i64 x):=e1
   have d2:(wr.drewN nq).cell? ⟨gL,k*3+1,none⟩=some (.int .i64 y):=e2
   clear HO HB e1 e2 e3 OFC
   generalize wr.drewN nq=u at *
   have gol:=(zu O1).lt.2
   have bs:=(zu B1).size
   cases c
   ·have P0:=zh (IsPost.large (zu ALL) (zu EV) ((zu PN) SC.no))
    have A1:=zh ((zu H).below (zu B1) hg)
    clear PY PN FU d1 d2
    have bq:=(zu B1).size
    have Z:=zh (lit30 119 u w.heap.size bq)
    have A5:=zh ((zu A1).below (one_more u (.cells #[] 119)) (by omega))
    go_wp2_with (first|(at_builtin;refine BalApp.wp_copy _ rfl _ _ rfl w.heap.size u.heap.size n 0 ps g cap rfl rfl (zu Z) hp (zu A5) (by omega) (by simp;omega) ?_)|go_in)
    intro g6 c6 w6 o6 gr6 _
    have O6:=zh o6
    have B6:=zh (((zu B1).alloc bq (.cells #[] 119)).grown gr6 (by simp;omega) (fun j hj=>by cases hj;exact bq))
    clear o6 gr6
    go_wp2
    go_ret2
    exact⟨ps,4,g6,c6,zu P0,by rw[hp];rfl,by rw[hp];exact zu O6,zu B6⟩
   ·have YES:=zh ((zu PY) SC.yes)
    have FN2:=zh ((zu FU) SC.yes)
    clear PY PN FU
    have e0:sumIn v z true=v+z:=rfl
    rw[e0]
    clear e0
    generalize hS:v+z=S at *
    clear hS
    obtain⟨p0,hp0⟩:∃p0:Bool,(S==0)=p0:=⟨_,rfl⟩
    have PV:=zh (put_val (x,y,S) out p0 (zu GD) (by rw[←hp0];simp))
    have LN:=zh (putL_len (x,y,S) out p0)
    have HP:=zh hp0
    clear hp0
    have k0:(0:Int)≤(k:Int):=by omega
    have gLu:gL<u.heap.size:=by omega
    go_wp2_with fail
    go_region_held3 (fun w'=>w'.cell? ⟨gL,k*3,none⟩=some (.int .i64 x)∧w'.cell? ⟨gL,k*3+1,none⟩=some (.int .i64 y)) (go_keep)
     (first|(go_at_call 141;refine(sPut _ gO out.length cO out x y S p0 rfl (by omega) (by exact gol) (by exact(zu O1).at) (zu HP)).mono ?_;rintro e w5 ⟨g5,c5,rfl,o5,n5⟩;have h1:w5.cell? ⟨gL,k*3,none⟩=some (.int .i64 x):=(n5.cell (p:=⟨gL,k*3,none⟩) (by exact gLu)).trans (by exact d1);have h2:w5.cell? ⟨gL,k*3+1,none⟩=some (.int .i64 y):=(n5.cell (p:=⟨gL,k*3+1,none⟩) (by exact gLu)).trans (by exact d2)))
    have O5:=zh (o5.rebase (base':=w.heap.size) (by have:u.heap.size≤g5:=o5.lt.1;omega))
    have B5:=zh (next (zu B1) (show Below u.heap.size u w5 from⟨n5.os,n5.tape,n5.output,n5.size,n5.block⟩))
    have VE:val (putL (x,y,S) out p0)=upd (val out) x y S:=funext fun b=>funext fun j=>(zu PV).2 b j
    have FN3:=zh (show Fine (val (putL (x,y,S) out p0)) from by rw[VE];exact zu FN2)
    have YE3:=zh (show posts (val ps) ls=posts (val (putL (x,y,S) out p0)) (ls.drop (k+1)) from by rw[VE];exact zu YES)
    have LL:(putL (x,y,S) out p0).length≤out.length+1:=by have:=zu LN;split at this<;>omega
    have GD3:=zh (zu PV).1
    clear o5 n5 VE PV LN YES FN2 d1 d2 O1 B1
    generalize putL (x,y,S) out p0=qs at *
    go_wp2
    go_roundw
    case rel=>exact⟨qs,g5,c5,k+1,rfl,by go_num,by omega,by omega,O5,B5,GD3,FN3,YE3⟩
    case measure=>simp[intOf];omega
  ·obtain rfl:k=m:=by omega
   have EP:=zh (show posts (val ps) ls=some (val out) from by rw[zu HE,List.drop_of_length_le (by omega)];rfl)
   have LO:=zh (show ListOf (val out) out from⟨zu GD,fun _ _=>rfl⟩)
   clear HE
   go_wp2
   generalize wr=w8 at *
   go_loopw [13] (fun j wr=>∃(i:Nat),j= .int .i64 i∧i≤k∧Hid (∃q,wr=w8.drewN q)∧Hid (∀j,j<i→¬(val out (el3 ls j).1 (el3 ls j).2.1<0∧(el3 ls j).1∉xs))) (fun j _=>k-(intOf j).toNat)
   case atStart=>exact⟨0,rfl,by omega,zh ⟨0,rfl⟩,zh (fun j hj=>by omega)⟩
   case round=>
    obtain⟨i,rfl,hi,HQ,HG⟩:=hrel
    obtain⟨q8,e8⟩:=zu HQ
    have O1:=zh (show Own3 119 wr w.heap.size gO out.length cO out from by rw[e8];exact zu HO)
    have B1:=zh (show Below w.heap.size w wr from by rw[e8];exact below_drewN (zu HB) q8)
    clear e8
    have gol:=(zu O1).lt.2
    have bs:=(zu B1).size
    by_cases t:i<k
    ·obtain⟨e1,e2,e3⟩:=(zu HL).below (zu B1) hgL i (by omega)
     obtain⟨c,SC⟩:=says_of ((el3 ls i).1∈xs)
     have YES:=zh (show val out (el3 ls i).1 (el3 ls i).2.1<0∧(el3 ls i).1∉xs→Lacks (val out) ls xs from fun q=>⟨i,by omega,q.1,q.2⟩)
     have GO:=zh (show ¬(val out (el3 ls i).1 (el3 ls i).2.1<0∧(el3 ls i).1∉xs)→∀j,j<i+1→¬(val out (el3 ls j).1 (el3 ls j).2.1<0∧(el3 ls j).1∉xs) from fun q j hj=>by
      by_cases e:j=i
      ·subst e;exact q
      ·exact(zu HG) j (by omega))
     have OFC:=zh (fun q=>sOf (wr.drewN q) gO out.length cO out (el3 ls i).1 (el3 ls i).2.1 rfl (by omega) (at_drewN (zu O1).at q))
     have HAC:=zh (fun q=>sHas (wr.drewN q) gS s capS xs (el3 ls i).1 c hs s20 (ints_drewN ((zu HX).below (zu B1) hgS) q) SC)
     generalize (el3 ls i).1=x at *
     generalize (el3 ls i).2.1=y at *
     generalize (el3 ls i).2.2=z at *
     generalize hv:val out x y=v at *
     have HV:=zh hv
     clear hv
     have kn:(i:Int)<(k:Int):=by omega
     by_cases v0:v<0
     ·cases c
      ·have P0:=zh (IsPost.short (val out) (zu ALL) (zu EV) (zu EP) ((zu YES) ⟨v0,SC.no⟩))
       clear YES GO
       go_wp2_with fail
       go_quiet (first|(go_at_call 66;refine Calls.quiet_of_same ((zu OFC) _))|(go_at_call 142;refine Calls.quiet_of_same ((zu HAC) _)))
       have B2:=zh (below_drewN (zu B1) nq)
       clear O1 B1 e1 e2 e3 OFC HAC
       generalize wr.drewN nq=u at *
       have A1:=zh ((zu H).below (zu B2) hg)
       have bu:=(zu B2).size
       have bq:=(zu B2).size
       have Z:=zh (lit30 119 u w.heap.size bq)
       have A5:=zh ((zu A1).below (one_more u (.cells #[] 119)) (by omega))
       go_wp2_with (first|(at_builtin;refine BalApp.wp_copy _ rfl _ _ rfl w.heap.size u.heap.size n 0 ps g cap rfl rfl (zu Z) hp (zu A5) (by omega) (by simp;omega) ?_)|go_in)
       intro g6 c6 w6 o6 gr6 _
       have O6:=zh o6
       have B6:=zh (((zu B2).alloc bq (.cells #[] 119)).grown gr6 (by simp;omega) (fun j hj=>by cases hj;exact bq))
       clear o6 gr6
       go_wp2
       go_ret2
       exact⟨ps,3,g6,c6,zu P0,by rw[hp];rfl,by rw[hp];exact zu O6,zu B6⟩
      ·have G:=zh ((zu GO) (fun q=>q.2 SC.yes))
       clear YES GO
       go_wp2_with fail
       go_quiet (first|(go_at_call 66;refine Calls.quiet_of_same ((zu OFC) _))|(go_at_call 142;refine Calls.quiet_of_same ((zu HAC) _)))
       go_wp2
       go_roundw
       case rel=>exact⟨i+1,by go_num,by omega,zh (drewN_more (zu HQ) _),G⟩
       case measure=>simp[intOf];omega
     ·have G:=zh ((zu GO) (fun q=>v0 q.1))
      have v0b:decide (v<0)=false:=decide_eq_false v0
      clear YES GO
      go_wp2_with fail
      go_quiet (first|(go_at_call 66;refine Calls.quiet_of_same ((zu OFC) _)))
      go_wp2
      go_roundw
      case rel=>exact⟨i+1,by go_num,by omega,zh (drewN_more (zu HQ) _),G⟩
      case measure=>simp[intOf];omega
    ·obtain rfl:i=k:=by omega
     have NL:=zh (show ¬Lacks (val out) ls xs from fun r=>by
      obtain⟨j,hj,q⟩:=r
      exact(zu HG) j (by omega) q)
     by_cases ln:out.length≤160
     ·have ln2:¬(160:Int)<(out.length:Int):=by omega
      have P0:=zh (IsPost.done (val out) out (zu ALL) (zu EV) (zu EP) (zu NL) (zu LO) ln)
      go_wp2
      go_ret2
      exact⟨out,0,gO,cO,zu P0,rfl,zu O1,zu B1⟩
     ·have ln2:(160:Int)<(out.length:Int):=by omega
      have P0:=zh (IsPost.full (val out) out (zu ALL) (zu EV) (zu EP) (zu NL) (zu LO) ln)
      have A1:=zh ((zu H).below (zu B1) hg)
      have bq:=(zu B1).size
      have Z:=zh (lit30 119 wr w.heap.size bq)
      have A5:=zh ((zu A1).below (one_more wr (.cells #[] 119)) (by omega))
      go_wp2_with (first|(at_builtin;refine BalApp.wp_copy _ rfl _ _ rfl w.heap.size wr.heap.size n 0 ps g cap rfl rfl (zu Z) hp (zu A5) (by omega) (by simp;omega) ?_)|go_in)
      intro g6 c6 w6 o6 gr6 _
      have O6:=zh o6
      have B6:=zh (((zu B1).alloc bq (.cells #[] 119)).grown gr6 (by simp;omega) (fun j hj=>by cases hj;exact bq))
      clear o6 gr6
      go_wp2
      go_ret2
      exact⟨ps,5,g6,c6,zu P0,by rw[hp];rfl,by rw[hp];exact zu O6,zu B6⟩
end SPost
namespace SBk
open BMem Bks ILists BHelp Ans
open Post2 (PostAnswers)
open IBalsFit (one_more)
open ILotsFit (below_of_drew)
open Lots (Says says_of NoOk)
open Bals (T3)
open Tup5 (T5)
structure SV(w W:World)(x:Bx):Prop where
 x:Box W w.heap.size w.heap.size (.slice (some ⟨x.ga,0,none⟩) x.b.ac.length x.ca) (.slice (some ⟨x.gi,0,none⟩) x.b.ic.length x.ci) (.slice (some ⟨x.gb,0,none⟩) x.b.bs.length x.cb) (.slice (some ⟨x.gl,0,none⟩) x.b.ls.length x.cl) (.slice (some ⟨x.gt,0,none⟩) x.b.ts.length x.ct) (.int .i64 x.b.lot)
 v:Box W w.heap.size (w.heap.size+1) (.slice none 0 0) (.slice none 0 0) (.slice none 0 0) (.slice none 0 0) (.slice none 0 0) (.int .i64 0)
 b:Below w.heap.size w W
theorem SV.start(w:World)(x:Bx):SV w ((w.alloc (.cells #[.slice (some ⟨x.ga,0,none⟩) x.b.ac.length x.ca,.slice (some ⟨x.gi,0,none⟩) x.b.ic.length x.ci,.slice (some ⟨x.gb,0,none⟩) x.b.bs.length x.cb,.slice (some ⟨x.gl,0,none⟩) x.b.ls.length x.cl,.slice (some ⟨x.gt,0,none⟩) x.b.ts.length x.ct,.int .i64 x.b.lot] 36)).alloc (.cells #[.slice none 0 0,.slice none 0 0,.slice none 0 0,.slice none 0 0,.slice none 0 0,.int .i64 0] 36)) x:=
 ⟨World.ownsRow.alloc (Box.made (w:=w) (base:=w.heap.size) (g:=w.heap.size) _ _ _ _ _ _ (Nat.le_refl _) rfl) _,Box.made _ _ _ _ _ _ (by simp) (by simp),((Below.refl w.heap.size w).alloc (Nat.le_refl _) _).alloc (by simp) _⟩
theorem SV.step{w W W':World}{x:Bx}(h:SV w W x)(k:Below W.heap.size W W'):SV w W' x:=by
 have l:=h.v.lt
 exact⟨h.x.below k (by omega),h.v.below k (by omega),h.b.trans (k.mono h.b.size)⟩
theorem SV.six{w W:World}{x:Bx}(h:SV w W x):W.cell? ⟨w.heap.size,0,none⟩=some (.slice (some ⟨x.ga,0,none⟩) x.b.ac.length x.ca)∧W.cell? ⟨w.heap.size,1,none⟩=some (.slice (some ⟨x.gi,0,none⟩) x.b.ic.length x.ci)∧W.cell? ⟨w.heap.size,2,none⟩=some (.slice (some ⟨x.gb,0,none⟩) x.b.bs.length x.cb)∧W.cell? ⟨w.heap.size,3,none⟩=some (.slice (some ⟨x.gl,0,none⟩) x.b.ls.length x.cl)∧W.cell? ⟨w.heap.size,4,none⟩=some (.slice (some ⟨x.gt,0,none⟩) x.b.ts.length x.ct)∧W.cell? ⟨w.heap.size,5,none⟩=some (.int .i64 x.b.lot):=⟨h.x.c0,h.x.c1,h.x.c2,h.x.c3,h.x.c4,h.x.c5⟩
abbrev withB(x:Bx)(g c:Nat)(qs:List T3):Bx:={x with gb:=g,cb:=c,b:={x.b with bs:=qs}}
abbrev withL(x:Bx)(g c:Nat)(qs:List T5)(lot:Int):Bx:={x with gl:=g,cl:=c,b:={x.b with ls:=qs,lot:=lot}}
theorem ow_withB{w:World}{base g c:Nat}{x:Bx}{qs:List T3}(h:Ow w base x)(o:Triples.Own3 119 w base g qs.length c qs):Ow w base (withB x g c qs):=⟨h.oa,h.oi,o,h.ol,h.ot⟩
theorem ow_withL{w:World}{base g c:Nat}{x:Bx}{qs:List T5}{lot:Int}(h:Ow w base x)(o:Tup5.Own5 123 w base g qs.length c qs):Ow w base (withL x g c qs lot):=⟨h.oa,h.oi,h.ob,o,h.ot⟩
theorem off_withB{x:Bx}{g c N p:Nat}{qs:List T3}(h:Up x N)(hp:N≤p)(hg:p<g):Off (withB x g c qs) p:=by
 unfold Up at h
 unfold Off withB
 simp
 omega
theorem sPost(w:World)(base:Nat)(x:Bx)(gL capL:Nat)(ls:List T3)(O:Ow w base x)(LI:Lists x.b)(s:Small x.b)(hl:ls.length≤1048576)(hgL:gL<w.heap.size)(hL:Triples.At3 w gL ls)(hf:Bals.Formed ls)(he:Bals.Even ls):
  Calls Tryz.prog 35 #[.agg #[.slice (some ⟨x.ga,0,none⟩) x.b.ac.length x.ca,.slice (some ⟨x.gi,0,none⟩) x.b.ic.length x.ci,.slice (some ⟨x.gb,0,none⟩) x.b.bs.length x.cb,.slice (some ⟨x.gl,0,none⟩) x.b.ls.length x.cl,.slice (some ⟨x.gt,0,none⟩) x.b.ts.length x.ct,.int .i64 x.b.lot],.slice (some ⟨gL,0,none⟩) ls.length capL] w fun e w'=>∃(y:Bx) (c:Int),IsPosted x.b ls y.b c∧e= .returned (.tuple #[.agg #[.slice (some ⟨y.ga,0,none⟩) y.b.ac.length y.ca,.slice (some ⟨y.gi,0,none⟩) y.b.ic.length y.ci,.slice (some ⟨y.gb,0,none⟩) y.b.bs.length y.cb,.slice (some ⟨y.gl,0,none⟩) y.b.ls.length y.cl,.slice (some ⟨y.gt,0,none⟩) y.b.ts.length y.ct,.int .i64 y.b.lot],.int .i64 c])∧Ow w' base y∧Below w.heap.size w w':=by
 have R0:=zh (O.rd s)
 have O0:=zh O
 have U0:=zh (ow_up O)
 have L0:=zh hL
 have S1:=zh (SV.start w x)
 have PC:=zh (fun qs c (hp:Bals.IsPost x.b.bs ls (shortL x.b.ac) qs c)=>post_code hp LI.2.2.1 hf he (Nat.le_trans (short_len _) LI.1.1))
 have xl:(shortL x.b.ac).length≤1048576:=Nat.le_trans (short_len _) s.1
 have nb:=s.2.2.1
 have hb:=O.oa.lt
 clear O hL hf he LI s
 go_enter Tryz.func35,Tryz.ntmps35
 go_wp2_with fail
 generalize ((w.alloc (.cells #[.slice (some ⟨x.ga,0,none⟩) x.b.ac.length x.ca,.slice (some ⟨x.gi,0,none⟩) x.b.ic.length x.ci,.slice (some ⟨x.gb,0,none⟩) x.b.bs.length x.cb,.slice (some ⟨x.gl,0,none⟩) x.b.ls.length x.cl,.slice (some ⟨x.gt,0,none⟩) x.b.ts.length x.ct,.int .i64 x.b.lot] 36)).alloc (.cells #[.slice none 0 0,.slice none 0 0,.slice none 0 0,.slice none 0 0,.slice none 0 0,.int .i64 0] 36))=w1 at *
 have K4:=(zu S1).six
 go_region_held3 (fun w'=>w'.cell? ⟨w.heap.size,0,none⟩=some (.slice (some ⟨x.ga,0,none⟩) x.b.ac.length x.ca)∧w'.cell? ⟨w.heap.size,1,none⟩=some (.slice (some ⟨x.gi,0,none⟩) x.b.ic.length x.ci)∧w'.cell? ⟨w.heap.size,2,none⟩=some (.slice (some ⟨x.gb,0,none⟩) x.b.bs.length x.cb)∧w'.cell? ⟨w.heap.size,3,none⟩=some (.slice (some ⟨x.gl,0,none⟩) x.b.ls.length x.cl)∧w'.cell? ⟨w.heap.size,4,none⟩=some (.slice (some ⟨x.gt,0,none⟩) x.b.ts.length x.ct)∧w'.cell? ⟨w.heap.size,5,none⟩=some (.int .i64 x.b.lot)) (first|exact K4|exact K5|exact K6)
  (first|(go_at_call 91;refine(Shorts.sShort w1.drew x ((zu R0).below (zu S1).b.drew)).mono ?_;rintro e w2 ⟨gS,cS,rfl,oS,bb⟩;have bW:Below w1.heap.size w1 w2:=below_of_drew bb;have S2:=zh ((zu S1).step bW);have K5:=(zu S2).six;have OS:=zh oS;clear oS bb bW)|(go_at_call 90;refine(SPost.sBalsPost w2 x.gb _ x.cb gL _ capL gS _ cS x.b.bs ls (shortL x.b.ac) rfl rfl rfl nb hl xl ((zu R0).below (zu S2).b).lb (Nat.lt_of_lt_of_le hgL (zu S2).b.size) (zu OS).lt.2 ((zu R0).below (zu S2).b).rb ((zu L0).below (zu S2).b hgL) (zu OS).at).mono ?_;rintro e w3 ⟨qs,pc,g5,k5,hp,rfl,o5,bb6⟩;have S3:=zh ((zu S2).step bb6);have K6:=(zu S3).six;have HP:=zh hp;have O5:=zh o5;have z2:=(zu S2).v.lt.2;clear hp o5 bb6))
 clear K4 K5 K6
 have OX:=zh ((zu O0).below (zu S3).b (Nat.le_refl _))
 have g5l:=(zu O5).lt.1
 have c0:=(zu S3).x.c0
 have c1:=(zu S3).x.c1
 have c2:=(zu S3).x.c2
 have c3:=(zu S3).x.c3
 have c4:=(zu S3).x.c4
 have c5:=(zu S3).x.c5
 obtain⟨r0,r1,r2,r3,r4,r5,f0,f1,f2,f3,f4,f5⟩:=Box.all ((zu S3).v)
 have x2:=(zu S3).x.free 2
 have BW:=zh (zu S3).b
 rcases(zu PC) _ _ (zu HP) with rfl|rfl|rfl|rfl
 ·have IS:=zh (show IsPosted x.b ls (withB x g5 k5 qs).b 0 from⟨qs,0,zu HP,.inl ⟨rfl,rfl,rfl⟩⟩)
  have OY:=zh (ow_withB (zu OX) ((zu O5).rebase (base':=base) (by have:=(zu OX).oa.lt;omega)))
  have F1:=zh (off_withB (c:=k5) (qs:=qs) (zu U0) (Nat.le_refl w.heap.size) (show w.heap.size<g5 by omega))
  have F2:=zh (off_withB (c:=k5) (qs:=qs) (zu U0) (Nat.le_add_right w.heap.size 1) (show w.heap.size+1<g5 by omega))
  go_wp2
  refine bodyPost_ret (v:= .tuple #[.agg #[.slice (some ⟨x.ga,0,none⟩) x.b.ac.length x.ca,.slice (some ⟨x.gi,0,none⟩) x.b.ic.length x.ci,.slice (some ⟨g5,0,none⟩) qs.length k5,.slice (some ⟨x.gl,0,none⟩) x.b.ls.length x.cl,.slice (some ⟨x.gt,0,none⟩) x.b.ts.length x.ct,.int .i64 x.b.lot],.int .i64 0]) (by simp[results,Tryz.results35,go_sem,r0,r1,r2,r3,r4,r5]) rfl ⟨withB x g5 k5 qs,0,zu IS,rfl,?_,?_⟩
  ·exact ow_six (ow_set (zu OY) (zu F1) 2 _) (zu F2) _ _ _ _ _ _
  ·exact Ans.six ((zu BW).setCell (p:=⟨w.heap.size,2,none⟩) (Nat.le_refl _) _) (by omega) _ _ _ _ _ _
 ·have IS:=zh (show IsPosted x.b ls x.b 5 from⟨qs,3,zu HP,.inr (.inl ⟨rfl,rfl,rfl⟩)⟩)
  go_wp2
  refine bodyPost_ret (v:= .tuple #[.agg #[.slice (some ⟨x.ga,0,none⟩) x.b.ac.length x.ca,.slice (some ⟨x.gi,0,none⟩) x.b.ic.length x.ci,.slice (some ⟨x.gb,0,none⟩) x.b.bs.length x.cb,.slice (some ⟨x.gl,0,none⟩) x.b.ls.length x.cl,.slice (some ⟨x.gt,0,none⟩) x.b.ts.length x.ct,.int .i64 x.b.lot],.int .i64 5]) (by simp[results,Tryz.results35,go_sem,r0,r1,r2,r3,r4,r5]) rfl ⟨x,5,zu IS,rfl,?_,?_⟩
  ·exact ow_six (zu OX) (off_up (zu U0) (by omega)) _ _ _ _ _ _
  ·exact Ans.six (zu BW) (by omega) _ _ _ _ _ _
 ·have IS:=zh (show IsPosted x.b ls x.b 8 from⟨qs,4,zu HP,.inr (.inr (.inl ⟨rfl,rfl,rfl⟩))⟩)
  go_wp2
  refine bodyPost_ret (v:= .tuple #[.agg #[.slice (some ⟨x.ga,0,none⟩) x.b.ac.length x.ca,.slice (some ⟨x.gi,0,none⟩) x.b.ic.length x.ci,.slice (some ⟨x.gb,0,none⟩) x.b.bs.length x.cb,.slice (some ⟨x.gl,0,none⟩) x.b.ls.length x.cl,.slice (some ⟨x.gt,0,none⟩) x.b.ts.length x.ct,.int .i64 x.b.lot],.int .i64 8]) (by simp[results,Tryz.results35,go_sem,r0,r1,r2,r3,r4,r5]) rfl ⟨x,8,zu IS,rfl,?_,?_⟩
  ·exact ow_six (zu OX) (off_up (zu U0) (by omega)) _ _ _ _ _ _
  ·exact Ans.six (zu BW) (by omega) _ _ _ _ _ _
 ·have IS:=zh (show IsPosted x.b ls x.b 7 from⟨qs,5,zu HP,.inr (.inr (.inr ⟨rfl,rfl,rfl⟩))⟩)
  go_wp2
  refine bodyPost_ret (v:= .tuple #[.agg #[.slice (some ⟨x.ga,0,none⟩) x.b.ac.length x.ca,.slice (some ⟨x.gi,0,none⟩) x.b.ic.length x.ci,.slice (some ⟨x.gb,0,none⟩) x.b.bs.length x.cb,.slice (some ⟨x.gl,0,none⟩) x.b.ls.length x.cl,.slice (some ⟨x.gt,0,none⟩) x.b.ts.length x.ct,.int .i64 x.b.lot],.int .i64 7]) (by simp[results,Tryz.results35,go_sem,r0,r1,r2,r3,r4,r5]) rfl ⟨x,7,zu IS,rfl,?_,?_⟩
  ·exact ow_six (zu OX) (off_up (zu U0) (by omega)) _ _ _ _ _ _
  ·exact Ans.six (zu BW) (by omega) _ _ _ _ _ _
end SBk
namespace ITakeBk
open BMem Bks ILists BHelp Ans ICopied ICmdB IHave SBk
open IBalsFit (one_more all_one)
open Lots (Says says_of NoOk)
open Bals (T3)
open Tup5 (T5)
open Concat5 (OwnV)
open ILotsFit (below_of_drew)
structure OwL(w:World)(base:Nat)(x:Bx)(v:Value):Prop where
 oa:Pairs.Own 92 w base x.ga x.b.ac.length x.ca x.b.ac
 oi:Pairs.Own 111 w base x.gi x.b.ic.length x.ci x.b.ic
 ob:Triples.Own3 119 w base x.gb x.b.bs.length x.cb x.b.bs
 ol:OwnV 123 w base v x.b.ls
 ot:Tup8.Own8 110 w base x.gt x.b.ts.length x.ct x.b.ts
theorem OwL.of{w:World}{base:Nat}{x:Bx}(h:Ow w base x):OwL w base x (.slice (some ⟨x.gl,0,none⟩) x.b.ls.length x.cl):=⟨h.oa,h.oi,h.ob,Concat5.OwnV.of h.ol,h.ot⟩
theorem OwL.below{w w':World}{base B:Nat}{x:Bx}{v:Value}(h:OwL w base x v)(k:Below B w w')(hB:w.heap.size≤B):OwL w' base x v:=
 ⟨h.oa.below k (by have:=h.oa.lt;omega),h.oi.below k (by have:=h.oi.lt;omega),h.ob.below k (by have:=h.ob.lt;omega),h.ol.below k (fun g hg=>by have:=h.ol.lt g hg;omega),h.ot.below k (by have:=h.ot.lt;omega)⟩
def VarL(w:World)(base g:Nat)(x:Bx)(v:Value):Prop:=Box w base g (.slice (some ⟨x.ga,0,none⟩) x.b.ac.length x.ca) (.slice (some ⟨x.gi,0,none⟩) x.b.ic.length x.ci) (.slice (some ⟨x.gb,0,none⟩) x.b.bs.length x.cb) v (.slice (some ⟨x.gt,0,none⟩) x.b.ts.length x.ct) (.int .i64 x.b.lot)
theorem VarL.any{w:World}{base g:Nat}{x:Bx}{ao:Option Addr}{n k:Nat}(h:VarL w base g x (.slice ao n k)):AnyBox w base g:=⟨_,_,_,_,_,_,_,_,_,_,_,_,_,_,_,_,h⟩
theorem below_grown{u W:World}{g:Nat}(h:Below u.heap.size u W):u.grownBy W (some g):=⟨h.os,h.tape,h.output,h.size,fun j hj _=>h.block j hj⟩
end ITakeBk
namespace SHeld
open BMem Bks ILists IBalsFit
open Lots (Says says_of NoOk)
open Bals (T3 val Amt)
def heldL(bs:List T3)(i:Int):List (Int×Int)→List (Int×Int)
 |[]=>[]
 |p::r=>(if p.2=1∧0<val bs p.1 i then[(p.1,val bs p.1 i)] else[])++heldL bs i r
theorem heldL_append(bs:List T3)(i:Int):∀ps qs:List (Int×Int),heldL bs i (ps++qs)=heldL bs i ps++heldL bs i qs
 |[],qs=>rfl
 |p::r,qs=>by simp[heldL,heldL_append bs i r qs]
theorem heldL_len(bs:List T3)(i:Int):∀ps:List (Int×Int),(heldL bs i ps).length≤ps.length
 |[]=>Nat.le_refl _
 |p::r=>by
  have:=heldL_len bs i r
  unfold heldL
  split<;>simp<;>omega
theorem pair_take{ps:List (Int×Int)}{k:Nat}(h:k<ps.length):ps.take (k+1)=ps.take k++[ps.getD k (0,0)]:=by
 rw[List.take_succ_eq_append_getElem h]
 simp[List.getD,h]
theorem heldL_next{ps:List (Int×Int)}{k:Nat}(bs:List T3)(i:Int)(h:k<ps.length):heldL bs i (ps.take (k+1))=heldL bs i (ps.take k)++(if(ps.getD k (0,0)).2=1∧0<val bs (ps.getD k (0,0)).1 i then[((ps.getD k (0,0)).1,val bs (ps.getD k (0,0)).1 i)] else[]):=by
 rw[pair_take h,heldL_append]
 simp[heldL]
def sumH:List (Int×Int)→Int
 |[]=>0
 |p::r=>p.2+sumH r
theorem sumH_append:∀ps qs:List (Int×Int),sumH (ps++qs)=sumH ps+sumH qs
 |[],qs=>by simp[sumH]
 |p::r,qs=>by simp[sumH,sumH_append r qs];omega
theorem sumH_bd:∀ps:List (Int×Int),(∀p∈ps,0≤p.2∧p.2≤1000000000000000)→0≤sumH ps∧sumH ps≤1000000000000000*(ps.length:Int)
 |[],_=>by simp[sumH]
 |p::r,h=>by
  have a:=h p (by simp)
  have b:=sumH_bd r (fun q hq=>h q (by simp[hq]))
  simp only[sumH,List.length_cons]
  omega
theorem held_in{bs:List T3}(h:Bals.Right bs)(i:Int):∀ps:List (Int×Int),∀p∈heldL bs i ps,0≤p.2∧p.2≤1000000000000000
 |[],p,hp=>by simp[heldL] at hp
 |q::r,p,hp=>by
  unfold heldL at hp
  rcases List.mem_append.1 hp with hp|hp
  ·by_cases c:q.2=1∧0<val bs q.1 i
   ·rw[if_pos c] at hp
    have e:p=(q.1,val bs q.1 i):=by simpa using hp
    subst e
    have:=(h.val_in q.1 i).1
    unfold Amt at this
    exact⟨by have:=c.2;simp;omega,this.2⟩
   ·rw[if_neg c] at hp
    simp at hp
  ·exact held_in h i r p hp
def IsHeld(b:Bk)(i:Int)(who what:List Int)(all:Int)(ok:Bool):Prop:=
 ((Ok b∧Amt (sumH (heldL b.bs i b.ac)))∧who=(heldL b.bs i b.ac).map Prod.fst∧what=(heldL b.bs i b.ac).map Prod.snd∧all=sumH (heldL b.bs i b.ac)∧ok=true)∨
 (¬(Ok b∧Amt (sumH (heldL b.bs i b.ac)))∧who=[]∧what=[]∧all=0∧ok=false)
theorem IsHeld.same{b:Bk}{i a1 a2:Int}{w1 w2 q1 q2:List Int}{o1 o2:Bool}(h:IsHeld b i w1 q1 a1 o1)(k:IsHeld b i w2 q2 a2 o2):w1=w2∧q1=q2∧a1=a2∧o1=o2:=by
 rcases h with⟨h,rfl,rfl,rfl,rfl⟩|⟨h,rfl,rfl,rfl,rfl⟩<;>rcases k with⟨k,rfl,rfl,rfl,rfl⟩|⟨k,rfl,rfl,rfl,rfl⟩<;>first|exact⟨rfl,rfl,rfl,rfl⟩|exact absurd h k|exact absurd k h
theorem sHeld(w:World)(x:Bx)(i:Int)(h:Rd w x):
  Calls Tryz.prog 14 #[.agg #[.slice (some ⟨x.ga,0,none⟩) x.b.ac.length x.ca,.slice (some ⟨x.gi,0,none⟩) x.b.ic.length x.ci,.slice (some ⟨x.gb,0,none⟩) x.b.bs.length x.cb,.slice (some ⟨x.gl,0,none⟩) x.b.ls.length x.cl,.slice (some ⟨x.gt,0,none⟩) x.b.ts.length x.ct,.int .i64 x.b.lot],.int .i64 i] w fun e w'=>∃(who what:List Int) (all:Int) (ok:Bool) (g1 c1 g2 c2:Nat),IsHeld x.b i who what all ok∧who.length=what.length∧who.length≤x.b.ac.length∧e= .returned (.tuple #[.slice (some ⟨g1,0,none⟩) who.length c1,.slice (some ⟨g2,0,none⟩) what.length c2,.int .i64 all,.bool ok])∧Ints.Own w' w.heap.size g1 who.length c1 who∧Ints.Own w' w.heap.size g2 what.length c2 what∧g1≠g2∧Below w.heap.size w w':=by
 obtain⟨b0,h0⟩:=says_of (Ok x.b)
 have H0:=zh h0
 have na:=h.na
 have nb:=h.nb
 have S0R:=zh h
 have S0:=zh (((St.start h 36).step (one_more (w.alloc (.cells #[.slice (some ⟨x.ga,0,none⟩) x.b.ac.length x.ca,.slice (some ⟨x.gi,0,none⟩) x.b.ic.length x.ci,.slice (some ⟨x.gb,0,none⟩) x.b.bs.length x.cb,.slice (some ⟨x.gl,0,none⟩) x.b.ls.length x.cl,.slice (some ⟨x.gt,0,none⟩) x.b.ts.length x.ct,.int .i64 x.b.lot] 36)) (.cells #[] 3))).step (one_more ((w.alloc (.cells #[.slice (some ⟨x.ga,0,none⟩) x.b.ac.length x.ca,.slice (some ⟨x.gi,0,none⟩) x.b.ic.length x.ci,.slice (some ⟨x.gb,0,none⟩) x.b.bs.length x.cb,.slice (some ⟨x.gl,0,none⟩) x.b.ls.length x.cl,.slice (some ⟨x.gt,0,none⟩) x.b.ts.length x.ct,.int .i64 x.b.lot] 36)).alloc (.cells #[] 3)) (.cells #[] 3)))
 have A0:=zh (Shorts.own_alloc (Shorts.lit0 (w.alloc (.cells #[.slice (some ⟨x.ga,0,none⟩) x.b.ac.length x.ca,.slice (some ⟨x.gi,0,none⟩) x.b.ic.length x.ci,.slice (some ⟨x.gb,0,none⟩) x.b.bs.length x.cb,.slice (some ⟨x.gl,0,none⟩) x.b.ls.length x.cl,.slice (some ⟨x.gt,0,none⟩) x.b.ts.length x.ct,.int .i64 x.b.lot] 36)) (w.heap.size+1) (g:=w.heap.size+1) (by simp) (by simp)) (.cells #[] 3))
 have C0:=zh (Shorts.lit0 ((w.alloc (.cells #[.slice (some ⟨x.ga,0,none⟩) x.b.ac.length x.ca,.slice (some ⟨x.gi,0,none⟩) x.b.ic.length x.ci,.slice (some ⟨x.gb,0,none⟩) x.b.bs.length x.cb,.slice (some ⟨x.gl,0,none⟩) x.b.ls.length x.cl,.slice (some ⟨x.gt,0,none⟩) x.b.ts.length x.ct,.int .i64 x.b.lot] 36)).alloc (.cells #[] 3)) (w.heap.size+1) (g:=w.heap.size+1+1) (by simp) (by simp))
 clear h0 h
 go_enter Tryz.func14,Tryz.ntmps14
 go_wp2_with fail
 generalize ((w.alloc (.cells #[.slice (some ⟨x.ga,0,none⟩) x.b.ac.length x.ca,.slice (some ⟨x.gi,0,none⟩) x.b.ic.length x.ci,.slice (some ⟨x.gb,0,none⟩) x.b.bs.length x.cb,.slice (some ⟨x.gl,0,none⟩) x.b.ls.length x.cl,.slice (some ⟨x.gt,0,none⟩) x.b.ts.length x.ct,.int .i64 x.b.lot] 36)).alloc (.cells #[] 3)).alloc (.cells #[] 3)=w0 at *
 refine(SBooksOk.sBooksOk _ x b0 (zu S0).r (zu H0)).mono ?_
 rintro e w1 ⟨rfl,bb⟩
 have S1:=zh ((zu S0).step bb)
 have A1:=zh ((zu A0).below bb (zu A0).lt.2)
 have C1:=zh ((zu C0).below bb (zu C0).lt.2)
 clear bb S0 A0 C0
 cases b0
 ·have N:=zh (show IsHeld x.b i [] [] 0 false from .inr ⟨fun hh=>(zu H0).no hh.1,rfl,rfl,rfl,rfl⟩)
  have B1:=zh (zu S1).b
  go_wp2
  refine bodyPost_ret (v:= .tuple #[.slice (some ⟨w.heap.size+1,0,none⟩) 0 0,.slice (some ⟨w.heap.size+1+1,0,none⟩) 0 0,.int .i64 0,.bool false]) (by simp[results,Tryz.results14,go_sem]) rfl ⟨[],[],0,false,_,_,_,_,zu N,rfl,by simp,rfl,(zu A1).mono (by omega),(zu C1).mono (by omega),by omega,zu B1⟩
 have YES:=zh (zu H0).yes
 have al:x.b.ac.length≤20:=(zu H0).yes.1.1.1
 have BR:=zh (zu H0).yes.1.2.2.1
 clear H0
 go_wp2
 go_loopw [8,9,10,11] (fun l m s j wr=>∃(ps:List (Int×Int)) (g1 k1 g2 k2 k:Nat),l= .slice (some ⟨g1,0,none⟩) ps.length k1∧m= .slice (some ⟨g2,0,none⟩) ps.length k2∧s= .int .i64 (sumH ps)∧j= .int .i64 k∧k≤x.b.ac.length∧ps.length≤k∧g1≠g2∧Hid (ps=heldL x.b.bs i (x.b.ac.take k))∧Hid (Ints.Own wr (w.heap.size+1) g1 ps.length k1 (ps.map Prod.fst))∧Hid (Ints.Own wr (w.heap.size+1) g2 ps.length k2 (ps.map Prod.snd))∧Hid (St w wr x)) (fun _ _ _ j _=>x.b.ac.length-(intOf j).toNat)
 case atStart=>exact⟨[],w.heap.size+1,0,w.heap.size+1+1,0,0,rfl,rfl,rfl,rfl,by omega,by simp,by omega,zh rfl,A1,C1,S1⟩
 case round=>
  clear A1 C1 S1
  obtain⟨ps,g1,k1,g2,k2,k,rfl,rfl,rfl,rfl,hk,pl,gne,HP,OA,OC,S2⟩:=hrel
  obtain⟨c0,c1,c2,c3,c4,c5⟩:=(zu S2).c
  by_cases t:k<x.b.ac.length
  ·obtain⟨d0,d1⟩:=((zu S2).r.ra k t)
   have NP:=zh (heldL_next (ps:=x.b.ac) (k:=k) x.b.bs i t)
   rw[←zu HP] at NP
   have SB:=zh (sumH_bd ps (by rw[zu HP];exact held_in (zu BR) i _))
   have RB:=zh (zu S2).r.rb
   obtain⟨q0,hq0⟩:∃q0,Hid ((x.b.ac.getD k (0,0)).1=q0):=⟨_,rfl⟩
   obtain⟨q1,hq1⟩:∃q1,Hid ((x.b.ac.getD k (0,0)).2=q1):=⟨_,rfl⟩
   rw[zu hq0] at d0
   rw[zu hq1] at d1
   rw[zu hq0,zu hq1] at NP
   obtain⟨vv,hvv⟩:∃vv,Hid (val x.b.bs q0 i=vv):=⟨_,rfl⟩
   rw[zu hvv] at NP
   have VB:=zh (show vv≤1000000000000000∧-1000000000000000≤vv from by
    have:=((zu BR).val_in q0 i).1
    unfold Amt at this
    rw[zu hvv] at this
    omega)
   clear hq0 hq1
   go_wp2_with fail
   have K4:=And.intro c2 (And.intro c0 d0)
   go_region_held3 (fun w'=>w'.cell? ⟨w.heap.size,2,none⟩=some (.slice (some ⟨x.gb,0,none⟩) x.b.bs.length x.cb)∧w'.cell? ⟨w.heap.size,0,none⟩=some (.slice (some ⟨x.ga,0,none⟩) x.b.ac.length x.ca)∧w'.cell? ⟨x.ga,k*2,none⟩=some (.int .i64 q0)) (first|exact K4)
    (first|(go_at_call 66;refine(Look.sOf wr.drew x.gb _ x.cb x.b.bs q0 i rfl nb (zu RB)).mono ?_;rintro e w3 ⟨he,hw⟩;rw[zu hvv] at he;subst he;subst hw))
   have S3:=zh ((zu S2).step (Below.refl _ _).drew)
   have OA3:=zh (show Ints.Own wr.drew (w.heap.size+1) g1 ps.length k1 (ps.map Prod.fst) from zu OA)
   have OC3:=zh (show Ints.Own wr.drew (w.heap.size+1) g2 ps.length k2 (ps.map Prod.snd) from zu OC)
   have e0:wr.drew.cell? ⟨x.ga,k*2,none⟩=some (.int .i64 q0):=d0
   have e1:wr.drew.cell? ⟨x.ga,k*2+1,none⟩=some (.int .i64 q1):=d1
   generalize wr.drew=w3 at *
   clear K4 c0 c1 c2 c3 c4 c5 d0 d1 RB OA OC S2 hvv
   obtain⟨c0,c1,c2,c3,c4,c5⟩:=(zu S3).c
   have sz:=(zu S3).s
   have bs:=(zu S3).b.size
   have pl20:ps.length≤20:=by omega
   by_cases own:q1=1∧0<vv
   ·have NP1:Hid (heldL x.b.bs i (x.b.ac.take (k+1))=ps++[(q0,vv)]):=zh (by rw[zu NP,if_pos own])
    have ob:(q1==1)=true:=by simpa using own.1
    have ov:=own.2
    have WS:IntKind.i64.wrap (sumH ps+vv)=sumH ps+vv:=by
     have a:=zu SB
     have b:=zu VB
     rw[IntKind.wrap_i64]
     ·omega
     all_goals omega
    clear NP own
    go_wp2_with (first|(at_builtin;refine Shorts.wp_appI _ rfl _ _ rfl (w.heap.size+1) g1 ps.length k1 (ps.map Prod.fst) w3.heap.size q0 rfl rfl (Shorts.own_alloc (zu OA3) _) (by simp) (by omega) (by simp;omega) ?_)|go_in)
    intro g5 c5' w5 o5 gr5 loc5
    have l1:=(zu OA3).lt
    have l2:=(zu OC3).lt
    have S5:=zh (show St w w5 x from by
     have S4:=(zu S3).step (one_more w3 (.cells #[.int .i64 q0] 3))
     have n0:some w.heap.size≠some g1:=fun e=>by injection e;omega
     exact⟨(zu S0R).below (S4.b.grown gr5 S4.b.size (fun j e=>by injection e;omega)),⟨gr5.cell S4.c.c0 n0,gr5.cell S4.c.c1 n0,gr5.cell S4.c.c2 n0,gr5.cell S4.c.c3 n0,gr5.cell S4.c.c4 n0,gr5.cell S4.c.c5 n0⟩,S4.b.grown gr5 S4.b.size (fun j e=>by injection e;omega),Nat.lt_of_lt_of_le S4.s gr5.size⟩)
    have OC5:=zh ((Shorts.own_alloc (zu OC3) (.cells #[.int .i64 q0] 3)).kept gr5 (fun e=>by injection e;omega))
    have OA5:=zh o5
    have g5n:g5≠g2:=by
     rcases loc5 with e|e
     ·omega
     ·have:g5=w3.heap.size+1:=by simpa using e
      omega
    have bs5:=(zu S5).b.size
    clear o5 gr5 loc5 OA3 OC3
    go_wp2_with (first|(at_builtin;refine Shorts.wp_appI _ rfl _ _ rfl (w.heap.size+1) g2 ps.length k2 (ps.map Prod.snd) w5.heap.size vv rfl rfl (Shorts.own_alloc (zu OC5) _) (by simp) (by omega) (by have:=(zu S5).s;simp;omega) ?_)|go_in)
    intro g6 c6' w6 o6 gr6 loc6
    have l3:=(zu OC5).lt
    have l4:=(zu OA5).lt
    have S6:=zh (show St w w6 x from by
     have S4:=(zu S5).step (one_more w5 (.cells #[.int .i64 vv] 3))
     have n0:some w.heap.size≠some g2:=fun e=>by injection e;omega
     exact⟨(zu S0R).below (S4.b.grown gr6 S4.b.size (fun j e=>by injection e;omega)),⟨gr6.cell S4.c.c0 n0,gr6.cell S4.c.c1 n0,gr6.cell S4.c.c2 n0,gr6.cell S4.c.c3 n0,gr6.cell S4.c.c4 n0,gr6.cell S4.c.c5 n0⟩,S4.b.grown gr6 S4.b.size (fun j e=>by injection e;omega),Nat.lt_of_lt_of_le S4.s gr6.size⟩)
    have OA6:=zh ((Shorts.own_alloc (zu OA5) (.cells #[.int .i64 vv] 3)).kept gr6 (fun e=>by injection e;omega))
    have OC6:=zh o6
    have g6n:g5≠g6:=by
     rcases loc6 with e|e
     ·omega
     ·have:g6=w5.heap.size+1:=by simpa using e
      omega
    clear o6 gr6 loc6
    go_wp2
    go_roundw
    case rel=>exact⟨ps++[(q0,vv)],g5,c5',g6,c6',k+1,by rw[show(ps++[(q0,vv)]).length=ps.length+1 by simp],by rw[show(ps++[(q0,vv)]).length=ps.length+1 by simp],by rw[sumH_append];simp[sumH],by go_num,by omega,by simp;omega,g6n,zh (zu NP1).symm,zh (by rw[show(ps++[(q0,vv)]).length=ps.length+1 by simp,List.map_append];exact zu OA6),zh (by rw[show(ps++[(q0,vv)]).length=ps.length+1 by simp,List.map_append];exact zu OC6),S6⟩
    case measure=>simp[intOf];omega
   ·have NP1:Hid (heldL x.b.bs i (x.b.ac.take (k+1))=ps):=zh (by rw[zu NP,if_neg own,List.append_nil])
    clear NP
    by_cases o1:q1=1
    ·have ov:¬0<vv:=fun e=>own ⟨o1,e⟩
     have ob:(q1==1)=true:=by simpa using o1
     clear own o1
     go_wp2
     go_roundw
     case rel=>exact⟨ps,g1,k1,g2,k2,k+1,rfl,rfl,rfl,by go_num,by omega,by omega,gne,zh (zu NP1).symm,OA3,OC3,S3⟩
     case measure=>simp[intOf];omega
    ·have ob:(q1==1)=false:=by simpa using o1
     clear own o1
     go_wp2
     go_roundw
     case rel=>exact⟨ps,g1,k1,g2,k2,k+1,rfl,rfl,rfl,by go_num,by omega,by omega,gne,zh (zu NP1).symm,OA3,OC3,S3⟩
     case measure=>simp[intOf];omega
  ·obtain rfl:k=x.b.ac.length:=by omega
   have EP:=zh (show ps=heldL x.b.bs i x.b.ac from by rw[zu HP,List.take_of_length_le (by omega)])
   obtain⟨b2,h2⟩:=says_of (Amt (sumH ps))
   have H2:=zh h2
   have B2:=zh (zu S2).b
   have s2:=(zu S2).s
   clear HP h2
   go_wp2_with fail
   refine(SOk5.sAmt (sumH ps) b2 _ (zu H2)).mono ?_
   rintro e v2 ⟨rfl,rfl⟩
   cases b2
   ·have N:=zh (show IsHeld x.b i [] [] 0 false from .inr ⟨fun hh=>(zu H2).no (by rw[zu EP];exact hh.2),rfl,rfl,rfl,rfl⟩)
    clear EP H2
    go_wp2
    refine bodyPost_ret (v:= .tuple #[.slice (some ⟨v2.heap.size,0,none⟩) 0 0,.slice (some ⟨v2.heap.size+1,0,none⟩) 0 0,.int .i64 0,.bool false]) (by simp[results,Tryz.results14,go_sem]) rfl ⟨[],[],0,false,v2.heap.size,0,v2.heap.size+1,0,zu N,rfl,by simp,rfl,?_,?_,by omega,?_⟩
    ·exact Shorts.own_alloc (Shorts.lit0 v2 w.heap.size (g:=v2.heap.size) (by omega) rfl) _
    ·exact Shorts.lit0 (v2.alloc (.cells #[] 3)) w.heap.size (g:=v2.heap.size+1) (by simp;omega) (by simp)
    ·exact((zu B2).alloc (by omega) _).alloc (by simp;omega) _
   ·have N:=zh (show IsHeld x.b i (ps.map Prod.fst) (ps.map Prod.snd) (sumH ps) true from .inl ⟨⟨zu YES,by have:=(zu H2).yes;rw[zu EP] at this;exact this⟩,by rw[zu EP],by rw[zu EP],by rw[zu EP],rfl⟩)
    clear EP H2
    go_wp2
    refine bodyPost_ret (v:= .tuple #[.slice (some ⟨g1,0,none⟩) ps.length k1,.slice (some ⟨g2,0,none⟩) ps.length k2,.int .i64 (sumH ps),.bool true]) (by simp[results,Tryz.results14,go_sem]) rfl ⟨_,_,_,true,g1,k1,g2,k2,zu N,by simp,by simp;omega,by simp,by rw[List.length_map];exact(zu OA).mono (by omega),by rw[List.length_map];exact(zu OC).mono (by omega),gne,zu B2⟩
end SHeld
namespace SIssue
open BMem Bks ILists BHelp Ans SBk
open IBalsFit (one_more)
open Lots (Says says_of NoOk)
open Quieter (Near near_is quiet_near)
open Bals (T3)
open Tup5 (T5)
theorem posted_small{b b':Bk}{ls:List T3}{c:Int}(h:IsPosted b ls b' c)(s:Small b):Small b':=by
 obtain⟨qs,pc,hp,⟨_,rfl,_⟩|⟨_,rfl,_⟩|⟨_,rfl,_⟩|⟨_,rfl,_⟩⟩:=h
 ·have:=hp.len
  obtain⟨a,b,c,d,e⟩:=s
  exact⟨a,b,by simp;omega,d,e⟩
 all_goals exact s
theorem row_ne{w:World}{base base':Nat}{e e':TypeId}{size size' g n cap g' n' cap':Nat}{xs xs':List Value}(h:w.ownsRow base e size (.slice (some ⟨g,0,none⟩) n cap) n xs)(k:w.ownsRow base' e' size' (.slice (some ⟨g',0,none⟩) n' cap') n' xs')(ne:e≠e'):g≠g':=by
 rintro rfl
 rcases h.2 with⟨h1,_⟩|⟨g1,c1,cur1,h1,h2,h3,_⟩
 ·simp at h1
 rcases k.2 with⟨k1,_⟩|⟨g2,c2,cur2,k1,k2,k3,_⟩
 ·simp at k1
 obtain⟨rfl,_⟩:g=g1∧cap=c1:=by simpa using h1
 obtain⟨rfl,_⟩:g=g2∧cap'=c2:=by simpa using k1
 rw[h3] at k3
 injection k3 with k3
 injection k3 with _ k3
 exact ne k3
theorem off_box{w:World}{base base' p:Nat}{y:Bx}{v0 v1 v2 v3 v4 v5:Value}(O:Ow w base y)(B:Box w base' p v0 v1 v2 v3 v4 v5):Off y p:=
 ⟨row_ne O.oa B (by decide),row_ne O.oi B (by decide),row_ne O.ob B (by decide),row_ne O.ol B (by decide),row_ne O.ot B (by decide)⟩
theorem SR.grown{w W W':World}{x:Bx}{p:Nat}(H:Rd w x)(h:SR w W x)(k:W.grownBy W' (some p))(hp:w.heap.size+1<p):SR w W' x:=by
 have b:Below w.heap.size w W':=h.b.grown k h.b.size (fun j e=>by injection e;omega)
 have n0:some w.heap.size≠some p:=fun e=>by injection e;omega
 exact⟨H.below b,⟨k.cell h.c.c0 n0,k.cell h.c.c1 n0,k.cell h.c.c2 n0,k.cell h.c.c3 n0,k.cell h.c.c4 n0,k.cell h.c.c5 n0⟩,h.v.kept k (fun e=>by injection e;omega),b⟩
theorem to_wb{P:Program}{fn:Func}{R:Ending→World→Prop}{ex:Exit}{a:Act}{W:World}(Pr:World→Prop)(h:Pr W)(k:∀W,Pr W→bodyPost P fn R ex a W):bodyPost P fn R ex a W:=k W h
theorem ne_true{a b:Int}(h:a≠b):(a !=b)=true:=by simpa using h
theorem ne_false{a b:Int}(h:a=b):(a !=b)=false:=by simpa using h
theorem eq_true{a b:Int}(h:a=b):(a==b)=true:=by simpa using h
theorem eq_false{a b:Int}(h:¬a=b):(a==b)=false:=by simpa using h
end SIssue
namespace Corp
open Bks Trd
open Bals (T3)
open Lots (NoOk)
open MulC (Tells)
theorem tells_is(a b c:Int):∃q r ok,Tells a b c q r ok:=by
 by_cases h:a*b/c≤1000000000000000
 ·exact⟨_,_,_,.inl ⟨h,rfl,rfl,rfl⟩⟩
 ·exact⟨_,_,_,.inr ⟨by omega,rfl,rfl,rfl⟩⟩
theorem tells_same{a b c q1 r1 q2 r2:Int}{o1 o2:Bool}(h:Tells a b c q1 r1 o1)(k:Tells a b c q2 r2 o2):q1=q2∧r1=r2∧o1=o2:=by
 rcases h with⟨h,rfl,rfl,rfl⟩|⟨h,rfl,rfl,rfl⟩<;>rcases k with⟨k,rfl,rfl,rfl⟩|⟨k,rfl,rfl,rfl⟩
 ·exact⟨rfl,rfl,rfl⟩
 ·omega
 ·omega
 ·exact⟨rfl,rfl,rfl⟩
theorem tells_bd{a b c q r:Int}{o:Bool}(h:Tells a b c q r o)(a0:0≤a)(b0:0≤b)(c0:0≤c):0≤q∧q≤1000000000000000:=by
 rcases h with⟨h,rfl,_⟩|⟨_,rfl,_⟩
 ·exact⟨Int.ediv_nonneg (Int.mul_nonneg a0 b0) c0,h⟩
 ·omega
def legsF(x y f t am got:Int):List T3:=pairL x y f am++pairL y x t got
def FxNone(b:Bk)(x y f t:Int):Prop:=kindOf b.ac x=0∨kindOf b.ac y=0∨kindOf b.ic f=0∨kindOf b.ic t=0
def FxKind(b:Bk)(x y f t:Int):Prop:=kindOf b.ac x≠1∨kindOf b.ac y≠3∨kindOf b.ic f≠1∨kindOf b.ic t≠1∨f=t
def IsFx(b:Bk)(x y f t am n d:Int)(b':Bk)(g c:Int):Prop:=
 (FxNone b x y f t∧b'=b∧g=0∧c=3)∨
 (¬FxNone b x y f t∧FxKind b x y f t∧b'=b∧g=0∧c=4)∨
 (¬FxNone b x y f t∧¬FxKind b x y f t∧∃q r ok,Tells am n d q r ok∧((ok=false∧b'=b∧g=0∧c=8)∨
  (ok=true∧∃b1 c1,IsPosted b (legsF x y f t am q) b1 c1∧((c1≠0∧b'=b∧g=0∧c=c1)∨(c1=0∧b'=b1∧g=q∧c=0)))))
theorem IsFx.same{b b1 b2:Bk}{x y f t am n d g1 g2 c1 c2:Int}(h:IsFx b x y f t am n d b1 g1 c1)(k:IsFx b x y f t am n d b2 g2 c2):b1=b2∧g1=g2∧c1=c2:=by
 rcases h with⟨h,rfl,rfl,rfl⟩|⟨h,h2,rfl,rfl,rfl⟩|⟨h,h2,q,r,ok,ht,h'⟩<;>rcases k with⟨k,rfl,rfl,rfl⟩|⟨k,k2,rfl,rfl,rfl⟩|⟨k,k2,q',r',ok',kt,k'⟩<;>
  first|exact⟨rfl,rfl,rfl⟩|exact absurd h k|exact absurd k h|exact absurd h2 k2|exact absurd k2 h2|skip
 obtain⟨rfl,rfl,rfl⟩:=tells_same ht kt
 rcases h' with⟨h3,rfl,rfl,rfl⟩|⟨h3,d1,e1,hp,h'⟩<;>rcases k' with⟨k3,rfl,rfl,rfl⟩|⟨k3,d2,e2,kp,k'⟩
 ·exact⟨rfl,rfl,rfl⟩
 ·rw[h3] at k3;cases k3
 ·rw[h3] at k3;cases k3
 ·obtain⟨rfl,rfl⟩:=hp.same kp
  rcases h' with⟨h4,rfl,rfl,rfl⟩|⟨h4,rfl,rfl,rfl⟩<;>rcases k' with⟨k4,rfl,rfl,rfl⟩|⟨k4,rfl,rfl,rfl⟩
  ·exact⟨rfl,rfl,rfl⟩
  ·exact absurd k4 h4
  ·exact absurd h4 k4
  ·exact⟨rfl,rfl,rfl⟩
end Corp
namespace Pay
open Bks Weigh Quota Order Parts SHeld
open Bals (T3 val Amt)
open Lots (NoOk)
def tot:List Int→Int
 |[]=>0
 |x::r=>x+tot r
theorem tot_append:∀xs ys:List Int,tot (xs++ys)=tot xs+tot ys
 |[],ys=>by simp[tot]
 |x::r,ys=>by simp[tot,tot_append r ys];omega
theorem tot_set:∀(xs:List Int) (i:Nat),i<xs.length→tot (xs.set i (xs.getD i 0+1))=tot xs+1
 |[],i,h=>by simp at h
 |x::r,0,h=>by simp[tot];omega
 |x::r,i+1,h=>by
  have:=tot_set r i (by simpa using h)
  simp only[List.set_cons_succ,tot,List.getD_cons_succ]
  omega
theorem tot_bump(qs:List Int)(L:List Nat)(m:Nat)(h:∀j,j<m→L.getD j 0<qs.length):tot (bump qs L m)=tot qs+(m:Int):=by
 induction m with
 |zero=>simp[bump]
 |succ m ih=>
  rw[bump,tot_set _ _ (by rw[bump_len];exact h m (by omega)),ih fun j hj=>h j (by omega)]
  omega
theorem tot_wholes(t:Int)(xs:List Int)(k:Nat):tot (wholes t xs k)=SQ t xs k:=by
 induction k with
 |zero=>simp[wholes,tot,SQ]
 |succ k ih=>rw[wholes_succ,tot_append,ih];simp[tot,SQ]
theorem tot_ge:∀(xs:List Int),(∀p∈xs,0≤p)→0≤tot xs
 |[],_=>by simp[tot]
 |x::r,h=>by
  have a:=h x (by simp)
  have b:=tot_ge r fun p hp=>h p (by simp[hp])
  simp only[tot];omega
theorem tot_one:∀(xs:List Int),(∀p∈xs,0≤p)→∀p∈xs,p≤tot xs
 |[],_,p,hp=>by simp at hp
 |x::r,h,p,hp=>by
  have a:=h x (by simp)
  have b:=tot_ge r fun p hp=>h p (by simp[hp])
  rcases List.mem_cons.1 hp with rfl|hp
  ·simp only[tot];omega
  ·have c:=tot_one r (fun p hp=>h p (by simp[hp])) p hp
   simp only[tot];omega
theorem S_take(xs:List Int):∀k,k≤xs.length→S xs k=tot (xs.take k)
 |0,_=>by simp[S,tot]
 |k+1,h=>by
  rw[S,S_take xs k (by omega),List.take_succ_eq_append_getElem (by omega),tot_append]
  simp[tot,List.getD,show k<xs.length by omega]
theorem S_tot(xs:List Int):S xs xs.length=tot xs:=by rw[S_take xs _ (Nat.le_refl _),List.take_length]
theorem sumH_tot:∀ps:List (Int×Int),sumH ps=tot (ps.map Prod.snd)
 |[]=>rfl
 |p::r=>by simp[sumH,tot,sumH_tot r]
theorem shares_tot{t:Int}{xs ps:List Int}{ok:Bool}(h:STells t xs ps ok)(hok:ok=true):tot ps=t∧ps.length=xs.length∧∀p∈ps,0≤p∧p≤t:=by
 rcases h with⟨h1,h2,h3,L,M,h4,h5,h6,rfl⟩|h
 ·have e:tot (bump (wholes t xs xs.length) L M)=t:=by
   rw[tot_bump _ _ _ (fun j hj=>by rw[wholes_len];exact h4.getD_lt j (by omega)),tot_wholes]
   omega
  have nn:∀p∈bump (wholes t xs xs.length) L M,0≤p:=fun p hp=>by
   obtain⟨j,hj,rfl⟩:=List.mem_iff_getElem.1 hp
   have:=(bump_bd (wholes t xs xs.length) L t h2.1 (wholes_bd t xs h2 h1) M j).1
   simpa[List.getD,hj] using this
  refine⟨e,by rw[bump_len,wholes_len],fun p hp=>⟨nn p hp,?_⟩⟩
  have:=tot_one _ nn p hp
  omega
 ·rw[h.2.1] at hok;cases hok
theorem held_good{b:Bk}{i:Int}{who what:List Int}{all:Int}(h:IsHeld b i who what all true)(ne:who≠[]):Weigh.Good what∧all=tot what∧who.length=what.length∧who.length≤20∧(∀a∈who,NoOk a)∧(∀a∈who,kindOf b.ac a=1∧0<val b.bs a i)∧(∀x∈what,1≤x):=by
 rcases h with⟨⟨hok,hs⟩,rfl,rfl,rfl,_⟩|⟨_,_,_,_,e⟩
 ·have al:b.ac.length≤20:=hok.1.1.1
  have hl:=heldL_len b.bs i b.ac
  have pos:∀ps:List (Int×Int),∀p∈heldL b.bs i ps,0<p.2∧p.2=val b.bs p.1 i∧(p.1,1)∈ps:=by
   intro ps
   induction ps with
   |nil=>intro p hp;simp[heldL] at hp
   |cons q r ih=>
    intro p hp
    unfold heldL at hp
    rcases List.mem_append.1 hp with hp|hp
    ·by_cases c:q.2=1∧0<val b.bs q.1 i
     ·rw[if_pos c] at hp
      have e:p=(q.1,val b.bs q.1 i):=by simpa using hp
      subst e
      refine⟨c.2,rfl,?_⟩
      have:q=(q.1,1):=by rw[←c.1]
      rw[←this];simp
     ·rw[if_neg c] at hp;simp at hp
    ·obtain⟨u,v,z⟩:=ih p hp
     exact⟨u,v,by simp[z]⟩
  have wt:=held_in hok.1.2.2.1 i b.ac
  have ne':heldL b.bs i b.ac≠[]:=fun e=>ne (by rw[e];rfl)
  have l0:0<(heldL b.bs i b.ac).length:=List.length_pos_iff.2 ne'
  have elem:∀p∈heldL b.bs i b.ac,NoOk p.1∧kindOf b.ac p.1=1:=fun p hp=>by
   obtain⟨u,v,z⟩:=pos _ p hp
   obtain⟨j,hj,e⟩:=List.mem_iff_getElem.1 z
   have r:=hok.1.1.2 j hj
   have ee:Chart.el b.ac j=(p.1,1):=by simpa[Chart.el,List.getD,hj] using e
   unfold Chart.RowOk at r
   rw[ee] at r
   exact⟨r.1,kind_of_mem (right_one hok.1.1) (p.1,1) z⟩
  have e1:tot ((heldL b.bs i b.ac).map Prod.snd)=sumH (heldL b.bs i b.ac):=(sumH_tot _).symm
  have p1:∀x∈(heldL b.bs i b.ac).map Prod.snd,1≤x:=fun x hx=>by
   obtain⟨p,hp,rfl⟩:=List.mem_map.1 hx
   have:=(pos _ p hp).1;omega
  refine⟨⟨⟨by simp;omega,by simp;omega⟩,fun j hj=>?_,?_,?_⟩,e1.symm,by simp,by simp;omega,?_,?_,p1⟩
  ·have m:((heldL b.bs i b.ac).map Prod.snd).getD j 0∈(heldL b.bs i b.ac).map Prod.snd:=by
    simp only[List.getD,List.getElem?_eq_getElem hj,Option.getD_some];exact List.getElem_mem hj
   obtain⟨p,hp,e⟩:=List.mem_map.1 m
   rw[←e]
   exact wt p hp
  ·rw[S_tot]
   cases hh:heldL b.bs i b.ac with
   |nil=>exact absurd hh ne'
   |cons p r=>
    rw[hh] at p1
    have a:=p1 p.2 (by simp)
    have c:=tot_ge (r.map Prod.snd) fun x hx=>by have:=p1 x (by simp at hx⊢;exact .inr hx);omega
    simp only[List.map_cons,tot];omega
  ·rw[S_tot,e1];exact hs.2
  ·intro a ha
   obtain⟨p,hp,rfl⟩:=List.mem_map.1 ha
   exact(elem p hp).1
  ·intro a ha
   obtain⟨p,hp,rfl⟩:=List.mem_map.1 ha
   obtain⟨u,v,z⟩:=pos _ p hp
   exact⟨(elem p hp).2,by omega⟩
 ·cases e
def legsW(i:Int)(who ps:List Int):List T3:=List.zipWith (fun a p=>(a,i,p)) who ps
theorem legsW_len{i:Int}{who ps:List Int}(h:ps.length=who.length):(legsW i who ps).length=who.length:=by
 simp[legsW,h]
theorem legsW_sum(i j:Int):∀who ps:List Int,ps.length=who.length→Bals.sumI (legsW i who ps) j=if i=j then tot ps else 0
 |[],[],_=>by simp[legsW,Bals.sumI,tot]
 |a::r,p::s,h=>by
  have:=legsW_sum i j r s (by simpa using h)
  simp only[legsW,List.zipWith_cons_cons,Bals.sumI,tot] at this⊢
  rw[this]
  split<;>omega
 |[],p::s,h=>by simp at h
 |a::r,[],h=>by simp at h
theorem legsW_mem{i:Int}:∀{who ps:List Int} {q:T3},q∈legsW i who ps→q.1∈who∧q.2.1=i∧q.2.2∈ps
 |[],ps,q,h=>by simp[legsW] at h
 |a::r,[],q,h=>by simp[legsW] at h
 |a::r,p::s,q,h=>by
  simp only[legsW,List.zipWith_cons_cons,List.mem_cons] at h
  rcases h with rfl|h
  ·simp
  ·obtain⟨x,y,z⟩:=legsW_mem (who:=r) (ps:=s) h
   exact⟨by simp[x],y,by simp[z]⟩
theorem legsW_next{i:Int}{who ps:List Int}{k:Nat}(h:k<who.length)(hl:ps.length=who.length):legsW i (who.take (k+1)) (ps.take (k+1))=legsW i (who.take k) (ps.take k)++[(who.getD k 0,i,ps.getD k 0)]:=by
 rw[List.take_succ_eq_append_getElem h,List.take_succ_eq_append_getElem (by omega)]
 unfold legsW
 rw[List.zipWith_append (by simp;omega)]
 simp[List.getD,h,show k<ps.length by omega]
def legsP(payer cash t:Int)(who ps:List Int):List T3:=(payer,cash,-t)::legsW cash who ps
def PayNone(b:Bk)(paper cash payer:Int):Prop:=kindOf b.ac payer=0∨kindOf b.ic paper=0∨kindOf b.ic cash=0
def PayKind(b:Bk)(paper cash payer:Int):Prop:=kindOf b.ac payer≠2∨kindOf b.ic paper≠2∨kindOf b.ic cash≠1
def IsPay(b:Bk)(paper cash payer t:Int)(b':Bk)(n c:Int):Prop:=
 (PayNone b paper cash payer∧b'=b∧n=0∧c=3)∨
 (¬PayNone b paper cash payer∧PayKind b paper cash payer∧b'=b∧n=0∧c=4)∨
 (¬PayNone b paper cash payer∧¬PayKind b paper cash payer∧∃who what all ok,IsHeld b paper who what all ok∧((ok=false∧b'=b∧n=0∧c=8)∨
  (ok=true∧who=[]∧b'=b∧n=0∧c=5)∨
  (ok=true∧who≠[]∧∃ps,STells t what ps true∧∃b1 c1,IsPosted b (legsP payer cash t who ps) b1 c1∧((c1≠0∧b'=b∧n=0∧c=c1)∨(c1=0∧b'=b1∧n=who.length∧c=0)))))
theorem IsPay.same{b b1 b2:Bk}{p q y t g1 g2 c1 c2:Int}(h:IsPay b p q y t b1 g1 c1)(k:IsPay b p q y t b2 g2 c2):b1=b2∧g1=g2∧c1=c2:=by
 rcases h with⟨h,rfl,rfl,rfl⟩|⟨h,h2,rfl,rfl,rfl⟩|⟨h,h2,w1,w2,al,ok,ht,h'⟩<;>rcases k with⟨k,rfl,rfl,rfl⟩|⟨k,k2,rfl,rfl,rfl⟩|⟨k,k2,v1,v2,al',ok',kt,k'⟩<;>
  first|exact⟨rfl,rfl,rfl⟩|exact absurd h k|exact absurd k h|exact absurd h2 k2|exact absurd k2 h2|skip
 obtain⟨rfl,rfl,rfl,rfl⟩:=ht.same kt
 rcases h' with⟨h3,rfl,rfl,rfl⟩|⟨h3,h4,rfl,rfl,rfl⟩|⟨h3,h4,ps,hs,d1,e1,hp,h'⟩<;>rcases k' with⟨k3,rfl,rfl,rfl⟩|⟨k3,k4,rfl,rfl,rfl⟩|⟨k3,k4,ps',ks,d2,e2,kp,k'⟩<;>
  first|exact⟨rfl,rfl,rfl⟩|(exfalso;rw[h3] at k3;exact absurd k3 (by decide))|exact absurd h4 k4|exact absurd k4 h4|skip
 obtain rfl:=(hs.unique ks).1
 obtain⟨rfl,rfl⟩:=hp.same kp
 rcases h' with⟨h4,rfl,rfl,rfl⟩|⟨h4,rfl,rfl,rfl⟩<;>rcases k' with⟨k4,rfl,rfl,rfl⟩|⟨k4,rfl,rfl,rfl⟩
 ·exact⟨rfl,rfl,rfl⟩
 ·exact absurd k4 h4
 ·exact absurd h4 k4
 ·exact⟨rfl,rfl,rfl⟩
end Pay
namespace Split
open Bks Weigh Quota Order Parts SHeld Pay
open Bals (T3 val Amt)
open Tup5 (T5)
open Lots (NoOk)
open MulC (Tells)
def moreL(ps what:List Int):List Int:=List.zipWith (fun p q=>p-q) ps what
theorem moreL_len{ps what:List Int}(h:ps.length=what.length):(moreL ps what).length=ps.length:=by simp[moreL,h]
theorem moreL_tot:∀ps what:List Int,ps.length=what.length→tot (moreL ps what)=tot ps-tot what
 |[],[],_=>by simp[moreL,tot]
 |p::r,q::s,h=>by
  have:=moreL_tot r s (by simpa using h)
  simp only[moreL,List.zipWith_cons_cons,tot] at this⊢
  omega
 |[],q::s,h=>by simp at h
 |p::r,[],h=>by simp at h
theorem moreL_mem:∀{ps what:List Int} {y:Int},y∈moreL ps what→∃p∈ps,∃q∈what,y=p-q
 |[],what,y,h=>by simp[moreL] at h
 |p::r,[],y,h=>by simp[moreL] at h
 |p::r,q::s,y,h=>by
  simp only[moreL,List.zipWith_cons_cons,List.mem_cons] at h
  rcases h with rfl|h
  ·exact⟨p,by simp,q,by simp,rfl⟩
  ·obtain⟨a,ha,b,hb,e⟩:=moreL_mem (ps:=r) (what:=s) h
   exact⟨a,by simp[ha],b,by simp[hb],e⟩
theorem moreL_getD{ps what:List Int}{k:Nat}(h:k<ps.length)(hl:ps.length=what.length):(moreL ps what).getD k 0=ps.getD k 0-what.getD k 0:=by
 have hz:k<(List.zipWith (fun p q:Int=>p-q) ps what).length:=by simp;omega
 simp[moreL,List.getD,h,show k<what.length by omega,List.getElem?_eq_getElem hz]
def legsS(issuer paper have' all:Int)(who what ps:List Int):List T3:=legsW paper who (moreL ps what)++[(issuer,paper,have'-all)]
theorem legsS_even{issuer paper hv all:Int}{who what ps:List Int}(h1:ps.length=what.length)(h2:who.length=what.length)(hp:tot ps=all)(hw:tot what=hv):Bals.Even (legsS issuer paper hv all who what ps):=by
 intro j
 unfold legsS
 rw[Bals.sumI_append,legsW_sum paper j who _ (by rw[moreL_len h1];omega),moreL_tot _ _ h1,hp,hw]
 simp only[Bals.sumI]
 split<;>omega
theorem legsS_formed{issuer paper hv all:Int}{who what ps:List Int}(h1:NoOk issuer)(h2:NoOk paper)(a0:0≤all)(a1:all≤1000000000000000)(v0:0≤hv)(v1:hv≤1000000000000000)(e1:ps.length=what.length)(e2:who.length=what.length)(h20:who.length≤20)(hw:∀a∈who,NoOk a)(hp:∀p∈ps,0≤p∧p≤all)(hq:∀q∈what,0≤q∧q≤1000000000000000):Bals.Formed (legsS issuer paper hv all who what ps):=by
 refine⟨by have:=legsW_len (i:=paper) (who:=who) (ps:=moreL ps what) (by rw[moreL_len e1];omega);simp[legsS];omega,fun k hk=>?_⟩
 have m:Bals.el3 (legsS issuer paper hv all who what ps) k∈legsS issuer paper hv all who what ps:=Bals.getD_mem hk
 unfold Bals.LegOk
 generalize Bals.el3 (legsS issuer paper hv all who what ps) k=q at m
 rcases List.mem_append.1 m with m|m
 ·obtain⟨a,e,p⟩:=legsW_mem m
  obtain⟨p1,hp1,q1,hq1,e3⟩:=moreL_mem p
  have:=hp _ hp1
  have:=hq _ hq1
  exact⟨hw _ a,by rw[e];exact h2,by omega,by omega⟩
 ·have e:q=(issuer,paper,hv-all):=by simpa using m
  subst e
  exact⟨h1,h2,by simp only;omega,by simp only;omega⟩
def IsSc(ls:List T5)(a i q:Int)(ls':List T5)(d:Int):Prop:=
 ∃(R:List T5) (ss:List Int) (okS bad short full:Bool),Lots.Says bad (¬SScale.ScaleOk ls q)∧Lots.Says short ((Lots.ownL ls a i).length=0∧0<q)∧Lots.Says full (40<(Lots.ownL ls a i).length)∧STells q (SScale.qtys (Lots.ownL ls a i)) ss okS∧R=Lots.mergeL ((Lots.restL ls a i).length+(Scale.scaleL (Lots.ownL ls a i) ss).length) (Lots.restL ls a i) (Scale.scaleL (Lots.ownL ls a i) ss)∧ls'=SScale.scaleA ls R bad short full∧d=SScale.scaleD bad short full
theorem says_same{b c:Bool}{p:Prop}(h:Lots.Says b p)(k:Lots.Says c p):b=c:=by
 cases b<;>cases c
 ·rfl
 ·exact absurd k.yes h.no
 ·exact absurd h.yes k.no
 ·rfl
theorem IsSc.same{ls l1 l2:List T5}{a i q d1 d2:Int}(h:IsSc ls a i q l1 d1)(k:IsSc ls a i q l2 d2):l1=l2∧d1=d2:=by
 obtain⟨R,ss,o,x,y,z,h1,h2,h3,h4,rfl,rfl,rfl⟩:=h
 obtain⟨R',ss',o',x',y',z',k1,k2,k3,k4,rfl,rfl,rfl⟩:=k
 obtain rfl:=says_same h1 k1
 obtain rfl:=says_same h2 k2
 obtain rfl:=says_same h3 k3
 obtain⟨rfl,rfl⟩:=h4.unique k4
 exact⟨rfl,rfl⟩
theorem IsSc.of(ls:List T5)(a i q:Int):∃ls' d,IsSc ls a i q ls' d:=by
 obtain⟨ss,o,st⟩:=OrderEx.stells_ex q (SScale.qtys (Lots.ownL ls a i))
 obtain⟨x,hx⟩:=Lots.says_of (¬SScale.ScaleOk ls q)
 obtain⟨y,hy⟩:=Lots.says_of ((Lots.ownL ls a i).length=0∧0<q)
 obtain⟨z,hz⟩:=Lots.says_of (40<(Lots.ownL ls a i).length)
 exact⟨_,_,_,ss,o,x,y,z,hx,hy,hz,st,rfl,rfl,rfl⟩
def ScAll(i:Int):List (Int×Int)→List T5→List T5→Int→Prop
 |[],ls,ls',c=>ls'=ls∧c=0
 |p::r,ls,ls',c=>∃l1 d,IsSc ls p.1 i p.2 l1 d∧((d≠0∧ls'=l1∧c=7)∨(d=0∧ScAll i r l1 ls' c))
theorem ScAll.same{i:Int}:∀{r:List (Int×Int)} {ls l1 l2:List T5} {c1 c2:Int},ScAll i r ls l1 c1→ScAll i r ls l2 c2→l1=l2∧c1=c2
 |[],ls,l1,l2,c1,c2,h,k=>⟨h.1.trans k.1.symm,h.2.trans k.2.symm⟩
 |p::r,ls,l1,l2,c1,c2,⟨x,d,h,h'⟩,⟨y,e,k,k'⟩=>by
  obtain⟨rfl,rfl⟩:=h.same k
  rcases h' with⟨a,rfl,rfl⟩|⟨a,h'⟩<;>rcases k' with⟨b,rfl,rfl⟩|⟨b,k'⟩
  ·exact⟨rfl,rfl⟩
  ·exact absurd b a
  ·exact absurd a b
  ·exact ScAll.same h' k'
theorem ScAll.more{i:Int}:∀{r:List (Int×Int)} {ls l1 l2:List T5} {p:Int×Int} {d:Int},ScAll i r ls l1 0→IsSc l1 p.1 i p.2 l2 d→ScAll i (r++[p]) ls l2 (if d=0 then 0 else 7)
 |[],ls,l1,l2,p,d,h,k=>by
  obtain rfl:l1=ls:=h.1
  refine⟨l2,d,k,?_⟩
  by_cases z:d=0
  ·exact .inr ⟨z,rfl,by rw[if_pos z]⟩
  ·exact .inl ⟨z,rfl,by rw[if_neg z]⟩
 |q::r,ls,l1,l2,p,d,⟨x,e,h,h'⟩,k=>by
  rcases h' with⟨_,_,c⟩|⟨a,h'⟩
  ·exact absurd c (by decide)
  ·exact⟨x,e,h,.inr ⟨a,ScAll.more h' k⟩⟩
theorem ScAll.stop{i:Int}:∀{r s:List (Int×Int)} {ls l1:List T5},ScAll i r ls l1 7→ScAll i (r++s) ls l1 7
 |[],s,ls,l1,⟨_,c⟩=>absurd c (by decide)
 |q::r,s,ls,l1,⟨x,e,h,h'⟩=>by
  rcases h' with h'|⟨a,h'⟩
  ·exact⟨x,e,h,.inl h'⟩
  ·exact⟨x,e,h,.inr ⟨a,ScAll.stop h'⟩⟩
def SplNone(b:Bk)(paper issuer:Int):Prop:=kindOf b.ac issuer=0∨kindOf b.ic paper=0
def SplKind(b:Bk)(paper issuer:Int):Prop:=kindOf b.ac issuer≠2∨kindOf b.ic paper≠2
def IsSplit(b:Bk)(paper n d issuer:Int)(b':Bk)(m c:Int):Prop:=
 (SplNone b paper issuer∧b'=b∧m=0∧c=3)∨
 (¬SplNone b paper issuer∧SplKind b paper issuer∧b'=b∧m=0∧c=4)∨
 (¬SplNone b paper issuer∧¬SplKind b paper issuer∧∃who what hv ok,IsHeld b paper who what hv ok∧((ok=false∧b'=b∧m=0∧c=8)∨
  (ok=true∧who=[]∧b'=b∧m=0∧c=5)∨
  (ok=true∧who≠[]∧∃all r fine,Tells hv n d all r fine∧((fine=false∧b'=b∧m=0∧c=8)∨
   (fine=true∧∃ps,STells all what ps true∧∃b1 c1,IsPosted b (legsS issuer paper hv all who what ps) b1 c1∧((c1≠0∧b'=b∧m=0∧c=c1)∨
    (c1=0∧∃ls c2,ScAll paper (who.zip ps) b1.ls ls c2∧((c2≠0∧b'=b∧m=0∧c=c2)∨(c2=0∧b'={b1 with ls:=ls}∧m=all∧c=0)))))))))
theorem IsSplit.same{b b1 b2:Bk}{p n d y g1 g2 c1 c2:Int}(h:IsSplit b p n d y b1 g1 c1)(k:IsSplit b p n d y b2 g2 c2):b1=b2∧g1=g2∧c1=c2:=by
 rcases h with⟨h,rfl,rfl,rfl⟩|⟨h,h2,rfl,rfl,rfl⟩|⟨h,h2,w1,w2,al,ok,ht,h'⟩<;>rcases k with⟨k,rfl,rfl,rfl⟩|⟨k,k2,rfl,rfl,rfl⟩|⟨k,k2,v1,v2,al',ok',kt,k'⟩<;>
  first|exact⟨rfl,rfl,rfl⟩|exact absurd h k|exact absurd k h|exact absurd h2 k2|exact absurd k2 h2|skip
 obtain⟨rfl,rfl,rfl,rfl⟩:=ht.same kt
 rcases h' with⟨h3,rfl,rfl,rfl⟩|⟨h3,h4,rfl,rfl,rfl⟩|⟨h3,h4,q,r,f,hs,h'⟩<;>rcases k' with⟨k3,rfl,rfl,rfl⟩|⟨k3,k4,rfl,rfl,rfl⟩|⟨k3,k4,q',r',f',ks,k'⟩<;>
  first|exact⟨rfl,rfl,rfl⟩|(exfalso;rw[h3] at k3;exact absurd k3 (by decide))|exact absurd h4 k4|exact absurd k4 h4|skip
 obtain⟨rfl,rfl,rfl⟩:=Corp.tells_same hs ks
 rcases h' with⟨h5,rfl,rfl,rfl⟩|⟨h5,ps,hs,d1,e1,hp,h'⟩<;>rcases k' with⟨k5,rfl,rfl,rfl⟩|⟨k5,ps',ks,d2,e2,kp,k'⟩<;>
  first|exact⟨rfl,rfl,rfl⟩|(exfalso;rw[h5] at k5;exact absurd k5 (by decide))|skip
 obtain rfl:=(hs.unique ks).1
 obtain⟨rfl,rfl⟩:=hp.same kp
 rcases h' with⟨h6,rfl,rfl,rfl⟩|⟨h6,l1,e,hc,h'⟩<;>rcases k' with⟨k6,rfl,rfl,rfl⟩|⟨k6,l2,e',kc,k'⟩<;>
  first|exact⟨rfl,rfl,rfl⟩|exact absurd h6 k6|exact absurd k6 h6|skip
 obtain⟨rfl,rfl⟩:=hc.same kc
 rcases h' with⟨h4,rfl,rfl,rfl⟩|⟨h4,rfl,rfl,rfl⟩<;>rcases k' with⟨k4,rfl,rfl,rfl⟩|⟨k4,rfl,rfl,rfl⟩
 ·exact⟨rfl,rfl,rfl⟩
 ·exact absurd k4 h4
 ·exact absurd h4 k4
 ·exact⟨rfl,rfl,rfl⟩
end Split
end Go.Proofs.YtnmeiiaipacplaaGreat
