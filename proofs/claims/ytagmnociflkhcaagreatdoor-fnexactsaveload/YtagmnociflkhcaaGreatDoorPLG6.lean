/- Texts of one proof, one behind the other: Lay, Sort3, Out, Post, Entry, ILotsFit, IReadV13, IHaveV13, IBalsFitV13, ILotsFitV13, IBooksOkV13, ITab13, IRead13, IFace13, ISaveLoad16. -/
import Derived.Test.YtagmnociflkhcaaGreatDoorRows
import Derived.Test.YtagmnociflkhcaaGreatDoorCards
import Derived.Test.YtagmnociflkhcaaGreatDoorTie
import Derived.Test.YtagmnociflkhcaaGreatDoorPLG1
import Derived.Test.YtagmnociflkhcaaGreatDoorPLG2
import Derived.Test.YtagmnociflkhcaaGreatDoorPLG3
import Derived.Test.YtagmnociflkhcaaGreatDoorPLG4
import Derived.Test.YtagmnociflkhcaaGreatDoorPLG5
import Derived.Shelf.SlGeneric
import Derived.Shelf.SlSortCmp.WholeK
import Derived.Ground.SlsfProg
import Derived.WideKeyEntry
import Derived.Deep.RegionHeld3
import Derived.Defers
import Derived.Recover
import Derived.Handy
set_option linter.unusedVariables false
set_option linter.unusedSimpArgs false
open Go.ChangeShapes Go.WideShapes Go.ChangeAt Go.RowKit
set_option maxRecDepth 100000
set_option maxHeartbeats 32000000
namespace Go.Proofs
open Go.Shelf
def Tryz.sortL_ren : Go.Shelf.Ren := ⟨fun | 6 => 139 | 15 => 151 | 14 => 150 | 28 => 164 | 29 => 165 | 20 => 156 | 21 => 157 | 22 => 158 | 23 => 159 | 24 => 160 | 25 => 161 | 26 => 162 | 27 => 163 | 46 => 170 | 47 => 171 | 48 => 172 | 49 => 173 | 50 => 174 | 57 => 175 | n => n, fun | 22 => 28 | 24 => 78 | 25 => 169 | 3 => 3 | 39 => 68 | 0 => 0 | 53 => 186 | 55 => 188 | 4 => 4 | 46 => 180 | 45 => 179 | 50 => 93 | 5 => 5 | 9 => 9 | 66 => 193 | 70 => 90 | 76 => 198 | 77 => 199 | n => n, fun | n => n⟩
theorem Tryz.sortL : Go.Proofs.SlLaysF0.n6 Tryz.prog Tryz.sortL_ren := {
  mixed := by kernel_rfl
  f6 := ⟨Tryz.f139.name, by decide, Tryz.func139.trans (congrArg some (by kernel_rfl))⟩
  f14 := ⟨Tryz.f150.name, by decide, Tryz.func150.trans (congrArg some (by kernel_rfl))⟩
  f15 := Tryz.func151.trans (congrArg some (by kernel_rfl))
  f20 := ⟨Tryz.f156.name, by decide, Tryz.func156.trans (congrArg some (by kernel_rfl))⟩
  f21 := ⟨Tryz.f157.name, by decide, Tryz.func157.trans (congrArg some (by kernel_rfl))⟩
  f22 := ⟨Tryz.f158.name, by decide, Tryz.func158.trans (congrArg some (by kernel_rfl))⟩
  f23 := ⟨Tryz.f159.name, by decide, Tryz.func159.trans (congrArg some (by kernel_rfl))⟩
  f24 := ⟨Tryz.f160.name, by decide, Tryz.func160.trans (congrArg some (by kernel_rfl))⟩
  f25 := ⟨Tryz.f161.name, by decide, Tryz.func161.trans (congrArg some (by kernel_rfl))⟩
  f26 := ⟨Tryz.f162.name, by decide, Tryz.func162.trans (congrArg some (by kernel_rfl))⟩
  f27 := ⟨Tryz.f163.name, by decide, Tryz.func163.trans (congrArg some (by kernel_rfl))⟩
  f28 := Tryz.func164.trans (congrArg some (by kernel_rfl))
  f29 := Tryz.func165.trans (congrArg some (by kernel_rfl))
  f46 := ⟨Tryz.f170.name, by decide, Tryz.func170.trans (congrArg some (by kernel_rfl))⟩
  f47 := Tryz.func171.trans (congrArg some (by kernel_rfl))
  f48 := Tryz.func172.trans (congrArg some (by kernel_rfl))
  f49 := ⟨Tryz.f173.name, by decide, Tryz.func173.trans (congrArg some (by kernel_rfl))⟩
  f50 := ⟨Tryz.f174.name, by decide, Tryz.func174.trans (congrArg some (by kernel_rfl))⟩
  f57 := ⟨Tryz.f175.name, by decide, Tryz.func175.trans (congrArg some (by kernel_rfl))⟩
  t0 := Tryz.underlying0
  a0 := Tryz.isAgg0
  z0 := Tryz.sizeOf0
  v0 := Tryz.zeroValue0
  t3 := Tryz.underlying3
  a3 := Tryz.isAgg3
  z3 := Tryz.sizeOf3
  v3 := Tryz.zeroValue3
  t4 := Tryz.underlying4
  a4 := Tryz.isAgg4
  z4 := Tryz.sizeOf4
  v4 := Tryz.zeroValue4
  t5 := Tryz.underlying5
  a5 := Tryz.isAgg5
  z5 := Tryz.sizeOf5
  v5 := Tryz.zeroValue5
  t9 := Tryz.underlying9
  a9 := Tryz.isAgg9
  z9 := Tryz.sizeOf9
  v9 := Tryz.zeroValue9
  t22 := Tryz.underlying28
  a22 := Tryz.isAgg28
  z22 := Tryz.sizeOf28
  v22 := Tryz.zeroValue28
  t25 := Tryz.underlying169
  a25 := Tryz.isAgg169
  z25 := Tryz.sizeOf169
  v25 := Tryz.zeroValue169
  t39 := Tryz.underlying68
  a39 := Tryz.isAgg68
  z39 := Tryz.sizeOf68
  v39 := Tryz.zeroValue68
  t45 := Tryz.underlying179
  a45 := Tryz.isAgg179
  z45 := Tryz.sizeOf179
  v45 := Tryz.zeroValue179
  t46 := Tryz.underlying180
  a46 := Tryz.isAgg180
  z46 := Tryz.sizeOf180
  v46 := Tryz.zeroValue180
  t50 := Tryz.underlying93
  a50 := Tryz.isAgg93
  z50 := Tryz.sizeOf93
  v50 := Tryz.zeroValue93
  t53 := Tryz.underlying186
  a53 := Tryz.isAgg186
  z53 := Tryz.sizeOf186
  v53 := Tryz.zeroValue186
  t55 := Tryz.underlying188
  a55 := Tryz.isAgg188
  z55 := Tryz.sizeOf188
  v55 := Tryz.zeroValue188
  t66 := Tryz.underlying193
  a66 := Tryz.isAgg193
  z66 := Tryz.sizeOf193
  v66 := Tryz.zeroValue193
  t70 := Tryz.underlying90
  a70 := Tryz.isAgg90
  z70 := Tryz.sizeOf90
  v70 := Tryz.zeroValue90
  t76 := Tryz.underlying198
  a76 := Tryz.isAgg198
  z76 := Tryz.sizeOf198
  v76 := Tryz.zeroValue198
  t77 := Tryz.underlying199
  a77 := Tryz.isAgg199
  z77 := Tryz.sizeOf199
  v77 := Tryz.zeroValue199 }
end Go.Proofs
namespace Go.Proofs.YtagmnociflkhcaaGreatDoor
namespace Sort3
open Bals Triples Cmp
open Go.Sort (putRow putCells mapBlock onCells Holds SWO PermIn SortedIn grow flatK get_flatK size_flatK HoldsK)
def enc(p:T3):List Value:=[.int .i64 p.1,.int .i64 p.2.1,.int .i64 p.2.2]
def cf(p q:T3):Int:=cmpK p.1 p.2.1 q.1 q.2.1
theorem lt_iff(p q:T3):ltOf cf p q=true↔Bef p q:=by
 unfold ltOf cf Bef
 rw[decide_eq_true_eq,cmpK_lt]
theorem lt_not(p q:T3):ltOf cf p q=false↔¬Bef p q:=by
 rw[←lt_iff]
 simp
theorem swo:SWO (ltOf cf) where
 irrefl x:=by rw[lt_not];exact bef_irrefl x
 trans x y z h1 h2:=by rw[lt_iff] at *;exact bef_trans h1 h2
 ntrans x y z h1 h2:=by rw[lt_not] at *;unfold Bef at *;omega
theorem flat_flatK(d:Array T3):(flatK enc 3 d).toList=flat3 d.toList:=by
 apply List.ext_getElem?
 intro t
 by_cases ht:t<d.size*3
 ·have e1:(flatK enc 3 d).toList[t]?=some ((enc d[t/3]!)[t%3]!):=by
   have:=get_flatK enc 3 d t ht
   rw[getElem!_pos _ t (by simpa using ht)] at this
   simp only[Array.getElem?_toList]
   rw[Array.getElem?_eq_getElem (by simpa using ht),this]
  have hq:t/3<d.size:=by omega
  have e2:el3 d.toList (t/3)=d[t/3]! :=by
   rw[getElem!_pos d (t/3) hq]
   simp[el3,List.getD,hq]
  obtain⟨f0,f1,f2⟩:=flat3_get d.toList (t/3) (by simpa using hq)
  rw[e2] at f0 f1 f2
  rw[e1]
  rcases(show t%3=0∨t%3=1∨t%3=2 by omega) with e|e|e
  ·rw[show t/3*3=t by omega] at f0
   rw[f0,e];rfl
  ·rw[show t/3*3+1=t by omega] at f1
   rw[f1,e];rfl
  ·rw[show t/3*3+2=t by omega] at f2
   rw[f2,e];rfl
 ·rw[List.getElem?_eq_none (by simp;omega),List.getElem?_eq_none (by rw[flat3_len];simp;omega)]
theorem sw_heap(w:World)(blk q:Nat)(d:Array T3)(os:Array Obj):(sortWorldK enc 3 w blk 0 q d os).heap=(w.heap.modify blk (onCells (putCells id 0 (flatK enc 3 d))))++os:=rfl
theorem sw_other(w:World)(blk q:Nat)(d:Array T3)(os:Array Obj)(k:Nat)(hk:k<w.heap.size)(hne:k≠blk):(sortWorldK enc 3 w blk 0 q d os).heap[k]?=w.heap[k]?:=by
 rw[sw_heap,Array.getElem?_append_left (by simpa using hk),Array.getElem?_modify,if_neg (Ne.symm hne)]
theorem sw_same(w:World)(blk q:Nat)(d:Array T3)(os:Array Obj)(cur:Array Value)(e:TypeId)(fr:Nat×Nat)(h:w.heap[blk]?=some (.cells cur e fr)):(sortWorldK enc 3 w blk 0 q d os).heap[blk]?=some (.cells (putCells id 0 (flatK enc 3 d) cur) e fr):=by
 have hb:blk<w.heap.size:=(Array.getElem?_eq_some_iff.1 h).1
 rw[sw_heap,Array.getElem?_append_left (by simpa using hb),Array.getElem?_modify,if_pos rfl,h]
 rfl
theorem sw_below(w:World)(blk q:Nat)(d:Array T3)(os:Array Obj)(hb:blk<w.heap.size):Below blk w (sortWorldK enc 3 w blk 0 q d os):=by
 refine⟨rfl,rfl,rfl,?_,fun k hk=>?_⟩
 ·rw[sw_heap];simp
 ·exact sw_other w blk q d os k (by omega) (by omega)
theorem put_take(F cur:Array Value)(h:F.size≤cur.size):(putCells id 0 F cur).toList.take F.size=F.toList:=by
 apply List.ext_getElem?
 intro i
 by_cases hi:i<F.size
 ·rw[List.getElem?_take,if_pos hi]
  have e1:(putCells id 0 F cur).toList[i]?=some F[i]! :=by
   simp[putCells,hi,show i<cur.size by omega]
  rw[e1,getElem!_pos F i hi]
  simp[hi]
 ·rw[List.getElem?_take,if_neg hi,List.getElem?_eq_none (by simp;omega)]
theorem own_sorted(w:World)(base blk n cap q:Nat)(d:Array T3)(os:Array Obj)(ps:List T3)(hd:d.size=n)(h:Own3 78 w base blk n cap ps):
  Own3 78 (sortWorldK enc 3 w blk 0 q d os) base blk n cap d.toList:=by
 refine⟨by rw[flat3_len];simp[hd],?_⟩
 rcases h.2 with⟨z,_⟩|⟨g',c,cur,z,hb,hc,h1,h2,h3,h4⟩
 ·simp at z
 ·obtain⟨rfl,rfl⟩:blk=g'∧cap=c:=by simpa using z
  refine Or.inr ⟨blk,cap,_,rfl,hb,sw_same w blk q d os cur 78 (0,0) hc,h1,h2,by simpa[putCells] using h3,?_⟩
  have:=put_take (flatK enc 3 d) cur (by rw[size_flatK,hd,h3];exact Nat.mul_le_mul_right 3 h1)
  rw[size_flatK,hd,flat_flatK] at this
  exact this
theorem holds_of(w:World)(base blk n cap:Nat)(ps:List T3)(h:Own3 78 w base blk n cap ps):HoldsK enc 3 w blk 0 ps.toArray:=by
 intro j hj
 have hl:=h.len
 have hj':j<n*3:=by simpa[hl] using hj
 refine⟨?_,by simpa using h.free (0+j)⟩
 rw[Nat.zero_add]
 have e:=World.ownsRow.cellAt h j hj'
 rw[e]
 have f:=flat_flatK ps.toArray
 have g:flat3 ps=(flatK enc 3 ps.toArray).toList:=by rw[f]
 rw[g,Array.getElem?_toList,Array.getElem?_eq_getElem hj,getElem!_pos _ j hj]
 rfl
theorem closure(x y:T3)(w:World):Calls Tryz.prog 140 #[.agg #[.int .i64 x.1,.int .i64 x.2.1,.int .i64 x.2.2],.agg #[.int .i64 y.1,.int .i64 y.2.1,.int .i64 y.2.2]] w fun e w'=>e= .returned (.int .i64 (cf x y))∧∃q os,w'=grow (w.drewN q) os:=by
 obtain⟨a,i,p⟩:=x
 obtain⟨b,j,q⟩:=y
 go_enter Tryz.func140,Tryz.ntmps140
 go_wp2_with fail
 refine(compareG a i b j _).mono ?_
 rintro e w1 ⟨rfl,n,os,rfl⟩
 go_wp2
 go_ret
 refine⟨rfl,n,#[.cells #[.int .i64 a,.int .i64 i,.int .i64 p] 78]++ #[.cells #[.int .i64 b,.int .i64 j,.int .i64 q] 78]++os,?_⟩
 rw[Go.Sort.alloc_eq_grow,Go.Sort.alloc_eq_grow,Go.Sort.grow_grow]
 exact Go.Sort.grow_grow (w.drewN n) _ _
theorem cmpLays(blk size:Nat)(w:World):CmpLays Tryz.prog 140 #[] enc 3 cf blk 0 size w:=fun _ _ _ _ x y=>closure x y _
theorem sorts(w:World)(base blk n cap:Nat)(ps:List T3)(hn:n≤1048576)(ho:Own3 78 w base blk n cap ps):
  Calls Tryz.prog 139 #[.slice (some ⟨blk,0,none⟩) n cap,.func (.func 140) #[] #[]] w fun e w'=>
   e= .returned (.tuple #[])∧∃qs,qs.Perm ps∧qs.Pairwise (fun p q=>¬Bef q p)∧Own3 78 w' base blk n cap qs∧Below blk w w':=by
 have hl:=ho.len
 have hs:ps.toArray.size=n:=by simpa using hl
 have eg:∀args w,(callFunc 140 args).run Tryz.prog w= .ok (.enter 140 args) w:=enters_of Tryz.func140 (by kernel_rfl) rfl
 have hcon:=AnyQ.slices_SortFunc Tryz.sortL 3 Tryz.isAgg78 Tryz.sizeOf78 enc (fun _=>rfl) (fun x v hv=>by simp[enc] at hv;rcases hv with rfl|rfl|rfl<;>rfl) cf swo 140 #[] blk 0 cap ps.toArray w eg (cmpLays blk _ w) (holds_of w base blk n cap ps ho) ho.lt.2 (by rw[hs];omega)
 change Calls Tryz.prog 139 _ _ _ at hcon
 rw[hs] at hcon
 refine hcon.mono ?_
 rintro e w' ⟨rfl,d',q,os,hp,hso,rfl⟩
 have hd:d'.size=n:=hp.1.trans hs
 refine⟨rfl,d'.toList,?_,?_,own_sorted w base blk n cap q d' os ps hd ho,sw_below w blk q d' os ho.lt.2⟩
 ·have:=hp.2.2
  rw[Array.extract_eq_self_of_le (by omega),Array.extract_eq_self_of_le (by omega)] at this
  simpa using this
 ·rw[List.pairwise_iff_getElem]
  intro i j hi hj hij
  have hj':j<d'.size:=by simpa using hj
  have:=hso i j (Nat.zero_le _) hij (by omega)
  rw[getElem!_pos d' j hj',getElem!_pos d' i (by omega),lt_not] at this
  simpa using this
end Sort3
namespace Out
open Bals Triples Cmp Tab Look Sort3
def Coll(qs:List T3)(f:Int→Int→Int)(left:Int→Int→Bool):Prop:=
 qs.Pairwise (fun p q=>other p q)∧∀p:T3,p∈qs↔p.2.2≠0∧f p.1 p.2.1=p.2.2∧Wf p.1 p.2.1∧left p.1 p.2.1=false
theorem coll_start{f:Int→Int→Int}{left:Int→Int→Bool}(h:∀a i,f a i≠0→left a i=true):Coll [] f left:=by
 refine⟨List.Pairwise.nil,fun p=>⟨fun h=>absurd h List.not_mem_nil,fun⟨h1,h2,_,h3⟩=>?_⟩⟩
 rw[h p.1 p.2.1 (by rw[h2];exact h1)] at h3
 cases h3
theorem coll_zero{qs:List T3}{f:Int→Int→Int}{left left':Int→Int→Bool}{a i:Int}(h:Coll qs f left)(hl:∀b j,Wf b j→left' b j=(left b j&& !decide (b=a∧j=i)))(hz:f a i=0):Coll qs f left':=by
 refine⟨h.1,fun p=>?_⟩
 rw[h.2 p]
 constructor
 ·rintro⟨h1,h2,h3,h4⟩
  exact⟨h1,h2,h3,by rw[hl _ _ h3,h4];rfl⟩
 ·rintro⟨h1,h2,h3,h4⟩
  refine⟨h1,h2,h3,?_⟩
  rw[hl _ _ h3] at h4
  by_cases e:p.1=a∧p.2.1=i
  ·rw[e.1,e.2,hz] at h2
   exact absurd h2.symm h1
  ·simpa[e] using h4
theorem coll_more{qs:List T3}{f:Int→Int→Int}{left left':Int→Int→Bool}{a i:Int}(h:Coll qs f left)(hw:Wf a i)(hla:left a i=true)(hl:∀b j,Wf b j→left' b j=(left b j&& !decide (b=a∧j=i)))(hz:f a i≠0):Coll (qs++[(a,i,f a i)]) f left':=by
 refine⟨?_,fun p=>?_⟩
 ·rw[List.pairwise_append]
  refine⟨h.1,List.pairwise_singleton _ _,fun p hp q hq=>?_⟩
  rw[List.mem_singleton] at hq
  subst hq
  obtain⟨_,_,_,h4⟩:=(h.2 p).1 hp
  unfold other
  show a≠p.1∨i≠p.2.1
  refine Classical.byContradiction fun n=>?_
  have n1:p.1=a:=Classical.byContradiction fun q=>n (.inl (Ne.symm q))
  have n2:p.2.1=i:=Classical.byContradiction fun q=>n (.inr (Ne.symm q))
  rw[n1,n2,hla] at h4
  cases h4
 ·rw[List.mem_append,List.mem_singleton,h.2 p]
  constructor
  ·rintro(⟨h1,h2,h3,h4⟩|rfl)
   ·exact⟨h1,h2,h3,by rw[hl _ _ h3,h4];rfl⟩
   ·exact⟨hz,rfl,hw,by rw[hl _ _ hw];simp⟩
  ·rintro⟨h1,h2,h3,h4⟩
   by_cases e:p.1=a∧p.2.1=i
   ·obtain⟨p1,p2,p3⟩:=p
    obtain⟨rfl,rfl⟩:=e
    simp only at h2
    subst h2
    exact .inr rfl
   ·rw[hl _ _ h3] at h4
    exact .inl ⟨h1,h2,h3,by simpa[e] using h4⟩
theorem coll_end{qs rs:List T3}{f:Int→Int→Int}{left:Int→Int→Bool}(h:Coll qs f left)(hf:∀a i,f a i≠0→Wf a i)(hl:∀a i,Wf a i→left a i=false)(hp:rs.Perm qs)(hs:rs.Pairwise (fun p q=>¬Bef q p)):ListOf f rs:=by
 have hd:rs.Pairwise (fun p q=>other p q):=(hp.pairwise_iff (fun{a b} (o:other a b)=>by unfold other at o⊢;rcases o with o|o;exact .inl (Ne.symm o);exact .inr (Ne.symm o))).2 h.1
 have asc:rs.Pairwise Bef:=by
  rw[List.pairwise_iff_getElem] at hs hd⊢
  intro i j hi hj hij
  have h1:=hs i j hi hj hij
  have h2:=hd i j hi hj hij
  unfold other at h2
  unfold Bef at h1⊢
  omega
 have mem:∀p:T3,p∈rs↔p.2.2≠0∧f p.1 p.2.1=p.2.2:=fun p=>by
  rw[hp.mem_iff,h.2 p]
  constructor
  ·rintro⟨h1,h2,_⟩
   exact⟨h1,h2⟩
  ·rintro⟨h1,h2⟩
   have w:=hf p.1 p.2.1 (by rw[h2];exact h1)
   exact⟨h1,h2,w,hl _ _ w⟩
 refine⟨⟨asc,fun p hp'=>((mem p).1 hp').1⟩,fun a i=>?_⟩
 by_cases z:f a i=0
 ·rw[z]
  refine Classical.byContradiction fun nz=>?_
  have hm:=val_mem rs a i nz
  have:=((mem _).1 hm).2
  simp only at this
  rw[z] at this
  exact nz this.symm
 ·have hm:=(mem (a,i,f a i)).2 ⟨z,rfl⟩
  exact val_of_mem rs asc _ hm
theorem own_apart{e:TypeId}{w:World}{base g n cap:Nat}{ps:List T3}{B r m:Nat}{f:Int→Int→Int}{left:Int→Int→Bool}{cnt:Nat}(h:Own3 e w base g n cap ps)(k:RTab w B r m f left cnt):g≠B∧g≠r:=by
 obtain⟨D,lf,⟨es,clock,since,seen,c0,hb,_,_,_,hr,_⟩,_⟩:=k
 rcases h.2 with⟨z,_⟩|⟨g',c,cur,z,_,hc,_⟩
 ·simp at z
 ·obtain⟨rfl,rfl⟩:g=g'∧cap=c:=by simpa using z
  constructor
  ·intro e
   rw[e,hb] at hc
   simp at hc
  ·intro e
   rw[e,hr] at hc
   simp at hc
theorem Tab.wf{w:World}{B n:Nat}{f:Int→Int→Int}(h:Tab w B n f):∀a i,f a i≠0→Wf a i:=by
 obtain⟨D,_,h2⟩:=h
 exact h2.2
theorem iBals(w:World)(B n:Nat)(f:Int→Int→Int)(hn:n≤100000)(ht:Tab w B n f):
  Calls Tryz.prog 119 #[.map (some B)] w fun e w'=>∃qs g c,ListOf f qs∧qs.length≤n∧e= .returned (.slice (some ⟨g,0,none⟩) qs.length c)∧Own3 78 w' w.heap.size g qs.length c qs∧Below w.heap.size w w':=by
 have hB:=ht.lt
 have HWF:=zh (Tab.wf ht)
 have t1:=ht.kept (World.grownBy_alloc w (.cells #[] 78) none) (by simp)
 have HT:=zh t1
 have O0:=zh (lit30 78 w w.heap.size (Nat.le_refl _))
 have B0:=zh (show Below w.heap.size w (w.alloc (.cells #[] 78)) from(Below.refl _ _).alloc (Nat.le_refl _) _)
 clear ht t1
 go_enter Tryz.func119,Tryz.ntmps119
 go_wp2_with (first|(at_range;refine wp_range _ rfl _ 151 rfl Tryz.underlying151 B n f rfl (zu HT) ?_;intro w0 left0 cnt0 rt0 c0 lz0 g0 s0)|go_in)
 go_frame
 have RT:=zh rt0
 have CO:=zh (coll_start lz0)
 have O1:=zh ((zu O0).kept g0 (by simp))
 have B1:=zh (next (zu B0) (grownBy_below g0))
 clear rt0 lz0 g0 HT O0 B0
 simp only[World.size_alloc] at RT s0
 simp only[World.size_alloc]
 generalize hR:w.heap.size+1=R at *
 have hRl:w.heap.size<R:=by omega
 go_loopw [3,4,5] (fun l _ _ wr=>∃(qs:List T3) (g c:Nat) (left:Int→Int→Bool) (cnt:Nat),l= .slice (some ⟨g,0,none⟩) qs.length c∧Hid (Own3 78 wr w.heap.size g qs.length c qs)∧Hid (RTab wr B R n f left cnt)∧Hid (Coll qs f left)∧qs.length+cnt≤n∧Hid (Below w.heap.size w wr)) (fun _ _ _ wr=>wr.rangeLeft B R)
 case atStart=>exact⟨[],w.heap.size,0,left0,cnt0,rfl,O1,RT,CO,by simpa using c0,B1⟩
 case round=>
  clear RT CO O1 B1 c0 s0
  obtain⟨qs,g,c,left,cnt,rfl,HO,RT,CO,hc,HB⟩:=hrel
  go_wp2_with (first|(at_next;refine wp_next _ rfl _ rfl B R n f left cnt rfl (zu RT) ?_ ?_)|go_in)
  ·intro c0 l0
   have LZ:=zh l0
   have sz:=(zu HO).lt
   clear l0
   go_wp2_with fail
   refine(sorts _ w.heap.size g qs.length c qs (by omega) (zu HO)).mono ?_
   rintro e w2 ⟨rfl,rs,hp,hs,o2,b2⟩
   have LO:=zh (coll_end (zu CO) (zu HWF) (zu LZ) hp hs)
   have el:rs.length=qs.length:=hp.length_eq
   have O2:=zh o2
   have B2:=zh ((zu HB).trans (b2.mono sz.1))
   clear hp hs o2 b2
   go_wp2
   go_ret
   exact⟨rs,g,c,zu LO,by omega,by rw[el];rfl,by rw[el];exact zu O2,zu B2⟩
  ·intro a i w2 left2 cnt2 wf wv la l2 rt2 lt2 g2 s2 hen
   have l2:∀b j,Wf b j→left2 b j=(left b j&& !decide (b=a∧j=i)):=fun b j h=>by
    rw[l2 b j h]
    by_cases e1:b=a<;>by_cases e2:j=i<;>simp[e1,e2]
   have ap:=own_apart (zu HO) (zu RT)
   have ML:=zh (show w2.rangeLeft B R<wr.rangeLeft B R by rw[rt2.lt.2.2.2,(zu RT).lt.2.2.2];exact lt2)
   have RT2:=zh rt2
   have O2:=zh ((zu HO).kept g2 (by simp;exact ap.2))
   have B2:=zh ((zu HB).grown g2 (zu HB).size (fun j hj=>by cases hj;exact Nat.le_of_lt hRl))
   have CZ:=zh (fun hz=>coll_zero (zu CO) l2 hz)
   have CM:=zh (fun hz=>coll_more (zu CO) wf la l2 hz)
   clear rt2 l2 g2 s2 la wf wv CO
   generalize f a i=v at *
   have O3:=zh ((zu O2).alloc (.cells #[.int .i64 a,.int .i64 i] 153))
   have R3:=zh ((zu RT2).kept (World.grownBy_alloc w2 (.cells #[.int .i64 a,.int .i64 i] 153) none) (by simp) (by simp))
   have B3:=zh ((zu B2).alloc (zu B2).size (.cells #[.int .i64 a,.int .i64 i] 153))
   have M3:World.rangeLeft (w2.alloc (.cells #[.int .i64 a,.int .i64 i] 153)) B R=w2.rangeLeft B R:=by rw[(zu R3).lt.2.2.2,(zu RT2).lt.2.2.2]
   have M3:=zh M3
   have bs:=(zu B2).size
   by_cases v0:v=0
   ·have CC:=zh ((zu CZ) v0)
    clear CZ CM
    subst v0
    go_wp2
    go_roundw
    case rel=>exact⟨qs,g,c,left2,cnt2,rfl,O3,R3,CC,by omega,B3⟩
    case measure=>rw[zu M3];exact zu ML
   ·have CC:=zh ((zu CM) v0)
    have v0b:(v==0)=false:=by simpa using v0
    clear CZ CM
    have O4:=zh ((zu O3).alloc (.cells #[.int .i64 a,.int .i64 i,.int .i64 v] 78))
    have R4:=zh ((zu R3).kept (World.grownBy_alloc _ (.cells #[.int .i64 a,.int .i64 i,.int .i64 v] 78) none) (by simp) (by simp))
    have B4:=zh ((zu B3).alloc (zu B3).size (.cells #[.int .i64 a,.int .i64 i,.int .i64 v] 78))
    have V4:=zh (show Holds3 ((w2.alloc (.cells #[.int .i64 a,.int .i64 i] 153)).alloc (.cells #[.int .i64 a,.int .i64 i,.int .i64 v] 78)) (w2.heap.size+1) 0 (a,i,v) from by unfold Holds3;simp)
    go_wp2_with (first|(at_builtin;refine BalApp.wp_app _ rfl _ _ rfl w.heap.size g qs.length c qs (w2.heap.size+1) a i v rfl rfl (zu O4) (zu V4) (by omega) (by simp;omega) ?_;intro g5 c5 w5 o5 gr5 _)|go_in)
    have R5:=zh ((zu R4).kept gr5 (by simp;exact Ne.symm ap.1) (by simp;exact Ne.symm ap.2))
    have M5:=zh (show w5.rangeLeft B R=w2.rangeLeft B R by rw[(zu R5).lt.2.2.2,(zu RT2).lt.2.2.2])
    have B5:=zh ((zu B4).grown gr5 (by simp;omega) (fun j hj=>by cases hj;exact(zu HO).lt.1))
    have el:(qs++[(a,i,v)]).length=qs.length+1:=by simp
    have O5:=zh o5
    clear o5 gr5
    go_wp2
    go_roundw
    case rel=>exact⟨qs++[(a,i,v)],g5,c5,left2,cnt2,by rw[el],zh (by rw[el];exact zu O5),R5,CC,by rw[el];omega,B5⟩
    case measure=>rw[zu M5];exact zu ML
end Out
namespace Post
open Bals Triples Cmp SOk3 IOk3 Tab Look Out Legs
theorem look_run{w:World}{B n:Nat}{f:Int→Int→Int}(h:Tab w B n f){a i:Int}(hw:Wf a i):(Instr.lookup 151 (.map (some B)) (.agg #[.int .i64 a,.int .i64 i]) false).run Tryz.prog w= .ok (.int .i64 (f a i)) w:=by
 obtain⟨D,h1,h2,_⟩:=h
 obtain⟨c,hrun,hat,_⟩:=h1.lookup_int law Tryz.underlying151 Tryz.underlying3 (zero _) (key_of hw)
 rw[h2 a i hw] at hat
 have:f a i=c:=by simpa using hat
 rw[this]
 exact hrun
end Post
namespace Entry
open Bals Tab Post
open Go.MapKept Go.ChangeMaps Go.WideElems
open Go.WideMaps (KeyLaw)
theorem klaw:KeyLaw Tryz.prog 153:=deep_law_laid laidOut (m:=2) (by omega) row (by kernel_rfl) wide
theorem owns_block{H:Type}{P:Program}{k:TypeId}{R:Value→Option (DataW H×List MemPlace)}{w w':World}{b n:Nat}{D:DataW H}(h:w.ownsMap P k R b n D)(e:w'.heap[b]?=w.heap[b]?):w'.ownsMap P k R b n D:=by
 obtain⟨es,clock,hb,F,hs,hD⟩:=h
 exact⟨es,clock,e.trans hb,F,hs,hD⟩
theorem tab_block{w w':World}{B n:Nat}{f:Int→Int→Int}(h:Tab w B n f)(e:w'.heap[B]?=w.heap[B]?):Tab w' B n f:=by
 obtain⟨D,h1,h2⟩:=h
 exact⟨D,owns_block h1 e,h2⟩
theorem put_run{w:World}{B n:Nat}{f:Int→Int→Int}(h:Tab w B n f)(hn:n≤1048576){a i v:Int}(hw:Wf a i)(hv:(Lit.int .i64 v).wf=true):
  ∃w',(Instr.mapUpdate 151 (.map (some B)) (.agg #[.int .i64 a,.int .i64 i]) (.int .i64 v)).run Tryz.prog w= .ok () w'∧Tab w' B (n+1) (upd f a i v)∧w.grownBy w' (some B):=by
 obtain⟨D,h1,h2⟩:=h
 obtain⟨w',r,o,g⟩:=h1.update law Tryz.underlying151 (by unfold maxLen;omega) (key_of hw) (plainElem_int Tryz.underlying3 hv)
 exact⟨w',r,⟨_,o,tells_put h2 (isMap_of h1) hw⟩,g⟩
theorem entry_run{w:World}{B n:Nat}{f:Int→Int→Int}(h:Tab w B n f)(hn:n≤1048576){a i:Int}(hw:Wf a i):
  ∃(v0:Value) (st:Nat) (w2:World),(Instr.mapEntry 151 (.map (some B)) (.agg #[.int .i64 a,.int .i64 i])).run Tryz.prog w= .ok (.tuple #[v0,goInt st]) w2∧Tab w2 B (n+1) f∧w.grownBy w2 (some B)∧
   ∀v:Int,(Lit.int .i64 v).wf=true→∃w3,(Instr.entryStore 151 (.map (some B)) (goInt st) (.int .i64 v)).run Tryz.prog w2= .ok () w3∧Tab w3 B (n+1) (upd f a i v)∧w.grownBy w3 (some B):=by
 have h':=h
 obtain⟨D,⟨es,clock,hb,F,hs,hD⟩,hT⟩:=h
 obtain⟨v0,st,es1,clock1,hE,hd,hS⟩:=entry_then_store klaw Tryz.underlying151 (z:= .int .i64 0) zero hb F (key_of hw)
 refine⟨v0,st,_,hE,?_,⟨rfl,rfl,rfl,by simp[setBlock],fun j _ hj=>heap_setBlock_other hb _ (fun e=>hj (by rw[e]))⟩,fun v hv=>?_⟩
 ·rcases law.find w (key_of hw) es.toList F.keys with⟨h1,h2⟩|⟨j,e0,h1,h2,h3⟩
  ·have hE':(Instr.mapEntry 151 (.map (some B)) (.agg #[.int .i64 a,.int .i64 i])).run Tryz.prog w= .ok (.tuple #[.int .i64 0,goInt clock]) (setBlock w B (.map (es.push ⟨.agg #[.int .i64 a,.int .i64 i],.int .i64 0,clock⟩) (clock+1))):=by
    simp[Instr.mapEntry,run_underlying Tryz.underlying151,MapKept.run_getObj_map hb,law.check w false (key_of hw),h1,zero,MapKept.run_setObj_map _ hb,Result.andThen,setBlock]
   obtain⟨w',r,t,g⟩:=put_run h' hn (v:=0) hw (by decide)
   have r':(Instr.mapUpdate 151 (.map (some B)) (.agg #[.int .i64 a,.int .i64 i]) (.int .i64 0)).run Tryz.prog w= .ok () (setBlock w B (.map (es.push ⟨.agg #[.int .i64 a,.int .i64 i],.int .i64 0,clock⟩) (clock+1))):=by
    simp[Instr.mapUpdate,run_underlying Tryz.underlying151,MapKept.run_getObj_map hb,law.check w false (key_of hw),h1,MapKept.run_setObj_map _ hb,Result.andThen,setBlock]
   have ew:setBlock w B (.map es1 clock1)=w':=by
    rw[hE] at hE'
    rw[r] at r'
    injection hE' with _ e1
    injection r' with _ e2
    rw[e1,e2]
   have fz:f a i=0:=by
    have l1:=look_run h' hw
    have l2:(Instr.lookup 151 (.map (some B)) (.agg #[.int .i64 a,.int .i64 i]) false).run Tryz.prog w= .ok (.int .i64 0) w:=by
     simp[Instr.lookup,run_underlying Tryz.underlying151,MapKept.run_getObj_map hb,fun em=>law.check w em (key_of hw),h1,zero,Result.andThen]
    rw[l1] at l2
    injection l2 with e1 _
    simpa using e1
   rw[ew]
   refine t.congr fun b j=>?_
   unfold upd
   by_cases e:b=a∧j=i
   ·rw[if_pos e,e.1,e.2,fz]
   ·rw[if_neg e]
  ·have hj:es[j]?=some e0:=by simpa using h2
   have hsame:es.modify j (fun e=>{e with key:= .agg #[.int .i64 a,.int .i64 i]})=es:=by
    apply Array.ext'
    rw[Array.toList_modify,modify_eq_set _ _ _ _ h2]
    have:({e0 with key:= .agg #[.int .i64 a,.int .i64 i]}:MapEntry)=e0:=by rw[←h3]
    rw[this]
    exact set_self _ _ _ h2
   have hE':(Instr.mapEntry 151 (.map (some B)) (.agg #[.int .i64 a,.int .i64 i])).run Tryz.prog w= .ok (.tuple #[e0.val,goInt e0.born]) (setBlock w B (.map es clock)):=by
    simp[Instr.mapEntry,run_underlying Tryz.underlying151,MapKept.run_getObj_map hb,law.check w false (key_of hw),h1,hj,h3,law.stays w (key_of hw),hsame,MapKept.run_setObj_map _ hb,Result.andThen,setBlock]
   rw[hE] at hE'
   injection hE' with _ e1
   rw[e1]
   obtain⟨D',o1,t1⟩:=tab_block (w':=setBlock w B (.map es clock)) h' (by rw[heap_setBlock_same hb];exact hb.symm)
   exact⟨D',o1.mono (by omega),t1⟩
 ·obtain⟨es',clock',s1,s2⟩:=hS _ (.int .i64 v) (heap_setBlock_same hb _)
  obtain⟨w',r,t,g⟩:=put_run h' hn hw hv
  have ew:w'=setBlock w B (.map es' clock'):=by
   rw[r] at s2
   injection s2
  refine⟨_,s1,tab_block t ?_,⟨rfl,rfl,rfl,by simp[setBlock],fun j _ hj=>?_⟩⟩
  ·rw[ew,heap_setBlock_same hb,heap_setBlock_same (heap_setBlock_same hb _)]
  ·rw[heap_setBlock_other (heap_setBlock_same hb _) _ (fun e=>hj (by rw[e])),heap_setBlock_other hb _ (fun e=>hj (by rw[e]))]
end Entry
namespace ILotsFit
open BMem Bks IRead IHave ITrade ILists IBalsFit
open Lots (Says says_of NoOk qtyOf)
open Bals (T3 el3 val sumI upd ListOf)
open Tup5 (T5 el5)
open Tab (Tab Wf wf_no wf_amt)
def leftB(b:Bk)(k:Nat)(a i:Int):Int:=if kindOf b.ac a=1∧kindOf b.ic i=2 then val (b.bs.take k) a i else 0
def leftL(b:Bk)(k:Nat)(a i:Int):Int:=leftB b b.bs.length a i-qtyOf (b.ls.take k) a i
theorem leftB_zero(b:Bk)(a i:Int):leftB b 0 a i=0:=by
 unfold leftB
 split<;>rfl
theorem leftB_yes{b:Bk}(hr:Bals.Right b.bs){k:Nat}(hk:k<b.bs.length)(h:kindOf b.ac (el3 b.bs k).1=1∧kindOf b.ic (el3 b.bs k).2.1=2)(a i:Int):leftB b (k+1) a i=upd (leftB b k) (el3 b.bs k).1 (el3 b.bs k).2.1 (el3 b.bs k).2.2 a i:=by
 unfold leftB
 rw[Look.val_take hr hk]
 unfold upd
 by_cases e:a=(el3 b.bs k).1∧i=(el3 b.bs k).2.1
 ·rw[if_pos e,if_pos e,e.1,e.2,if_pos h]
 ·rw[if_neg e,if_neg e]
theorem leftB_no{b:Bk}(hr:Bals.Right b.bs){k:Nat}(hk:k<b.bs.length)(h:¬(kindOf b.ac (el3 b.bs k).1=1∧kindOf b.ic (el3 b.bs k).2.1=2))(a i:Int):leftB b (k+1) a i=leftB b k a i:=by
 unfold leftB
 by_cases q:kindOf b.ac a=1∧kindOf b.ic i=2
 ·rw[if_pos q,if_pos q,Look.val_take hr hk]
  unfold upd
  rw[if_neg (fun e=>h (by rw[←e.1,←e.2];exact q))]
 ·rw[if_neg q,if_neg q]
theorem leftL_zero(b:Bk)(a i:Int):leftL b 0 a i=leftB b b.bs.length a i:=by
 unfold leftL
 simp[qtyOf]
theorem leftL_next{b:Bk}{k:Nat}(hk:k<b.ls.length)(a i:Int):leftL b (k+1) a i=upd (leftL b k) (el5 b.ls k).1 (el5 b.ls k).2.1 (leftL b k (el5 b.ls k).1 (el5 b.ls k).2.1-(el5 b.ls k).2.2.2.1) a i:=by
 unfold upd
 by_cases e:a=(el5 b.ls k).1∧i=(el5 b.ls k).2.1
 ·rw[if_pos e]
  unfold leftL
  rw[Lots.qtyOf_next hk,if_pos ⟨e.1.symm,e.2.symm⟩,e.1,e.2]
  omega
 ·rw[if_neg e]
  unfold leftL
  rw[Lots.qtyOf_next hk,if_neg (fun r=>e ⟨r.1.symm,r.2.symm⟩)]
  omega
theorem leftL_all(b:Bk)(a i:Int):leftL b b.ls.length a i=leftT b a i:=by
 unfold leftL leftT leftB
 rw[List.take_length,List.take_length]
theorem leftL_bd{b:Bk}(hl:Lists b)(k:Nat)(a i:Int): -3000000000000000≤leftL b k a i∧leftL b k a i≤3000000000000000:=by
 obtain⟨_,_,hb,hL,_⟩:=hl
 have h1:=(hb.val_in a i).1
 have h2:=Lots.take_le (ps:=b.ls) (fun p hp=>by
  obtain⟨j,_,hj,rfl⟩:=Lots.mem_take (ps:=b.ls) (k:=b.ls.length) (p:=p) (by rw[List.take_length];exact hp)
  exact(hL.2.1 j hj).1) k a i
 have h3:=Lots.qty_pos (a:=a) (i:=i) (b.ls.take k) (fun p hp=>by
  obtain⟨j,_,hj,rfl⟩:=Lots.mem_take hp
  exact(hL.2.1 j hj).1)
 have h4:=hL.2.2 a i
 unfold leftL leftB
 unfold Bals.Amt at h1
 rw[List.take_length]
 split<;>omega
theorem list_none{f:Int→Int→Int}{qs:List T3}(h:ListOf f qs):qs.length=0↔∀a i,f a i=0:=by
 constructor
 ·intro e a i
  rw[←h.2 a i,List.length_eq_zero_iff.1 e]
  rfl
 ·intro e
  cases qs with
  |nil=>rfl
  |cons p r=>
   have:=(h.1.mem p).1 List.mem_cons_self
   rw[h.2,e] at this
   exact absurd this.2.symm this.1
theorem below_of_drew{w w':World}(h:Below w.drew.heap.size w.drew w'):Below w.heap.size w w':=⟨h.os,h.tape,h.output,h.size,h.block⟩
theorem St.grown{w W W':World}{x:Bx}{M:Nat}(H:Rd w x)(h:St w W x)(k:W.grownBy W' (some M))(hM:w.heap.size<M):St w W' x:=by
 have b:Below w.heap.size w W':=h.b.grown k (Nat.le_of_lt h.s) (fun j e=>by cases e;omega)
 have ne:some w.heap.size≠some M:=fun e=>by cases e;omega
 exact⟨H.below b,⟨k.cell h.c.c0 ne,k.cell h.c.c1 ne,k.cell h.c.c2 ne,k.cell h.c.c3 ne,k.cell h.c.c4 ne,k.cell h.c.c5 ne⟩,b,Nat.lt_of_lt_of_le h.s k.size⟩
end ILotsFit
namespace IReadV13
open BMem Bks BHelp BMemV13
open IBalsFit (one_more all_one)
open IRead (enters beq_of FirstAt iContainsF)
open Lots (Says says_of NoOk)
theorem chart0Account(w:World)(a:Option Addr)(cap:Nat):Calls Tryz.prog 123 #[.slice a 0 cap] w fun e w'=>e= .returned (.agg #[.slice a 0 cap,.int .i64 20,.int .i64 4])∧Below w.heap.size w w':=by
 go_enter Tryz.func123,Tryz.ntmps123
 go_wp2
 refine bodyPost_ret (v:= .agg #[.slice a 0 cap,.int .i64 20,.int .i64 4]) (by simp[results,Tryz.results123,go_sem]) rfl ⟨rfl,?_⟩
 repeat(first|exact Below.refl _ _|refine Below.alloc ?_ (by simp;try omega) _)
theorem ok0Account(w:World)(a:Option Addr)(cap:Nat):Calls Tryz.prog 124 #[.agg #[.slice a 0 cap,.int .i64 20,.int .i64 4]] w fun e w'=>e= .returned (.bool true)∧Below w.heap.size w w':=by
 have B0:=zh (one_more w (.cells #[.slice a 0 cap,.int .i64 20,.int .i64 4] 159))
 go_enter Tryz.func124,Tryz.ntmps124
 go_wp2
 go_loopw [3,16] (fun _ i wr=>i= .int .i64 0∧Hid (Below w.heap.size w wr)) (fun _ _ _=>0)
 case atStart=>exact⟨rfl,B0⟩
 case round=>
  obtain⟨rfl,HB⟩:=hrel
  go_wp2
  go_ret
  exact⟨rfl,zu HB⟩
theorem search0Account(w:World)(a:Option Addr)(cap:Nat)(no:Int):
  Calls Tryz.prog 166 #[.slice a 0 cap,.int .i64 no,.func (.func 167) #[] #[]] w fun e w'=>e= .returned (.tuple #[.int .i64 0,.bool false])∧w'=w:=by
 go_enter Tryz.func166,Tryz.ntmps166
 go_wp2
 go_loopw [9,10] (fun p q wr=>p= .int .i64 0∧q= .int .i64 0∧wr=w) (fun _ _ _=>0)
 case atStart=>exact⟨rfl,rfl,rfl⟩
 case round=>
  obtain⟨rfl,rfl,rfl⟩:=hrel
  go_wp2
  go_ret2
  exact⟨rfl,rfl⟩
theorem place0Account(w:World)(a:Option Addr)(cap:Nat)(no:Int):
  Calls Tryz.prog 154 #[.agg #[.slice a 0 cap,.int .i64 20,.int .i64 4],.int .i64 no] w fun e w'=>e= .returned (.tuple #[.int .i64 0,.bool false])∧Below w.heap.size w w':=by
 have B0:=zh (one_more w (.cells #[.slice a 0 cap,.int .i64 20,.int .i64 4] 159))
 go_enter Tryz.func154,Tryz.ntmps154
 go_wp2_with fail
 refine(search0Account _ a cap no).mono ?_
 rintro e w1 ⟨rfl,rfl⟩
 go_wp2
 go_ret2
 exact⟨rfl,zu B0⟩
theorem kindOf0Account(w:World)(a:Option Addr)(cap:Nat)(no:Int):
  Calls Tryz.prog 148 #[.agg #[.slice a 0 cap,.int .i64 20,.int .i64 4],.int .i64 no] w fun e w'=>e= .returned (.int .i64 0)∧Below w.heap.size w w':=by
 have B0:=zh (one_more w (.cells #[.slice a 0 cap,.int .i64 20,.int .i64 4] 159))
 go_enter Tryz.func148,Tryz.ntmps148
 go_wp2_with fail
 refine(ok0Account _ a cap).mono ?_
 rintro e w1 ⟨rfl,b1⟩
 have c0:w1.cell? ⟨w.heap.size,0,none⟩=some (.slice a 0 cap):=(b1.cell (p:=⟨w.heap.size,0,none⟩) (by simp)).trans (by simp)
 have c1:w1.cell? ⟨w.heap.size,1,none⟩=some (.int .i64 20):=(b1.cell (p:=⟨w.heap.size,1,none⟩) (by simp)).trans (by simp)
 have c2:w1.cell? ⟨w.heap.size,2,none⟩=some (.int .i64 4):=(b1.cell (p:=⟨w.heap.size,2,none⟩) (by simp)).trans (by simp)
 have B1:=zh (next (zu B0) b1)
 clear b1
 go_wp2_with fail
 refine(place0Account _ a cap no).mono ?_
 rintro e w2 ⟨rfl,b2⟩
 have B2:=zh (next (zu B1) b2)
 clear b2 c0 c1 c2
 go_wp2
 go_ret
 exact⟨rfl,zu B2⟩
theorem kind0Account(w:World)(a:Option Addr)(cap:Nat)(no:Int):
  Calls Tryz.prog 135 #[.slice a 0 cap,.int .i64 no] w fun e w'=>e= .returned (.int .i64 0)∧Below w.heap.size w w':=by
 go_enter Tryz.func135,Tryz.ntmps135
 go_wp2_with fail
 refine(chart0Account _ a cap).mono ?_
 rintro e w1 ⟨rfl,b1⟩
 have B1:=zh b1
 clear b1
 go_wp2_with fail
 refine(kindOf0Account _ a cap no).mono ?_
 rintro e w2 ⟨rfl,b2⟩
 have B2:=zh (next (zu B1) b2)
 clear b2
 go_wp2
 go_ret
 exact⟨rfl,zu B2⟩
theorem oks0Account(w:World)(a:Option Addr)(cap:Nat):
  Calls Tryz.prog 108 #[.slice a 0 cap] w fun e w'=>e= .returned (.bool true)∧Below w.heap.size w w':=by
 go_enter Tryz.func108,Tryz.ntmps108
 go_wp2_with fail
 refine(chart0Account _ a cap).mono ?_
 rintro e w1 ⟨rfl,b1⟩
 have B1:=zh b1
 clear b1
 go_wp2_with fail
 refine(ok0Account _ a cap).mono ?_
 rintro e w2 ⟨rfl,b2⟩
 have B2:=zh (next (zu B1) b2)
 clear b2
 go_wp2
 go_ret
 exact⟨rfl,zu B2⟩
theorem chart0Instr(w:World)(a:Option Addr)(cap:Nat):Calls Tryz.prog 125 #[.slice a 0 cap] w fun e w'=>e= .returned (.agg #[.slice a 0 cap,.int .i64 8,.int .i64 2])∧Below w.heap.size w w':=by
 go_enter Tryz.func125,Tryz.ntmps125
 go_wp2
 refine bodyPost_ret (v:= .agg #[.slice a 0 cap,.int .i64 8,.int .i64 2]) (by simp[results,Tryz.results125,go_sem]) rfl ⟨rfl,?_⟩
 repeat(first|exact Below.refl _ _|refine Below.alloc ?_ (by simp;try omega) _)
theorem ok0Instr(w:World)(a:Option Addr)(cap:Nat):Calls Tryz.prog 126 #[.agg #[.slice a 0 cap,.int .i64 8,.int .i64 2]] w fun e w'=>e= .returned (.bool true)∧Below w.heap.size w w':=by
 have B0:=zh (one_more w (.cells #[.slice a 0 cap,.int .i64 8,.int .i64 2] 162))
 go_enter Tryz.func126,Tryz.ntmps126
 go_wp2
 go_loopw [3,16] (fun _ i wr=>i= .int .i64 0∧Hid (Below w.heap.size w wr)) (fun _ _ _=>0)
 case atStart=>exact⟨rfl,B0⟩
 case round=>
  obtain⟨rfl,HB⟩:=hrel
  go_wp2
  go_ret
  exact⟨rfl,zu HB⟩
theorem search0Instr(w:World)(a:Option Addr)(cap:Nat)(no:Int):
  Calls Tryz.prog 168 #[.slice a 0 cap,.int .i64 no,.func (.func 169) #[] #[]] w fun e w'=>e= .returned (.tuple #[.int .i64 0,.bool false])∧w'=w:=by
 go_enter Tryz.func168,Tryz.ntmps168
 go_wp2
 go_loopw [9,10] (fun p q wr=>p= .int .i64 0∧q= .int .i64 0∧wr=w) (fun _ _ _=>0)
 case atStart=>exact⟨rfl,rfl,rfl⟩
 case round=>
  obtain⟨rfl,rfl,rfl⟩:=hrel
  go_wp2
  go_ret2
  exact⟨rfl,rfl⟩
theorem place0Instr(w:World)(a:Option Addr)(cap:Nat)(no:Int):
  Calls Tryz.prog 155 #[.agg #[.slice a 0 cap,.int .i64 8,.int .i64 2],.int .i64 no] w fun e w'=>e= .returned (.tuple #[.int .i64 0,.bool false])∧Below w.heap.size w w':=by
 have B0:=zh (one_more w (.cells #[.slice a 0 cap,.int .i64 8,.int .i64 2] 162))
 go_enter Tryz.func155,Tryz.ntmps155
 go_wp2_with fail
 refine(search0Instr _ a cap no).mono ?_
 rintro e w1 ⟨rfl,rfl⟩
 go_wp2
 go_ret2
 exact⟨rfl,zu B0⟩
theorem kindOf0Instr(w:World)(a:Option Addr)(cap:Nat)(no:Int):
  Calls Tryz.prog 149 #[.agg #[.slice a 0 cap,.int .i64 8,.int .i64 2],.int .i64 no] w fun e w'=>e= .returned (.int .i64 0)∧Below w.heap.size w w':=by
 have B0:=zh (one_more w (.cells #[.slice a 0 cap,.int .i64 8,.int .i64 2] 162))
 go_enter Tryz.func149,Tryz.ntmps149
 go_wp2_with fail
 refine(ok0Instr _ a cap).mono ?_
 rintro e w1 ⟨rfl,b1⟩
 have c0:w1.cell? ⟨w.heap.size,0,none⟩=some (.slice a 0 cap):=(b1.cell (p:=⟨w.heap.size,0,none⟩) (by simp)).trans (by simp)
 have c1:w1.cell? ⟨w.heap.size,1,none⟩=some (.int .i64 8):=(b1.cell (p:=⟨w.heap.size,1,none⟩) (by simp)).trans (by simp)
 have c2:w1.cell? ⟨w.heap.size,2,none⟩=some (.int .i64 2):=(b1.cell (p:=⟨w.heap.size,2,none⟩) (by simp)).trans (by simp)
 have B1:=zh (next (zu B0) b1)
 clear b1
 go_wp2_with fail
 refine(place0Instr _ a cap no).mono ?_
 rintro e w2 ⟨rfl,b2⟩
 have B2:=zh (next (zu B1) b2)
 clear b2 c0 c1 c2
 go_wp2
 go_ret
 exact⟨rfl,zu B2⟩
theorem kind0Instr(w:World)(a:Option Addr)(cap:Nat)(no:Int):
  Calls Tryz.prog 137 #[.slice a 0 cap,.int .i64 no] w fun e w'=>e= .returned (.int .i64 0)∧Below w.heap.size w w':=by
 go_enter Tryz.func137,Tryz.ntmps137
 go_wp2_with fail
 refine(chart0Instr _ a cap).mono ?_
 rintro e w1 ⟨rfl,b1⟩
 have B1:=zh b1
 clear b1
 go_wp2_with fail
 refine(kindOf0Instr _ a cap no).mono ?_
 rintro e w2 ⟨rfl,b2⟩
 have B2:=zh (next (zu B1) b2)
 clear b2
 go_wp2
 go_ret
 exact⟨rfl,zu B2⟩
theorem oks0Instr(w:World)(a:Option Addr)(cap:Nat):
  Calls Tryz.prog 109 #[.slice a 0 cap] w fun e w'=>e= .returned (.bool true)∧Below w.heap.size w w':=by
 go_enter Tryz.func109,Tryz.ntmps109
 go_wp2_with fail
 refine(chart0Instr _ a cap).mono ?_
 rintro e w1 ⟨rfl,b1⟩
 have B1:=zh b1
 clear b1
 go_wp2_with fail
 refine(ok0Instr _ a cap).mono ?_
 rintro e w2 ⟨rfl,b2⟩
 have B2:=zh (next (zu B1) b2)
 clear b2
 go_wp2
 go_ret
 exact⟨rfl,zu B2⟩
theorem oks0Bal(w:World)(a:Option Addr)(cap:Nat):Calls Tryz.prog 110 #[.slice a 0 cap] w fun e w'=>e= .returned (.bool true)∧Below w.heap.size w w':=by
 go_enter Tryz.func110,Tryz.ntmps110
 go_wp2
 go_loopw [5,6,13] (fun _ _ i wr=>i= .int .i64 0∧Below w.heap.size w wr) (fun _ _ _ _=>0)
 case atStart=>exact⟨rfl,one_more _ _⟩
 case round=>
  obtain⟨rfl,HB⟩:=hrel
  go_wp2
  go_ret
  exact⟨rfl,HB⟩
theorem oks0Lot(w:World)(a:Option Addr)(cap:Nat):Calls Tryz.prog 111 #[.slice a 0 cap] w fun e w'=>e= .returned (.bool true)∧Below w.heap.size w w':=by
 go_enter Tryz.func111,Tryz.ntmps111
 go_wp2
 go_loopw [4,5,7,14] (fun _ _ _ i wr=>i= .int .i64 0∧Below w.heap.size w wr) (fun _ _ _ _ _=>0)
 case atStart=>exact⟨rfl,one_more _ _⟩
 case round=>
  obtain⟨rfl,HB⟩:=hrel
  go_wp2
  go_ret
  exact⟨rfl,HB⟩
theorem oks0Trade(w:World)(a:Option Addr)(cap:Nat):Calls Tryz.prog 112 #[.slice a 0 cap] w fun e w'=>e= .returned (.bool true)∧Below w.heap.size w w':=by
 go_enter Tryz.func112,Tryz.ntmps112
 go_wp2
 go_loopw [3,11] (fun _ i wr=>i= .int .i64 0∧Below w.heap.size w wr) (fun _ _ _=>0)
 case atStart=>exact⟨rfl,Below.refl _ _⟩
 case round=>
  obtain⟨rfl,HB⟩:=hrel
  go_wp2
  go_ret
  exact⟨rfl,HB⟩
theorem sum0(w:World)(a:Option Addr)(cap:Nat)(i:Int):Calls Tryz.prog 116 #[.slice a 0 cap,.int .i64 i] w fun e w'=>e= .returned (.tuple #[.int .i64 0,.bool true])∧Below w.heap.size w w':=by
 go_enter Tryz.func116,Tryz.ntmps116
 go_wp2_with fail
 refine(oks0Bal _ a cap).mono ?_
 rintro e w1 ⟨rfl,b1⟩
 have B1:=zh b1
 clear b1
 go_wp2
 go_loopw [6,8,14] (fun s _ j wr=>s= .int .i64 0∧j= .int .i64 0∧Hid (Below w.heap.size w wr)) (fun _ _ _ _=>0)
 case atStart=>exact⟨rfl,rfl,B1⟩
 case round=>
  obtain⟨rfl,rfl,HB⟩:=hrel
  go_wp2_with fail
  refine(Look.iOnly 0 true 0 _ (.inl ⟨by unfold Bals.Amt;omega,rfl,rfl⟩)).mono ?_
  rintro e w3 ⟨rfl,rfl⟩
  go_wp2
  go_ret2
  exact⟨rfl,zu HB⟩
theorem index0(w:World)(a:Option Addr)(cap K:Nat)(caps:Array Value):Calls Tryz.prog 141 #[.slice a 0 cap,.func (.func K) #[] caps] w fun e w'=>e= .returned (.int .i64 (-1))∧w'=w:=by
 go_enter Tryz.func141,Tryz.ntmps141
 go_wp2
 go_loopw [8] (fun i wr=>i= .int .i64 0∧wr=w) (fun _ _=>0)
 case atStart=>exact⟨rfl,rfl⟩
 case round=>
  obtain⟨rfl,rfl⟩:=hrel
  go_wp2
  go_ret
  exact⟨rfl,rfl⟩
theorem contains0(w:World)(a:Option Addr)(cap K:Nat)(caps:Array Value):Calls Tryz.prog 120 #[.slice a 0 cap,.func (.func K) #[] caps] w fun e w'=>e= .returned (.bool false)∧w'=w:=by
 go_enter Tryz.func120,Tryz.ntmps120
 go_wp2_with fail
 refine(index0 _ a cap K caps).mono ?_
 rintro e w1 ⟨rfl,rfl⟩
 go_wp2
 go_ret
 exact⟨rfl,rfl⟩
theorem iKindA(w:World)(x:Ix)(no k:Int)(h:RdV w x)(hr:Chart.Right 20 4 x.b.ac)(hk:kindOf x.b.ac no=k):
  Calls Tryz.prog 135 #[.slice x.aa x.b.ac.length x.ca,.int .i64 no] w fun e w'=>e= .returned (.int .i64 k)∧Below w.heap.size w w':=by
 by_cases z:x.b.ac.length=0
 ·rw[z]
  have e:k=0:=by rw[←hk,List.eq_nil_of_length_eq_zero z];rfl
  exact(kind0Account w x.aa x.ca no).mono fun e' w' ⟨h1,h2⟩=>⟨by rw[h1,e],h2⟩
 ·obtain⟨g,eg⟩:=h.ea z
  rw[eg]
  exact(AccountIKind.iKind w g _ x.ca x.b.ac no rfl h.na (h.ra g eg).1 (h.ra g eg).2).mono fun e w' ⟨r',h1,h2,h3⟩=>⟨by rw[h2,kind_is hr h1,hk],h3⟩
theorem iKindI(w:World)(x:Ix)(no k:Int)(h:RdV w x)(hr:Chart.Right 8 2 x.b.ic)(hk:kindOf x.b.ic no=k):
  Calls Tryz.prog 137 #[.slice x.ai x.b.ic.length x.ci,.int .i64 no] w fun e w'=>e= .returned (.int .i64 k)∧Below w.heap.size w w':=by
 by_cases z:x.b.ic.length=0
 ·rw[z]
  have e:k=0:=by rw[←hk,List.eq_nil_of_length_eq_zero z];rfl
  exact(kind0Instr w x.ai x.ci no).mono fun e' w' ⟨h1,h2⟩=>⟨by rw[h1,e],h2⟩
 ·obtain⟨g,eg⟩:=h.ei z
  rw[eg]
  exact(InstrIKind.iKind w g _ x.ci x.b.ic no rfl h.ni (h.ri g eg).1 (h.ri g eg).2).mono fun e w' ⟨r',h1,h2,h3⟩=>⟨by rw[h2,kind_is hr h1,hk],h3⟩
theorem iOksA(w:World)(x:Ix)(ok:Bool)(h:RdV w x)(hok:Chart.Says ok 20 4 x.b.ac):Calls Tryz.prog 108 #[.slice x.aa x.b.ac.length x.ca] w fun e w'=>e= .returned (.bool ok)∧Below w.heap.size w w':=by
 by_cases z:x.b.ac.length=0
 ·rw[z]
  have e:ok=true:=hok.2 ⟨by omega,fun i hi=>absurd hi (by omega)⟩
  exact(oks0Account w x.aa x.ca).mono fun e' w' ⟨h1,h2⟩=>⟨by rw[h1,e],h2⟩
 ·obtain⟨g,eg⟩:=h.ea z
  rw[eg]
  exact AccountIKind.iOks w g _ x.ca x.b.ac ok rfl h.na (h.ra g eg).1 (h.ra g eg).2 hok
theorem iOksI(w:World)(x:Ix)(ok:Bool)(h:RdV w x)(hok:Chart.Says ok 8 2 x.b.ic):Calls Tryz.prog 109 #[.slice x.ai x.b.ic.length x.ci] w fun e w'=>e= .returned (.bool ok)∧Below w.heap.size w w':=by
 by_cases z:x.b.ic.length=0
 ·rw[z]
  have e:ok=true:=hok.2 ⟨by omega,fun i hi=>absurd hi (by omega)⟩
  exact(oks0Instr w x.ai x.ci).mono fun e' w' ⟨h1,h2⟩=>⟨by rw[h1,e],h2⟩
 ·obtain⟨g,eg⟩:=h.ei z
  rw[eg]
  exact InstrIKind.iOks w g _ x.ci x.b.ic ok rfl h.ni (h.ri g eg).1 (h.ri g eg).2 hok
theorem iOksB(w:World)(x:Ix)(ok:Bool)(h:RdV w x)(hok:Bals.Says ok (Bals.Right x.b.bs)):Calls Tryz.prog 110 #[.slice x.ab x.b.bs.length x.cb] w fun e w'=>e= .returned (.bool ok)∧Below w.heap.size w w':=by
 by_cases z:x.b.bs.length=0
 ·rw[z]
  have e:ok=true:=hok.of ⟨by omega,fun i hi=>absurd hi (by omega)⟩
  exact(oks0Bal w x.ab x.cb).mono fun e' w' ⟨h1,h2⟩=>⟨by rw[h1,e],h2⟩
 ·obtain⟨g,eg⟩:=h.eb z
  rw[eg]
  exact IOk3.iOk w g _ x.cb x.b.bs ok rfl h.nb (h.rb g eg).1 (h.rb g eg).2 hok
theorem iOksL(w:World)(x:Ix)(ok:Bool)(h:RdV w x)(hok:Says ok (Lots.Right x.b.ls)):Calls Tryz.prog 111 #[.slice x.al x.b.ls.length x.cl] w fun e w'=>e= .returned (.bool ok)∧Below w.heap.size w w':=by
 by_cases z:x.b.ls.length=0
 ·rw[z]
  have e:ok=true:=hok.of ⟨by omega,fun i hi=>absurd hi (by omega),fun a i=>by rw[List.eq_nil_of_length_eq_zero z];simp[Lots.qtyOf,Lots.costOf]⟩
  exact(oks0Lot w x.al x.cl).mono fun e' w' ⟨h1,h2⟩=>⟨by rw[h1,e],h2⟩
 ·obtain⟨g,eg⟩:=h.el z
  rw[eg]
  exact IOk5.iOk w g _ x.cl x.b.ls ok rfl h.nl (h.rl g eg).1 (h.rl g eg).2 hok
theorem iOksT(w:World)(x:Ix)(ok:Bool)(h:RdV w x)(hok:Says ok (TRight x.b.ts)):Calls Tryz.prog 112 #[.slice x.ats x.b.ts.length x.ct] w fun e w'=>e= .returned (.bool ok)∧Below w.heap.size w w':=by
 by_cases z:x.b.ts.length=0
 ·rw[z]
  have e:ok=true:=hok.of ⟨by omega,fun i hi=>absurd hi (by omega)⟩
  exact(oks0Trade w x.ats x.ct).mono fun e' w' ⟨h1,h2⟩=>⟨by rw[h1,e],h2⟩
 ·obtain⟨g,eg⟩:=h.et z
  rw[eg]
  exact ITrade.iOk w g _ x.ct x.b.ts ok rfl h.nt (h.rt g eg).1 (h.rt g eg).2 hok
theorem iSumV(w:World)(x:Ix)(i r:Int)(c:Bool)(h:RdV w x)(hs:Bals.IsSum x.b.bs i r c):
  Calls Tryz.prog 116 #[.slice x.ab x.b.bs.length x.cb,.int .i64 i] w fun e w'=>e= .returned (.tuple #[.int .i64 r,.bool c])∧Below w.heap.size w w':=by
 by_cases z:x.b.bs.length=0
 ·rw[z]
  have e:r=0∧c=true:=by
   rw[List.eq_nil_of_length_eq_zero z] at hs
   rcases hs with⟨_,_,h3,h4⟩|⟨h1,_⟩
   ·exact⟨h3,h4⟩
   ·exact absurd ⟨⟨by simp,fun i hi=>absurd hi (by simp)⟩,by unfold Bals.Amt;simp[Bals.sumI]⟩ h1
  exact(sum0 w x.ab x.cb i).mono fun e' w' ⟨h1,h2⟩=>⟨by rw[h1,e.1,e.2],h2⟩
 ·obtain⟨g,eg⟩:=h.eb z
  rw[eg]
  exact Look.iSum w g _ x.cb x.b.bs i r c rfl h.nb (h.rb g eg).1 (h.rb g eg).2 hs
end IReadV13
namespace IHaveV13
open IHave (none_of noneB none_no)
open IReadV13
open BMem Bks BHelp BMemV13
open IBalsFit (one_more all_one)
open IRead (enters beq_of FirstAt iContainsF)
open Lots (Says says_of NoOk)
theorem iHolder(w:World)(x:Ix)(no:Int)(t:Bool)(h:RdV w x)(hr:Chart.Right 20 4 x.b.ac)(ht:Says t (kindOf x.b.ac no=1)):
  Calls Tryz.prog 115 #[.agg #[.slice x.aa x.b.ac.length x.ca,.slice x.ai x.b.ic.length x.ci,.slice x.ab x.b.bs.length x.cb,.slice x.al x.b.ls.length x.cl,.slice x.ats x.b.ts.length x.ct,.int .i64 x.b.lot],.int .i64 no] w fun e w'=>e= .returned (.bool t)∧Below w.heap.size w w':=by
 have H:=zh (h.below (one_more w (.cells #[.slice x.aa x.b.ac.length x.ca,.slice x.ai x.b.ic.length x.ci,.slice x.ab x.b.bs.length x.cb,.slice x.al x.b.ls.length x.cl,.slice x.ats x.b.ts.length x.ct,.int .i64 x.b.lot] 32)))
 have KA:=zh (fun u (hu:RdV u x)=>iKindA u x no (kindOf x.b.ac no) hu hr rfl)
 have hd:(kindOf x.b.ac no==1)=t:=beq_of ht
 clear h hr ht
 generalize kindOf x.b.ac no=r at *
 go_enter Tryz.func115,Tryz.ntmps115
 go_wp2_with fail
 refine((zu KA) _ (zu H)).mono ?_
 rintro e w1 ⟨rfl,b1⟩
 have B1:=zh (((Below.refl w.heap.size w).alloc (Nat.le_refl _) _).trans (b1.mono (by simp)))
 clear b1
 go_wp2
 go_ret
 exact⟨rfl,zu B1⟩
theorem iPaper(w:World)(x:Ix)(no:Int)(t:Bool)(h:RdV w x)(hr:Chart.Right 8 2 x.b.ic)(ht:Says t (kindOf x.b.ic no=2)):
  Calls Tryz.prog 117 #[.agg #[.slice x.aa x.b.ac.length x.ca,.slice x.ai x.b.ic.length x.ci,.slice x.ab x.b.bs.length x.cb,.slice x.al x.b.ls.length x.cl,.slice x.ats x.b.ts.length x.ct,.int .i64 x.b.lot],.int .i64 no] w fun e w'=>e= .returned (.bool t)∧Below w.heap.size w w':=by
 have H:=zh (h.below (one_more w (.cells #[.slice x.aa x.b.ac.length x.ca,.slice x.ai x.b.ic.length x.ci,.slice x.ab x.b.bs.length x.cb,.slice x.al x.b.ls.length x.cl,.slice x.ats x.b.ts.length x.ct,.int .i64 x.b.lot] 32)))
 have KA:=zh (fun u (hu:RdV u x)=>iKindI u x no (kindOf x.b.ic no) hu hr rfl)
 have hd:(kindOf x.b.ic no==2)=t:=beq_of ht
 clear h hr ht
 generalize kindOf x.b.ic no=r at *
 go_enter Tryz.func117,Tryz.ntmps117
 go_wp2_with fail
 refine((zu KA) _ (zu H)).mono ?_
 rintro e w1 ⟨rfl,b1⟩
 have B1:=zh (((Below.refl w.heap.size w).alloc (Nat.le_refl _) _).trans (b1.mono (by simp)))
 clear b1
 go_wp2
 go_ret
 exact⟨rfl,zu B1⟩
theorem iCash(w:World)(x:Ix)(no:Int)(t:Bool)(h:RdV w x)(hr:Chart.Right 8 2 x.b.ic)(ht:Says t (kindOf x.b.ic no=1)):
  Calls Tryz.prog 142 #[.agg #[.slice x.aa x.b.ac.length x.ca,.slice x.ai x.b.ic.length x.ci,.slice x.ab x.b.bs.length x.cb,.slice x.al x.b.ls.length x.cl,.slice x.ats x.b.ts.length x.ct,.int .i64 x.b.lot],.int .i64 no] w fun e w'=>e= .returned (.bool t)∧Below w.heap.size w w':=by
 have H:=zh (h.below (one_more w (.cells #[.slice x.aa x.b.ac.length x.ca,.slice x.ai x.b.ic.length x.ci,.slice x.ab x.b.bs.length x.cb,.slice x.al x.b.ls.length x.cl,.slice x.ats x.b.ts.length x.ct,.int .i64 x.b.lot] 32)))
 have KA:=zh (fun u (hu:RdV u x)=>iKindI u x no (kindOf x.b.ic no) hu hr rfl)
 have hd:(kindOf x.b.ic no==1)=t:=beq_of ht
 clear h hr ht
 generalize kindOf x.b.ic no=r at *
 go_enter Tryz.func142,Tryz.ntmps142
 go_wp2_with fail
 refine((zu KA) _ (zu H)).mono ?_
 rintro e w1 ⟨rfl,b1⟩
 have B1:=zh (((Below.refl w.heap.size w).alloc (Nat.le_refl _) _).trans (b1.mono (by simp)))
 clear b1
 go_wp2
 go_ret
 exact⟨rfl,zu B1⟩
theorem iNoneAccount(w:World)(x:Ix)(g:Nat)(y:Int)(h:RdV w x)(hc:w.cell? ⟨g,0,none⟩=some (.slice x.aa x.b.ac.length x.ca))(hr:Chart.Right 20 4 x.b.ac):
  Calls Tryz.prog 134 (#[.int .i64 y]++ #[.pointer (some ⟨g,0,none⟩)]) w fun e w'=>e= .returned (.bool (noneB x.b.ac y))∧Below w.heap.size w w':=by
 show Calls Tryz.prog 134 #[.int .i64 y,.pointer (some ⟨g,0,none⟩)] w _
 have KA:=zh (iKindA w x y (kindOf x.b.ac y) h hr rfl)
 have hd:(kindOf x.b.ac y==0)=noneB x.b.ac y:=rfl
 clear h hr
 rw[←hd]
 clear hd
 generalize kindOf x.b.ac y=r at *
 go_enter Tryz.func134,Tryz.ntmps134
 go_wp2_with fail
 refine(zu KA).mono ?_
 rintro e w1 ⟨rfl,b1⟩
 have B1:=zh b1
 clear b1
 go_wp2
 go_ret
 exact⟨rfl,zu B1⟩
theorem iHaveAccounts(w:World)(x:Ix)(g n cap:Nat)(xs:List Int)(b:Bool)(h:RdV w x)(hr:Chart.Right 20 4 x.b.ac)(hl:xs.length=n)(h20:n≤1048576)(hg:g<w.heap.size)(hx:Ints.At w g xs)(hb:Says b (∀y∈xs,kindOf x.b.ac y≠0)):
  Calls Tryz.prog 113 #[.agg #[.slice x.aa x.b.ac.length x.ca,.slice x.ai x.b.ic.length x.ci,.slice x.ab x.b.bs.length x.cb,.slice x.al x.b.ls.length x.cl,.slice x.ats x.b.ts.length x.ct,.int .i64 x.b.lot],.slice (some ⟨g,0,none⟩) n cap] w fun e w'=>e= .returned (.bool b)∧Below w.heap.size w w':=by
 have H:=zh h
 have R:=zh hr
 have X:=zh hx
 have HL:=zh hl
 have T:=zh (none_of (none_no x.b.ac) hb)
 have hmf:∀(fn:Fn) (first cp:Array Value) (w:World),(Instr.makeFunc fn first cp).run Tryz.prog w= .ok (.func fn first cp) w:=fun _ _ _ _=>rfl
 clear h hr hx hl hb
 go_enter Tryz.func113,Tryz.ntmps113
 go_wp2_with fail
 have A1:Below w.heap.size w (w.alloc (.cells #[.slice x.aa x.b.ac.length x.ca,.slice x.ai x.b.ic.length x.ci,.slice x.ab x.b.bs.length x.cb,.slice x.al x.b.ls.length x.cl,.slice x.ats x.b.ts.length x.ct,.int .i64 x.b.lot] 32)):=(Below.refl _ _).alloc (Nat.le_refl _) _
 refine(iContainsF _ g n cap 134 #[.pointer (some ⟨w.heap.size,0,none⟩)] xs (noneB x.b.ac) (!b) (zu HL) h20 (by simp;omega) ((zu X).below A1 hg) (fun _ _=>enters Tryz.func134 (by kernel_rfl) rfl _ _) (fun u y hu=>iNoneAccount u x w.heap.size y (((zu H).below A1).below hu) ((hu.cell (p:=⟨w.heap.size,0,none⟩) (by simp)).trans (by simp)) (zu R)) (zu T)).mono ?_
 rintro e w1 ⟨rfl,b1⟩
 have B1:=zh (A1.trans (b1.mono (by simp)))
 clear b1 A1
 go_wp2
 go_ret
 exact⟨by simp,zu B1⟩
theorem iNoneInstr(w:World)(x:Ix)(g:Nat)(y:Int)(h:RdV w x)(hc:w.cell? ⟨g,1,none⟩=some (.slice x.ai x.b.ic.length x.ci))(hr:Chart.Right 8 2 x.b.ic):
  Calls Tryz.prog 136 (#[.int .i64 y]++ #[.pointer (some ⟨g,0,none⟩)]) w fun e w'=>e= .returned (.bool (noneB x.b.ic y))∧Below w.heap.size w w':=by
 show Calls Tryz.prog 136 #[.int .i64 y,.pointer (some ⟨g,0,none⟩)] w _
 have KA:=zh (iKindI w x y (kindOf x.b.ic y) h hr rfl)
 have hd:(kindOf x.b.ic y==0)=noneB x.b.ic y:=rfl
 clear h hr
 rw[←hd]
 clear hd
 generalize kindOf x.b.ic y=r at *
 go_enter Tryz.func136,Tryz.ntmps136
 go_wp2_with fail
 refine(zu KA).mono ?_
 rintro e w1 ⟨rfl,b1⟩
 have B1:=zh b1
 clear b1
 go_wp2
 go_ret
 exact⟨rfl,zu B1⟩
theorem iHaveInstrs(w:World)(x:Ix)(g n cap:Nat)(xs:List Int)(b:Bool)(h:RdV w x)(hr:Chart.Right 8 2 x.b.ic)(hl:xs.length=n)(h20:n≤1048576)(hg:g<w.heap.size)(hx:Ints.At w g xs)(hb:Says b (∀y∈xs,kindOf x.b.ic y≠0)):
  Calls Tryz.prog 114 #[.agg #[.slice x.aa x.b.ac.length x.ca,.slice x.ai x.b.ic.length x.ci,.slice x.ab x.b.bs.length x.cb,.slice x.al x.b.ls.length x.cl,.slice x.ats x.b.ts.length x.ct,.int .i64 x.b.lot],.slice (some ⟨g,0,none⟩) n cap] w fun e w'=>e= .returned (.bool b)∧Below w.heap.size w w':=by
 have H:=zh h
 have R:=zh hr
 have X:=zh hx
 have HL:=zh hl
 have T:=zh (none_of (none_no x.b.ic) hb)
 have hmf:∀(fn:Fn) (first cp:Array Value) (w:World),(Instr.makeFunc fn first cp).run Tryz.prog w= .ok (.func fn first cp) w:=fun _ _ _ _=>rfl
 clear h hr hx hl hb
 go_enter Tryz.func114,Tryz.ntmps114
 go_wp2_with fail
 have A1:Below w.heap.size w (w.alloc (.cells #[.slice x.aa x.b.ac.length x.ca,.slice x.ai x.b.ic.length x.ci,.slice x.ab x.b.bs.length x.cb,.slice x.al x.b.ls.length x.cl,.slice x.ats x.b.ts.length x.ct,.int .i64 x.b.lot] 32)):=(Below.refl _ _).alloc (Nat.le_refl _) _
 refine(iContainsF _ g n cap 136 #[.pointer (some ⟨w.heap.size,0,none⟩)] xs (noneB x.b.ic) (!b) (zu HL) h20 (by simp;omega) ((zu X).below A1 hg) (fun _ _=>enters Tryz.func136 (by kernel_rfl) rfl _ _) (fun u y hu=>iNoneInstr u x w.heap.size y (((zu H).below A1).below hu) ((hu.cell (p:=⟨w.heap.size,1,none⟩) (by simp)).trans (by simp)) (zu R)) (zu T)).mono ?_
 rintro e w1 ⟨rfl,b1⟩
 have B1:=zh (A1.trans (b1.mono (by simp)))
 clear b1 A1
 go_wp2
 go_ret
 exact⟨by simp,zu B1⟩
theorem boxedV13(w:World)(x:Ix)(e:TypeId):ClV (w.alloc (.cells #[.slice x.aa x.b.ac.length x.ca,.slice x.ai x.b.ic.length x.ci,.slice x.ab x.b.bs.length x.cb,.slice x.al x.b.ls.length x.cl,.slice x.ats x.b.ts.length x.ct,.int .i64 x.b.lot] e)) w.heap.size x:=⟨by simp,by simp,by simp,by simp,by simp,by simp⟩
theorem iLists(w:World)(x:Ix)(b:Bool)(h:RdV w x)(hb:Says b (Lists x.b)):
  Calls Tryz.prog 103 #[.agg #[.slice x.aa x.b.ac.length x.ca,.slice x.ai x.b.ic.length x.ci,.slice x.ab x.b.bs.length x.cb,.slice x.al x.b.ls.length x.cl,.slice x.ats x.b.ts.length x.ct,.int .i64 x.b.lot]] w fun e w'=>e= .returned (.bool b)∧Below w.heap.size w w':=by
 obtain⟨b0,h0⟩:=Chart.says_of 20 4 x.b.ac
 obtain⟨b1,h1⟩:=Chart.says_of 8 2 x.b.ic
 obtain⟨b2,h2⟩:=Bals.says_of (Bals.Right x.b.bs)
 obtain⟨b3,h3⟩:=says_of (Lots.Right x.b.ls)
 obtain⟨b4,h4⟩:=says_of (TRight x.b.ts)
 have H0:=zh h0
 have H1:=zh h1
 have H2:=zh h2
 have H3:=zh h3
 have H4:=zh h4
 have T:=zh hb
 clear h0 h1 h2 h3 h4 hb
 have R0:=zh (h.below (one_more w (.cells #[.slice x.aa x.b.ac.length x.ca,.slice x.ai x.b.ic.length x.ci,.slice x.ab x.b.bs.length x.cb,.slice x.al x.b.ls.length x.cl,.slice x.ats x.b.ts.length x.ct,.int .i64 x.b.lot] 32)))
 have C0:=zh (boxedV13 w x 32)
 have B0:=zh ((Below.refl w.heap.size w).alloc (Nat.le_refl _) (.cells #[.slice x.aa x.b.ac.length x.ca,.slice x.ai x.b.ic.length x.ci,.slice x.ab x.b.bs.length x.cb,.slice x.al x.b.ls.length x.cl,.slice x.ats x.b.ts.length x.ct,.int .i64 x.b.lot] 32))
 have s0:w.heap.size<(w.alloc (.cells #[.slice x.aa x.b.ac.length x.ca,.slice x.ai x.b.ic.length x.ci,.slice x.ab x.b.bs.length x.cb,.slice x.al x.b.ls.length x.cl,.slice x.ats x.b.ts.length x.ct,.int .i64 x.b.lot] 32)).heap.size:=by simp
 have na:=h.na
 have ni:=h.ni
 have nb:=h.nb
 have nl:=h.nl
 have nt:=h.nt
 clear h
 go_enter Tryz.func103,Tryz.ntmps103
 go_wp2_with fail
 refine(iOksA _ x b0 (zu R0) (zu H0)).mono ?_
 rintro e w1 ⟨rfl,bb⟩
 have R1:=zh ((zu R0).below bb)
 have C1:=zh ((zu C0).below bb s0)
 have B1:=zh ((zu B0).trans (bb.mono (Nat.le_of_lt s0)))
 have s1:w.heap.size<w1.heap.size:=Nat.lt_of_lt_of_le s0 bb.size
 have c1:=(zu C1).c1
 clear bb R0 C0 B0 s0
 cases b0
 ·have F:=zh ((zu T).not (fun hh=>(zu H0).no hh.1))
  clear T
  go_wp2
  go_ret
  exact⟨by rw[zu F];rfl,zu B1⟩
 go_wp2_with fail
 refine(iOksI _ x b1 (zu R1) (zu H1)).mono ?_
 rintro e w2 ⟨rfl,bb⟩
 have R2:=zh ((zu R1).below bb)
 have C2:=zh ((zu C1).below bb s1)
 have B2:=zh ((zu B1).trans (bb.mono (Nat.le_of_lt s1)))
 have s2:w.heap.size<w2.heap.size:=Nat.lt_of_lt_of_le s1 bb.size
 have c2:=(zu C2).c2
 clear bb R1 C1 B1 s1
 cases b1
 ·have F:=zh ((zu T).not (fun hh=>(zu H1).no hh.2.1))
  clear T
  go_wp2
  go_ret
  exact⟨by rw[zu F];rfl,zu B2⟩
 go_wp2_with fail
 refine(iOksB _ x b2 (zu R2) (zu H2)).mono ?_
 rintro e w3 ⟨rfl,bb⟩
 have R3:=zh ((zu R2).below bb)
 have C3:=zh ((zu C2).below bb s2)
 have B3:=zh ((zu B2).trans (bb.mono (Nat.le_of_lt s2)))
 have s3:w.heap.size<w3.heap.size:=Nat.lt_of_lt_of_le s2 bb.size
 have c3:=(zu C3).c3
 clear bb R2 C2 B2 s2
 cases b2
 ·have F:=zh ((zu T).not (fun hh=>(zu H2).no hh.2.2.1))
  clear T
  go_wp2
  go_ret
  exact⟨by rw[zu F];rfl,zu B3⟩
 go_wp2_with fail
 refine(iOksL _ x b3 (zu R3) (zu H3)).mono ?_
 rintro e w4 ⟨rfl,bb⟩
 have R4:=zh ((zu R3).below bb)
 have C4:=zh ((zu C3).below bb s3)
 have B4:=zh ((zu B3).trans (bb.mono (Nat.le_of_lt s3)))
 have s4:w.heap.size<w4.heap.size:=Nat.lt_of_lt_of_le s3 bb.size
 have c4:=(zu C4).c4
 clear bb R3 C3 B3 s3
 cases b3
 ·have F:=zh ((zu T).not (fun hh=>(zu H3).no hh.2.2.2.1))
  clear T
  go_wp2
  go_ret
  exact⟨by rw[zu F];rfl,zu B4⟩
 go_wp2_with fail
 refine(iOksT _ x b4 (zu R4) (zu H4)).mono ?_
 rintro e w5 ⟨rfl,bb⟩
 have R5:=zh ((zu R4).below bb)
 have C5:=zh ((zu C4).below bb s4)
 have B5:=zh ((zu B4).trans (bb.mono (Nat.le_of_lt s4)))
 have s5:w.heap.size<w5.heap.size:=Nat.lt_of_lt_of_le s4 bb.size
 have c5:=(zu C5).c5
 clear bb R4 C4 B4 s4
 cases b4
 ·have F:=zh ((zu T).not (fun hh=>(zu H4).no hh.2.2.2.2.1))
  clear T
  go_wp2
  go_ret
  exact⟨by rw[zu F];rfl,zu B5⟩
 by_cases d1:0≤x.b.lot
 ·have hd:decide (x.b.lot≤1000000000)=b:=by
   by_cases d2:x.b.lot≤1000000000
   ·rw[decide_eq_true d2]
    exact((zu T).of ⟨(zu H0).yes,(zu H1).yes,(zu H2).yes,(zu H3).yes,(zu H4).yes,d1,d2⟩).symm
   ·rw[decide_eq_false d2]
    exact((zu T).not (fun hh=>d2 hh.2.2.2.2.2.2)).symm
  clear T
  go_wp2
  go_ret
  exact⟨rfl,zu B5⟩
 ·have F:=zh ((zu T).not (fun hh=>d1 hh.2.2.2.2.2.1))
  have hd:decide (0≤x.b.lot)=false:=decide_eq_false d1
  clear T d1
  go_wp2
  go_ret
  exact⟨by rw[zu F];rfl,zu B5⟩
end IHaveV13
namespace IBalsFitV13
open IReadV13 IHaveV13
open ITrade (at_new)
open Bals (T3 el3 val sumI)
open BMem Bks BHelp BMemV13
open IBalsFit (one_more all_one)
open IRead (enters beq_of FirstAt iContainsF)
open Lots (Says says_of NoOk)
theorem ixB{a:Option Addr}{g n k:Nat}(c:Nat)(e:a=some ⟨g,0,none⟩)(h:k<n)(w:World):(Instr.indexAt 28 (.slice a n c) (.int .i64 k)).run Tryz.prog w= .ok (.pointer (some ⟨g,k*3,none⟩)) w:=by
 subst e
 have:(k:Int)<n:=by omega
 simp[go_sem,this]
theorem ixI{a:Option Addr}{g n k:Nat}(c:Nat)(e:a=some ⟨g,0,none⟩)(h:k<n)(w:World):(Instr.indexAt 27 (.slice a n c) (.int .i64 k)).run Tryz.prog w= .ok (.pointer (some ⟨g,k*2,none⟩)) w:=by
 subst e
 have:(k:Int)<n:=by omega
 simp[go_sem,this]
theorem iBalsFit(w:World)(x:Ix)(b:Bool)(h:RdV w x)(hl:Lists x.b)(hb:Says b (BalsFit x.b)):
  Calls Tryz.prog 104 #[.agg #[.slice x.aa x.b.ac.length x.ca,.slice x.ai x.b.ic.length x.ci,.slice x.ab x.b.bs.length x.cb,.slice x.al x.b.ls.length x.cl,.slice x.ats x.b.ts.length x.ct,.int .i64 x.b.lot]] w fun e w'=>e= .returned (.bool b)∧Below w.heap.size w w':=by
 have T:=zh hb
 have L:=zh hl
 have S0:=zh (StV.start h 32)
 have nb:=h.nb
 have ni:=h.ni
 clear hb hl h
 go_enter Tryz.func104,Tryz.ntmps104
 go_wp2
 go_loopw [12] (fun i wr=>∃(k:Nat),k≤x.b.bs.length∧i= .int .i64 k∧StV w wr x∧Hid (∀j,j<k→BalFit x.b (el3 x.b.bs j))) (fun i _=>x.b.bs.length-(intOf i).toNat)
 case atStart=>exact⟨0,by omega,rfl,zu S0,zh (fun i hi=>absurd hi (by omega))⟩
 case round=>
  obtain⟨k,hk,rfl,hS,HG⟩:=hrel
  clear S0
  by_cases t:k<x.b.bs.length
  ·obtain⟨gb,eb⟩:=hS.r.eb (by omega)
   obtain⟨d0,d1,d2⟩:=(hS.r.rb gb eb).2 k t
   have ix:=ixB x.cb eb t
   clear eb
   obtain⟨c0,c1,c2,c3,c4,c5⟩:=hS.c
   have BAD:=zh (show ¬BalFit x.b (el3 x.b.bs k)→b=false from fun hr=>(zu T).not (fun r=>hr (r.1 k t)))
   have GOOD:=zh (show BalFit x.b (el3 x.b.bs k)→∀i,i<k+1→BalFit x.b (el3 x.b.bs i) from fun hr i hi=>by
    by_cases e:i=k
    ·subst e;exact hr
    ·exact(zu HG) i (by omega))
   have FIT:=zh (show BalFit x.b (el3 x.b.bs k)↔kindOf x.b.ac (el3 x.b.bs k).1≠0∧kindOf x.b.ic (el3 x.b.bs k).2.1≠0∧¬(kindOf x.b.ac (el3 x.b.bs k).1=1∧(el3 x.b.bs k).2.2<0) from Iff.rfl)
   have wz:=hS.s
   have S1:=zh (hS.step (one_more wr (.cells #[.int .i64 (el3 x.b.bs k).1,.int .i64 (el3 x.b.bs k).2.1,.int .i64 (el3 x.b.bs k).2.2] 78)))
   clear hS
   generalize (el3 x.b.bs k).1=y0 at *
   generalize (el3 x.b.bs k).2.1=y1 at *
   generalize (el3 x.b.bs k).2.2=y2 at *
   obtain⟨b0,h0⟩:=says_of (kindOf x.b.ac y0≠0)
   obtain⟨b1,h1⟩:=says_of (kindOf x.b.ic y1≠0)
   obtain⟨b2,h2⟩:=says_of (kindOf x.b.ac y0=1)
   have H0:=zh h0
   have H1:=zh h1
   have H2:=zh h2
   clear h0 h1 h2
   go_wp2_with fail
   have S2:=zh ((zu S1).step (one_more _ (.cells #[.int .i64 y0] 3)))
   refine(iHaveAccounts _ x (wr.heap.size+1) 1 1 [y0] b0 (zu S2).r (zu L).1 rfl (by omega) (by simp) (at_new _ [y0] _ (by simp) rfl) (all_one (zu H0))).mono ?_
   rintro e w1 ⟨rfl,bb⟩
   have S3:=zh ((zu S2).step bb)
   have f0:w1.cell? ⟨wr.heap.size,0,none⟩=some (.int .i64 y0):=(bb.cell (p:=⟨wr.heap.size,0,none⟩) (by simp;omega)).trans (by simp)
   have f1:w1.cell? ⟨wr.heap.size,1,none⟩=some (.int .i64 y1):=(bb.cell (p:=⟨wr.heap.size,1,none⟩) (by simp;omega)).trans (by simp)
   have f2:w1.cell? ⟨wr.heap.size,2,none⟩=some (.int .i64 y2):=(bb.cell (p:=⟨wr.heap.size,2,none⟩) (by simp;omega)).trans (by simp)
   have z1:wr.heap.size<w1.heap.size:=by have:=bb.size;simp at this;omega
   clear bb c0 c1 c2 c3 c4 c5 d0 d1 d2
   obtain⟨c0,c1,c2,c3,c4,c5⟩:=(zu S3).c
   cases b0
   ·have F:=zh ((zu BAD) (fun hh=>(zu H0).no ((zu FIT).1 hh).1))
    clear BAD GOOD FIT T
    go_wp2
    go_ret
    exact⟨by rw[zu F];rfl,(zu S3).b⟩
   go_wp2_with fail
   have S4:=zh ((zu S3).step (one_more _ (.cells #[.int .i64 y1] 3)))
   refine(iHaveInstrs _ x w1.heap.size 1 1 [y1] b1 (zu S4).r (zu L).2.1 rfl (by omega) (by simp) (at_new _ [y1] _ rfl rfl) (all_one (zu H1))).mono ?_
   rintro e w2 ⟨rfl,bb⟩
   have S5:=zh ((zu S4).step bb)
   have g0:w2.cell? ⟨wr.heap.size,0,none⟩=some (.int .i64 y0):=(bb.cell (p:=⟨wr.heap.size,0,none⟩) (by simp;omega)).trans ((World.cell?_alloc_past _ _ _ z1).trans f0)
   have g2:w2.cell? ⟨wr.heap.size,2,none⟩=some (.int .i64 y2):=(bb.cell (p:=⟨wr.heap.size,2,none⟩) (by simp;omega)).trans ((World.cell?_alloc_past _ _ _ z1).trans f2)
   clear bb c0 c1 c2 c3 c4 c5 f0 f1 f2
   obtain⟨c0,c1,c2,c3,c4,c5⟩:=(zu S5).c
   cases b1
   ·have F:=zh ((zu BAD) (fun hh=>(zu H1).no ((zu FIT).1 hh).2.1))
    clear BAD GOOD FIT T
    go_wp2
    go_ret
    exact⟨by rw[zu F];rfl,(zu S5).b⟩
   by_cases q:y2<0
   ·go_wp2_with fail
    refine(iHolder _ x y0 b2 (zu S5).r (zu L).1 (zu H2)).mono ?_
    rintro e w3 ⟨rfl,bb⟩
    have S6:=zh ((zu S5).step bb)
    clear bb c0 c1 c2 c3 c4 c5
    cases b2
    ·have G:=zh ((zu GOOD) ((zu FIT).2 ⟨(zu H0).yes,(zu H1).yes,fun r=>(zu H2).no r.1⟩))
     clear BAD GOOD FIT
     go_wp2
     go_roundw
     case rel=>exact⟨k+1,by omega,by go_num,zu S6,G⟩
     case measure=>simp[intOf];omega
    ·have F:=zh ((zu BAD) (fun hh=>((zu FIT).1 hh).2.2 ⟨(zu H2).yes,q⟩))
     clear BAD GOOD FIT T
     go_wp2
     go_ret
     exact⟨by rw[zu F];rfl,(zu S6).b⟩
   ·have G:=zh ((zu GOOD) ((zu FIT).2 ⟨(zu H0).yes,(zu H1).yes,fun r=>q r.2⟩))
    have hq:decide (y2<0)=false:=decide_eq_false q
    clear BAD GOOD FIT q
    go_wp2
    go_roundw
    case rel=>exact⟨k+1,by omega,by go_num,zu S5,G⟩
    case measure=>simp[intOf];omega
  ·have ALL:=zh (show ∀k,k<x.b.bs.length→BalFit x.b (el3 x.b.bs k) from fun j hj=>(zu HG) j (by omega))
   obtain⟨c0,c1,c2,c3,c4,c5⟩:=hS.c
   have S1:=zh hS
   clear hS HG
   go_wp2
   go_loopw [43] (fun i wr=>∃(k:Nat),k≤x.b.ic.length∧i= .int .i64 k∧StV w wr x∧Hid (∀j,j<k→sumI x.b.bs (Chart.el x.b.ic j).1=0)) (fun i _=>x.b.ic.length-(intOf i).toNat)
   case atStart=>exact⟨0,by omega,rfl,zu S1,zh (fun i hi=>absurd hi (by omega))⟩
   case round=>
    clear c0 c1 c2 c3 c4 c5 S1 hk t
    obtain⟨k,hk,rfl,hS,HG⟩:=hrel
    by_cases t:k<x.b.ic.length
    ·obtain⟨gi,ei⟩:=hS.r.ei (by omega)
     obtain⟨d0,d1⟩:=(hS.r.ri gi ei).2 k t
     have ix:=ixI x.ci ei t
     clear ei
     have c2:=hS.c.c2
     have S1:=zh (hS.step (one_more _ (.cells #[.int .i64 (Chart.el x.b.ic k).1,.int .i64 (Chart.el x.b.ic k).2] 76)))
     have wz:=hS.s
     clear hS
     have BAD:=zh (show sumI x.b.bs (Chart.el x.b.ic k).1≠0→b=false from fun hr=>(zu T).not (fun r=>hr (r.2 _)))
     have GOOD:=zh (show sumI x.b.bs (Chart.el x.b.ic k).1=0→∀i,i<k+1→sumI x.b.bs (Chart.el x.b.ic i).1=0 from fun hr i hi=>by
      by_cases e:i=k
      ·subst e;exact hr
      ·exact(zu HG) i (by omega))
     generalize (Chart.el x.b.ic k).1=y0 at *
     generalize (Chart.el x.b.ic k).2=y1 at *
     obtain⟨r,c,hs⟩:=Look.sum_is x.b.bs y0
     have Z:=zh (sum_zero (zu L).2.2.1 hs)
     have HS:=zh hs
     clear hs
     go_wp2_with fail
     refine(iSumV _ x y0 r c (zu S1).r (zu HS)).mono ?_
     rintro e w1 ⟨rfl,bb⟩
     have S2:=zh ((zu S1).step bb)
     clear bb c2 d0 d1
     cases c
     ·have F:=zh ((zu BAD) (fun e=>by have:=(zu Z).2 e;cases this.1))
      clear BAD GOOD T
      go_wp2
      go_ret
      exact⟨by rw[zu F];rfl,(zu S2).b⟩
     by_cases q:r=0
     ·have G:=zh ((zu GOOD) ((zu Z).1 ⟨rfl,q⟩))
      have hq:(r !=0)=false:=by simp[q]
      clear BAD GOOD q
      go_wp2
      go_roundw
      case rel=>exact⟨k+1,by omega,by go_num,zu S2,G⟩
      case measure=>simp[intOf];omega
     ·have F:=zh ((zu BAD) (fun e=>q ((zu Z).2 e).2))
      have hq:(r !=0)=true:=by simp[q]
      clear BAD GOOD T q
      go_wp2
      go_ret
      exact⟨by rw[zu F];rfl,(zu S2).b⟩
    ·have F:=zh ((zu T).of (bals_impl (zu ALL) (fun j hj=>(zu HG) j (by omega))))
     have S1:=zh hS
     clear hS
     go_wp2
     go_ret
     exact⟨by rw[zu F];rfl,(zu S1).b⟩
end IBalsFitV13
namespace ILotsFitV13
open IReadV13 IHaveV13 IBalsFitV13
open ILotsFit (leftB leftL leftB_zero leftB_yes leftB_no leftL_zero leftL_next leftL_all leftL_bd list_none below_of_drew)
open Lots (qtyOf)
open Bals (T3 el3 val sumI upd ListOf)
open Tup5 (T5 el5)
open Tab (Tab Wf wf_no wf_amt)
open BMem Bks BHelp BMemV13
open IBalsFit (one_more all_one)
open IRead (enters beq_of FirstAt iContainsF)
open Lots (Says says_of NoOk)
theorem ixL{a:Option Addr}{g n k:Nat}(c:Nat)(e:a=some ⟨g,0,none⟩)(h:k<n)(w:World):(Instr.indexAt 29 (.slice a n c) (.int .i64 k)).run Tryz.prog w= .ok (.pointer (some ⟨g,k*5,none⟩)) w:=by
 subst e
 have:(k:Int)<n:=by omega
 simp[go_sem,this]
theorem StV.grown{w W W':World}{x:Ix}{M:Nat}(H:RdV w x)(h:StV w W x)(k:W.grownBy W' (some M))(hM:w.heap.size<M):StV w W' x:=by
 have b:Below w.heap.size w W':=h.b.grown k (Nat.le_of_lt h.s) (fun j e=>by cases e;omega)
 have ne:some w.heap.size≠some M:=fun e=>by cases e;omega
 exact⟨H.below b,⟨k.cell h.c.c0 ne,k.cell h.c.c1 ne,k.cell h.c.c2 ne,k.cell h.c.c3 ne,k.cell h.c.c4 ne,k.cell h.c.c5 ne⟩,b,Nat.lt_of_lt_of_le h.s k.size⟩
theorem iLotsFit(w:World)(x:Ix)(b:Bool)(h:RdV w x)(hl:Lists x.b)(hb:Says b (LotsFit x.b)):
  Calls Tryz.prog 105 #[.agg #[.slice x.aa x.b.ac.length x.ca,.slice x.ai x.b.ic.length x.ci,.slice x.ab x.b.bs.length x.cb,.slice x.al x.b.ls.length x.cl,.slice x.ats x.b.ts.length x.ct,.int .i64 x.b.lot]] w fun e w'=>e= .returned (.bool b)∧Below w.heap.size w w':=by
 have T:=zh hb
 have L:=zh hl
 have H:=zh h
 have S0:=zh ((StV.start h 32).step (one_more _ (.map #[] 0)))
 have nb:=h.nb
 have nl:=h.nl
 have n160:x.b.bs.length≤160:=hl.2.2.1.1
 have n120:x.b.ls.length≤120:=hl.2.2.2.1.1
 have TM:=zh (Tab.tab_made (w.alloc (.cells #[.slice x.aa x.b.ac.length x.ca,.slice x.ai x.b.ic.length x.ci,.slice x.ab x.b.bs.length x.cb,.slice x.al x.b.ls.length x.cl,.slice x.ats x.b.ts.length x.ct,.int .i64 x.b.lot] 32)))
 have hmm:= @run_makeMap Tryz.prog
 clear hb hl h
 go_enter Tryz.func105,Tryz.ntmps105
 go_wp2
 go_loopw [12] (fun i wr=>∃(k:Nat),k≤x.b.bs.length∧i= .int .i64 k∧StV w wr x∧Hid (Tab wr (w.heap.size+1) k (leftB x.b k))) (fun i _=>x.b.bs.length-(intOf i).toNat)
 case atStart=>exact⟨0,by omega,rfl,zu S0,zh ((by simpa using zu TM:Tab _ (w.heap.size+1) 0 (fun _ _=>0)).congr (fun a i=>(leftB_zero _ a i).symm))⟩
 case round=>
  obtain⟨k,hk,rfl,hS,HT⟩:=hrel
  clear S0 TM
  by_cases t:k<x.b.bs.length
  ·obtain⟨gb,eb⟩:=hS.r.eb (by omega)
   obtain⟨d0,d1,d2⟩:=(hS.r.rb gb eb).2 k t
   have ix:=ixB x.cb eb t
   clear eb
   obtain⟨c0,c1,c2,c3,c4,c5⟩:=hS.c
   obtain⟨r1,r2,r3,r4,_⟩:=(zu L).2.2.1.2 k t
   have WF:=zh (wf_no r1 r2)
   have WA:=wf_amt r3
   have YES:=zh (fun hh=>leftB_yes (zu L).2.2.1 t hh)
   have NO:=zh (fun hh=>leftB_no (zu L).2.2.1 t hh)
   have wz:=hS.s
   have S1:=zh (hS.step (one_more wr (.cells #[.int .i64 (el3 x.b.bs k).1,.int .i64 (el3 x.b.bs k).2.1,.int .i64 (el3 x.b.bs k).2.2] 78)))
   have T1:=zh ((zu HT).below (one_more wr (.cells #[.int .i64 (el3 x.b.bs k).1,.int .i64 (el3 x.b.bs k).2.1,.int .i64 (el3 x.b.bs k).2.2] 78)))
   clear hS HT r1 r2 r3 r4
   generalize (el3 x.b.bs k).1=y0 at *
   generalize (el3 x.b.bs k).2.1=y1 at *
   generalize (el3 x.b.bs k).2.2=y2 at *
   obtain⟨b0,h0⟩:=says_of (kindOf x.b.ac y0=1)
   obtain⟨b1,h1⟩:=says_of (kindOf x.b.ic y1=2)
   have H0:=zh h0
   have H1:=zh h1
   clear h0 h1
   go_wp2_with fail
   refine(iHolder _ x y0 b0 (zu S1).r (zu L).1 (zu H0)).mono ?_
   rintro e w1 ⟨rfl,bb⟩
   have S2:=zh ((zu S1).step bb)
   have T2:=zh ((zu T1).below bb)
   have f0:w1.cell? ⟨wr.heap.size,0,none⟩=some (.int .i64 y0):=(bb.cell (p:=⟨wr.heap.size,0,none⟩) (by simp)).trans (by simp)
   have f1:w1.cell? ⟨wr.heap.size,1,none⟩=some (.int .i64 y1):=(bb.cell (p:=⟨wr.heap.size,1,none⟩) (by simp)).trans (by simp)
   have f2:w1.cell? ⟨wr.heap.size,2,none⟩=some (.int .i64 y2):=(bb.cell (p:=⟨wr.heap.size,2,none⟩) (by simp)).trans (by simp)
   have z1:wr.heap.size<w1.heap.size:=by have:=bb.size;simp at this;omega
   clear bb c0 c1 c2 c3 c4 c5 d0 d1 d2 S1 T1
   obtain⟨c0,c1,c2,c3,c4,c5⟩:=(zu S2).c
   cases b0
   ·have E:=zh ((zu NO) (fun hh=>(zu H0).no hh.1))
    clear YES NO
    go_wp2
    go_roundw
    case rel=>
     refine⟨k+1,by omega,by go_num,zu S2,zh ?_⟩
     obtain⟨D,o1,o2⟩:=(zu T2).congr (fun a i=>((zu E) a i).symm)
     exact⟨D,o1.mono (by omega),o2⟩
    case measure=>simp[intOf];omega
   go_wp2_with fail
   refine(iPaper _ x y1 b1 (zu S2).r (zu L).2.1 (zu H1)).mono ?_
   rintro e w2 ⟨rfl,bb⟩
   have S3:=zh ((zu S2).step bb)
   have T3:=zh ((zu T2).below bb)
   replace f0:w2.cell? ⟨wr.heap.size,0,none⟩=some (.int .i64 y0):=(bb.cell (p:=⟨wr.heap.size,0,none⟩) z1).trans f0
   replace f1:w2.cell? ⟨wr.heap.size,1,none⟩=some (.int .i64 y1):=(bb.cell (p:=⟨wr.heap.size,1,none⟩) z1).trans f1
   replace f2:w2.cell? ⟨wr.heap.size,2,none⟩=some (.int .i64 y2):=(bb.cell (p:=⟨wr.heap.size,2,none⟩) z1).trans f2
   clear bb c0 c1 c2 c3 c4 c5 S2 T2
   cases b1
   ·have E:=zh ((zu NO) (fun hh=>(zu H1).no hh.2))
    clear YES NO
    go_wp2
    go_roundw
    case rel=>
     refine⟨k+1,by omega,by go_num,zu S3,zh ?_⟩
     obtain⟨D,o1,o2⟩:=(zu T3).congr (fun a i=>((zu E) a i).symm)
     exact⟨D,o1.mono (by omega),o2⟩
    case measure=>simp[intOf];omega
   have E:=zh ((zu YES) ⟨(zu H0).yes,(zu H1).yes⟩)
   clear YES NO
   go_wp2_with (first|(at_mapUpdate;refine Tab.wp_put _ rfl _ _ _ 151 rfl Tryz.underlying151 (w.heap.size+1) k _ rfl (zu T3) (by omega) y0 y1 y2 rfl rfl (zu WF) WA ?_;intro w3 t3 g3)|go_in)
   go_roundw
   case rel=>exact⟨k+1,by omega,by go_num,StV.grown (zu H) (zu S3) g3 (by omega),zh (t3.congr (fun a i=>((zu E) a i).symm))⟩
   case measure=>simp[intOf];omega
  ·obtain rfl:k=x.b.bs.length:=by omega
   obtain⟨c0,c1,c2,c3,c4,c5⟩:=hS.c
   have S1:=zh hS
   have T1:=zh ((zu HT).congr (fun a i=>(leftL_zero x.b a i).symm))
   clear hS HT
   go_wp2
   go_loopw [38] (fun i wr=>∃(k:Nat),k≤x.b.ls.length∧i= .int .i64 k∧StV w wr x∧Hid (Tab wr (w.heap.size+1) (x.b.bs.length+k) (leftL x.b k))∧Hid (∀j,j<k→LotFit x.b (el5 x.b.ls j))) (fun i _=>x.b.ls.length-(intOf i).toNat)
   case atStart=>exact⟨0,by omega,rfl,zu S1,T1,zh (fun i hi=>absurd hi (by omega))⟩
   case round=>
    clear c0 c1 c2 c3 c4 c5 S1 T1 hk t
    obtain⟨k,hk,rfl,hS,HT,HG⟩:=hrel
    by_cases t:k<x.b.ls.length
    ·obtain⟨gl,el⟩:=hS.r.el (by omega)
     obtain⟨d0,d1,d2,d3,d4⟩:=(hS.r.rl gl el).2 k t
     have ix:=ixL x.cl el t
     clear el
     obtain⟨c0,c1,c2,c3,c4,c5⟩:=hS.c
     have BAD:=zh (show ¬LotFit x.b (el5 x.b.ls k)→b=false from fun hr=>(zu T).not (fun r=>hr (r.1 k t)))
     have GOOD:=zh (show LotFit x.b (el5 x.b.ls k)→∀i,i<k+1→LotFit x.b (el5 x.b.ls i) from fun hr i hi=>by
      by_cases e:i=k
      ·subst e;exact hr
      ·exact(zu HG) i (by omega))
     have FIT:=zh (show LotFit x.b (el5 x.b.ls k)↔kindOf x.b.ac (el5 x.b.ls k).1=1∧kindOf x.b.ic (el5 x.b.ls k).2.1=2∧(el5 x.b.ls k).2.2.1≤x.b.lot from Iff.rfl)
     have NX:=zh (leftL_next t)
     obtain⟨r1,r2,_,r4,_⟩:=((zu L).2.2.2.1.2.1 k t).1
     have WF:=zh (wf_no r1 r2)
     have BD:=leftL_bd (zu L) k (el5 x.b.ls k).1 (el5 x.b.ls k).2.1
     have wz:=hS.s
     have mz:=(zu HT).lt
     have S1:=zh (hS.step (one_more wr (.cells #[.int .i64 (el5 x.b.ls k).1,.int .i64 (el5 x.b.ls k).2.1,.int .i64 (el5 x.b.ls k).2.2.1,.int .i64 (el5 x.b.ls k).2.2.2.1,.int .i64 (el5 x.b.ls k).2.2.2.2] 80)))
     have T1:=zh ((zu HT).below (one_more wr (.cells #[.int .i64 (el5 x.b.ls k).1,.int .i64 (el5 x.b.ls k).2.1,.int .i64 (el5 x.b.ls k).2.2.1,.int .i64 (el5 x.b.ls k).2.2.2.1,.int .i64 (el5 x.b.ls k).2.2.2.2] 80)))
     clear hS HT r1 r2
     generalize (el5 x.b.ls k).1=y0 at *
     generalize (el5 x.b.ls k).2.1=y1 at *
     generalize (el5 x.b.ls k).2.2.1=y2 at *
     generalize (el5 x.b.ls k).2.2.2.1=y3 at *
     generalize (el5 x.b.ls k).2.2.2.2=y4 at *
     obtain⟨b0,h0⟩:=says_of (kindOf x.b.ac y0=1)
     obtain⟨b1,h1⟩:=says_of (kindOf x.b.ic y1=2)
     have H0:=zh h0
     have H1:=zh h1
     clear h0 h1
     go_wp2_with fail
     refine(iHolder _ x y0 b0 (zu S1).r (zu L).1 (zu H0)).mono ?_
     rintro e w1 ⟨rfl,bb⟩
     have S2:=zh ((zu S1).step bb)
     have T2:=zh ((zu T1).below bb)
     have f0:w1.cell? ⟨wr.heap.size,0,none⟩=some (.int .i64 y0):=(bb.cell (p:=⟨wr.heap.size,0,none⟩) (by simp)).trans (by simp)
     have f1:w1.cell? ⟨wr.heap.size,1,none⟩=some (.int .i64 y1):=(bb.cell (p:=⟨wr.heap.size,1,none⟩) (by simp)).trans (by simp)
     have f2:w1.cell? ⟨wr.heap.size,2,none⟩=some (.int .i64 y2):=(bb.cell (p:=⟨wr.heap.size,2,none⟩) (by simp)).trans (by simp)
     have f3:w1.cell? ⟨wr.heap.size,3,none⟩=some (.int .i64 y3):=(bb.cell (p:=⟨wr.heap.size,3,none⟩) (by simp)).trans (by simp)
     have f4:w1.cell? ⟨wr.heap.size,4,none⟩=some (.int .i64 y4):=(bb.cell (p:=⟨wr.heap.size,4,none⟩) (by simp)).trans (by simp)
     have z1:wr.heap.size<w1.heap.size:=by have:=bb.size;simp at this;omega
     clear bb c0 c1 c2 c3 c4 c5 d0 d1 d2 d3 d4 S1 T1
     obtain⟨c0,c1,c2,c3,c4,c5⟩:=(zu S2).c
     cases b0
     ·have F:=zh ((zu BAD) (fun hh=>(zu H0).no ((zu FIT).1 hh).1))
      clear BAD GOOD FIT T
      go_wp2
      go_ret
      exact⟨by rw[zu F];rfl,(zu S2).b⟩
     go_wp2_with fail
     refine(iPaper _ x y1 b1 (zu S2).r (zu L).2.1 (zu H1)).mono ?_
     rintro e w2 ⟨rfl,bb⟩
     have S3:=zh ((zu S2).step bb)
     have T3:=zh ((zu T2).below bb)
     replace f0:w2.cell? ⟨wr.heap.size,0,none⟩=some (.int .i64 y0):=(bb.cell (p:=⟨wr.heap.size,0,none⟩) z1).trans f0
     replace f1:w2.cell? ⟨wr.heap.size,1,none⟩=some (.int .i64 y1):=(bb.cell (p:=⟨wr.heap.size,1,none⟩) z1).trans f1
     replace f2:w2.cell? ⟨wr.heap.size,2,none⟩=some (.int .i64 y2):=(bb.cell (p:=⟨wr.heap.size,2,none⟩) z1).trans f2
     replace f3:w2.cell? ⟨wr.heap.size,3,none⟩=some (.int .i64 y3):=(bb.cell (p:=⟨wr.heap.size,3,none⟩) z1).trans f3
     replace f4:w2.cell? ⟨wr.heap.size,4,none⟩=some (.int .i64 y4):=(bb.cell (p:=⟨wr.heap.size,4,none⟩) z1).trans f4
     have z2:wr.heap.size<w2.heap.size:=Nat.lt_of_lt_of_le z1 bb.size
     clear bb c0 c1 c2 c3 c4 c5 S2 T2
     have c5:=(zu S3).c.c5
     cases b1
     ·have F:=zh ((zu BAD) (fun hh=>(zu H1).no ((zu FIT).1 hh).2.1))
      clear BAD GOOD FIT T
      go_wp2
      go_ret
      exact⟨by rw[zu F];rfl,(zu S3).b⟩
     by_cases q:y2>x.b.lot
     ·have F:=zh ((zu BAD) (fun hh=>by have:=((zu FIT).1 hh).2.2;omega))
      clear BAD GOOD FIT T
      go_wp2
      go_ret
      exact⟨by rw[zu F];rfl,(zu S3).b⟩
     have G:=zh ((zu GOOD) ((zu FIT).2 ⟨(zu H0).yes,(zu H1).yes,by omega⟩))
     have hq:decide (y2>x.b.lot)=false:=decide_eq_false q
     clear BAD GOOD FIT q
     go_wp2_with fail
     clear c5
     generalize hfv:leftL x.b k y0 y1=fv at *
     have FV:=zh hfv
     have wrap1:IntKind.i64.wrap (fv-y3)=fv-y3:=by rw[IntKind.wrap_i64];omega
     have WV:(Lit.int .i64 (fv-y3)).wf=true:=WalkArith.wf_i64 (by omega)
     clear hfv
     have M1:=zh (fun(W:World) (bW:Below w2.heap.size w2 W)=>Entry.entry_run ((zu T3).below bW) (by omega) (zu WF))
     go_region_held3 (fun w'=>w'.cell? ⟨wr.heap.size,0,none⟩=some (.int .i64 y0)∧w'.cell? ⟨wr.heap.size,1,none⟩=some (.int .i64 y1)∧w'.cell? ⟨wr.heap.size,2,none⟩=some (.int .i64 y2)∧w'.cell? ⟨wr.heap.size,3,none⟩=some (.int .i64 y3)∧w'.cell? ⟨wr.heap.size,4,none⟩=some (.int .i64 y4)) (go_keep)
      (first|(go_at_call 118;refine(CmpL.keyL y0 y1 y2 y3 y4 w2.drew).mono ?_;rintro e w3 ⟨rfl,bb⟩;have bW:Below w2.heap.size w2 w3:=below_of_drew bb;have t3:=(zu T3).below bW;have l3:=Post.look_run t3 (zu WF);rw[zu FV] at l3;obtain⟨v0,st,w4,E4,t4,g4,ST⟩:=(zu M1) w3 bW;have l4:=Post.look_run t4 (zu WF);rw[zu FV] at l4;obtain⟨w5,E5,t5,g5⟩:=ST (fv-y3) WV;replace E5:(Instr.entryStore 151 (.map (some (w.heap.size+1))) (.int .i64 (st:Int)) (.int .i64 (fv-y3))).run Tryz.prog w4= .ok () w5:=E5;have ne:some wr.heap.size≠some (w.heap.size+1):=(fun e=>by injection e;omega);have p0:w3.cell? ⟨wr.heap.size,0,none⟩=some (.int .i64 y0):=(bW.cell (p:=⟨wr.heap.size,0,none⟩) z2).trans f0;have q0:=g4.cell p0 ne;have o0:=g5.cell p0 ne;have p1:w3.cell? ⟨wr.heap.size,1,none⟩=some (.int .i64 y1):=(bW.cell (p:=⟨wr.heap.size,1,none⟩) z2).trans f1;have q1:=g4.cell p1 ne;have o1:=g5.cell p1 ne;have p2:w3.cell? ⟨wr.heap.size,2,none⟩=some (.int .i64 y2):=(bW.cell (p:=⟨wr.heap.size,2,none⟩) z2).trans f2;have q2:=g4.cell p2 ne;have o2:=g5.cell p2 ne;have p3:w3.cell? ⟨wr.heap.size,3,none⟩=some (.int .i64 y3):=(bW.cell (p:=⟨wr.heap.size,3,none⟩) z2).trans f3;have q3:=g4.cell p3 ne;have o3:=g5.cell p3 ne;have p4:w3.cell? ⟨wr.heap.size,4,none⟩=some (.int .i64 y4):=(bW.cell (p:=⟨wr.heap.size,4,none⟩) z2).trans f4;have q4:=g4.cell p4 ne;have o4:=g5.cell p4 ne;clear bb ST))
     all_goals
      have S4:=zh (StV.grown (zu H) ((zu S3).step bW) g5 (by omega))
      have T5:=zh (t5.congr (fun a i=>(by rw[zu NX]:leftL x.b (k+1) a i=upd (leftL x.b k) y0 y1 (fv-y3) a i).symm))
      clear t3 l3 E4 t4 g4 l4 t5 g5 E5 p0 p1 p2 p3 p4 q0 q1 q2 q3 q4 o0 o1 o2 o3 o4 f0 f1 f2 f3 f4 S3 T3 M1 bW NX
      go_wp2
      go_roundw
      case rel=>exact⟨k+1,by omega,by go_num,zu S4,T5,G⟩
      case measure=>simp[intOf];omega
    ·obtain rfl:k=x.b.ls.length:=by omega
     have ALL:=zh (show ∀j,j<x.b.ls.length→LotFit x.b (el5 x.b.ls j) from zu HG)
     have S1:=zh hS
     have T1:=zh ((zu HT).congr (fun a i=>leftL_all x.b a i))
     clear hS HT HG
     go_wp2_with fail
     refine(Out.iBals _ (w.heap.size+1) _ _ (by omega) (zu T1)).mono ?_
     rintro e w1 ⟨qs,g,c,hq,hn,rfl,ho,bb⟩
     have B1:=zh ((zu S1).b.trans (bb.mono (Nat.le_of_lt (zu S1).s)))
     have hd:((qs.length:Int)==0)=b:=by
      have hz:=(list_none hq).trans (lots_impl (zu ALL))
      by_cases z:qs.length=0
      ·rw[(zu T).of (hz.1 z),z];rfl
      ·rw[(zu T).not (fun r=>z (hz.2 r))]
       simp only[beq_eq_false_iff_ne]
       omega
     clear bb ho hq hn
     go_wp2
     go_ret
     exact⟨rfl,zu B1⟩
end ILotsFitV13
namespace IBooksOkV13
open IReadV13 IHaveV13 IBalsFitV13 ILotsFitV13 IIndex8
open ITradesFit (unfitB unfit_says)
open Tup8 (T8 el8 At8 Holds8)
open BMem Bks BHelp BMemV13
open IBalsFit (one_more all_one)
open IRead (enters beq_of FirstAt iContainsF)
open Lots (Says says_of NoOk)
theorem containsV(w:World)(x:Ix)(K:Nat)(caps:Array Value)(p:T8→Bool)(b:Bool)(h:RdV w x)
  (hK:∀(args:Array Value) (u:World),(callFunc K args).run Tryz.prog u= .ok (.enter K args) u)(hf:∀(u:World) (y:T8),Below w.heap.size w u→Calls Tryz.prog K (#[.agg #[.int .i64 y.1,.int .i64 y.2.1,.int .i64 y.2.2.1,.int .i64 y.2.2.2.1,.int .i64 y.2.2.2.2.1,.int .i64 y.2.2.2.2.2.1,.int .i64 y.2.2.2.2.2.2.1,.int .i64 y.2.2.2.2.2.2.2]]++caps) u fun e u'=>e= .returned (.bool (p y))∧Below u.heap.size u u')(hb:Says b (∃t∈x.b.ts,p t=true)):
  Calls Tryz.prog 120 #[.slice x.ats x.b.ts.length x.ct,.func (.func K) #[] caps] w fun e w'=>e= .returned (.bool b)∧Below w.heap.size w w':=by
 by_cases z:x.b.ts.length=0
 ·rw[z]
  have e:b=false:=hb.not (fun⟨t,ht,_⟩=>by rw[List.eq_nil_of_length_eq_zero z] at ht;cases ht)
  exact(contains0 w x.ats x.ct K caps).mono fun e' w' ⟨h1,h2⟩=>⟨by rw[h1,e],by rw[h2];exact Below.refl _ _⟩
 ·obtain⟨g,eg⟩:=h.et z
  rw[eg]
  exact iContainsF8 w g _ x.ct K caps x.b.ts p b rfl h.nt (h.rt g eg).1 (h.rt g eg).2 hK hf hb
theorem iTradeFits(w:World)(x:Ix)(y0 y1 y2 y3 y4 y5 y6 y7:Int)(b:Bool)(h:RdV w x)(ha:Chart.Right 20 4 x.b.ac)(hi:Chart.Right 8 2 x.b.ic)(hb:Says b (TradeFit x.b (y0,y1,y2,y3,y4,y5,y6,y7))):
  Calls Tryz.prog 122 #[.agg #[.slice x.aa x.b.ac.length x.ca,.slice x.ai x.b.ic.length x.ci,.slice x.ab x.b.bs.length x.cb,.slice x.al x.b.ls.length x.cl,.slice x.ats x.b.ts.length x.ct,.int .i64 x.b.lot],.agg #[.int .i64 y0,.int .i64 y1,.int .i64 y2,.int .i64 y3,.int .i64 y4,.int .i64 y5,.int .i64 y6,.int .i64 y7]] w fun e w'=>e= .returned (.bool b)∧Below w.heap.size w w':=by
 have T:=zh hb
 have LA:=zh ha
 have LI:=zh hi
 have FIT:=zh (show TradeFit x.b (y0,y1,y2,y3,y4,y5,y6,y7)↔kindOf x.b.ac y1=1∧kindOf x.b.ac y2=1∧kindOf x.b.ic y3=2∧kindOf x.b.ic y5=1 from Iff.rfl)
 have S1:=zh ((StV.start h 32).step (one_more (w.alloc (.cells #[.slice x.aa x.b.ac.length x.ca,.slice x.ai x.b.ic.length x.ci,.slice x.ab x.b.bs.length x.cb,.slice x.al x.b.ls.length x.cl,.slice x.ats x.b.ts.length x.ct,.int .i64 x.b.lot] 32)) (.cells #[.int .i64 y0,.int .i64 y1,.int .i64 y2,.int .i64 y3,.int .i64 y4,.int .i64 y5,.int .i64 y6,.int .i64 y7] 82)))
 clear hb ha hi h
 obtain⟨b1,h1⟩:=says_of (kindOf x.b.ac y1=1)
 obtain⟨b2,h2⟩:=says_of (kindOf x.b.ac y2=1)
 obtain⟨b3,h3⟩:=says_of (kindOf x.b.ic y3=2)
 obtain⟨b4,h4⟩:=says_of (kindOf x.b.ic y5=1)
 have H1:=zh h1
 have H2:=zh h2
 have H3:=zh h3
 have H4:=zh h4
 clear h1 h2 h3 h4
 go_enter Tryz.func122,Tryz.ntmps122
 go_wp2_with fail
 refine(iHolder _ x y1 b1 (zu S1).r (zu LA) (zu H1)).mono ?_
 rintro e w1 ⟨rfl,bb⟩
 have S2:=zh ((zu S1).step bb)
 have f2:w1.cell? ⟨w.heap.size+1,2,none⟩=some (.int .i64 y2):=(bb.cell (p:=⟨w.heap.size+1,2,none⟩) (by simp)).trans (by simp)
 have f3:w1.cell? ⟨w.heap.size+1,3,none⟩=some (.int .i64 y3):=(bb.cell (p:=⟨w.heap.size+1,3,none⟩) (by simp)).trans (by simp)
 have f5:w1.cell? ⟨w.heap.size+1,5,none⟩=some (.int .i64 y5):=(bb.cell (p:=⟨w.heap.size+1,5,none⟩) (by simp)).trans (by simp)
 have z1:w.heap.size+1<w1.heap.size:=by have:=bb.size;simp at this;omega
 clear bb
 cases b1
 ·have F:=zh ((zu T).not (fun hh=>(zu H1).no ((zu FIT).1 hh).1))
  clear FIT T
  go_wp2
  go_ret
  exact⟨by rw[zu F];rfl,(zu S2).b⟩
 obtain⟨c0,c1,c2,c3,c4,c5⟩:=(zu S2).c
 go_wp2_with fail
 refine(iHolder _ x y2 b2 (zu S2).r (zu LA) (zu H2)).mono ?_
 rintro e w2 ⟨rfl,bb⟩
 have S3:=zh ((zu S2).step bb)
 replace f2:w2.cell? ⟨w.heap.size+1,2,none⟩=some (.int .i64 y2):=(bb.cell (p:=⟨w.heap.size+1,2,none⟩) z1).trans f2
 replace f3:w2.cell? ⟨w.heap.size+1,3,none⟩=some (.int .i64 y3):=(bb.cell (p:=⟨w.heap.size+1,3,none⟩) z1).trans f3
 replace f5:w2.cell? ⟨w.heap.size+1,5,none⟩=some (.int .i64 y5):=(bb.cell (p:=⟨w.heap.size+1,5,none⟩) z1).trans f5
 have z2:w.heap.size+1<w2.heap.size:=Nat.lt_of_lt_of_le z1 bb.size
 clear bb c0 c1 c2 c3 c4 c5
 cases b2
 ·have F:=zh ((zu T).not (fun hh=>(zu H2).no ((zu FIT).1 hh).2.1))
  clear FIT T
  go_wp2
  go_ret
  exact⟨by rw[zu F];rfl,(zu S3).b⟩
 obtain⟨c0,c1,c2,c3,c4,c5⟩:=(zu S3).c
 go_wp2_with fail
 refine(iPaper _ x y3 b3 (zu S3).r (zu LI) (zu H3)).mono ?_
 rintro e w3 ⟨rfl,bb⟩
 have S4:=zh ((zu S3).step bb)
 replace f5:w3.cell? ⟨w.heap.size+1,5,none⟩=some (.int .i64 y5):=(bb.cell (p:=⟨w.heap.size+1,5,none⟩) z2).trans f5
 clear bb c0 c1 c2 c3 c4 c5 f2 f3
 cases b3
 ·have F:=zh ((zu T).not (fun hh=>(zu H3).no ((zu FIT).1 hh).2.2.1))
  clear FIT T
  go_wp2
  go_ret
  exact⟨by rw[zu F];rfl,(zu S4).b⟩
 obtain⟨c0,c1,c2,c3,c4,c5⟩:=(zu S4).c
 go_wp2_with fail
 refine(iCash _ x y5 b4 (zu S4).r (zu LI) (zu H4)).mono ?_
 rintro e w4 ⟨rfl,bb⟩
 have S5:=zh ((zu S4).step bb)
 clear bb c0 c1 c2 c3 c4 c5
 have G:=zh (show b=b4 from by
  cases b4
  ·exact(zu T).not (fun hh=>(zu H4).no ((zu FIT).1 hh).2.2.2)
  ·exact(zu T).of ((zu FIT).2 ⟨(zu H1).yes,(zu H2).yes,(zu H3).yes,(zu H4).yes⟩))
 clear FIT T
 go_wp2
 go_ret
 exact⟨by rw[zu G];rfl,(zu S5).b⟩
theorem iUnfit(w:World)(x:Ix)(g:Nat)(y:T8)(h:RdV w x)(hgs:g<w.heap.size)(hc:ClV w g x)(ha:Chart.Right 20 4 x.b.ac)(hi:Chart.Right 8 2 x.b.ic):
  Calls Tryz.prog 121 (#[.agg #[.int .i64 y.1,.int .i64 y.2.1,.int .i64 y.2.2.1,.int .i64 y.2.2.2.1,.int .i64 y.2.2.2.2.1,.int .i64 y.2.2.2.2.2.1,.int .i64 y.2.2.2.2.2.2.1,.int .i64 y.2.2.2.2.2.2.2]]++ #[.pointer (some ⟨g,0,none⟩)]) w fun e w'=>e= .returned (.bool (unfitB x.b y))∧Below w.heap.size w w':=by
 obtain⟨y0,y1,y2,y3,y4,y5,y6,y7⟩:=y
 show Calls Tryz.prog 121 #[.agg #[.int .i64 y0,.int .i64 y1,.int .i64 y2,.int .i64 y3,.int .i64 y4,.int .i64 y5,.int .i64 y6,.int .i64 y7],.pointer (some ⟨g,0,none⟩)] w _
 have T:=zh (unfit_says x.b (y0,y1,y2,y3,y4,y5,y6,y7))
 generalize unfitB x.b (y0,y1,y2,y3,y4,y5,y6,y7)=b at *
 have B0:=zh (one_more w (.cells #[.int .i64 y0,.int .i64 y1,.int .i64 y2,.int .i64 y3,.int .i64 y4,.int .i64 y5,.int .i64 y6,.int .i64 y7] 82))
 have H:=zh (h.below (zu B0))
 have LA:=zh ha
 have LI:=zh hi
 obtain⟨c0,c1,c2,c3,c4,c5⟩:=hc.below (zu B0) hgs
 clear h ha hi
 go_enter Tryz.func121,Tryz.ntmps121
 go_wp2_with fail
 refine(iTradeFits _ x y0 y1 y2 y3 y4 y5 y6 y7 (!b) (zu H) (zu LA) (zu LI) (zu T)).mono ?_
 rintro e w1 ⟨rfl,b1⟩
 have B1:=zh (next (zu B0) b1)
 clear b1
 go_wp2
 go_ret
 exact⟨by simp,zu B1⟩
theorem iTradesFit(w:World)(x:Ix)(b:Bool)(h:RdV w x)(hl:Lists x.b)(hb:Says b (TradesFit x.b)):
  Calls Tryz.prog 106 #[.agg #[.slice x.aa x.b.ac.length x.ca,.slice x.ai x.b.ic.length x.ci,.slice x.ab x.b.bs.length x.cb,.slice x.al x.b.ls.length x.cl,.slice x.ats x.b.ts.length x.ct,.int .i64 x.b.lot]] w fun e w'=>e= .returned (.bool b)∧Below w.heap.size w w':=by
 have T:=zh (show Says (!b) (∃t∈x.b.ts,unfitB x.b t=true) from by
  cases b
  ·refine⟨fun _=>?_,fun _=>rfl⟩
   have:=hb.no
   refine Classical.byContradiction fun hn=>this fun k hk=>?_
   refine(unfit_says x.b (el8 x.b.ts k)).1 ?_
   cases e:unfitB x.b (el8 x.b.ts k)
   ·rfl
   ·exact absurd ⟨_,Tup8.getD_mem hk,e⟩ hn
  ·refine⟨fun e=>Bool.noConfusion e,fun⟨t,ht,e⟩=>?_⟩
   obtain⟨k,hk,rfl⟩:=Tup8.mem_getD ht
   have:=(unfit_says x.b (el8 x.b.ts k)).2 (hb.yes k hk)
   rw[e] at this
   cases this)
 have LA:=zh hl.1
 have LI:=zh hl.2.1
 have S0:=zh (StV.start h 32)
 have nt:=h.nt
 clear hb hl h
 go_enter Tryz.func106,Tryz.ntmps106
 go_wp2_with fail
 refine(containsV _ x 121 #[.pointer (some ⟨w.heap.size,0,none⟩)] (unfitB x.b) (!b) (zu S0).r (fun _ _=>enters Tryz.func121 (by kernel_rfl) rfl _ _) (fun u y bu=>iUnfit u x w.heap.size y ((zu S0).r.below bu) (Nat.lt_of_lt_of_le (zu S0).s bu.size) ((zu S0).c.below bu (by simp)) (zu LA) (zu LI)) (zu T)).mono ?_
 rintro e w1 ⟨rfl,b1⟩
 have B1:=zh ((zu S0).step b1).b
 clear b1
 go_wp2
 go_ret
 exact⟨by simp,zu B1⟩
theorem iBooksOkV(w:World)(x:Ix)(b:Bool)(h:RdV w x)(hb:Says b (Ok x.b)):
  Calls Tryz.prog 81 #[.agg #[.slice x.aa x.b.ac.length x.ca,.slice x.ai x.b.ic.length x.ci,.slice x.ab x.b.bs.length x.cb,.slice x.al x.b.ls.length x.cl,.slice x.ats x.b.ts.length x.ct,.int .i64 x.b.lot]] w fun e w'=>e= .returned (.bool b)∧Below w.heap.size w w':=by
 have T:=zh hb
 have S0:=zh (StV.start h 32)
 obtain⟨b0,h0⟩:=says_of (Lists x.b)
 obtain⟨b1,h1⟩:=says_of (BalsFit x.b)
 obtain⟨b2,h2⟩:=says_of (LotsFit x.b)
 obtain⟨b3,h3⟩:=says_of (TradesFit x.b)
 have H0:=zh h0
 have H1:=zh h1
 have H2:=zh h2
 have H3:=zh h3
 clear hb h h0 h1 h2 h3
 go_enter Tryz.func81,Tryz.ntmps81
 go_wp2_with fail
 refine(iLists _ x b0 (zu S0).r (zu H0)).mono ?_
 rintro e w1 ⟨rfl,bb⟩
 have S1:=zh ((zu S0).step bb)
 clear bb
 obtain⟨c0,c1,c2,c3,c4,c5⟩:=(zu S1).c
 cases b0
 ·have F:=zh ((zu T).not (fun hh=>(zu H0).no hh.1))
  clear T
  go_wp2
  go_ret
  exact⟨by rw[zu F];rfl,(zu S1).b⟩
 go_wp2_with fail
 refine(iBalsFit _ x b1 (zu S1).r (zu H0).yes (zu H1)).mono ?_
 rintro e w2 ⟨rfl,bb⟩
 have S2:=zh ((zu S1).step bb)
 clear bb
 clear c0 c1 c2 c3 c4 c5
 obtain⟨c0,c1,c2,c3,c4,c5⟩:=(zu S2).c
 cases b1
 ·have F:=zh ((zu T).not (fun hh=>(zu H1).no hh.2.1))
  clear T
  go_wp2
  go_ret
  exact⟨by rw[zu F];rfl,(zu S2).b⟩
 go_wp2_with fail
 refine(iLotsFit _ x b2 (zu S2).r (zu H0).yes (zu H2)).mono ?_
 rintro e w3 ⟨rfl,bb⟩
 have S3:=zh ((zu S2).step bb)
 clear bb
 clear c0 c1 c2 c3 c4 c5
 obtain⟨c0,c1,c2,c3,c4,c5⟩:=(zu S3).c
 cases b2
 ·have F:=zh ((zu T).not (fun hh=>(zu H2).no hh.2.2.1))
  clear T
  go_wp2
  go_ret
  exact⟨by rw[zu F];rfl,(zu S3).b⟩
 go_wp2_with fail
 refine(iTradesFit _ x b3 (zu S3).r (zu H0).yes (zu H3)).mono ?_
 rintro e w4 ⟨rfl,bb⟩
 have S4:=zh ((zu S3).step bb)
 clear bb
 clear c0 c1 c2 c3 c4 c5
 obtain⟨c0,c1,c2,c3,c4,c5⟩:=(zu S4).c
 cases b3
 ·have F:=zh ((zu T).not (fun hh=>(zu H3).no hh.2.2.2))
  clear T
  go_wp2
  go_ret
  exact⟨by rw[zu F];rfl,(zu S4).b⟩
 have F:=zh ((zu T).of ⟨(zu H0).yes,(zu H1).yes,(zu H2).yes,(zu H3).yes⟩)
 clear T
 go_wp2
 go_ret
 exact⟨by rw[zu F];rfl,(zu S4).b⟩
end IBooksOkV13
namespace ITab13
open BMem Bks BHelp SRead13 VB13 ICl13 IRows13 BMemV13
open SBytes (AtB getN getF AtBO)
open SPuts11 (gets getsN)
open SRows13 (rowsL rowsN)
open IRd11 (Pl cell_grown grow_below grow_grow)
open IInto13
open IBalsFit (one_more)
open SRead13 (row_kept)
open Lots (Says says_of)
variable {oz:Nat}
def fk:Nat→Nat|0=>97|1=>98|2=>99|3=>100|_=>101
def tabC(B:Nat):Array Value:= #[.int .i64 20,.func (.func 97) #[] #[.pointer (some ⟨B,0,none⟩)],.int .i64 8,.func (.func 98) #[] #[.pointer (some ⟨B,0,none⟩)],.int .i64 160,.func (.func 99) #[] #[.pointer (some ⟨B,0,none⟩)],.int .i64 120,.func (.func 100) #[] #[.pointer (some ⟨B,0,none⟩)],.int .i64 30,.func (.func 101) #[] #[.pointer (some ⟨B,0,none⟩)]]
theorem tab_at(B k:Nat)(h:k<5):(tabC B)[k*2]?=some (.int .i64 (ms k))∧(tabC B)[k*2+1]?=some (.func (.func (fk k)) #[] #[.pointer (some ⟨B,0,none⟩)]):=by
 have:k=0∨k=1∨k=2∨k=3∨k=4:=by omega
 rcases this with rfl|rfl|rfl|rfl|rfl<;>exact⟨rfl,rfl⟩
theorem iTab(W:World)(D:Nat):Calls Tryz.prog 78 #[.pointer (some ⟨D,0,none⟩)] W fun e W'=>e= .returned (.slice (some ⟨W.heap.size+1,0,none⟩) 5 5)∧W'=(W.alloc (.cells #[.pointer (some ⟨D,0,none⟩)] 124)).alloc (.cells (tabC W.heap.size) 127):=by
 have hmf:∀(fn:Fn) (first cp:Array Value) (w:World),(Instr.makeFunc fn first cp).run Tryz.prog w= .ok (.func fn first cp) w:=fun _ _ _ _=>rfl
 unfold tabC
 go_enter Tryz.func78,Tryz.ntmps78
 go_wp2
 go_ret
 exact⟨rfl,rfl⟩
theorem enK(k:Nat)(h:k<5)(args:Array Value)(u:World):(callFunc (fk k) args).run Tryz.prog u= .ok (.enter (fk k) args) u:=by
 have:k=0∨k=1∨k=2∨k=3∨k=4:=by omega
 rcases this with rfl|rfl|rfl|rfl|rfl
 ·exact IRead.enters Tryz.func97 (by kernel_rfl) rfl _ _
 ·exact IRead.enters Tryz.func98 (by kernel_rfl) rfl _ _
 ·exact IRead.enters Tryz.func99 (by kernel_rfl) rfl _ _
 ·exact IRead.enters Tryz.func100 (by kernel_rfl) rfl _ _
 ·exact IRead.enters Tryz.func101 (by kernel_rfl) rfl _ _
theorem clK(k:Nat)(h:k<5)(w0 W:World)(gl cl p D B N:Nat)(xs:List Int)(et:TypeId)(ev:Value)(s:Int)(x:Ix)(G:Pg oz w0 gl cl p D B N xs et ev)(R:Rs w0 W p D B N s x)(hs:s≤9223372036854775807)(hl:lenk k x.b≤1000):
  Calls Tryz.prog (fk k) #[.agg #[.slice (some ⟨gl,oz,none⟩) xs.length cl,.pointer (some ⟨p,0,none⟩)],.pointer (some ⟨B,0,none⟩)] W (ClS k (gets xs (wd k) s []) w0 W p D B N x):=by
 have:k=0∨k=1∨k=2∨k=3∨k=4:=by omega
 rcases this with rfl|rfl|rfl|rfl|rfl
 ·exact cl0 w0 W gl cl p D B N xs et ev s x G R hs hl
 ·exact cl1 w0 W gl cl p D B N xs et ev s x G R hs hl
 ·exact cl2 w0 W gl cl p D B N xs et ev s x G R hs hl
 ·exact cl3 w0 W gl cl p D B N xs et ev s x G R hs hl
 ·exact cl4 w0 W gl cl p D B N xs et ev s x G R hs hl
theorem iRowsK(k:Nat)(h:k<5)(w0 W:World)(gl cl p D B N:Nat)(xs:List Int)(et:TypeId)(ev:Value)(s:Int)(x:Ix)(G:Pg oz w0 gl cl p D B N xs et ev)(R:Rs w0 W p D B N s x)(hs:0≤s∧s≤xs.length)(hx:x.b=putRows k [] x.b):
  Calls Tryz.prog 79 #[.agg #[.slice (some ⟨gl,oz,none⟩) xs.length cl,.pointer (some ⟨p,0,none⟩)],.agg #[.int .i64 (ms k),.func (.func (fk k)) #[] #[.pointer (some ⟨B,0,none⟩)]]] W (RowS k (rowsN xs s (wd k) (ms k)) w0 W p D B N x):=by
 have m1:ms k≤1000∧wd k≤2000:=by
  have:k=0∨k=1∨k=2∨k=3∨k=4:=by omega
  rcases this with rfl|rfl|rfl|rfl|rfl<;>decide
 exact iRows k (wd k) (fk k) (ms k) m1.1 m1.2 w0 W gl cl p D B N xs et ev s x x.b G R hs hx (enK k h) (fun V s' y R' h1 h2=>clK k h w0 V gl cl p D B N xs et ev s' y G R' h1 h2)
def Emp13(k:Nat)(b:Bk):Prop:=∀j,k≤j→j<5→b=putRows j [] b
theorem emp_next:∀(k:Nat) (rs:List (List Int)) (b:Bk),k<5→Emp13 k b→Emp13 (k+1) (putRows k rs b):=by
 intro k rs b hk h j h1 h2
 have:k=0∨k=1∨k=2∨k=3∨k=4:=by omega
 have hj:j=1∨j=2∨j=3∨j=4:=by omega
 have e:=h j (by omega) h2
 obtain⟨a1,a2,a3,a4,a5,a6⟩:=b
 rcases this with rfl|rfl|rfl|rfl|rfl<;>rcases hj with rfl|rfl|rfl|rfl<;>first|(exfalso;omega)|(simp only[putRows,Bk.mk.injEq] at e⊢;simp_all)
def Sm13(b:Bk):Prop:=b.ac.length≤1000∧b.ic.length≤1000∧b.bs.length≤1000∧b.ls.length≤1000∧b.ts.length≤1000
theorem sm_next(k:Nat)(rs:List (List Int))(b:Bk)(hk:k<5)(h:Sm13 b)(hr:rs.length≤1000):Sm13 (putRows k rs b):=by
 have:k=0∨k=1∨k=2∨k=3∨k=4:=by omega
 obtain⟨h1,h2,h3,h4,h5⟩:=h
 rcases this with rfl|rfl|rfl|rfl|rfl<;>simp[Sm13,putRows]<;>omega
theorem sm_small{b:Bk}(h:Sm13 b):Small b:=by
 obtain⟨h1,h2,h3,h4,h5⟩:=h
 exact⟨by omega,by omega,by omega,by omega,by omega⟩
theorem rowsL_pos{xs:List Int}{wide:Nat}:∀(m:Nat) (p:Int) (l:List (List Int)),0≤p∧p≤xs.length→(rowsL xs wide m p l).2.2=true→0≤(rowsL xs wide m p l).2.1∧(rowsL xs wide m p l).2.1≤xs.length
 |0,p,l=>fun h _=>h
 |m+1,p,l=>by
  intro h k
  simp only[rowsL] at k⊢
  by_cases a:(getsN xs p wide).2.2=true
  ·rw[if_pos a] at k⊢
   refine rowsL_pos m _ _ ?_ k
   unfold getsN at a⊢
   by_cases c:(0≤(wide:Int)∧(wide:Int)≤2000)∧0≤p∧p≤xs.length
   ·rw[if_pos c] at a⊢
    exact gets_in xs _ p [] h a
   ·rw[if_neg c] at a;simp at a
  ·rw[if_neg a] at k;simp at k
theorem rows_in{xs:List Int}{p:Int}{wide:Nat}{most:Int}(h:(rowsN xs p wide most).2.2=true):0≤(rowsN xs p wide most).2.1∧(rowsN xs p wide most).2.1≤xs.length:=by
 unfold rowsN at h⊢
 by_cases c:(getN xs p).2.2=true∧(getN xs p).1≤most
 ·rw[if_pos c] at h⊢
  exact rowsL_pos _ _ _ (getN_in c.1) h
 ·rw[if_neg c] at h;simp at h
def ReadP(r:Bk×Bool)(w:World)(e:Ending)(w':World):Prop:=
 (r.2=false∧Pan e∧Below w.heap.size w w')∨(r.2=true∧∃x:Ix,x.b=r.1∧e= .returned (.agg #[.slice x.aa x.b.ac.length x.ca,.slice x.ai x.b.ic.length x.ci,.slice x.ab x.b.bs.length x.cb,.slice x.al x.b.ls.length x.cl,.slice x.ats x.b.ts.length x.ct,.int .i64 x.b.lot])∧OwV w' w.heap.size x∧Below w.heap.size w w')
end ITab13
namespace IRead13
open BMem Bks BHelp SRead13 VB13 ICl13 IRows13 BMemV13 ITab13
open SBytes (AtB getN getF AtBO)
open SRows13 (rowsL rowsN)
open IRd11 (Pl cell_grown grow_below grow_grow)
open IInto13
open IBalsFit (one_more)
open SRead13 (row_kept)
open Lots (Says says_of)
variable {oz:Nat}
def zeroX:Ix:=⟨none,0,none,0,none,0,none,0,none,0,zeroB⟩
theorem zero_own(W:World)(N:Nat):OwV W N zeroX:=⟨World.ownsRow_nil W N _ _,World.ownsRow_nil W N _ _,World.ownsRow_nil W N _ _,World.ownsRow_nil W N _ _,World.ownsRow_nil W N _ _⟩
theorem zero_emp:Emp13 0 zeroB:=by
 intro j _ h
 have:j=0∨j=1∨j=2∨j=3∨j=4:=by omega
 rcases this with rfl|rfl|rfl|rfl|rfl<;>rfl
theorem zero_sm:Sm13 zeroB:=by simp[Sm13,zeroB]
abbrev ZC:Obj:= .cells #[.slice none 0 0,.slice none 0 0,.slice none 0 0,.slice none 0 0,.slice none 0 0,.int .i64 0] 32
abbrev RC(oz gl n cl p:Nat):Obj:= .cells #[.slice (some ⟨gl,oz,none⟩) n cl,.pointer (some ⟨p,0,none⟩)] 92
abbrev U0(oz:Nat)(w:World)(gl n cl:Nat):World:=(((w.alloc ZC).alloc ZC).alloc (.cells #[.int .i64 0] 3)).alloc (RC oz gl n cl (w.heap.size+2))
abbrev U1(oz:Nat)(w:World)(gl n cl:Nat):World:=((U0 oz w gl n cl).alloc (.cells #[.pointer (some ⟨w.heap.size+1,0,none⟩)] 124)).alloc (.cells (tabC (w.heap.size+4)) 127)
theorem u0_size(w:World)(gl n cl:Nat):(U0 oz w gl n cl).heap.size=w.heap.size+4:=by simp
theorem u1_size(w:World)(gl n cl:Nat):(U1 oz w gl n cl).heap.size=w.heap.size+6:=by simp
theorem al(W:World)(o:Obj):Below W.heap.size W (W.alloc o):=one_more W o
theorem u1_below(w:World)(gl n cl:Nat):Below (w.alloc ZC).heap.size (w.alloc ZC) (U1 oz w gl n cl):=
 (((((Below.refl _ _).alloc (Nat.le_refl _) _).alloc (by simp) _).alloc (by simp;try omega) _).alloc (by simp;try omega) _).alloc (by simp;try omega) _
theorem u1_rs(w:World)(gl n cl:Nat):Rs (w.alloc ZC) (U1 oz w gl n cl) (w.heap.size+2) (w.heap.size+1) (w.heap.size+4) (w.heap.size+6) 0 zeroX:=by
 have s0:(w.alloc ZC).heap.size=w.heap.size+1:=by simp
 have s1:((w.alloc ZC).alloc ZC).heap.size=w.heap.size+2:=by simp
 refine⟨?_,?_,zero_own _ _,?_,u1_below w gl n cl,by rw[u1_size];exact Nat.le_refl _⟩
 ·have h:=IRd11.pl_box ((w.alloc ZC).alloc ZC) (w.alloc ZC).heap.size (g:=w.heap.size+2) 0 (by simp) s1.symm
  exact IRd11.pl_alloc (IRd11.pl_alloc (IRd11.pl_alloc h _) _) _
 ·have h:=Box.made (w:=w.alloc ZC) (base:=(w.alloc ZC).heap.size) (g:=w.heap.size+1) (.slice none 0 0) (.slice none 0 0) (.slice none 0 0) (.slice none 0 0) (.slice none 0 0) (.int .i64 0) (Nat.le_refl _) s0.symm
  have q:∀{W:World} (o:Obj),Box W (w.alloc ZC).heap.size (w.heap.size+1) (.slice none 0 0) (.slice none 0 0) (.slice none 0 0) (.slice none 0 0) (.slice none 0 0) (.int .i64 0)→Box (W.alloc o) (w.alloc ZC).heap.size (w.heap.size+1) (.slice none 0 0) (.slice none 0 0) (.slice none 0 0) (.slice none 0 0) (.slice none 0 0) (.int .i64 0):=fun{W} o h=>h.below (al W o) h.lt.2
  exact q _ (q _ (q _ (q _ h)))
 ·have h:=heap_alloc_new (U0 oz w gl n cl) (.cells #[.pointer (some ⟨w.heap.size+1,0,none⟩)] 124)
  rw[u0_size] at h
  exact((al _ _).block _ (by rw[World.size_alloc,u0_size];omega)).trans h
theorem u1_rd(w:World)(gl n cl:Nat):(U1 oz w gl n cl).heap[w.heap.size+3]?=some (RC oz gl n cl (w.heap.size+2)):=by
 have h:=heap_alloc_new (((w.alloc ZC).alloc ZC).alloc (.cells #[.int .i64 0] 3)) (RC oz gl n cl (w.heap.size+2))
 rw[show(((w.alloc ZC).alloc ZC).alloc (.cells #[.int .i64 0] 3)).heap.size=w.heap.size+3 by simp] at h
 exact((al _ _).block _ (by rw[World.size_alloc,u0_size];omega)).trans (((al _ _).block _ (by rw[u0_size];omega)).trans h)
theorem u1_tab(w:World)(gl n cl:Nat):(U1 oz w gl n cl).heap[w.heap.size+5]?=some (.cells (tabC (w.heap.size+4)) 127 (0,0)):=by
 have h:=heap_alloc_new ((U0 oz w gl n cl).alloc (.cells #[.pointer (some ⟨w.heap.size+1,0,none⟩)] 124)) (.cells (tabC (w.heap.size+4)) 127)
 rw[World.size_alloc,u0_size] at h
 exact h
theorem tab13(w:World)(gl n cl:Nat):Calls Tryz.prog 78 #[.pointer (some ⟨w.heap.size+1,0,none⟩)] (U0 oz w gl n cl) fun e W'=>e= .returned (.slice (some ⟨w.heap.size+5,0,none⟩) 5 5)∧W'=U1 oz w gl n cl:=by
 have h:=iTab (U0 oz w gl n cl) (w.heap.size+1)
 rw[u0_size] at h
 exact h
theorem iReadBooks(w:World)(gl cl:Nat)(xs:List Int)(et:TypeId)(ev:Value)(h20:xs.length≤1048576)(hc:xs.length≤cl)(hg:gl<w.heap.size)(hr:AtBO w gl oz xs)(he:w.cell? ⟨0,0,none⟩=some (.iface et ev)):
  Calls Tryz.prog 45 #[.slice (some ⟨gl,oz,none⟩) xs.length cl] w (ReadP (readB xs) w):=by
 have sn:∀(w:World) (a:Addr) (fn:Fn) (x y:Array Value) (m),(store a (.func fn x y) m).run Tryz.prog w=stored Tryz.prog w a (.func fn x y) m:=fun w a fn x y m=>run_store Tryz.prog w a _ m rfl
 have hz:0<w.heap.size:=by omega
 have s0:(w.alloc ZC).heap.size=w.heap.size+1:=by simp
 have GG:=zh (show Pg oz (w.alloc ZC) gl cl (w.heap.size+2) (w.heap.size+1) (w.heap.size+4) (w.heap.size+6) xs et ev from
  ⟨h20,hc,by omega,hr.below (al _ _) hg,((al w ZC).cell (p:=⟨0,0,none⟩) hz).trans he,by omega,by omega,by omega,by omega,by omega,by omega,by omega,by omega,by omega,by omega⟩)
 have TB:=zh (tab13 (oz:=oz) w gl xs.length cl)
 have RV:=zh (u1_rs (oz:=oz) w gl xs.length cl)
 have HV1:=zh (u1_rd (oz:=oz) w gl xs.length cl)
 have HV2:=zh (u1_tab (oz:=oz) w gl xs.length cl)
 have FIN:=zh (show endB xs (readF xs (5-0) 0 zeroX.b)=readB xs from rfl)
 generalize readB xs=fin at *
 clear hr he
 go_enter Tryz.func45,Tryz.ntmps45
 go_wp2_with fail
 rw[show w.heap.size+1+1+1=w.heap.size+3 from rfl,show w.heap.size+1+1=w.heap.size+2 from rfl]
 refine(zu TB).mono ?_
 rintro e V ⟨rfl,hV⟩
 rw[←hV] at RV HV1 HV2
 clear TB hV
 go_wp2
 go_loopw [7,13] (fun _ i wr=>∃(k:Nat) (t:Int) (x:Ix),i= .int .i64 k∧k≤5∧Hid (endB xs (readF xs (5-k) t x.b)=fin)∧Hid (Rs (w.alloc ZC) wr (w.heap.size+2) (w.heap.size+1) (w.heap.size+4) (w.heap.size+6) t x)∧Hid (Kp V wr)∧Hid (Emp13 k x.b)∧Hid (Sm13 x.b)∧0≤t∧t≤xs.length) (fun _ i _=>5-(intOf i).toNat)
 case atStart=>exact⟨0,0,zeroX,rfl,by omega,FIN,RV,zh (Kp.refl _),zh zero_emp,zh zero_sm,by omega,by omega⟩
 case round=>
  clear FIN RV
  obtain⟨k,t,x,rfl,hk,FJ,RJ,KJ,EJ,SJ,t0,t1⟩:=hrel
  have HR1:=zh ((zu KJ) _ _ (zu HV1) rfl)
  have c0:wr.cell? ⟨w.heap.size+3,0,none⟩=some (.slice (some ⟨gl,oz,none⟩) xs.length cl):=cell_heap (zu HR1) rfl
  have c1:wr.cell? ⟨w.heap.size+3,1,none⟩=some (.pointer (some ⟨w.heap.size+2,0,none⟩)):=cell_heap (zu HR1) rfl
  have rn:=(zu RJ).n
  have r3:w.heap.size+3<wr.heap.size:=by omega
  by_cases h:k<5
  ·have HR2:=zh ((zu KJ) _ _ (zu HV2) rfl)
   have d0:wr.cell? ⟨w.heap.size+5,k*2,none⟩=some (.int .i64 (ms k)):=cell_heap (zu HR2) (tab_at _ k h).1
   have d1:wr.cell? ⟨w.heap.size+5,k*2+1,none⟩=some (.func (.func (fk k)) #[] #[.pointer (some ⟨w.heap.size+4,0,none⟩)]):=cell_heap (zu HR2) (tab_at _ k h).2
   have B1:=zh (al wr (.cells #[.int .i64 (ms k),.func (.func (fk k)) #[] #[.pointer (some ⟨w.heap.size+4,0,none⟩)]] 127))
   have R1:=zh ((zu RJ).step (zu B1))
   have CL:=zh (iRowsK k h (w.alloc ZC) _ gl cl (w.heap.size+2) (w.heap.size+1) (w.heap.size+4) (w.heap.size+6) xs et ev t x (zu GG) (zu R1) ⟨t0,t1⟩ ((zu EJ) k (Nat.le_refl _) h))
   have NX:=zh (show endB xs (if(rowsN xs t (wd k) (ms k)).2.2=true then readF xs (5-(k+1)) (rowsN xs t (wd k) (ms k)).2.1 (putRows k (rowsN xs t (wd k) (ms k)).1 x.b) else none)=fin from by
    rw[←zu FJ,show 5-k=(4-k)+1 by omega]
    simp only[readF]
    rw[show 4-(4-k)=k by omega,show 5-(k+1)=4-k by omega])
   have RI:=zh (rowsN_in (xs:=xs) (p:=t) (wide:=wd k) (most:=ms k) (by
    have:k=0∨k=1∨k=2∨k=3∨k=4:=by omega
    rcases this with rfl|rfl|rfl|rfl|rfl<;>decide))
   have RP:=zh (@rows_in xs t (wd k) (ms k))
   have k5:(k:Int)<5:=by omega
   clear FJ
   generalize rowsN xs t (wd k) (ms k)=r at *
   obtain⟨rs,t',ok⟩:=r
   generalize ms k=mk at *
   generalize fk k=ff at *
   go_wp2_with fail
   refine(zu CL).mono ?_
   rintro e u (⟨h1,⟨eu,ee,rfl⟩,h3⟩|⟨h1,rfl,h3,y',h4,h5⟩)
   ·have F:=zu NX
    rw[if_neg (fun q=>by simp only at h1;rw[h1] at q;simp at q)] at F
    subst F
    exact⟨rfl,.inl ⟨rfl,⟨eu,ee,rfl⟩,(al w ZC).trans (h3.mono (by simp))⟩⟩
   simp only at h1
   subst h1
   have F:=zu NX
   rw[if_pos rfl] at F
   simp only at h4 h5
   rw[←h4] at F
   have FJ:=zh F
   obtain⟨rw0,rl⟩:=(zu RI) rfl
   have ti:=(zu RP) rfl
   have RJ':=zh h5
   have KJ':=zh (((zu KJ).trans (Kp.below (zu B1))).trans h3)
   have EJ':=zh (show Emp13 (k+1) y'.b from by rw[h4];exact emp_next k rs x.b h (zu EJ))
   have SJ':=zh (show Sm13 y'.b from by rw[h4];exact sm_next k rs x.b h (zu SJ) rl)
   clear F h3 h4 h5 NX RI RP CL c0 c1 d0 d1 rw0 rl
   go_wp2
   go_roundw
   case rel=>exact⟨k+1,t',y',by go_num,by omega,FJ,RJ',KJ',EJ',SJ',ti.1,ti.2⟩
   case measure=>simp[intOf];omega
  ·have e5:k=5:=by omega
   subst e5
   have FE:=zh (show endY (getN xs t) xs.length x.b=fin from zu FJ)
   have hb:=(zu RJ).b
   have bx:=(zu RJ).bx
   have PC:=zh (al wr (.cells #[.pointer (some ⟨w.heap.size+1,5,none⟩)] 90))
   have R1:=zh ((zu RJ).step (zu PC))
   have MU:=zh (iMust1 (wr.alloc (.cells #[.pointer (some ⟨w.heap.size+1,5,none⟩)] 90)) gl cl (w.heap.size+2) (w.alloc ZC).heap.size (w.heap.size+1) 5 wr.heap.size 1 xs t x.b.lot ev et (by omega) h20 hc (by omega) ((zu GG).a.below (zu R1).b (by omega)) (zu R1).pl (by simp;omega) (zu R1).bx.c5 ((zu R1).bx.free 5) (by simp) (by simp) (by omega) (by omega) (((zu R1).b.cell (p:=⟨0,0,none⟩) (zu GG).z).trans (zu GG).e) (by omega))
   clear FJ hb bx HV1 HV2
   generalize getN xs t=r at *
   obtain⟨v,t',ok⟩:=r
   go_wp2_with fail
   refine(zu MU).mono ?_
   rintro e u (⟨h1,⟨eu,ee,rfl⟩,h3⟩|⟨h1,rfl,u1,h3,h4,rfl⟩)
   ·have F:=zu FE
    rw[endY_no (fun q=>by have q:=q.1;simp only at h1 q;rw[h1] at q;simp at q)] at F
    subst F
    exact⟨rfl,.inl ⟨rfl,⟨eu,ee,rfl⟩,(al w ZC).trans (((zu R1).b.grown h3 (zu R1).b.size (fun j hj=>by injection hj with hj;omega)).mono (by simp))⟩⟩
   simp only at h1 h4
   subst h1
   have R2:=zh ((zu R1).moved h3 (by omega) (by omega) (by omega) (by omega) h4)
   have SB:=zh ((zu R2).bx.set5 (.int .i64 v))
   have sg:=(zu SB).2
   have RX:=zh (show Rs (w.alloc ZC) (u1.setCell ⟨w.heap.size+1,5,none⟩ (.int .i64 v)) (w.heap.size+2) (w.heap.size+1) (w.heap.size+4) (w.heap.size+6) t' ⟨x.aa,x.ca,x.ai,x.ci,x.ab,x.cb,x.al,x.cl,x.ats,x.ct,withLot x.b v⟩ from
    ⟨Ints.Own.kept (zu R2).pl sg (by simp),(zu SB).1,⟨row_kept (zu R2).o.oa sg (by omega),row_kept (zu R2).o.oi sg (by omega),row_kept (zu R2).o.ob sg (by omega),row_kept (zu R2).o.ol sg (by omega),row_kept (zu R2).o.ot sg (by omega)⟩,(sg.block _ (zu R2).ltB (by simp)).trans (zu R2).q,(zu R2).b.grown sg (zu R2).b.size (fun j hj=>by injection hj with hj;omega),Nat.le_trans (zu R2).n sg.size⟩)
   have SX:=zh (show Sm13 (withLot x.b v) from zu SJ)
   obtain⟨X,hX⟩:∃X:Ix,X=⟨x.aa,x.ca,x.ai,x.ci,x.ab,x.cb,x.al,x.cl,x.ats,x.ct,withLot x.b v⟩:=⟨_,rfl⟩
   have hb:X.b=withLot x.b v:=by rw[hX]
   rw[←hX] at RX
   rw[←hb] at SX
   have HB:=zh hb
   clear hX SB sg h3 h4 R2 R1 MU RJ KJ EJ SJ PC c0 c1 HR1 hb
   generalize u1.setCell ⟨w.heap.size+1,5,none⟩ (.int .i64 v)=V1 at *
   have pc:=(zu RX).pl.cell
   have e0:V1.cell? ⟨0,0,none⟩=some (.iface et ev):=((zu RX).b.cell (p:=⟨0,0,none⟩) (zu GG).z).trans (zu GG).e
   have rn1:=(zu RX).n
   by_cases q:t'=xs.length
   case neg=>
    have F:=zu FE
    rw[endY_no (fun r=>q r.2.1)] at F
    subst F
    have qb:(t' !=(xs.length:Int))=true:=by simpa using q
    clear FE q
    go_wp2
    exact⟨rfl,.inl ⟨rfl,⟨_,_,rfl⟩,(al w ZC).trans ((zu RX).b.mono (by simp))⟩⟩
   have qb:(t' !=(xs.length:Int))=false:=by simpa using q
   obtain⟨b,hb⟩:=says_of (Ok X.b)
   have BO:=zh (IBooksOkV13.iBooksOkV V1 X b ((zu RX).o.rd (sm_small (zu SX))) hb)
   have SY:=zh hb
   have Q:=zh q
   have z0:=(zu RX).bx.c0
   have z1:=(zu RX).bx.c1
   have z2:=(zu RX).bx.c2
   have z3:=(zu RX).bx.c3
   have z4:=(zu RX).bx.c4
   have z5:=(zu RX).bx.c5
   clear q hb
   go_wp2_with fail
   refine(zu BO).mono ?_
   rintro e V2 ⟨rfl,bb⟩
   have R3:=zh ((zu RX).step bb)
   have e2:V2.cell? ⟨0,0,none⟩=some (.iface et ev):=((zu R3).b.cell (p:=⟨0,0,none⟩) (zu GG).z).trans (zu GG).e
   clear bb BO RX z0 z1 z2 z3 z4 z5 pc e0
   cases b with
   |false=>
    have F:=zu FE
    rw[endY_no (fun r=>(zu SY).no (by rw[zu HB];exact r.2.2))] at F
    subst F
    clear FE
    go_wp2
    exact⟨rfl,.inl ⟨rfl,⟨_,_,rfl⟩,(al w ZC).trans ((zu R3).b.mono (by simp))⟩⟩
   |true=>
    have F:=zu FE
    rw[endY_yes ⟨rfl,zu Q,by have:=(zu SY).yes;rw[zu HB] at this;exact this⟩] at F
    subst F
    clear FE
    have z0:=(zu R3).bx.c0
    have z1:=(zu R3).bx.c1
    have z2:=(zu R3).bx.c2
    have z3:=(zu R3).bx.c3
    have z4:=(zu R3).bx.c4
    have z5:=(zu R3).bx.c5
    have BR:=zh ((Box.made (w:=w) (base:=w.heap.size) (g:=w.heap.size) (.slice none 0 0) (.slice none 0 0) (.slice none 0 0) (.slice none 0 0) (.slice none 0 0) (.int .i64 0) (Nat.le_refl _) rfl).below (zu R3).b (by simp))
    obtain⟨y0,y1,y2,y3,y4,y5,x0,x1,x2,x3,x4,x5⟩:=Box.all (zu BR)
    go_wp2
    have SX6:=six (zu BR) (.slice X.aa X.b.ac.length X.ca) (.slice X.ai X.b.ic.length X.ci) (.slice X.ab X.b.bs.length X.cb) (.slice X.al X.b.ls.length X.cl) (.slice X.ats X.b.ts.length X.ct) (.int .i64 X.b.lot)
    have SG6:=six_grown (zu BR) (.slice X.aa X.b.ac.length X.ca) (.slice X.ai X.b.ic.length X.ci) (.slice X.ab X.b.bs.length X.cb) (.slice X.al X.b.ls.length X.cl) (.slice X.ats X.b.ts.length X.ct) (.int .i64 X.b.lot)
    have p0:=SX6.c0
    have p1:=SX6.c1
    have p2:=SX6.c2
    have p3:=SX6.c3
    have p4:=SX6.c4
    have p5:=SX6.c5
    (try simp only[Exit.inBlock,Exit.then])
    refine bodyPost_ret (v:= .agg #[.slice X.aa X.b.ac.length X.ca,.slice X.ai X.b.ic.length X.ci,.slice X.ab X.b.bs.length X.cb,.slice X.al X.b.ls.length X.cl,.slice X.ats X.b.ts.length X.ct,.int .i64 X.b.lot]) (by simp[results,Tryz.results45,go_sem,p0,p1,p2,p3,p4,p5]) rfl ?_
    have O:=(zu R3).o
    have rb:∀{e:TypeId} {m:Nat} {v:Value} {n:Nat} {vs:List Value},V2.ownsRow (w.heap.size+6) e m v n vs→_:=fun o=>row_base (row_kept o SG6 (by omega)) (show w.heap.size≤w.heap.size+6 by omega)
    exact .inr ⟨rfl,X,zu HB,rfl,⟨rb O.oa,rb O.oi,rb O.ob,rb O.ol,rb O.ot⟩,((al w ZC).trans ((zu R3).b.mono (by simp))).grown SG6 (by have:=(zu R3).n;omega) (fun j hj=>by injection hj with hj;omega)⟩
end IRead13
namespace IFace13
open BMem Bks BHelp SRead13 VB13 ICl13 IRows13 BMemV13 ITab13 IRead13
open SBytes (AtB getN getF AtBO)
open IInto13
open IBalsFit (one_more)
open SRead13 (row_kept)
variable {oz:Nat}
theorem read_no{xs:List Int}(h:(readB xs).2=false):readB xs=(zeroB,false):=by
 unfold readB at h⊢
 cases hq:readF xs 5 0 zeroB with
 |none=>rfl
 |some pb=>
  obtain⟨p,b⟩:=pb
  rw[hq] at h
  change (endY (getN xs p) xs.length b).2=false at h
  change endY (getN xs p) xs.length b=(zeroB,false)
  by_cases c:(getN xs p).2.2=true∧(getN xs p).2.1=xs.length∧Ok (withLot b (getN xs p).1)
  ·rw[endY_yes c] at h;simp at h
  ·exact endY_no c
abbrev zset(W:World)(a b:Nat):World:=((((((W.setCell ⟨a,0,none⟩ (.slice none 0 0)).setCell ⟨a,1,none⟩ (.slice none 0 0)).setCell ⟨a,2,none⟩ (.slice none 0 0)).setCell ⟨a,3,none⟩ (.slice none 0 0)).setCell ⟨a,4,none⟩ (.slice none 0 0)).setCell ⟨a,5,none⟩ (.int .i64 0)).setCell ⟨b,0,none⟩ (.bool false)
theorem catch_panicking(a b:Nat)(ut:TypeId)(pv:Value)(older:List PanicEntry)(W:World)(base:Nat)(v0 v1 v2 v3 v4 v5:Value)(v:Bool)(hb:Box W base a v0 v1 v2 v3 v4 v5)(hc:W.cell? ⟨b,0,none⟩=some (.bool v))(hf:W.frozen? ⟨b,0,none⟩=false)(hne:a≠b):
  CallsD Tryz.prog 44 #[.pointer (some ⟨a,0,none⟩),.pointer (some ⟨b,0,none⟩)] (.panicking ({v:= .iface ut pv,recovered:=false}::older)) W fun e u' W'=>
   e= .returned (.tuple #[])∧u'= .panicking ({v:= .iface ut pv,recovered:=true}::older)∧W'=zset W a b:=by
 obtain⟨y0,y1,y2,y3,y4,y5,x0,x1,x2,x3,x4,x5⟩:=Box.all hb
 clear hb
 refine callsD_of_wpS Tryz.func44 rfl fun c₀ cs hu=>?_
 apply wpS_seq
 apply wpS_region
 simp[wpOpsS,go_sem,recoverD,hu,Tryz.ntmps44,Exit.thenS]
 refine wpS_cond (t:=true) (by simp[Act.eval,Array.replicate]) ?_
 simp only[if_true]
 apply wpS_region
 simp[wpOpsS,go_sem,bodyPostS,results,Tryz.results44,y0,y1,y2,y3,y4,y5,x0,x1,x2,x3,x4,x5,hc,hf]
theorem catch_idle(a b:Nat)(W:World):
  CallsD Tryz.prog 44 #[.pointer (some ⟨a,0,none⟩),.pointer (some ⟨b,0,none⟩)] .returning W fun e u' W'=>e= .returned (.tuple #[])∧u'= .returning∧W'=W:=by
 refine callsD_of_wpS Tryz.func44 rfl fun c₀ cs hu=>?_
 apply wpS_seq
 apply wpS_region
 simp[wpOpsS,go_sem,recoverD,hu,Tryz.ntmps44,Exit.thenS]
 refine wpS_cond (t:=false) (by simp[Act.eval,Array.replicate]) ?_
 simp only[Bool.false_eq_true,if_false]
 refine wpS_of_wp (wp_skip ?_)
 cases c₀
 simp_all [bodyPostS,results,Tryz.results44]
abbrev BCo:Obj:= .cells #[.bool false] 4
theorem iBooksReadO(w:World)(gl cl:Nat)(xs:List Int)(et:TypeId)(ev:Value)(h20:xs.length≤1048576)(hc:xs.length≤cl)(hg:gl<w.heap.size)(hr:AtBO w gl oz xs)(he:w.cell? ⟨0,0,none⟩=some (.iface et ev)):
  Calls Tryz.prog 24 #[.slice (some ⟨gl,oz,none⟩) xs.length cl] w fun e w'=>∃x:Ix,x.b=(readB xs).1∧e= .returned (.tuple #[.agg #[.slice x.aa x.b.ac.length x.ca,.slice x.ai x.b.ic.length x.ci,.slice x.ab x.b.bs.length x.cb,.slice x.al x.b.ls.length x.cl,.slice x.ats x.b.ts.length x.ct,.int .i64 x.b.lot],.bool (readB xs).2])∧OwV w' w.heap.size x∧Below w.heap.size w w':=by
 have hmf:∀(fn:Fn) (first cap:Array Value) (w:World),(Instr.makeFunc fn first cap).run Tryz.prog w= .ok (.func fn first cap) w:=fun _ _ _ _=>rfl
 have B2:=zh (show Below w.heap.size w ((w.alloc ZC).alloc BCo) from((Below.refl _ _).alloc (Nat.le_refl _) _).alloc (by simp) _)
 have s2:((w.alloc ZC).alloc BCo).heap.size=w.heap.size+2:=by simp
 have RB:=zh (iReadBooks ((w.alloc ZC).alloc BCo) gl cl xs et ev h20 hc (by omega) (hr.below (zu B2) hg) (((zu B2).cell (p:=⟨0,0,none⟩) (show 0<w.heap.size by omega)).trans he))
 have NO:=zh (@read_no xs)
 have BX:=zh (show Box ((w.alloc ZC).alloc BCo) w.heap.size w.heap.size (.slice none 0 0) (.slice none 0 0) (.slice none 0 0) (.slice none 0 0) (.slice none 0 0) (.int .i64 0) from(Box.made (w:=w) (base:=w.heap.size) (g:=w.heap.size) _ _ _ _ _ _ (Nat.le_refl _) rfl).below (al _ _) (by simp))
 have HB:=zh (show((w.alloc ZC).alloc BCo).heap[w.heap.size+1]?=some BCo from by
  have h:=heap_alloc_new (w.alloc ZC) BCo
  rw[World.size_alloc] at h
  exact h)
 clear hr he
 generalize readB xs=fin at *
 obtain⟨f0,f1⟩:=fin
 go_enter_defers Tryz.func24,Tryz.ntmps24
 go_wp2_with fail
 refine(zu RB).mono ?_
 rintro e u (⟨h1,⟨eu,ee,rfl⟩,h3⟩|⟨h1,x,hx,rfl,ho,h3⟩)
 ·have F:=(zu NO) h1
  injection F with F0 F1
  subst F0 F1
  have BU:=zh ((zu BX).below h3 (by rw[s2];omega))
  have hb:u.heap[w.heap.size+1]?=some BCo:=(h3.block _ (by omega)).trans (zu HB)
  have B3:=zh ((zu B2).trans (h3.mono (by omega)))
  clear h1 h3 RB NO
  refine leaves_cons (f:=44) (args:= #[.pointer (some ⟨w.heap.size,0,none⟩),.pointer (some ⟨w.heap.size+1,0,none⟩)]) (by simp) (by simp[go_sem]) ?_
  refine(catch_panicking w.heap.size (w.heap.size+1) eu ee [] u w.heap.size _ _ _ _ _ _ false (zu BU) (cell_heap hb rfl) (by simp[World.frozen?,hb]) (by omega)).mono ?_
  rintro e u' w'' ⟨rfl,rfl,rfl⟩
  have S6:=six (zu BU) (.slice none 0 0) (.slice none 0 0) (.slice none 0 0) (.slice none 0 0) (.slice none 0 0) (.int .i64 0)
  have q:∀i,(zset u w.heap.size (w.heap.size+1)).cell? ⟨w.heap.size,i,none⟩=(((((((u.setCell ⟨w.heap.size,0,none⟩ (.slice none 0 0)).setCell ⟨w.heap.size,1,none⟩ (.slice none 0 0)).setCell ⟨w.heap.size,2,none⟩ (.slice none 0 0)).setCell ⟨w.heap.size,3,none⟩ (.slice none 0 0)).setCell ⟨w.heap.size,4,none⟩ (.slice none 0 0)).setCell ⟨w.heap.size,5,none⟩ (.int .i64 0))).cell? ⟨w.heap.size,i,none⟩:=fun i=>World.cell?_of_block (Below.heap_setCell _ _ _ _ (by simp))
  have p0:=(q 0).trans S6.c0
  have p1:=(q 1).trans S6.c1
  have p2:=(q 2).trans S6.c2
  have p3:=(q 3).trans S6.c3
  have p4:=(q 4).trans S6.c4
  have p5:=(q 5).trans S6.c5
  have pb:(zset u w.heap.size (w.heap.size+1)).cell? ⟨w.heap.size+1,0,none⟩=some (.bool false):=by
   have:=cell_heap (i:=0) hb (rfl:(#[Value.bool false]:Array Value)[0]?=some (.bool false))
   simp[go_sem,zset,this]
  have BZ:=(((zu B3).grown (six_grown (zu BU) (.slice none 0 0) (.slice none 0 0) (.slice none 0 0) (.slice none 0 0) (.slice none 0 0) (.int .i64 0)) (zu B3).size (fun j hj=>by injection hj with hj;omega))).grown (set_grown _ (w.heap.size+1) (.bool false)) (by simpa[World.setCell] using(zu B3).size) (fun j hj=>by injection hj with hj;omega)
  change Below w.heap.size w (zset u w.heap.size (w.heap.size+1)) at BZ
  generalize zset u w.heap.size (w.heap.size+1)=Z at *
  refine⟨.tuple #[.agg #[.slice none 0 0,.slice none 0 0,.slice none 0 0,.slice none 0 0,.slice none 0 0,.int .i64 0],.bool false],by simp[results,Tryz.results24,go_sem,p0,p1,p2,p3,p4,p5,pb],zeroX,rfl,rfl,zero_own _ _,BZ⟩
 ·simp only at h1 hx
  subst h1
  have HX:=zh hx
  have BU:=zh ((zu BX).below h3 (by rw[s2];omega))
  have hb:u.heap[w.heap.size+1]?=some BCo:=(h3.block _ (by omega)).trans (zu HB)
  have B3:=zh ((zu B2).trans (h3.mono (by omega)))
  have HO:=zh ho
  have cb:u.cell? ⟨w.heap.size+1,0,none⟩=some (.bool false):=cell_heap hb rfl
  have fb:u.frozen? ⟨w.heap.size+1,0,none⟩=false:=by simp[World.frozen?,hb]
  obtain⟨y0,y1,y2,y3,y4,y5,x0,x1,x2,x3,x4,x5⟩:=Box.all (zu BU)
  have HB2:=zh hb
  clear h3 RB NO ho hb hx
  go_wp2
  refine leaves_cons (f:=44) (args:= #[.pointer (some ⟨w.heap.size,0,none⟩),.pointer (some ⟨w.heap.size+1,0,none⟩)]) (by simp) (by simp[go_sem]) ?_
  refine(catch_idle w.heap.size (w.heap.size+1) _).mono ?_
  rintro e u' w'' ⟨rfl,rfl,rfl⟩
  have S6:=six (zu BU) (.slice x.aa x.b.ac.length x.ca) (.slice x.ai x.b.ic.length x.ci) (.slice x.ab x.b.bs.length x.cb) (.slice x.al x.b.ls.length x.cl) (.slice x.ats x.b.ts.length x.ct) (.int .i64 x.b.lot)
  have G6:=six_grown (zu BU) (.slice x.aa x.b.ac.length x.ca) (.slice x.ai x.b.ic.length x.ci) (.slice x.ab x.b.bs.length x.cb) (.slice x.al x.b.ls.length x.cl) (.slice x.ats x.b.ts.length x.ct) (.int .i64 x.b.lot)
  have GB:=set_grown ((((((u.setCell ⟨w.heap.size,0,none⟩ (.slice x.aa x.b.ac.length x.ca)).setCell ⟨w.heap.size,1,none⟩ (.slice x.ai x.b.ic.length x.ci)).setCell ⟨w.heap.size,2,none⟩ (.slice x.ab x.b.bs.length x.cb)).setCell ⟨w.heap.size,3,none⟩ (.slice x.al x.b.ls.length x.cl)).setCell ⟨w.heap.size,4,none⟩ (.slice x.ats x.b.ts.length x.ct)).setCell ⟨w.heap.size,5,none⟩ (.int .i64 x.b.lot)) (w.heap.size+1) (.bool true)
  have pb:(((((((u.setCell ⟨w.heap.size,0,none⟩ (.slice x.aa x.b.ac.length x.ca)).setCell ⟨w.heap.size,1,none⟩ (.slice x.ai x.b.ic.length x.ci)).setCell ⟨w.heap.size,2,none⟩ (.slice x.ab x.b.bs.length x.cb)).setCell ⟨w.heap.size,3,none⟩ (.slice x.al x.b.ls.length x.cl)).setCell ⟨w.heap.size,4,none⟩ (.slice x.ats x.b.ts.length x.ct)).setCell ⟨w.heap.size,5,none⟩ (.int .i64 x.b.lot)).setCell ⟨w.heap.size+1,0,none⟩ (.bool true)).cell? ⟨w.heap.size+1,0,none⟩=some (.bool true):=by
   simp[go_sem,cb]
  have T6:=S6.kept GB (by simp)
  have BZ:=((zu B3).grown G6 (zu B3).size (fun j hj=>by injection hj with hj;omega)).grown GB (by simpa[World.setCell] using(zu B3).size) (fun j hj=>by injection hj with hj;omega)
  have p0:=T6.c0
  have p1:=T6.c1
  have p2:=T6.c2
  have p3:=T6.c3
  have p4:=T6.c4
  have p5:=T6.c5
  have O:=zu HO
  have rb:∀{e:TypeId} {m:Nat} {v:Value} {n:Nat} {vs:List Value},u.ownsRow ((w.alloc ZC).alloc BCo).heap.size e m v n vs→_:=fun o=>row_base (row_kept (row_kept o G6 (by omega)) GB (by omega)) (show w.heap.size≤((w.alloc ZC).alloc BCo).heap.size by omega)
  have OZ:OwV _ w.heap.size x:=⟨rb O.oa,rb O.oi,rb O.ob,rb O.ol,rb O.ot⟩
  clear rb S6 G6 GB T6
  generalize ((((((u.setCell ⟨w.heap.size,0,none⟩ (.slice x.aa x.b.ac.length x.ca)).setCell ⟨w.heap.size,1,none⟩ (.slice x.ai x.b.ic.length x.ci)).setCell ⟨w.heap.size,2,none⟩ (.slice x.ab x.b.bs.length x.cb)).setCell ⟨w.heap.size,3,none⟩ (.slice x.al x.b.ls.length x.cl)).setCell ⟨w.heap.size,4,none⟩ (.slice x.ats x.b.ts.length x.ct)).setCell ⟨w.heap.size,5,none⟩ (.int .i64 x.b.lot)).setCell ⟨w.heap.size+1,0,none⟩ (.bool true)=Z at *
  refine⟨.tuple #[.agg #[.slice x.aa x.b.ac.length x.ca,.slice x.ai x.b.ic.length x.ci,.slice x.ab x.b.bs.length x.cb,.slice x.al x.b.ls.length x.cl,.slice x.ats x.b.ts.length x.ct,.int .i64 x.b.lot],.bool true],by simp[results,Tryz.results24,go_sem,p0,p1,p2,p3,p4,p5,pb],x,zu HX,rfl,OZ,BZ⟩
end IFace13
namespace ISaveLoad16
open Fil14 OpensF14 DiskH14 DkH14 SDk14 SOk14 SRd14 Conv15 SegP15 Bx16 LawX16 SLoad16
open Bks (Bk)
open BHelp (Ix)
open VB13 (OwV)
open SBytes (AtB AtBO getN)
open SUnseal11 (unsealN getN_in)
open SRead13 (readB zeroB)
theorem own_no{w w':World}{e:Ending}(h:e= .returned (.tuple #[.agg #[.int .i64 0,.slice none 0 0,.slice none 0 0,.slice none 0 0,.slice none 0 0,.slice none 0 0,.int .i64 0],.bool false]))(hb:Below w.heap.size w w'):LoadOwn ((0,zeroB),false) w e w':=
 ⟨⟨none,0,none,0,none,0,none,0,none,0,zeroB⟩,rfl,h,⟨⟨rfl,.inl ⟨rfl,rfl⟩⟩,⟨rfl,.inl ⟨rfl,rfl⟩⟩,⟨rfl,.inl ⟨rfl,rfl⟩⟩,⟨rfl,.inl ⟨rfl,rfl⟩⟩,⟨rfl,.inl ⟨rfl,rfl⟩⟩⟩,hb⟩
theorem wf21:TabF14.Wf 21:=by unfold TabF14.Wf;decide
theorem un_none:(unsealN (nums ByteArray.empty) 0).2.2=1:=by
 have e:nums ByteArray.empty=[]:=List.eq_nil_of_length_eq_zero (by rw[nums_len];simp)
 rw[e]
 unfold SUnseal11.unsealN SBytes.getN
 simp
theorem load_alt(room:Int)(ps:List TF):loadD room ps=if(unsealN (nums (readD room ps 21).1) 0).2.2=0∧(unsealN (nums (readD room ps 21).1) 0).2.1=(nums (readD room ps 21).1).length then loadH (unsealN (nums (readD room ps 21).1) 0).1 else((0,zeroB),false):=by
 unfold loadD
 by_cases r:(readD room ps 21).2=true
 ·by_cases q:(unsealN (nums (readD room ps 21).1) 0).2.2=0∧(unsealN (nums (readD room ps 21).1) 0).2.1=(nums (readD room ps 21).1).length
  ·rw[if_pos ⟨r,q⟩,if_pos q]
  ·rw[if_neg (fun h=>q h.2),if_neg q]
 ·have e:(readD room ps 21).1=ByteArray.empty:=by
   unfold readD at r⊢
   split
   ·rename_i q
    rw[if_pos q] at r
    exact absurd rfl r
   ·rfl
  rw[if_neg (fun h=>r h.1),e,if_neg (fun h=>by rw[un_none] at h;exact absurd h.1 (by decide))]
theorem ownV_kept{w w':World}{base:Nat}{x:Ix}{g:Nat}(h:OwV w base x)(k:w.grownBy w' (some g))(n:g<base):OwV w' base x:=
 have q:∀{e:TypeId} {m:Nat} {v:Value} {l:Nat} {vs:List Value},w.ownsRow base e m v l vs→w'.ownsRow base e m v l vs:=fun o=>by
  refine⟨o.1,?_⟩
  rcases o.2 with h1|⟨g',c,cur,h1,h2,h3,h4⟩
  ·exact .inl h1
  ·have lg:=World.ownsRow.lt o g' (by rw[h1];rfl)
   exact .inr ⟨g',c,cur,h1,h2,(k.block g' lg.2 (by simp;omega)).trans h3,h4⟩
 ⟨q h.oa,q h.oi,q h.ob,q h.ol,q h.ot⟩
theorem ownV_base{w:World}{base base':Nat}{x:Ix}(h:OwV w base x)(n:base'≤base):OwV w base' x:=
 have q:∀{e:TypeId} {m:Nat} {v:Value} {l:Nat} {vs:List Value},w.ownsRow base e m v l vs→w.ownsRow base' e m v l vs:=fun o=>by
  refine⟨o.1,?_⟩
  rcases o.2 with h1|⟨g',c,cur,h1,h2,h3⟩
  ·exact .inl h1
  ·exact .inr ⟨g',c,cur,h1,Nat.le_trans n h2,h3⟩
 ⟨q h.oa,q h.oi,q h.ob,q h.ol,q h.ot⟩
theorem yfinO{w u:World}{a0 a1 a2 a3 a4 a5 a6:Value}(B:Below w.heap.size w u)(K:Bx7 u w.heap.size (w.heap.size+1) a0 a1 a2 a3 a4 a5 a6)(f:Int)(y:Ix){B0:Nat}(h:OwV u B0 y)(hB:w.heap.size+1<B0):
  Below w.heap.size w ((((((((u).setCell ⟨w.heap.size+1,0,none⟩ (.int .i64 f)).setCell ⟨w.heap.size+1,1,none⟩ (.slice y.aa y.b.ac.length y.ca)).setCell ⟨w.heap.size+1,2,none⟩ (.slice y.ai y.b.ic.length y.ci)).setCell ⟨w.heap.size+1,3,none⟩ (.slice y.ab y.b.bs.length y.cb)).setCell ⟨w.heap.size+1,4,none⟩ (.slice y.al y.b.ls.length y.cl)).setCell ⟨w.heap.size+1,5,none⟩ (.slice y.ats y.b.ts.length y.ct)).setCell ⟨w.heap.size+1,6,none⟩ (.int .i64 y.b.lot))∧Bx7 ((((((((u).setCell ⟨w.heap.size+1,0,none⟩ (.int .i64 f)).setCell ⟨w.heap.size+1,1,none⟩ (.slice y.aa y.b.ac.length y.ca)).setCell ⟨w.heap.size+1,2,none⟩ (.slice y.ai y.b.ic.length y.ci)).setCell ⟨w.heap.size+1,3,none⟩ (.slice y.ab y.b.bs.length y.cb)).setCell ⟨w.heap.size+1,4,none⟩ (.slice y.al y.b.ls.length y.cl)).setCell ⟨w.heap.size+1,5,none⟩ (.slice y.ats y.b.ts.length y.ct)).setCell ⟨w.heap.size+1,6,none⟩ (.int .i64 y.b.lot)) w.heap.size (w.heap.size+1) (.int .i64 f) (.slice y.aa y.b.ac.length y.ca) (.slice y.ai y.b.ic.length y.ci) (.slice y.ab y.b.bs.length y.cb) (.slice y.al y.b.ls.length y.cl) (.slice y.ats y.b.ts.length y.ct) (.int .i64 y.b.lot)∧OwV ((((((((u).setCell ⟨w.heap.size+1,0,none⟩ (.int .i64 f)).setCell ⟨w.heap.size+1,1,none⟩ (.slice y.aa y.b.ac.length y.ca)).setCell ⟨w.heap.size+1,2,none⟩ (.slice y.ai y.b.ic.length y.ci)).setCell ⟨w.heap.size+1,3,none⟩ (.slice y.ab y.b.bs.length y.cb)).setCell ⟨w.heap.size+1,4,none⟩ (.slice y.al y.b.ls.length y.cl)).setCell ⟨w.heap.size+1,5,none⟩ (.slice y.ats y.b.ts.length y.ct)).setCell ⟨w.heap.size+1,6,none⟩ (.int .i64 y.b.lot)) w.heap.size y:=by
 have t0:=K.set0 (.int .i64 f)
 have t1:=t0.1.set1 (.slice y.aa y.b.ac.length y.ca)
 have t2:=t1.1.set2 (.slice y.ai y.b.ic.length y.ci)
 have t3:=t2.1.set3 (.slice y.ab y.b.bs.length y.cb)
 have t4:=t3.1.set4 (.slice y.al y.b.ls.length y.cl)
 have t5:=t4.1.set5 (.slice y.ats y.b.ts.length y.ct)
 have t6:=t5.1.set6 (.int .i64 y.b.lot)
 have G:=(grow_grow (grow_grow (grow_grow (grow_grow (grow_grow (grow_grow t0.2 t1.2) t2.2) t3.2) t4.2) t5.2) t6.2)
 have lt:=K.lt
 exact⟨grow_low B G ⟨by omega,B.size⟩,t6.1,ownV_base (ownV_kept h G (by omega)) (by omega)⟩
theorem iSaveLoad(w:World)(x:Dx)(et:TypeId)(ev:Value)(hr:RdD w x)(hz:sumZ x.ps≤1048576)(he:w.cell? ⟨0,0,none⟩=some (.iface et ev)):
  Calls Tryz.prog 7 #[.agg #[.int .i64 x.room,.slice x.a x.ps.length x.c]] w (LoadOwn (loadD x.room x.ps) w):=by
 have D1:=Wd.made hr 39
 have b2:=one_more (w.alloc (.cells #[.int .i64 x.room,.slice x.a x.ps.length x.c] 39)) (.cells #[.int .i64 0,.slice none 0 0,.slice none 0 0,.slice none 0 0,.slice none 0 0,.slice none 0 0,.int .i64 0] 34)
 have G0:=zh (D1.step b2)
 have K0:=zh (Bx7.made (w:=w.alloc (.cells #[.int .i64 x.room,.slice x.a x.ps.length x.c] 39)) (base:=w.heap.size) (g:=w.heap.size+1) (.int .i64 0) (.slice none 0 0) (.slice none 0 0) (.slice none 0 0) (.slice none 0 0) (.slice none 0 0) (.int .i64 0) (by simp) (by simp))
 have RD:=zh (fun u (h:RdD u x)=>IRd14.iDiskRead u x 21 h hz wf21)
 have TS:=zh (rd_size (room:=x.room) (nm:=21) hz)
 have RE:=zh (load_alt x.room x.ps)
 have HE:=zh he
 have w0:0<w.heap.size:=by
  rcases Nat.eq_zero_or_pos w.heap.size with h|h
  ·exfalso
   have:w.heap[0]?=none:=by simp[h]
   simp[World.cell?,this] at he
  ·exact h
 generalize loadD x.room x.ps=rr at *
 generalize readD x.room x.ps 21=rd at *
 obtain⟨tx,th⟩:=rd
 have c0:=(zu G0).c0
 have c1:=(zu G0).c1
 have lt:=(zu G0).lt
 clear hr D1 b2 he
 go_enter Tryz.func7,Tryz.ntmps7
 go_wp2_with fail
 generalize ((w.alloc (.cells #[.int .i64 x.room,.slice x.a x.ps.length x.c] 39)).alloc (.cells #[.int .i64 0,.slice none 0 0,.slice none 0 0,.slice none 0 0,.slice none 0 0,.slice none 0 0,.int .i64 0] 34))=W at *
 refine(zu RD _ (zu G0).r).mono ?_
 rintro e u ⟨rfl,b1⟩
 have B1:=zh ((zu G0).b.trans (b1.mono (zu G0).b.size))
 have K1:=zh ((zu K0).below b1 (zu K0).lt.2)
 have us:=b1.size
 have wl:=(zu K0).lt.2
 clear b1 c0 c1 lt RD K0 G0
 have XL:=zh (show(nums tx).length=tx.size from nums_len tx)
 have tl:=zu TS
 obtain⟨cb,W3,hcb,CV,AB,s3,b3⟩:=to_bytes u tx
 have B3:=zh ((zu B1).trans (b3.mono (zu B1).size))
 have K3:=zh ((zu K1).below b3 (zu K1).lt.2)
 have hl:(nums tx).length≤1048576:=by rw[nums_len];exact tl
 have UN:=zh (IUnseal11.iUnsealG W3 u.heap.size cb (nums tx) 0 hl hcb (by omega) (by omega) AB)
 have UL:=zh (un_len (nums tx) 0)
 have UI:=zh (un_in (xs:=nums tx) 0 (fun i hi=>(AB i hi).2))
 generalize nums tx=xs at *
 generalize unsealN xs 0=un at *
 obtain⟨hs,uq,uc⟩:=un
 clear b3 AB B1 K1 hcb
 go_wp2_with fail
 refine(zu UN).mono ?_
 rintro e u4 ⟨g4,c4,rfl,o4,b4⟩
 have B4:=zh ((zu B3).trans (b4.mono (zu B3).size))
 have K4:=zh ((zu K3).below b4 (zu K3).lt.2)
 have O4:=zh o4
 have us4:=b4.size
 clear b4 o4 CV UN B3 K3
 by_cases cz:uc=0
 case neg=>
  have E:=zh (show rr=((0,zeroB),false) by rw[zu RE,if_neg (fun h=>cz h.1)])
  have cb':(uc !=0)=true:=by simpa using cz
  clear RE cz
  have f0:=(zu K4).free 0
  have q0:=(zu K4).c0
  have f1:=(zu K4).free 1
  have q1:=(zu K4).c1
  have f2:=(zu K4).free 2
  have q2:=(zu K4).c2
  have f3:=(zu K4).free 3
  have q3:=(zu K4).c3
  have f4:=(zu K4).free 4
  have q4:=(zu K4).c4
  have f5:=(zu K4).free 5
  have q5:=(zu K4).c5
  have f6:=(zu K4).free 6
  have q6:=(zu K4).c6
  have FZ:=zh (zfin (zu B4) (zu K4))
  go_wp2
  generalize (((((((u4).setCell ⟨w.heap.size+1,0,none⟩ (.int .i64 0)).setCell ⟨w.heap.size+1,1,none⟩ (.slice none 0 0)).setCell ⟨w.heap.size+1,2,none⟩ (.slice none 0 0)).setCell ⟨w.heap.size+1,3,none⟩ (.slice none 0 0)).setCell ⟨w.heap.size+1,4,none⟩ (.slice none 0 0)).setCell ⟨w.heap.size+1,5,none⟩ (.slice none 0 0)).setCell ⟨w.heap.size+1,6,none⟩ (.int .i64 0)=U at *
  clear f0 q0 f1 q1 f2 q2 f3 q3 f4 q4 f5 q5 f6 q6
  have r0:=(zu FZ).2.c0
  have r1:=(zu FZ).2.c1
  have r2:=(zu FZ).2.c2
  have r3:=(zu FZ).2.c3
  have r4:=(zu FZ).2.c4
  have r5:=(zu FZ).2.c5
  have r6:=(zu FZ).2.c6
  refine bodyPost_ret (v:= .tuple #[.agg #[.int .i64 0,.slice none 0 0,.slice none 0 0,.slice none 0 0,.slice none 0 0,.slice none 0 0,.int .i64 0],.bool false]) (by simp[results,Tryz.results7,go_sem,r0,r1,r2,r3,r4,r5,r6]) rfl ?_
  rw[zu E]
  exact own_no rfl (zu FZ).1
 subst cz
 by_cases qz:uq=tx.size
 case neg=>
  have E:=zh (show rr=((0,zeroB),false) by rw[zu RE,if_neg (fun h=>qz (h.2.trans (by rw[zu XL])))])
  have qb:(uq !=(tx.size:Int))=true:=by simpa using qz
  clear RE qz
  have f0:=(zu K4).free 0
  have q0:=(zu K4).c0
  have f1:=(zu K4).free 1
  have q1:=(zu K4).c1
  have f2:=(zu K4).free 2
  have q2:=(zu K4).c2
  have f3:=(zu K4).free 3
  have q3:=(zu K4).c3
  have f4:=(zu K4).free 4
  have q4:=(zu K4).c4
  have f5:=(zu K4).free 5
  have q5:=(zu K4).c5
  have f6:=(zu K4).free 6
  have q6:=(zu K4).c6
  have FZ:=zh (zfin (zu B4) (zu K4))
  go_wp2
  generalize (((((((u4).setCell ⟨w.heap.size+1,0,none⟩ (.int .i64 0)).setCell ⟨w.heap.size+1,1,none⟩ (.slice none 0 0)).setCell ⟨w.heap.size+1,2,none⟩ (.slice none 0 0)).setCell ⟨w.heap.size+1,3,none⟩ (.slice none 0 0)).setCell ⟨w.heap.size+1,4,none⟩ (.slice none 0 0)).setCell ⟨w.heap.size+1,5,none⟩ (.slice none 0 0)).setCell ⟨w.heap.size+1,6,none⟩ (.int .i64 0)=U at *
  clear f0 q0 f1 q1 f2 q2 f3 q3 f4 q4 f5 q5 f6 q6
  have r0:=(zu FZ).2.c0
  have r1:=(zu FZ).2.c1
  have r2:=(zu FZ).2.c2
  have r3:=(zu FZ).2.c3
  have r4:=(zu FZ).2.c4
  have r5:=(zu FZ).2.c5
  have r6:=(zu FZ).2.c6
  refine bodyPost_ret (v:= .tuple #[.agg #[.int .i64 0,.slice none 0 0,.slice none 0 0,.slice none 0 0,.slice none 0 0,.slice none 0 0,.int .i64 0],.bool false]) (by simp[results,Tryz.results7,go_sem,r0,r1,r2,r3,r4,r5,r6]) rfl ?_
  rw[zu E]
  exact own_no rfl (zu FZ).1
 subst qz
 have RH:=zh (show rr=loadH hs by rw[zu RE,if_pos ⟨by trivial,by rw[zu XL]⟩])
 have hl2:hs.length≤1048576:=by
  have:=zu UL
  try simp only at this
  omega
 have AH:=zh (show AtB u4 g4 hs from fun i hi=>⟨(zu O4).at i hi,(zu UI) i hi⟩)
 have hc4:hs.length≤c4:=by
  rcases(zu O4).2 with⟨h1,_⟩|⟨g',c',cur,h1,_,_,h4,_⟩
  ·simp at h1
  ·obtain⟨_,e⟩:g4=g'∧c4=c':=by simpa using h1
   omega
 have GN:=zh (IGet11.iGetNum u4 g4 c4 hs 0 hl2 hc4 (by omega) (zu O4).lt.2 (zu AH))
 have GI:=zh (getN_in hs 0)
 have LH:=zh (show loadH hs=if(getN hs 0).2.2=true∧okS (getN hs 0).1=true∧(readB (hs.drop (getN hs 0).2.1.toNat)).2=true then(((getN hs 0).1,(readB (hs.drop (getN hs 0).2.1.toNat)).1),true) else((0,zeroB),false) from rfl)
 generalize getN hs 0=gn at *
 obtain⟨f,fq,fb⟩:=gn
 clear RE UL UI TS
 go_wp2_with fail
 refine(zu GN).mono ?_
 rintro e v4 ⟨rfl,b5⟩
 have B4':=zh ((zu B4).trans (b5.mono (zu B4).size))
 have K4':=zh ((zu K4).below b5 (zu K4).lt.2)
 have AH':=zh (show AtB v4 g4 hs from(zu AH).below b5 (zu O4).lt.2)
 have lg4:g4<v4.heap.size:=Nat.lt_of_lt_of_le (zu O4).lt.2 b5.size
 have us5:=b5.size
 clear GN b5 B4 K4 AH O4
 have B4:=B4'
 have K4:=K4'
 have AH:=AH'
 clear B4' K4' AH'
 cases fb with
 |false=>
  have E:=zh (show rr=((0,zeroB),false) by rw[zu RH,zu LH,if_neg (fun h=>by simp at h)])
  clear RH LH
  have f0:=(zu K4).free 0
  have q0:=(zu K4).c0
  have f1:=(zu K4).free 1
  have q1:=(zu K4).c1
  have f2:=(zu K4).free 2
  have q2:=(zu K4).c2
  have f3:=(zu K4).free 3
  have q3:=(zu K4).c3
  have f4:=(zu K4).free 4
  have q4:=(zu K4).c4
  have f5:=(zu K4).free 5
  have q5:=(zu K4).c5
  have f6:=(zu K4).free 6
  have q6:=(zu K4).c6
  have FZ:=zh (zfin (zu B4) (zu K4))
  go_wp2
  generalize (((((((v4).setCell ⟨w.heap.size+1,0,none⟩ (.int .i64 0)).setCell ⟨w.heap.size+1,1,none⟩ (.slice none 0 0)).setCell ⟨w.heap.size+1,2,none⟩ (.slice none 0 0)).setCell ⟨w.heap.size+1,3,none⟩ (.slice none 0 0)).setCell ⟨w.heap.size+1,4,none⟩ (.slice none 0 0)).setCell ⟨w.heap.size+1,5,none⟩ (.slice none 0 0)).setCell ⟨w.heap.size+1,6,none⟩ (.int .i64 0)=U at *
  clear f0 q0 f1 q1 f2 q2 f3 q3 f4 q4 f5 q5 f6 q6
  have r0:=(zu FZ).2.c0
  have r1:=(zu FZ).2.c1
  have r2:=(zu FZ).2.c2
  have r3:=(zu FZ).2.c3
  have r4:=(zu FZ).2.c4
  have r5:=(zu FZ).2.c5
  have r6:=(zu FZ).2.c6
  refine bodyPost_ret (v:= .tuple #[.agg #[.int .i64 0,.slice none 0 0,.slice none 0 0,.slice none 0 0,.slice none 0 0,.slice none 0 0,.int .i64 0],.bool false]) (by simp[results,Tryz.results7,go_sem,r0,r1,r2,r3,r4,r5,r6]) rfl ?_
  rw[zu E]
  exact own_no rfl (zu FZ).1
 |true=>
 cases sk:okS f with
 |false=>
  have E:=zh (show rr=((0,zeroB),false) by rw[zu RH,zu LH,if_neg (fun h=>by rw[sk] at h;simp at h)])
  have SK:=zh sk
  clear RH LH sk
  go_wp2_with fail
  refine(ISg15.iSegOk _ f false (zu SK)).mono ?_
  rintro e v4 ⟨rfl,rfl⟩
  have f0:=(zu K4).free 0
  have q0:=(zu K4).c0
  have f1:=(zu K4).free 1
  have q1:=(zu K4).c1
  have f2:=(zu K4).free 2
  have q2:=(zu K4).c2
  have f3:=(zu K4).free 3
  have q3:=(zu K4).c3
  have f4:=(zu K4).free 4
  have q4:=(zu K4).c4
  have f5:=(zu K4).free 5
  have q5:=(zu K4).c5
  have f6:=(zu K4).free 6
  have q6:=(zu K4).c6
  have FZ:=zh (zfin (zu B4) (zu K4))
  go_wp2
  generalize (((((((v4).setCell ⟨w.heap.size+1,0,none⟩ (.int .i64 0)).setCell ⟨w.heap.size+1,1,none⟩ (.slice none 0 0)).setCell ⟨w.heap.size+1,2,none⟩ (.slice none 0 0)).setCell ⟨w.heap.size+1,3,none⟩ (.slice none 0 0)).setCell ⟨w.heap.size+1,4,none⟩ (.slice none 0 0)).setCell ⟨w.heap.size+1,5,none⟩ (.slice none 0 0)).setCell ⟨w.heap.size+1,6,none⟩ (.int .i64 0)=U at *
  clear f0 q0 f1 q1 f2 q2 f3 q3 f4 q4 f5 q5 f6 q6
  have r0:=(zu FZ).2.c0
  have r1:=(zu FZ).2.c1
  have r2:=(zu FZ).2.c2
  have r3:=(zu FZ).2.c3
  have r4:=(zu FZ).2.c4
  have r5:=(zu FZ).2.c5
  have r6:=(zu FZ).2.c6
  refine bodyPost_ret (v:= .tuple #[.agg #[.int .i64 0,.slice none 0 0,.slice none 0 0,.slice none 0 0,.slice none 0 0,.slice none 0 0,.int .i64 0],.bool false]) (by simp[results,Tryz.results7,go_sem,r0,r1,r2,r3,r4,r5,r6]) rfl ?_
  rw[zu E]
  exact own_no rfl (zu FZ).1
 |true=>
 have SK:=zh sk
 obtain⟨f0',q0',q1'⟩:=(zu GI) rfl
 try simp only at f0' q0' q1'
 obtain⟨k,rfl⟩:∃k:Nat,fq=k:=⟨fq.toNat,by omega⟩
 have kl:k≤hs.length:=by omega
 have EV:=zh (((zu B4).cell (p:=⟨0,0,none⟩) (show 0<w.heap.size by omega)).trans (zu HE))
 have SR:=zh (show ∀o cc,(o=k∨hs.length=k)→hs.length-k≤cc→Calls Tryz.prog 24 #[.slice (some ⟨g4,o,none⟩) (hs.length-k) cc] v4 (fun e w'=>∃x:Ix,x.b=(readB (hs.drop k)).1∧e= .returned (.tuple #[.agg #[.slice x.aa x.b.ac.length x.ca,.slice x.ai x.b.ic.length x.ci,.slice x.ab x.b.bs.length x.cb,.slice x.al x.b.ls.length x.cl,.slice x.ats x.b.ts.length x.ct,.int .i64 x.b.lot],.bool (readB (hs.drop k)).2])∧OwV w' v4.heap.size x∧Below v4.heap.size v4 w') from fun o cc ho hcc=>by
  have:=IFace13.iBooksReadO (oz:=o) v4 g4 cc (hs.drop k) et ev (by simp;omega) (by simp;omega) lg4 (fun i hi=>by
   have hi':k+i<hs.length:=by simp at hi;omega
   have ok':o=k:=by omega
   have e:(hs.drop k).getD i 0=hs.getD (k+i) 0:=by simp[List.getD,List.getElem?_drop]
   rw[e,ok']
   exact(zu AH) (k+i) hi') (zu EV)
  rw[List.length_drop] at this
  exact this)
 have RL:=zh (show rr=if(readB (hs.drop k)).2=true then((f,(readB (hs.drop k)).1),true) else((0,zeroB),false) by
  rw[zu RH,zu LH]
  have e:((k:Int)).toNat=k:=by omega
  simp only[e]
  by_cases q:(readB (hs.drop k)).2=true
  ·rw[if_pos ⟨by trivial,sk,q⟩,if_pos q]
  ·rw[if_neg (fun h=>q h.2.2),if_neg q])
 have k0:¬((k:Int)<0):=by omega
 have k1:(k:Int)≤hs.length:=by omega
 generalize readB (hs.drop k)=rb at *
 obtain⟨bb,good⟩:=rb
 clear RH LH GI q0' q1' f0' sk
 go_wp2_with fail
 refine(ISg15.iSegOk _ f true (zu SK)).mono ?_
 rintro e v4 ⟨rfl,rfl⟩
 go_wp2_with fail
 all_goals
  refine(zu SR _ _ (by omega) (by omega)).mono ?_
  rintro e u5 ⟨y,hy,rfl,ry,b5⟩
  have B5:=zh ((zu B4).trans (b5.mono (zu B4).size))
  have K5:=zh ((zu K4).below b5 (zu K4).lt.2)
  have bx:=one_more u5 (.cells #[.slice y.aa y.b.ac.length y.ca,.slice y.ai y.b.ic.length y.ci,.slice y.ab y.b.bs.length y.cb,.slice y.al y.b.ls.length y.cl,.slice y.ats y.b.ts.length y.ct,.int .i64 y.b.lot] 32)
  have B6:=zh ((zu B5).trans (bx.mono (zu B5).size))
  have K6:=zh ((zu K5).below bx (zu K5).lt.2)
  have R6:=zh (ry.step bx)
  have HY:=zh hy
  have y0:(u5.alloc (.cells #[.slice y.aa y.b.ac.length y.ca,.slice y.ai y.b.ic.length y.ci,.slice y.ab y.b.bs.length y.cb,.slice y.al y.b.ls.length y.cl,.slice y.ats y.b.ts.length y.ct,.int .i64 y.b.lot] 32)).cell? ⟨u5.heap.size,0,none⟩=some (.slice y.aa y.b.ac.length y.ca):=by simp
  have us5:=b5.size
  clear b5 bx ry hy B4 K4 SR AH B5 K5 y0
  cases good with
  |false=>
   have E:=zh (show rr=((0,zeroB),false) by rw[zu RL,if_neg (by simp)])
   clear RL
   have f0:=(zu K6).free 0
   have q0:=(zu K6).c0
   have f1:=(zu K6).free 1
   have q1:=(zu K6).c1
   have f2:=(zu K6).free 2
   have q2:=(zu K6).c2
   have f3:=(zu K6).free 3
   have q3:=(zu K6).c3
   have f4:=(zu K6).free 4
   have q4:=(zu K6).c4
   have f5:=(zu K6).free 5
   have q5:=(zu K6).c5
   have f6:=(zu K6).free 6
   have q6:=(zu K6).c6
   have FZ:=zh (zfin (zu B6) (zu K6))
   go_wp2
   generalize ((((((((u5.alloc (.cells #[.slice y.aa y.b.ac.length y.ca,.slice y.ai y.b.ic.length y.ci,.slice y.ab y.b.bs.length y.cb,.slice y.al y.b.ls.length y.cl,.slice y.ats y.b.ts.length y.ct,.int .i64 y.b.lot] 32))).setCell ⟨w.heap.size+1,0,none⟩ (.int .i64 0)).setCell ⟨w.heap.size+1,1,none⟩ (.slice none 0 0)).setCell ⟨w.heap.size+1,2,none⟩ (.slice none 0 0)).setCell ⟨w.heap.size+1,3,none⟩ (.slice none 0 0)).setCell ⟨w.heap.size+1,4,none⟩ (.slice none 0 0)).setCell ⟨w.heap.size+1,5,none⟩ (.slice none 0 0)).setCell ⟨w.heap.size+1,6,none⟩ (.int .i64 0)=U at *
   clear f0 q0 f1 q1 f2 q2 f3 q3 f4 q4 f5 q5 f6 q6
   have r0:=(zu FZ).2.c0
   have r1:=(zu FZ).2.c1
   have r2:=(zu FZ).2.c2
   have r3:=(zu FZ).2.c3
   have r4:=(zu FZ).2.c4
   have r5:=(zu FZ).2.c5
   have r6:=(zu FZ).2.c6
   refine bodyPost_ret (v:= .tuple #[.agg #[.int .i64 0,.slice none 0 0,.slice none 0 0,.slice none 0 0,.slice none 0 0,.slice none 0 0,.int .i64 0],.bool false]) (by simp[results,Tryz.results7,go_sem,r0,r1,r2,r3,r4,r5,r6]) rfl ?_
   rw[zu E]
   exact own_no rfl (zu FZ).1
  |true=>
   have E:=zh (show rr=((f,bb),true) by rw[zu RL,if_pos rfl])
   clear RL
   have f0:=(zu K6).free 0
   have q0:=(zu K6).c0
   have f1:=(zu K6).free 1
   have q1:=(zu K6).c1
   have f2:=(zu K6).free 2
   have q2:=(zu K6).c2
   have f3:=(zu K6).free 3
   have q3:=(zu K6).c3
   have f4:=(zu K6).free 4
   have q4:=(zu K6).c4
   have f5:=(zu K6).free 5
   have q5:=(zu K6).c5
   have f6:=(zu K6).free 6
   have q6:=(zu K6).c6
   have FZ:=zh (yfinO (zu B6) (zu K6) f y (zu R6) (by omega))
   go_wp2
   generalize ((((((((u5.alloc (.cells #[.slice y.aa y.b.ac.length y.ca,.slice y.ai y.b.ic.length y.ci,.slice y.ab y.b.bs.length y.cb,.slice y.al y.b.ls.length y.cl,.slice y.ats y.b.ts.length y.ct,.int .i64 y.b.lot] 32))).setCell ⟨w.heap.size+1,0,none⟩ (.int .i64 f)).setCell ⟨w.heap.size+1,1,none⟩ (.slice y.aa y.b.ac.length y.ca)).setCell ⟨w.heap.size+1,2,none⟩ (.slice y.ai y.b.ic.length y.ci)).setCell ⟨w.heap.size+1,3,none⟩ (.slice y.ab y.b.bs.length y.cb)).setCell ⟨w.heap.size+1,4,none⟩ (.slice y.al y.b.ls.length y.cl)).setCell ⟨w.heap.size+1,5,none⟩ (.slice y.ats y.b.ts.length y.ct)).setCell ⟨w.heap.size+1,6,none⟩ (.int .i64 y.b.lot)=U at *
   clear f0 q0 f1 q1 f2 q2 f3 q3 f4 q4 f5 q5 f6 q6
   have r0:=(zu FZ).2.1.c0
   have r1:=(zu FZ).2.1.c1
   have r2:=(zu FZ).2.1.c2
   have r3:=(zu FZ).2.1.c3
   have r4:=(zu FZ).2.1.c4
   have r5:=(zu FZ).2.1.c5
   have r6:=(zu FZ).2.1.c6
   refine bodyPost_ret (v:= .tuple #[.agg #[.int .i64 f,.slice y.aa y.b.ac.length y.ca,.slice y.ai y.b.ic.length y.ci,.slice y.ab y.b.bs.length y.cb,.slice y.al y.b.ls.length y.cl,.slice y.ats y.b.ts.length y.ct,.int .i64 y.b.lot],.bool true]) (by simp[results,Tryz.results7,go_sem,r0,r1,r2,r3,r4,r5,r6]) rfl ?_
   rw[zu E]
   exact⟨y,zu HY,rfl,(zu FZ).2.2,(zu FZ).1⟩
end ISaveLoad16
end Go.Proofs.YtagmnociflkhcaaGreatDoor
