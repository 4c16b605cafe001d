/- Lemmas. -/
import Derived.Test.YtppkkmaoaiopaaaGreatQF8
import Derived.Test.YtppkkmaoaiopaaaGreatQF15
open Go.ChangeShapes Go.WideShapes Go.ChangeAt Go.RowKit
set_option linter.unusedVariables false
set_option linter.unusedSimpArgs false
set_option maxRecDepth 100000
set_option maxHeartbeats 32000000
namespace Go.Proofs.YtppkkmaoaiopaaaGreat
namespace Sort3
open Bals Triples Cmp
open Go.Sort (putRow putCells mapBlock onCells Holds SWO PermIn SortedIn grow flatK get_flatK size_flatK HoldsK)
def enc(p:T3):List Value:=[.int .i64 p.1,.int .i64 p.2.1,.int .i64 p.2.2]
def cf(p q:T3):Int:=cmpK p.1 p.2.1 q.1 q.2.1
theorem lt_iff(p q:T3):ltOf cf p q=true↔Bef p q:=by
 unfold ltOf cf Bef
 rw[decide_eq_true_eq,cmpK_lt]
theorem lt_not(p q:T3):ltOf cf p q=false↔¬Bef p q:=by
 rw[←lt_iff]
 simp
theorem swo:SWO (ltOf cf) where
 irrefl x:=by rw[lt_not];exact bef_irrefl x
 trans x y z h1 h2:=by rw[lt_iff] at *;exact bef_trans h1 h2
 ntrans x y z h1 h2:=by rw[lt_not] at *;unfold Bef at *;omega
theorem flat_flatK(d:Array T3):(flatK enc 3 d).toList=flat3 d.toList:=by
 apply List.ext_getElem?
 intro t
 by_cases ht:t<d.size*3
 ·have e1:(flatK enc 3 d).toList[t]?=some ((enc d[t/3]!)[t%3]!):=by
   have:=get_flatK enc 3 d t ht
   rw[getElem!_pos _ t (by simpa using ht)] at this
   simp only[Array.getElem?_toList]
   rw[Array.getElem?_eq_getElem (by simpa using ht),this]
  have hq:t/3<d.size:=by omega
  have e2:el3 d.toList (t/3)=d[t/3]! :=by
   rw[getElem!_pos d (t/3) hq]
   simp[el3,List.getD,hq]
  obtain⟨f0,f1,f2⟩:=flat3_get d.toList (t/3) (by simpa using hq)
  rw[e2] at f0 f1 f2
  rw[e1]
  rcases(show t%3=0∨t%3=1∨t%3=2 by omega) with e|e|e
  ·rw[show t/3*3=t by omega] at f0
   rw[f0,e];rfl
  ·rw[show t/3*3+1=t by omega] at f1
   rw[f1,e];rfl
  ·rw[show t/3*3+2=t by omega] at f2
   rw[f2,e];rfl
 ·rw[List.getElem?_eq_none (by simp;omega),List.getElem?_eq_none (by rw[flat3_len];simp;omega)]
theorem sw_heap(w:World)(blk q:Nat)(d:Array T3)(os:Array Obj):(sortWorldK enc 3 w blk 0 q d os).heap=(w.heap.modify blk (onCells (putCells id 0 (flatK enc 3 d))))++os:=rfl
theorem sw_other(w:World)(blk q:Nat)(d:Array T3)(os:Array Obj)(k:Nat)(hk:k<w.heap.size)(hne:k≠blk):(sortWorldK enc 3 w blk 0 q d os).heap[k]?=w.heap[k]?:=by
 rw[sw_heap,Array.getElem?_append_left (by simpa using hk),Array.getElem?_modify,if_neg (Ne.symm hne)]
theorem sw_same(w:World)(blk q:Nat)(d:Array T3)(os:Array Obj)(cur:Array Value)(e:TypeId)(fr:Nat×Nat)(h:w.heap[blk]?=some (.cells cur e fr)):(sortWorldK enc 3 w blk 0 q d os).heap[blk]?=some (.cells (putCells id 0 (flatK enc 3 d) cur) e fr):=by
 have hb:blk<w.heap.size:=(Array.getElem?_eq_some_iff.1 h).1
 rw[sw_heap,Array.getElem?_append_left (by simpa using hb),Array.getElem?_modify,if_pos rfl,h]
 rfl
theorem sw_below(w:World)(blk q:Nat)(d:Array T3)(os:Array Obj)(hb:blk<w.heap.size):Below blk w (sortWorldK enc 3 w blk 0 q d os):=by
 refine⟨rfl,rfl,rfl,?_,fun k hk=>?_⟩
 ·rw[sw_heap];simp
 ·exact sw_other w blk q d os k (by omega) (by omega)
theorem put_take(F cur:Array Value)(h:F.size≤cur.size):(putCells id 0 F cur).toList.take F.size=F.toList:=by
 apply List.ext_getElem?
 intro i
 by_cases hi:i<F.size
 ·rw[List.getElem?_take,if_pos hi]
  have e1:(putCells id 0 F cur).toList[i]?=some F[i]! :=by
   simp[putCells,hi,show i<cur.size by omega]
  rw[e1,getElem!_pos F i hi]
  simp[hi]
 ·rw[List.getElem?_take,if_neg hi,List.getElem?_eq_none (by simp;omega)]
theorem own_sorted(w:World)(base blk n cap q:Nat)(d:Array T3)(os:Array Obj)(ps:List T3)(hd:d.size=n)(h:Own3 132 w base blk n cap ps):
  Own3 132 (sortWorldK enc 3 w blk 0 q d os) base blk n cap d.toList:=by
 refine⟨by rw[flat3_len];simp[hd],?_⟩
 rcases h.2 with⟨z,_⟩|⟨g',c,cur,z,hb,hc,h1,h2,h3,h4⟩
 ·simp at z
 ·obtain⟨rfl,rfl⟩:blk=g'∧cap=c:=by simpa using z
  refine Or.inr ⟨blk,cap,_,rfl,hb,sw_same w blk q d os cur 132 (0,0) hc,h1,h2,by simpa[putCells] using h3,?_⟩
  have:=put_take (flatK enc 3 d) cur (by rw[size_flatK,hd,h3];exact Nat.mul_le_mul_right 3 h1)
  rw[size_flatK,hd,flat_flatK] at this
  exact this
theorem holds_of(w:World)(base blk n cap:Nat)(ps:List T3)(h:Own3 132 w base blk n cap ps):HoldsK enc 3 w blk 0 ps.toArray:=by
 intro j hj
 have hl:=h.len
 have hj':j<n*3:=by simpa[hl] using hj
 refine⟨?_,by simpa using h.free (0+j)⟩
 rw[Nat.zero_add]
 have e:=World.ownsRow.cellAt h j hj'
 rw[e]
 have f:=flat_flatK ps.toArray
 have g:flat3 ps=(flatK enc 3 ps.toArray).toList:=by rw[f]
 rw[g,Array.getElem?_toList,Array.getElem?_eq_getElem hj,getElem!_pos _ j hj]
 rfl
theorem closure(x y:T3)(w:World):Calls Tryz.prog 225 #[.agg #[.int .i64 x.1,.int .i64 x.2.1,.int .i64 x.2.2],.agg #[.int .i64 y.1,.int .i64 y.2.1,.int .i64 y.2.2]] w fun e w'=>e= .returned (.int .i64 (cf x y))∧∃q os,w'=grow (w.drewN q) os:=by
 obtain⟨a,i,p⟩:=x
 obtain⟨b,j,q⟩:=y
 go_enter Tryz.func225,Tryz.ntmps225
 go_wp2_with fail
 refine(compareG a i b j _).mono ?_
 rintro e w1 ⟨rfl,n,os,rfl⟩
 go_wp2
 go_ret
 refine⟨rfl,n,#[.cells #[.int .i64 a,.int .i64 i,.int .i64 p] 132]++ #[.cells #[.int .i64 b,.int .i64 j,.int .i64 q] 132]++os,?_⟩
 rw[Go.Sort.alloc_eq_grow,Go.Sort.alloc_eq_grow,Go.Sort.grow_grow]
 exact Go.Sort.grow_grow (w.drewN n) _ _
theorem cmpLays(blk size:Nat)(w:World):CmpLays Tryz.prog 225 #[] enc 3 cf blk 0 size w:=fun _ _ _ _ x y=>closure x y _
theorem sorts(w:World)(base blk n cap:Nat)(ps:List T3)(hn:n≤1048576)(ho:Own3 132 w base blk n cap ps):
  Calls Tryz.prog 224 #[.slice (some ⟨blk,0,none⟩) n cap,.func (.func 225) #[] #[]] w fun e w'=>
   e= .returned (.tuple #[])∧∃qs,qs.Perm ps∧qs.Pairwise (fun p q=>¬Bef q p)∧Own3 132 w' base blk n cap qs∧Below blk w w':=by
 have hl:=ho.len
 have hs:ps.toArray.size=n:=by simpa using hl
 have eg:∀args w,(callFunc 225 args).run Tryz.prog w= .ok (.enter 225 args) w:=enters_of Tryz.func225 (by kernel_rfl) rfl
 have hcon:=AnyQ.slices_SortFunc Tryz.sortL 3 Tryz.isAgg132 Tryz.sizeOf132 enc (fun _=>rfl) (fun x v hv=>by simp[enc] at hv;rcases hv with rfl|rfl|rfl<;>rfl) cf swo 225 #[] blk 0 cap ps.toArray w eg (cmpLays blk _ w) (holds_of w base blk n cap ps ho) ho.lt.2 (by rw[hs];omega)
 change Calls Tryz.prog 224 _ _ _ at hcon
 rw[hs] at hcon
 refine hcon.mono ?_
 rintro e w' ⟨rfl,d',q,os,hp,hso,rfl⟩
 have hd:d'.size=n:=hp.1.trans hs
 refine⟨rfl,d'.toList,?_,?_,own_sorted w base blk n cap q d' os ps hd ho,sw_below w blk q d' os ho.lt.2⟩
 ·have:=hp.2.2
  rw[Array.extract_eq_self_of_le (by omega),Array.extract_eq_self_of_le (by omega)] at this
  simpa using this
 ·rw[List.pairwise_iff_getElem]
  intro i j hi hj hij
  have hj':j<d'.size:=by simpa using hj
  have:=hso i j (Nat.zero_le _) hij (by omega)
  rw[getElem!_pos d' j hj',getElem!_pos d' i (by omega),lt_not] at this
  simpa using this
end Sort3
end Go.Proofs.YtppkkmaoaiopaaaGreat
