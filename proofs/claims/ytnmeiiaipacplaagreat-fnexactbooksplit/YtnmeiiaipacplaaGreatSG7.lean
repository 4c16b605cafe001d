/- Texts of one proof, one behind the other: HeldP, SplitP, LayI, ISort, IOrder, IShares, IScale, IScale2, TBox, SLegs, SMove, SFx, SSplitB, IPostB, ICmdW, ICmdF, FxI, ScaleI, ICmdV. -/
import Derived.Test.YtnmeiiaipacplaaGreatRows
import Derived.Test.YtnmeiiaipacplaaGreatSG1
import Derived.Test.YtnmeiiaipacplaaGreatSG2
import Derived.Test.YtnmeiiaipacplaaGreatSG3
import Derived.Test.YtnmeiiaipacplaaGreatSG4
import Derived.Test.YtnmeiiaipacplaaGreatSG5
import Derived.Test.YtnmeiiaipacplaaGreatSG6
import Derived.Shelf.SlGeneric
import Derived.Shelf.SlSortCmp.Whole1
import Derived.Ground.SlsfProg
import Derived.WalkSmall
import Derived.Deep.RegionHeld3
import Derived.Deep.AppendLies
set_option linter.unusedVariables false
set_option linter.unusedSimpArgs false
open Go.ChangeShapes Go.WideShapes Go.ChangeAt Go.RowKit
set_option maxRecDepth 100000
set_option maxHeartbeats 32000000
namespace Go.Proofs
open Go.Shelf
def Tryz.sortI_ren : Go.Shelf.Ren := ⟨fun | 6 => 215 | 15 => 192 | 14 => 222 | 28 => 213 | 29 => 214 | 20 => 224 | 21 => 225 | 22 => 226 | 23 => 227 | 24 => 228 | 25 => 229 | 26 => 230 | 27 => 231 | 46 => 232 | 47 => 218 | 48 => 219 | 49 => 233 | 50 => 234 | 57 => 235 | n => n, fun | 22 => 43 | 24 => 3 | 25 => 207 | 3 => 3 | 39 => 169 | 0 => 0 | 53 => 170 | 55 => 130 | 4 => 4 | 46 => 222 | 45 => 221 | 50 => 136 | 5 => 5 | 9 => 9 | 66 => 231 | 70 => 235 | 76 => 238 | 77 => 102 | n => n, fun | n => n⟩
theorem Tryz.sortI : Go.Proofs.SlLaysF.n6 Tryz.prog Tryz.sortI_ren := {
  mixed := by kernel_rfl
  f6 := ⟨Tryz.f215.name, by decide, Tryz.func215.trans (congrArg some (by kernel_rfl))⟩
  f14 := ⟨Tryz.f222.name, by decide, Tryz.func222.trans (congrArg some (by kernel_rfl))⟩
  f15 := Tryz.func192.trans (congrArg some (by kernel_rfl))
  f20 := ⟨Tryz.f224.name, by decide, Tryz.func224.trans (congrArg some (by kernel_rfl))⟩
  f21 := ⟨Tryz.f225.name, by decide, Tryz.func225.trans (congrArg some (by kernel_rfl))⟩
  f22 := ⟨Tryz.f226.name, by decide, Tryz.func226.trans (congrArg some (by kernel_rfl))⟩
  f23 := ⟨Tryz.f227.name, by decide, Tryz.func227.trans (congrArg some (by kernel_rfl))⟩
  f24 := ⟨Tryz.f228.name, by decide, Tryz.func228.trans (congrArg some (by kernel_rfl))⟩
  f25 := ⟨Tryz.f229.name, by decide, Tryz.func229.trans (congrArg some (by kernel_rfl))⟩
  f26 := ⟨Tryz.f230.name, by decide, Tryz.func230.trans (congrArg some (by kernel_rfl))⟩
  f27 := ⟨Tryz.f231.name, by decide, Tryz.func231.trans (congrArg some (by kernel_rfl))⟩
  f28 := Tryz.func213.trans (congrArg some (by kernel_rfl))
  f29 := Tryz.func214.trans (congrArg some (by kernel_rfl))
  f46 := ⟨Tryz.f232.name, by decide, Tryz.func232.trans (congrArg some (by kernel_rfl))⟩
  f47 := Tryz.func218.trans (congrArg some (by kernel_rfl))
  f48 := Tryz.func219.trans (congrArg some (by kernel_rfl))
  f49 := ⟨Tryz.f233.name, by decide, Tryz.func233.trans (congrArg some (by kernel_rfl))⟩
  f50 := ⟨Tryz.f234.name, by decide, Tryz.func234.trans (congrArg some (by kernel_rfl))⟩
  f57 := ⟨Tryz.f235.name, by decide, Tryz.func235.trans (congrArg some (by kernel_rfl))⟩
  t0 := Tryz.underlying0
  a0 := Tryz.isAgg0
  z0 := Tryz.sizeOf0
  v0 := Tryz.zeroValue0
  t3 := Tryz.underlying3
  a3 := Tryz.isAgg3
  z3 := Tryz.sizeOf3
  v3 := Tryz.zeroValue3
  t4 := Tryz.underlying4
  a4 := Tryz.isAgg4
  z4 := Tryz.sizeOf4
  v4 := Tryz.zeroValue4
  t5 := Tryz.underlying5
  a5 := Tryz.isAgg5
  z5 := Tryz.sizeOf5
  v5 := Tryz.zeroValue5
  t9 := Tryz.underlying9
  a9 := Tryz.isAgg9
  z9 := Tryz.sizeOf9
  v9 := Tryz.zeroValue9
  t22 := Tryz.underlying43
  a22 := Tryz.isAgg43
  z22 := Tryz.sizeOf43
  v22 := Tryz.zeroValue43
  a24 := Tryz.isAgg3
  z24 := Tryz.sizeOf3
  t25 := Tryz.underlying207
  a25 := Tryz.isAgg207
  z25 := Tryz.sizeOf207
  v25 := Tryz.zeroValue207
  t39 := Tryz.underlying169
  a39 := Tryz.isAgg169
  z39 := Tryz.sizeOf169
  v39 := Tryz.zeroValue169
  t45 := Tryz.underlying221
  a45 := Tryz.isAgg221
  z45 := Tryz.sizeOf221
  v45 := Tryz.zeroValue221
  t46 := Tryz.underlying222
  a46 := Tryz.isAgg222
  z46 := Tryz.sizeOf222
  v46 := Tryz.zeroValue222
  t50 := Tryz.underlying136
  a50 := Tryz.isAgg136
  z50 := Tryz.sizeOf136
  v50 := Tryz.zeroValue136
  t53 := Tryz.underlying170
  a53 := Tryz.isAgg170
  z53 := Tryz.sizeOf170
  v53 := Tryz.zeroValue170
  t55 := Tryz.underlying130
  a55 := Tryz.isAgg130
  z55 := Tryz.sizeOf130
  v55 := Tryz.zeroValue130
  t66 := Tryz.underlying231
  a66 := Tryz.isAgg231
  z66 := Tryz.sizeOf231
  v66 := Tryz.zeroValue231
  t70 := Tryz.underlying235
  a70 := Tryz.isAgg235
  z70 := Tryz.sizeOf235
  v70 := Tryz.zeroValue235
  t76 := Tryz.underlying238
  a76 := Tryz.isAgg238
  z76 := Tryz.sizeOf238
  v76 := Tryz.zeroValue238
  t77 := Tryz.underlying102
  a77 := Tryz.isAgg102
  z77 := Tryz.sizeOf102
  v77 := Tryz.zeroValue102 }
end Go.Proofs
namespace Go.Proofs.YtnmeiiaipacplaaGreat
namespace HeldP
open Go.RowKit Bks SHeld
open Bals (T3 val Amt el3 Bef)
open Lots (NoOk)
def pick(ac:List (Int×Int))(i:Int)(p:T3):List (Int×Int):=if p.2.1=i∧kindOf ac p.1=1 then[(p.1,p.2.2)] else[]
def heldB(ac:List (Int×Int))(i:Int):List T3→List (Int×Int)
 |[]=>[]
 |p::r=>pick ac i p++heldB ac i r
theorem heldB_append(ac:List (Int×Int))(i:Int):∀ps qs:List T3,heldB ac i (ps++qs)=heldB ac i ps++heldB ac i qs
 |[],qs=>rfl
 |p::r,qs=>by simp[heldB,heldB_append ac i r qs]
theorem heldB_next{ac:List (Int×Int)}{i:Int}{ps:List T3}{k:Nat}(h:k<ps.length):heldB ac i (ps.take (k+1))=heldB ac i (ps.take k)++pick ac i (el3 ps k):=by
 rw[List.take_succ_eq_append_getElem h,heldB_append]
 simp[heldB,el3,List.getD,h]
theorem heldB_len(ac:List (Int×Int))(i:Int):∀ps:List T3,(heldB ac i ps).length≤ps.length
 |[]=>Nat.le_refl _
 |p::r=>by
  have:=heldB_len ac i r
  unfold heldB pick
  split<;>simp<;>omega
theorem heldB_mem{ac:List (Int×Int)}{i:Int}:∀{ps:List T3} {q:Int×Int},q∈heldB ac i ps↔(q.1,i,q.2)∈ps∧kindOf ac q.1=1
 |[],q=>by simp[heldB]
 |p::r,q=>by
  unfold heldB pick
  rw[List.mem_append,heldB_mem (ps:=r)]
  obtain⟨p1,p2,p3⟩:=p
  obtain⟨q1,q2⟩:=q
  by_cases c:p2=i∧kindOf ac p1=1
  ·rw[if_pos c]
   obtain⟨rfl,c⟩:=c
   simp only[List.mem_cons,List.not_mem_nil,or_false,Prod.mk.injEq]
   constructor
   ·intro h
    rcases h with h|h
    ·exact⟨.inl ⟨h.1,trivial,h.2⟩,by rw[h.1];exact c⟩
    ·exact⟨.inr h.1,h.2⟩
   ·rintro⟨h1|h1,h2⟩
    ·exact .inl ⟨h1.1,h1.2.2⟩
    ·exact .inr ⟨h1,h2⟩
  ·rw[if_neg c]
   simp only[List.not_mem_nil,false_or,List.mem_cons,Prod.mk.injEq]
   constructor
   ·rintro⟨h1,h2⟩
    exact⟨.inr h1,h2⟩
   ·rintro⟨⟨rfl,rfl,rfl⟩|h1,h2⟩
    ·exact absurd ⟨rfl,h2⟩ c
    ·exact⟨h1,h2⟩
theorem heldL_mem{bs:List T3}{i:Int}:∀{ps:List (Int×Int)} {q:Int×Int},q∈heldL bs i ps↔(q.1,1)∈ps∧q.2=val bs q.1 i∧0<q.2
 |[],q=>by simp[heldL]
 |p::r,q=>by
  unfold heldL
  rw[List.mem_append,heldL_mem (ps:=r)]
  obtain⟨p1,p2⟩:=p
  obtain⟨q1,q2⟩:=q
  by_cases c:p2=1∧0<val bs p1 i
  ·rw[if_pos c]
   obtain⟨rfl,c⟩:=c
   simp only[List.mem_cons,List.not_mem_nil,or_false,Prod.mk.injEq]
   constructor
   ·rintro(⟨rfl,rfl⟩|⟨h1,h2⟩)
    ·exact⟨.inl (by simp),rfl,c⟩
    ·exact⟨.inr h1,h2⟩
   ·rintro⟨⟨rfl,_⟩|h1,h2,h3⟩
    ·exact .inl ⟨rfl,h2⟩
    ·exact .inr ⟨h1,h2,h3⟩
  ·rw[if_neg c]
   simp only[List.not_mem_nil,false_or,List.mem_cons,Prod.mk.injEq]
   constructor
   ·rintro⟨h1,h2⟩
    exact⟨.inr h1,h2⟩
   ·rintro⟨⟨rfl,rfl⟩|h1,h2,h3⟩
    ·exact absurd ⟨rfl,by rw[←h2];exact h3⟩ c
    ·exact⟨h1,h2,h3⟩
theorem ext2:∀{l₁ l₂:List (Int×Int)},l₁.Pairwise (fun p q=>p.1<q.1)→l₂.Pairwise (fun p q=>p.1<q.1)→(∀p,p∈l₁↔p∈l₂)→l₁=l₂
 |[],[],_,_,_=>rfl
 |[],y::r,_,_,h=>absurd ((h y).2 List.mem_cons_self) List.not_mem_nil
 |x::r,[],_,_,h=>absurd ((h x).1 List.mem_cons_self) List.not_mem_nil
 |x::r,y::s,h1,h2,h=>by
  obtain⟨a1,b1⟩:=List.pairwise_cons.1 h1
  obtain⟨a2,b2⟩:=List.pairwise_cons.1 h2
  have exy:x=y:=by
   rcases List.mem_cons.1 ((h x).1 List.mem_cons_self) with e|e
   ·exact e
   ·rcases List.mem_cons.1 ((h y).2 List.mem_cons_self) with e'|e'
    ·exact e'.symm
    ·have p:=a2 x e
     have q:=a1 y e'
     omega
  subst exy
  rw[ext2 b1 b2 (fun p=>⟨fun hp=>?_,fun hp=>?_⟩)]
  ·rcases List.mem_cons.1 ((h p).1 (List.mem_cons_of_mem _ hp)) with rfl|e
   ·have:=a1 _ hp;omega
   ·exact e
  ·rcases List.mem_cons.1 ((h p).2 (List.mem_cons_of_mem _ hp)) with rfl|e
   ·have:=a2 _ hp;omega
   ·exact e
theorem heldL_asc{bs:List T3}{i:Int}:∀{ps:List (Int×Int)},ps.Pairwise (fun p q=>p.1<q.1)→(heldL bs i ps).Pairwise (fun p q=>p.1<q.1)
 |[],_=>List.Pairwise.nil
 |p::r,h=>by
  obtain⟨a,b⟩:=List.pairwise_cons.1 h
  unfold heldL
  have ih:=heldL_asc (bs:=bs) (i:=i) b
  split
  ·rw[List.singleton_append,List.pairwise_cons]
   exact⟨fun q hq=>a (q.1,1) (heldL_mem.1 hq).1,ih⟩
  ·exact ih
theorem heldB_asc{ac:List (Int×Int)}{i:Int}:∀{ps:List T3},ps.Pairwise Bef→(heldB ac i ps).Pairwise (fun p q=>p.1<q.1)
 |[],_=>List.Pairwise.nil
 |p::r,h=>by
  obtain⟨a,b⟩:=List.pairwise_cons.1 h
  unfold heldB pick
  have ih:=heldB_asc (ac:=ac) (i:=i) b
  split
  ·rename_i c
   rw[List.singleton_append,List.pairwise_cons]
   refine⟨fun q hq=>?_,ih⟩
   have:=a (q.1,i,q.2) (heldB_mem.1 hq).1
   unfold Bef at this
   have c1:=c.1
   simp only at this⊢
   omega
  ·exact ih
theorem held_eq{b:Bk}(h:Ok b)(i:Int):heldL b.bs i b.ac=heldB b.ac i b.bs:=by
 have ra:Chart.Right 20 4 b.ac:=h.1.1
 have rb:Bals.Right b.bs:=h.1.2.2.1
 have pa:b.ac.Pairwise (fun p q=>p.1<q.1):=by
  rw[List.pairwise_iff_getElem]
  intro x y hx hy hxy
  have:=ra.asc y x hxy hy
  simpa[Chart.el,List.getD,hx,hy] using this
 refine ext2 (heldL_asc pa) (heldB_asc rb.good.1) fun q=>?_
 rw[heldL_mem,heldB_mem]
 constructor
 ·rintro⟨h1,h2,h3⟩
  refine⟨?_,kind_of_mem (right_one ra) _ h1⟩
  rw[h2]
  exact Bals.val_mem _ _ _ (by omega)
 ·rintro⟨h1,h2⟩
  have hv:=Bals.val_of_mem _ rb.good.1 _ h1
  have hz:=rb.good.2 _ h1
  simp only at hv hz
  have km:=kind_mem b.ac q.1 (by rw[h2];decide)
  rw[h2] at km
  refine⟨km,hv.symm,?_⟩
  obtain⟨k,hk,e⟩:=Bals.mem_getD h1
  have f:=(h.2.1.1 k hk).2.2
  rw[e] at f
  simp only[h2,true_and] at f
  omega
theorem heldB_in{b:Bk}(h:Ok b)(i:Int){k:Nat}(hk:k<b.bs.length){q:Int×Int}(hq:q∈pick b.ac i (el3 b.bs k)):1≤q.2∧q.2≤1000000000000000:=by
 have rb:Bals.Right b.bs:=h.1.2.2.1
 have m:q∈heldB b.ac i b.bs:=by
  have:q∈heldB b.ac i (b.bs.take (k+1)):=by rw[heldB_next hk];exact List.mem_append.2 (.inr hq)
  have s:b.bs=b.bs.take (k+1)++b.bs.drop (k+1):=(List.take_append_drop _ _).symm
  rw[s,heldB_append]
  exact List.mem_append.2 (.inl this)
 rw[←held_eq h] at m
 have a:=heldL_mem.1 m
 have c:=held_in rb i b.ac q m
 omega
theorem sum_part:∀{ps qs:List (Int×Int)},ps<+:qs→(∀q∈qs,1≤q.2)→sumH ps≤sumH qs:=by
 rintro ps _ ⟨r,rfl⟩ h
 rw[sumH_append]
 have:∀r:List (Int×Int),(∀q∈r,1≤q.2)→0≤sumH r:=by
  intro r
  induction r with
  |nil=>intro _;simp[sumH]
  |cons p s ih=>
   intro hr
   have a:=hr p (by simp)
   have b:=ih fun q hq=>hr q (by simp[hq])
   simp only[sumH];omega
 have:=this r fun q hq=>h q (by simp[hq])
 omega
end HeldP
namespace SplitP
open Bks Pay SHeld HeldP Split Lots Tup5
open Bals (val)
def Has(ls:List T5)(a i:Int):Prop:=∃p∈ls,p.1=a∧p.2.1=i
theorem has_next{ls l1:List T5}{a i q b:Int}(h:IsSc ls a i q l1 0)(hb:Has ls b i)(ne:b≠a):Has l1 b i:=by
 obtain⟨R,ss,okS,bad,short,full,s1,s2,s3,s4,hR,hl1,hdd⟩:=h
 have e:bad=false∧short=false∧full=false:=by
  unfold SScale.scaleD at hdd
  cases bad
  ·cases short
   ·cases full
    ·exact⟨rfl,rfl,rfl⟩
    ·simp at hdd
   ·simp at hdd
  ·simp at hdd
 obtain⟨rfl,rfl,rfl⟩:=e
 have e1:l1=R:=by rw[hl1];simp[SScale.scaleA]
 obtain⟨p,hp,p1,p2⟩:=hb
 have key:∀y∈Scale.scaleL (ownL ls a i) ss,(decide (y.1=b∧y.2.1=i))=false:=fun y hy=>by
  have:=Scale.scale_key (fun p hp=>by simpa using(List.mem_filter.1 hp).2) ss y hy
  exact decide_eq_false (fun h=>ne (h.1.symm.trans this.1))
 have f:=LotMore.merge_part_l (f:=fun y=>decide (y.1=b∧y.2.1=i)) _ (restL ls a i) (Scale.scaleL (ownL ls a i) ss) (Nat.le_refl _) key
 have m:p∈(restL ls a i).filter (fun y=>decide (y.1=b∧y.2.1=i)):=by
  rw[List.mem_filter]
  refine⟨?_,decide_eq_true ⟨p1,p2⟩⟩
  unfold restL
  rw[List.mem_filter]
  refine⟨hp,?_⟩
  have:¬p.1=a:=fun h=>ne (p1.symm.trans h)
  simp[this]
 rw[←f,←hR] at m
 exact⟨p,by rw[e1];exact(List.mem_filter.1 m).1,p1,p2⟩
theorem has_ne{ls:List T5}{a i:Int}(h:Has ls a i):ls≠[]:=by
 rintro rfl
 obtain⟨p,hp,_⟩:=h
 simp at hp
theorem has_start{b:Bk}(ok:Ok b){a i:Int}(ka:kindOf b.ac a=1)(ki:kindOf b.ic i=2)(hv:0<val b.bs a i):Has b.ls a i:=by
 have q:=ok.2.2.1.2 a i ka ki
 apply Classical.byContradiction
 intro n
 have:=(qty_none a i b.ls (fun p hp h=>n ⟨p,hp,h⟩)).1
 omega
theorem who_ne{b:Bk}{i all:Int}{who what:List Int}(h:IsHeld b i who what all true){j k:Nat}(hj:j<who.length)(hk:k<j):who.getD k 0≠who.getD j 0:=by
 rcases h with⟨⟨hok,_⟩,rfl,_⟩|⟨_,_,_,_,e⟩
 ·have pa:b.ac.Pairwise (fun p q=>p.1<q.1):=by
   rw[List.pairwise_iff_getElem]
   intro x y hx hy hxy
   have:=hok.1.1.asc y x hxy hy
   simpa[Chart.el,List.getD,hx,hy] using this
  have asc:=heldL_asc (bs:=b.bs) (i:=i) pa
  rw[List.pairwise_iff_getElem] at asc
  have hj':j<(heldL b.bs i b.ac).length:=by simpa using hj
  have:=asc k j (by omega) hj' hk
  have e1:((heldL b.bs i b.ac).map Prod.fst).getD k 0=((heldL b.bs i b.ac)[k]'(by omega)).1:=by simp[List.getD,show k<(heldL b.bs i b.ac).length by omega]
  have e2:((heldL b.bs i b.ac).map Prod.fst).getD j 0=((heldL b.bs i b.ac)[j]).1:=by simp[List.getD,hj']
  rw[e1,e2]
  omega
 ·cases e
end SplitP
namespace ISort
open Ints Weigh Quota Order ICmp
open Go.Sort (putRow putCells mapBlock onCells Holds SWO PermIn SortedIn grow)
def enc{n:Nat}(x:Fin n):Value:= .int .i64 ((x.val:Nat):Int)
theorem swo(t:Int)(xs:List Int)(m:Nat):SWO (ltOf (cf t xs (n:=m))) where
 irrefl x:=by
  unfold ltOf
  rw[decide_eq_false_iff_not,cf_neg]
  intro h;exact h.asymm h
 trans x y z h1 h2:=by
  unfold ltOf at *
  rw[decide_eq_true_eq,cf_neg] at *
  unfold Ahead at *
  omega
 ntrans x y z h1 h2:=by
  unfold ltOf at *
  rw[decide_eq_false_iff_not,cf_neg] at *
  unfold Ahead at *
  omega
theorem sortWorld_other{n:Nat}[Inhabited (Fin n)](w:World)(blk q:Nat)(d:Array (Fin n))(os:Array Obj)(k:Nat)(hk:k<w.heap.size)(hne:k≠blk):(sortWorld enc w blk 0 q d os).heap[k]?=w.heap[k]?:=by
 have h1:(sortWorld enc w blk 0 q d os).heap=(w.heap.modify blk (onCells (putCells enc 0 d)))++os:=rfl
 rw[h1,Array.getElem?_append_left (by simpa using hk),Array.getElem?_modify,if_neg (Ne.symm hne)]
theorem sortWorld_same{n:Nat}[Inhabited (Fin n)](w:World)(blk q:Nat)(d:Array (Fin n))(os:Array Obj)(cur:Array Value)(e:TypeId)(fr:Nat×Nat)(h:w.heap[blk]?=some (.cells cur e fr)):(sortWorld enc w blk 0 q d os).heap[blk]?=some (.cells (putCells enc 0 d cur) e fr):=by
 have h1:(sortWorld enc w blk 0 q d os).heap=(w.heap.modify blk (onCells (putCells enc 0 d)))++os:=rfl
 have hb:blk<w.heap.size:=(Array.getElem?_eq_some_iff.1 h).1
 rw[h1,Array.getElem?_append_left (by simpa using hb),Array.getElem?_modify,if_pos rfl,h]
 rfl
theorem sortWorld_below{n:Nat}[Inhabited (Fin n)](w:World)(blk q:Nat)(d:Array (Fin n))(os:Array Obj)(hb:blk<w.heap.size):Below blk w (sortWorld enc w blk 0 q d os):=by
 refine⟨rfl,rfl,rfl,?_,fun k hk=>?_⟩
 ·have h1:(sortWorld enc w blk 0 q d os).heap=(w.heap.modify blk (onCells (putCells enc 0 d)))++os:=rfl
  rw[h1];simp
 ·exact sortWorld_other w blk q d os k (by omega) (by omega)
theorem putCells_all{n:Nat}[Inhabited (Fin n)](d:Array (Fin n))(cur:Array Value)(h:cur.size=d.size):(putCells enc 0 d cur).toList=(ints (d.toList.map Fin.val)).map (Value.int .i64):=by
 apply List.ext_getElem?
 intro i
 by_cases hi:i<d.size
 ·have e1:(putCells enc 0 d cur).toList[i]?=some (enc d[i]!):=by
   simp[putCells,hi,h]
  rw[e1,getElem!_pos d i hi]
  simp[ints,hi,enc]
 ·have e1:(putCells enc 0 d cur).toList[i]?=none:=by
   simp[putCells];omega
  rw[e1,List.getElem?_eq_none (by simp[ints];omega)]
theorem own_sorted{m:Nat}(w:World)(base blk q:Nat)(d:Array (Fin (m+1)))(os:Array Obj)(xs:List Int)(hd:d.size=m+1)(h:Own w base blk (m+1) (m+1) xs):
  Own (sortWorld enc w blk 0 q d os) base blk (m+1) (m+1) (ints (d.toList.map Fin.val)):=by
 refine⟨by simp[ints,hd],?_⟩
 rcases h.2 with⟨z,_⟩|⟨g',c,cur,z,hb,hc,h1,h2,h3,h4⟩
 ·simp at z
 ·obtain⟨rfl,rfl⟩:blk=g'∧m+1=c:=by simpa using z
  refine Or.inr ⟨blk,m+1,_,rfl,hb,sortWorld_same w blk q d os cur 3 (0,0) hc,Nat.le_refl _,h2,by simpa[putCells] using h3,?_⟩
  rw[putCells_all d cur (by rw[hd];simpa using h3),List.take_of_length_le (by simp[ints,hd])]
theorem sortWorld_cell{n:Nat}[Inhabited (Fin n)](w:World)(blk q:Nat)(d:Array (Fin n))(os:Array Obj)(p:Addr)(hb:p.block<w.heap.size)(hne:p.block≠blk):(sortWorld enc w blk 0 q d os).cell? p=w.cell? p:=
 World.cell?_of_block (sortWorld_other w blk q d os p.block hb hne)
theorem cmpLays(t:Int)(xs:List Int)(m g bx blk size:Nat)(w:World)(h40:m+1≤40)(hg:g<w.heap.size)(hbx:bx<w.heap.size)(n1:g≠blk)(n2:bx≠blk)
  (hx:w.cell? ⟨bx,0,none⟩=some (.slice (some ⟨g,0,none⟩) (m+1) (m+1)))(hr:At w g (rests t xs (m+1))):
  CmpLays1 Tryz.prog 199 #[.pointer (some ⟨bx,0,none⟩)] (enc (n:=m+1)) (cf t xs) blk 0 size w:=by
 intro q os d hd x y
 have k1:=hr x.val (by rw[rests_len];exact x.isLt)
 have k2:=hr y.val (by rw[rests_len];exact y.isLt)
 rw[rests_getD t xs (m+1) _ x.isLt] at k1
 rw[rests_getD t xs (m+1) _ y.isLt] at k2
 exact iCloses (sortWorld enc w blk 0 q d os) x.val y.val (m+1) g bx (R t xs x.val) (R t xs y.val) x.isLt y.isLt (by omega)
  ((sortWorld_cell w blk q d os _ hbx n2).trans hx) ((sortWorld_cell w blk q d os _ hg n1).trans k1) ((sortWorld_cell w blk q d os _ hg n1).trans k2)
theorem holds_all(m blk:Nat)(w:World)(base:Nat)(h:Own w base blk (m+1) (m+1) (ints (List.range (m+1)))):Holds (enc (n:=m+1)) w blk 0 (allOf (m+1)):=by
 intro j hj
 have hj':j<m+1:=by simpa[allOf] using hj
 have e:=h.at j (by rw[ints_len];simpa using hj')
 refine⟨?_,by simpa using h.free (0+j)⟩
 rw[Nat.zero_add,e,ints_getD,getElem!_pos (allOf (m+1)) j hj]
 simp[allOf,enc,List.getD,hj']
theorem sorts(t:Int)(xs:List Int)(m g bx blk base:Nat)(w:World)(h40:m+1≤40)(hg:g<w.heap.size)(hbx:bx<w.heap.size)(n1:g≠blk)(n2:bx≠blk)
  (hx:w.cell? ⟨bx,0,none⟩=some (.slice (some ⟨g,0,none⟩) (m+1) (m+1)))(hr:At w g (rests t xs (m+1)))(ho:Own w base blk (m+1) (m+1) (ints (List.range (m+1)))):
  Calls Tryz.prog 215 #[.slice (some ⟨blk,0,none⟩) (m+1) (m+1),.func (.func 199) #[] #[.pointer (some ⟨bx,0,none⟩)]] w fun e w'=>
   e= .returned (.tuple #[])∧∃L,IsOrder t xs (m+1) L∧Own w' base blk (m+1) (m+1) (ints L)∧Below blk w w':=by
 have hn:(allOf (m+1)).size=m+1:=by simp[allOf]
 have eg:∀args w,(callFunc 199 args).run Tryz.prog w= .ok (.enter 199 args) w:=enters_of Tryz.func199 (by kernel_rfl) rfl
 have hc:=cmpLays t xs m g bx blk (allOf (m+1)).size w h40 hg hbx n1 n2 hx hr
 have hcon:=Any.slices_SortFunc Tryz.sortI (enc (n:=m+1)) (fun _=>rfl) (cf t xs) (swo t xs (m+1)) 199 #[.pointer (some ⟨bx,0,none⟩)] blk 0 (m+1) (allOf (m+1)) w eg hc (holds_all m blk w base ho) ho.lt.2 (by rw[hn];omega)
 change Calls Tryz.prog 215 _ _ _ at hcon
 have e:(Value.slice (some ⟨blk,0,none⟩) (m+1) (m+1))= .slice (some ⟨blk,0,none⟩) (allOf (m+1)).size (m+1):=congrArg (fun k=>Value.slice (some ⟨blk,0,none⟩) k (m+1)) hn.symm
 rw[e]
 refine hcon.mono ?_
 rintro e w' ⟨rfl,d',q,os,hp,hs,rfl⟩
 have hd:d'.size=m+1:=hp.1.trans hn
 exact⟨rfl,_,isOrder_of_sorted t xs m d' hp hs,own_sorted w base blk q d' os _ hd ho,sortWorld_below w blk q d' os ho.lt.2⟩
theorem iSorted(t:Int)(xs:List Int)(m g bx:Nat)(w:World)(h40:m+1≤40)(hg:g<w.heap.size)(hbx:bx<w.heap.size)
  (hx:w.cell? ⟨bx,0,none⟩=some (.slice (some ⟨g,0,none⟩) (m+1) (m+1)))(hr:At w g (rests t xs (m+1))):
  Calls Tryz.prog 198 #[.int .i64 ((m+1:Nat):Int),.func (.func 199) #[] #[.pointer (some ⟨bx,0,none⟩)]] w fun e w'=>
   ∃L,IsOrder t xs (m+1) L∧e= .returned (.slice (some ⟨w.heap.size,0,none⟩) (m+1) (m+1))∧Own w' w.heap.size w.heap.size (m+1) (m+1) (ints L)∧Below w.heap.size w w':=by
 obtain⟨n,hn⟩:∃n,n=m+1:=⟨_,rfl⟩
 have n40:n≤40:=by omega
 have HX:=zh hx
 have HR:=zh hr
 have HG:=zh hg
 have HBX:=zh hbx
 have HN:=zh hn
 rw[←hn]
 clear hx hr hg hbx hn h40
 obtain⟨i0,hi,hz0,hz1,hz2⟩:=info_parts info3
 go_enter Tryz.func198,Tryz.ntmps198
 go_wp2_with (at_make;refine wpList_make_full _ rfl _ _ 43 rfl w.heap.size 3 i0 (.int .i64 0) 1 Tryz.underlying43 hi hz0 hz1 .i64 .i64 _ _ n rfl rfl rfl rfl (by rw[hz2];omega) (by unfold maxLen;omega) (Nat.le_refl _) ?_;intro w1 hown hgrow)
 rw[made_zeros,←part_zero (ints (List.range n))] at hown
 have hb:=grownBy_below hgrow
 clear hgrow
 have hlr:(ints (List.range n)).length=n:=by simp[ints]
 go_loopw [11] (fun i wr=>∃(k:Nat),k≤n∧i= .int .i64 k∧Own wr w.heap.size w.heap.size n n (Ints.part (ints (List.range n)) n k)∧Below w.heap.size w wr) (fun i _=>n-(intOf i).toNat)
 case atStart=>exact⟨0,by omega,rfl,hown,hb⟩
 case round=>
  clear hown hb
  obtain⟨k,hk,rfl,hown,hb⟩:=hrel
  by_cases lt:k<n
  ·have hs:=zh (Own.set hown k k)
   have hc2:=Own.at hown k (by rw[Own.len hown];exact lt)
   have hf:=Own.free hown k
   have HB:=zh hb
   clear hown hb
   generalize (Ints.part (ints (List.range n)) n k).getD k 0=z at hc2
   go_wp2
   go_roundw
   case rel=>
    obtain⟨o,q⟩:=zu hs
    have e:(ints (List.range n)).getD k 0=(k:Int):=by rw[ints_getD];simp[List.getD,lt]
    have o2:=part_step (ints (List.range n)) n k hlr lt
    rw[e] at o2
    rw[o2] at o
    exact⟨k+1,by omega,by go_num,o,(zu HB).setCell (Nat.le_refl _) _⟩
   case measure=>simp[intOf];omega
  ·obtain rfl:k=n:=by omega
   rw[part_all _ k hlr] at hown
   have c:=sorts t xs m g bx w.heap.size w.heap.size wr (by have:=zu HN;omega) (Nat.lt_of_lt_of_le (zu HG) hb.size) (Nat.lt_of_lt_of_le (zu HBX) hb.size) (by have:=zu HG;omega) (by have:=zu HBX;omega)
    ((hb.cell (p:=⟨bx,0,none⟩) (zu HBX)).trans (zu HX)) ((zu HR).below hb (zu HG)) (by rw[←zu HN];exact hown)
   rw[←zu HN] at c
   have HB:=zh hb
   clear hown hb
   go_wp2_with fail
   refine c.mono ?_
   rintro e w2 ⟨rfl,L,ord,o,b⟩
   go_wp2
   go_ret
   exact⟨L,ord,rfl,o,(zu HB).trans b⟩
theorem iRestOrder(t:Int)(xs:List Int)(m g:Nat)(w:World)(h40:m+1≤40)(hg:g<w.heap.size)(hr:At w g (rests t xs (m+1))):
  Calls Tryz.prog 184 #[.slice (some ⟨g,0,none⟩) (m+1) (m+1)] w fun e w'=>
   ∃L g',IsOrder t xs (m+1) L∧e= .returned (.slice (some ⟨g',0,none⟩) (m+1) (m+1))∧Own w' w.heap.size g' (m+1) (m+1) (ints L)∧Below w.heap.size w w':=by
 have hb:=Below.alloc (Below.refl w.heap.size w) (Nat.le_refl _) (.cells #[Value.slice (some ⟨g,0,none⟩) (m+1) (m+1)] 43)
 have c:=iSorted t xs m g w.heap.size (w.alloc (.cells #[Value.slice (some ⟨g,0,none⟩) (m+1) (m+1)] 43)) h40 (by simp;omega) (by simp) (by simp) (hr.below hb hg)
 have HB:=zh hb
 clear hb hr
 go_enter Tryz.func184,Tryz.ntmps184
 go_wp2_with fail
 refine c.mono ?_
 rintro e w2 ⟨L,ord,rfl,o,b⟩
 rw[World.size_alloc] at o b
 go_wp2
 go_ret
 exact⟨L,w.heap.size+1,ord,rfl,Own.mono o (by omega),(zu HB).trans (b.mono (by omega))⟩
end ISort
namespace IOrder
open Ints Small Weigh Quota Order MulC
def wholes(t:Int)(xs:List Int)(k:Nat):List Int:=(List.range k).map (Q t xs)
theorem wholes_len(t:Int)(xs:List Int)(k:Nat):(wholes t xs k).length=k:=by simp[wholes]
theorem wholes_getD(t:Int)(xs:List Int)(k j:Nat)(h:j<k):(wholes t xs k).getD j 0=Q t xs j:=by simp[wholes,List.getD,h]
theorem made_zeros1(n:Nat):(madeCells #[Value.int .i64 0] n).toList=(List.replicate n (0:Int)).map (Value.int .i64):=by
 rw[toList_madeCells_one,List.map_replicate]
theorem iQuotas(w:World)(t:Int)(g n cap:Nat)(xs:List Int)(hl:xs.length=n)(hg:g<w.heap.size)(h:At w g xs)(good:Weigh.Good xs)(ht:Tot t):
  Calls Tryz.prog 183 #[.int .i64 t,.slice (some ⟨g,0,none⟩) n cap] w fun e w'=>∃g1 g2,g1≠g2∧e= .returned (.tuple #[.slice (some ⟨g1,0,none⟩) n n,.slice (some ⟨g2,0,none⟩) n n,.bool true])∧
   Own w' w.heap.size g1 n n (wholes t xs n)∧Own w' w.heap.size g2 n n (rests t xs n)∧Below w.heap.size w w':=by
 have n40:n≤40:=by have:=good.1.2;omega
 have c1:=iSum w g n cap xs (S xs xs.length) true hl (by omega) h (zh (Or.inl ⟨good,rfl,rfl⟩))
 have s1:=good.2.2
 have MD:=zh (fun(k:Nat) (hk:k<n) (W:World)=>iMD t (xs.getD k 0) (S xs xs.length) (Q t xs k) (R t xs k) true W ht.1 ht.2 (good.2.1 k (by omega)).1 (good.2.1 k (by omega)).2 s1.1 s1.2 (zh (tells t xs k ht good (by omega))))
 have H:=zh h
 have HG:=zh hg
 obtain⟨t0,t1⟩:=ht
 have ta: -1000000000000000≤t:=by omega
 have wl:=wholes_len t xs n
 have rl:=rests_len t xs n
 obtain⟨i0,hi,hz0,hz1,hz2⟩:=info_parts info3
 generalize S xs xs.length=s at *
 clear h hg good
 have WL:=zh wl
 have RL:=zh rl
 clear wl rl
 go_enter Tryz.func183,Tryz.ntmps183
 go_wp2_with fail
 refine c1.mono ?_
 rintro e w' ⟨rfl,rfl⟩
 go_wp2_with fail
 refine(iAmt_yes t _ ⟨ta,t1⟩).mono ?_
 rintro e w' ⟨rfl,hw'⟩
 subst hw'
 go_wp2_with (at_make;refine wpList_make_full _ rfl (.tmp 30) (.tmp 30) 43 rfl w'.heap.size 3 i0 (.int .i64 0) 1 Tryz.underlying43 hi hz0 hz1 .i64 .i64 _ _ n rfl rfl rfl rfl (by rw[hz2];omega) (by unfold maxLen;omega) (Nat.le_refl _) ?_)
 intro w1 o1 gr1
 have o1:Own w1 w'.heap.size w'.heap.size n n (Ints.part (wholes t xs n) n 0):=by
  have o:=o1
  rw[made_zeros1,←part_zero (wholes t xs n)] at o
  exact o
 have b1:=grownBy_below gr1
 clear gr1
 go_wp2_with (at_make;refine wpList_make_full _ rfl (.tmp 33) (.tmp 33) 43 rfl w'.heap.size 3 i0 (.int .i64 0) 1 Tryz.underlying43 hi hz0 hz1 .i64 .i64 _ _ n rfl rfl rfl rfl (by rw[hz2];omega) (by unfold maxLen;omega) b1.size ?_)
 intro w2 o2 gr2
 have o2:Own w2 w'.heap.size w1.heap.size n n (Ints.part (rests t xs n) n 0):=by
  have o:=o2
  rw[made_zeros1,←part_zero (rests t xs n)] at o
  exact o
 have b2:=grownBy_below gr2
 have l0:=o1.lt.2
 have o1:=o1.below b2 o1.lt.2
 have l1:w'.heap.size<w1.heap.size:=by have:=o1.lt;omega
 have b2:=next b1 b2
 clear gr2 b1
 go_wp2_with fail
 go_loopw [37] (fun i wr=>∃(k:Nat),k≤n∧i= .int .i64 k∧Own wr w'.heap.size w'.heap.size n n (Ints.part (wholes t xs n) n k)∧Own wr w'.heap.size w1.heap.size n n (Ints.part (rests t xs n) n k)∧Below w'.heap.size w' wr) (fun i _=>n-(intOf i).toNat)
 case atStart=>exact⟨0,by omega,rfl,o1,o2,b2⟩
 case round=>
  clear o1 o2 b2
  obtain⟨k,hk,rfl,o1,o2,b⟩:=hrel
  by_cases lt:k<n
  ·have e1:=(zu H).below b (zu HG) k (by omega)
   have c2:=zu MD k lt wr
   generalize xs.getD k 0=x at *
   go_wp2_with fail
   refine c2.mono ?_
   rintro e w3 ⟨rfl,gr⟩
   have bb:=gr.below
   have o1:=o1.below bb o1.lt.2
   have o2:=o2.below bb o2.lt.2
   have b:=next b bb
   have a1:=o1.at k (by rw[o1.len];exact lt)
   have f1:=o1.free k
   obtain⟨p1,q1⟩:=o1.set k (Q t xs k)
   have o2:=o2.kept q1 (by simp;omega)
   have a2:=o2.at k (by rw[o2.len];exact lt)
   have f2:=o2.free k
   obtain⟨p2,q2⟩:=o2.set k (R t xs k)
   have p1:=p1.kept q2 (by simp;omega)
   rw[←wholes_getD t xs n k lt,part_step _ n k (zu WL) lt,wholes_getD t xs n k lt] at p1
   rw[←rests_getD t xs n k lt,part_step _ n k (zu RL) lt,rests_getD t xs n k lt] at p2
   have P1:=zh p1
   have P2:=zh p2
   have b:=zh ((b.setCell (p:=⟨w'.heap.size,k,none⟩) (Nat.le_refl _) (.int .i64 (Q t xs k))).setCell (p:=⟨w1.heap.size,k,none⟩) (Nat.le_of_lt l1) (.int .i64 (R t xs k)))
   clear p1 p2 q1 q2 o2 bb gr
   generalize (Ints.part (wholes t xs n) n k).getD k 0=z1 at a1
   generalize (Ints.part (rests t xs n) n k).getD k 0=z2 at a2
   go_wp2
   go_roundw
   case rel=>exact⟨k+1,by omega,by go_num,zu P1,zu P2,zu b⟩
   case measure=>simp[intOf];omega
  ·obtain rfl:k=n:=by omega
   rw[part_all _ k (zu WL)] at o1
   rw[part_all _ k (zu RL)] at o2
   have O1:=zh o1
   have O2:=zh o2
   have B:=zh b
   have L1:=zh l1
   clear o1 o2 b l1
   go_wp2
   go_ret3
   exact⟨_,_,by have:=zu L1;omega,rfl,zu O1,zu O2,zu B⟩
theorem iQuotas_bad(w:World)(t:Int)(g n cap:Nat)(xs:List Int)(hl:xs.length=n)(h20:n≤1048576)(h:At w g xs)(bad:¬(Weigh.Good xs∧Tot t)):
  Calls Tryz.prog 183 #[.int .i64 t,.slice (some ⟨g,0,none⟩) n cap] w fun e w'=>e= .returned (.tuple #[.slice none 0 0,.slice none 0 0,.bool false])∧w'=w:=by
 by_cases good:Weigh.Good xs
 ·have c1:=iSum w g n cap xs (S xs xs.length) true hl h20 h (zh (Or.inl ⟨good,rfl,rfl⟩))
  have ht:¬Tot t:=fun k=>bad ⟨good,k⟩
  generalize S xs xs.length=s at *
  rcases amt_or t with ha|ha
  ·have tn:t<0:=by unfold Tot at ht;have:=ha.2;omega
   have HA:=zh ha
   clear ha ht bad good h
   go_enter Tryz.func183,Tryz.ntmps183
   go_wp2_with fail
   refine c1.mono ?_
   rintro e w' ⟨rfl,rfl⟩
   go_wp2_with fail
   refine(iAmt_yes t _ (zu HA)).mono ?_
   rintro e w' ⟨rfl,rfl⟩
   go_wp2
   go_ret3
   exact⟨rfl,rfl⟩
  ·have HA:=zh ha
   clear ha ht bad good h
   go_enter Tryz.func183,Tryz.ntmps183
   go_wp2_with fail
   refine c1.mono ?_
   rintro e w' ⟨rfl,rfl⟩
   go_wp2_with fail
   refine(iAmt_no t _ (zu HA)).mono ?_
   rintro e w' ⟨rfl,rfl⟩
   go_wp2
   go_ret3
   exact⟨rfl,rfl⟩
 ·have c1:=iSum w g n cap xs 0 false hl h20 h (zh (Or.inr ⟨good,rfl,rfl⟩))
  clear bad good h
  go_enter Tryz.func183,Tryz.ntmps183
  go_wp2_with fail
  refine c1.mono ?_
  rintro e w' ⟨rfl,rfl⟩
  go_wp2
  go_ret3
  exact⟨rfl,rfl⟩
end IOrder
namespace IShares
open Ints Weigh Quota Order Parts
theorem iShares_good(w:World)(t:Int)(g n cap:Nat)(xs:List Int)(hl:xs.length=n)(hg:g<w.heap.size)(h:At w g xs)(good:Weigh.Good xs)(ht:Tot t):
  Calls Tryz.prog 165 #[.int .i64 t,.slice (some ⟨g,0,none⟩) n cap] w fun e w'=>∃L,∃M:Nat,∃g' c,IsOrder t xs n L∧t-SQ t xs n=(M:Int)∧M<n∧e= .returned (.tuple #[.slice (some ⟨g',0,none⟩) n c,.bool true])∧Own w' w.heap.size g' n c (bump (wholes t xs n) L M)∧Below w.heap.size w w':=by
 have n40:n≤40:=by have:=good.1.2;omega
 have n1:1≤n:=by have:=good.1.1;omega
 obtain⟨M,hM,hMn⟩:=missing_nat t xs ht good
 rw[hl] at hM hMn
 have HM:=zh hM
 have BD:=zh (fun(k:Nat) (hk:k≤n)=>(show 0≤SQ t xs k∧SQ t xs k≤t from by
  have a1:=SQ_mono t xs ht good 0 k (by omega) (by omega)
  have a2:=SQ_mono t xs ht good k n hk (by omega)
  have a3:SQ t xs 0=0:=rfl
  omega))
 have QB:=zh (fun(k:Nat) (hk:k<n)=>Q_le t xs k ht good (by omega))
 have WB:=zh (fun L m j=>bump_bd (wholes t xs n) L t ht.1 (by rw[←hl];exact wholes_bd t xs ht good) m j)
 have t1:=ht.2
 have t0:=ht.1
 have c1:=IOrder.iQuotas w t g n cap xs hl hg h good ht
 clear good ht h hg hM
 go_enter Tryz.func165,Tryz.ntmps165
 go_wp2_with fail
 refine c1.mono ?_
 rintro e w1 ⟨g1,g2,hne,rfl,o1,o2,b1⟩
 have o1:Own w1 w.heap.size g1 n n (wholes t xs n):=o1
 have O1:=zh o1
 have O2:=zh o2
 have B1:=zh b1
 clear o1 o2 b1 c1
 go_wp2_with fail
 go_loop [9,27] (fun m i=>∃(k:Nat),k≤n∧i= .int .i64 k∧m= .int .i64 (t-SQ t xs k)) (fun _ i=>n-(intOf i).toNat)
 case atStart=>exact⟨0,by omega,rfl,by simp[SQ]⟩
 case round=>
  obtain⟨k,hk,rfl,rfl⟩:=hrel
  by_cases lt:k<n
  ·obtain⟨q0,q1⟩:=zu QB k lt
   obtain⟨d0,d1⟩:=zu BD k hk
   have e1:=(zu O1).at k (by rw[wholes_len];exact lt)
   rw[wholes_getD t xs n k lt] at e1
   have E:=zh (show SQ t xs (k+1)=SQ t xs k+Q t xs k from rfl)
   generalize Q t xs k=q at *
   generalize SQ t xs k=sq at *
   go_wp2
   go_round
   case rel=>exact⟨k+1,by omega,by go_num,by rw[zu E];congr 1;omega⟩
   case measure=>simp[intOf];omega
  ·obtain rfl:k=n:=by omega
   rw[zu HM]
   obtain⟨m,rfl⟩:∃m,k=m+1:=⟨k-1,by omega⟩
   have c2:=ISort.iRestOrder t xs m g2 w1 n40 (zu O2).lt.2 (zu O2).at
   clear BD QB
   have m0:(0:Int)≤(M:Int):=by omega
   have m1:(M:Int)≤((m+1:Nat):Int):=by omega
   go_wp2_with fail
   refine c2.mono ?_
   rintro e w3 ⟨L,g3,ord,rfl,o3,b3⟩
   have ownO:=(zu O1).below b3 (zu O1).lt.2
   have hb:=next (zu B1) b3
   have l1:=(zu O1).lt
   have l3:=o3.lt
   have hlen:=ord.len
   have ORD:=zh ord
   clear c2 b3 ord O1 O2 B1
   go_wp2_with fail
   go_loopw [40] (fun i wx=>∃(j:Nat),j≤M∧i= .int .i64 j∧Own wx w.heap.size g1 (m+1) (m+1) (bump (wholes t xs (m+1)) L j)∧Own wx w1.heap.size g3 (m+1) (m+1) (ints L)∧Below w.heap.size w wx) (fun i _=>M-(intOf i).toNat)
   case atStart=>exact⟨0,by omega,rfl,ownO,o3,hb⟩
   case round=>
    clear ownO o3 hb
    obtain⟨j,hj,rfl,ownO,o3,hb⟩:=hrel
    by_cases lt:j<M
    ·have e1:=o3.at j (by rw[ints_len,hlen];omega)
     rw[ints_getD] at e1
     have ha:=(zu ORD).getD_lt j (by omega)
     have e2:=ownO.at (L.getD j 0) (by rw[ownO.len];exact ha)
     have ff:=ownO.free (L.getD j 0)
     obtain⟨v0,v1⟩:=zu WB L j (L.getD j 0)
     obtain⟨p,q⟩:=ownO.set (L.getD j 0) ((bump (wholes t xs (m+1)) L j).getD (L.getD j 0) 0+1)
     have P:Hid (Own _ w.heap.size g1 (m+1) (m+1) (bump (wholes t xs (m+1)) L (j+1))):=p
     have PL:=zh (o3.kept q (by simp;omega))
     have PB:=zh (hb.setCell (p:=⟨g1,L.getD j 0,none⟩) l1.1 (.int .i64 ((bump (wholes t xs (m+1)) L j).getD (L.getD j 0) 0+1)))
     clear p q ownO o3 hb
     generalize (bump (wholes t xs (m+1)) L j).getD (L.getD j 0) 0=v at *
     generalize L.getD j 0=a at *
     go_wp2
     go_roundw
     case rel=>exact⟨j+1,by omega,by go_num,zu P,zu PL,zu PB⟩
     case measure=>simp[intOf];omega
    ·obtain rfl:j=M:=by omega
     have O:=zh ownO
     have B:=zh hb
     clear ownO o3 hb
     go_wp2
     go_ret2
     exact⟨L,j,g1,m+1,zu ORD,zu HM,hMn,rfl,zu O,zu B⟩
theorem iShares(w:World)(t:Int)(g n cap:Nat)(xs:List Int)(hl:xs.length=n)(h20:n≤1048576)(hg:g<w.heap.size)(h:At w g xs):
  Calls Tryz.prog 165 #[.int .i64 t,.slice (some ⟨g,0,none⟩) n cap] w fun e w'=>∃ps ok g' c,STells t xs ps ok∧e= .returned (.tuple #[.slice (some ⟨g',0,none⟩) ps.length c,.bool ok])∧Own w' w.heap.size g' ps.length c ps∧Below w.heap.size w w':=by
 by_cases good:Weigh.Good xs∧Tot t
 ·refine(iShares_good w t g n cap xs hl hg h good.1 good.2).mono ?_
  rintro e w' ⟨L,M,g',c,ord,hM,hMn,rfl,o,b⟩
  have hn:=o.len
  exact⟨_,true,g',c,Or.inl ⟨good.1,good.2,rfl,L,M,by rw[hl];exact ord,by rw[hl];exact hM,by rw[hl];exact hMn,by rw[hl]⟩,by rw[hn],by rw[hn];exact o,b⟩
 ·have c1:=IOrder.iQuotas_bad w t g n cap xs hl h20 h good
  have a1:=zh (SOrder.lit0 w w.heap.size (Nat.le_refl _))
  have b1:=zh (Below.alloc (Below.refl w.heap.size w) (Nat.le_refl _) (.cells #[] 3))
  have GG:=zh good
  clear h hg good
  go_enter Tryz.func165,Tryz.ntmps165
  go_wp2_with fail
  refine c1.mono ?_
  rintro e w1 ⟨rfl,rfl⟩
  go_wp2
  go_ret2
  exact⟨[],false,_,0,Or.inr ⟨zu GG,rfl,rfl⟩,rfl,zu a1,zu b1⟩
end IShares
namespace IScale
open Tup5 Lots Takes Quieter ICut Cat5 Scale SScale
open CmpL (at0)
open SSplit (take_sum)
open Parts (STells)
theorem iScaleLots(w:World)(g o n cap:Nat)(own:List T5)(ss:List Int)(okS:Bool)(q:Int)(hl:own.length=n)(n40:n≤40)(hg:g<w.heap.size)(h:AtO w g o own)(hp:∀p∈own,Pos p)(hq:sumQ own≤1000000000000000)(hc:sumC own≤1000000000000000)(q0:0≤q)(qM:q≤1000000000000000)(hS:Hid (STells q (qtys own) ss okS)):
  Calls Tryz.prog 187 #[.slice (some ⟨g,o,none⟩) n cap,.int .i64 q] w fun e w'=>∃g' c',e= .returned (.slice (some ⟨g',0,none⟩) (scaleL own ss).length c')∧Own5 123 w' w.heap.size g' (scaleL own ss).length c' (scaleL own ss)∧Below w.heap.size w w':=by
 obtain⟨i0,hi,hz0,hz1,hz2⟩:=info_parts Ints.info3
 have H:=zh h
 have HP:=zh hp
 clear h hp
 go_enter Tryz.func187,Tryz.ntmps187
 go_wp2_with (at_make;refine wpList_make_full _ rfl _ _ 43 rfl w.heap.size 3 i0 (.int .i64 0) 1 Tryz.underlying43 hi hz0 hz1 .i64 .i64 _ _ n rfl rfl rfl rfl (by rw[hz2];omega) (by unfold maxLen;omega) (Nat.le_refl _) ?_;intro w1 hown hgrow)
 rw[Ints.made_zeros,←Ints.part_zero (qtys own)] at hown
 have hb:=Ints.grownBy_below hgrow
 have W1:=zh (show Ints.Own w1 w.heap.size w.heap.size n n (Ints.part (qtys own) n 0) from hown)
 have B1:=zh hb
 clear hgrow hown hb hi hz0 hz1 hz2
 go_wp2
 go_loopw [6,7,19] (fun _ _ j wr=>∃(k:Nat),j= .int .i64 k∧k≤n∧Hid (Ints.Own wr w.heap.size w.heap.size n n (Ints.part (qtys own) n k))∧Hid (Below w.heap.size w wr)) (fun _ _ j _=>n-(intOf j).toNat)
 case atStart=>exact⟨0,rfl,by omega,W1,B1⟩
 case round=>
  clear W1 B1
  obtain⟨k,rfl,hk,HW,HB⟩:=hrel
  have bs:=(zu HB).size
  have d1:=(zu HW).lt.2
  by_cases t:k<n
  ·obtain⟨e0,e1,e2,e3,e4⟩:=(zu H).below (zu HB) hg k (by omega)
   have PS:=zh (Ints.part_step (qtys own) n k (by rw[qtys_len];exact hl) t)
   have QG:=qtys_getD own k (by omega)
   rw[QG] at PS
   clear QG
   generalize (el5 own k).1=x0 at *
   generalize (el5 own k).2.1=x1 at *
   generalize (el5 own k).2.2.1=x2 at *
   generalize (el5 own k).2.2.2.1=x3 at *
   generalize (el5 own k).2.2.2.2=x4 at *
   have SW:=(zu HW).set k x3
   rw[zu PS] at SW
   have W2:=zh (show Ints.Own ((wr.setCell ⟨w.heap.size,k,none⟩ (.int .i64 x3)).alloc (.cells #[.int .i64 x0,.int .i64 x1,.int .i64 x2,.int .i64 x3,.int .i64 x4] 123)) w.heap.size w.heap.size n n (Ints.part (qtys own) n (k+1)) from World.ownsRow.alloc SW.1 (.cells #[.int .i64 x0,.int .i64 x1,.int .i64 x2,.int .i64 x3,.int .i64 x4] 123))
   have Bs:=(zu HB).grown SW.2 bs (fun j hj=>by cases hj;exact Nat.le_refl _)
   have B2:=zh (Bs.alloc Bs.size (.cells #[.int .i64 x0,.int .i64 x1,.int .i64 x2,.int .i64 x3,.int .i64 x4] 123))
   have cw:=(zu HW).at k (by rw[Ints.Own.len (zu HW)];exact t)
   have fw:=(zu HW).free k
   have kk:(k:Int)<(n:Int):=by omega
   have ne1:w.heap.size≠wr.heap.size:=by omega
   clear SW PS Bs HW HB
   go_wp2
   go_roundw
   case rel=>exact⟨k+1,by go_num,by omega,W2,B2⟩
   case measure=>simp[intOf];omega
  ·obtain rfl:k=n:=by omega
   rw[Ints.part_all (qtys own) k (by rw[qtys_len];exact hl)] at HW
   have SL:ss.length=k:=by
    by_cases z:k=0
    ·have:=(zu hS).len_le
     rw[qtys_len] at this
     omega
    ·rw[shares_len (zu hS) (good_qtys (zu HP) hq (by omega) (by omega)) ⟨q0,qM⟩,hl]
   go_wp2_with fail
   refine(IShares.iShares wr q w.heap.size k k (qtys own) (by rw[qtys_len];exact hl) (by omega) d1 (zu HW).at).mono ?_
   rintro e w5 ⟨ss',ok',gS,cS,st,rfl,oS,b5⟩
   obtain⟨rfl,rfl⟩:=STells.unique (zu hS) st
   have sl:=oS.lt
   have S5:=zh (oS.rebase (base':=w.heap.size) (Nat.le_trans bs oS.lt.1))
   have B5:=zh (next (zu HB) b5)
   have H5:=zh ((zu H).below (zu B5) hg)
   have L5:=zh (lit50 123 w5 w.heap.size (zu B5).size)
   have ONE:=(Below.refl w5.heap.size w5).alloc (Nat.le_refl _) (.cells #[] 123)
   have S6:=zh ((zu S5).below ONE (zu S5).lt.2)
   have B6:=zh (next (zu B5) ONE)
   have f1:=(zu S5).lt.2
   have b5s:=(zu B5).size
   clear st oS b5 ONE HW HB S5 B5 H5
   go_wp2
   generalize w5.alloc (.cells #[] 123)=w6 at *
   generalize hb5:w5.heap.size=b5 at *
   clear hb5
   go_loopw [10,11,12,13,39] (fun l cv _ _ j wr=>∃(L:List T5) (c:Int) (gL cL m:Nat),l= .slice (some ⟨gL,0,none⟩) L.length cL∧cv= .int .i64 c∧j= .int .i64 m∧m≤k∧L.length≤m∧0≤c∧c≤sumC (own.take m)∧gL≠gS∧Hid (L=keptN own ss m)∧Hid (c=lostN own ss m)∧Hid (Own5 123 wr w.heap.size gL L.length cL L)∧Hid (Ints.Own wr w.heap.size gS ss.length cS ss)∧Hid (Below w.heap.size w wr)) (fun _ _ _ _ j _=>k-(intOf j).toNat)
   case atStart=>exact⟨[],0,b5,0,0,rfl,rfl,rfl,by omega,by simp,by omega,by simp[sumC],by omega,zh rfl,zh rfl,L5,S6,B6⟩
   case round=>
    clear L5 S6 B6 f1 b5s sl
    obtain⟨L,c,gL,cL,m,rfl,rfl,rfl,hm,Lk,c0,c1,n3,HL,HC,HLo,HS,HB⟩:=hrel
    have bs:=(zu HB).size
    have d3:=(zu HS).lt.2
    have d4:=(zu HLo).lt
    have ts:=take_sum (zu HP) m
    by_cases t:m<k
    ·obtain⟨e0,e1,e2,e3,e4⟩:=(zu H).below (zu HB) hg m (by omega)
     have es:=(zu HS).at m (by omega)
     have NL:=zh (show keptN own ss (m+1)=L++(if ss.getD m 0=0 then[] else[((el5 own m).1,(el5 own m).2.1,(el5 own m).2.2.1,ss.getD m 0,(el5 own m).2.2.2.2)]) from by rw[zu HL];rfl)
     have NC:=zh (show lostN own ss (m+1)=c+(if ss.getD m 0=0 then(el5 own m).2.2.2.2 else 0) from by rw[zu HC];rfl)
     have SN:=sumC_next (ps:=own) (k:=m) (by omega)
     have ts1:=take_sum (zu HP) (m+1)
     have xp:=(zu HP) _ (getD_mem (ps:=own) (i:=m) (by omega))
     unfold Pos at xp
     obtain⟨⟨x31,x32⟩,x41,x42⟩:=xp
     generalize (el5 own m).1=x0 at *
     generalize (el5 own m).2.1=x1 at *
     generalize (el5 own m).2.2.1=x2 at *
     generalize (el5 own m).2.2.2.1=x3 at *
     generalize (el5 own m).2.2.2.2=x4 at *
     generalize ss.getD m 0=s at *
     have kk:(m:Int)<(k:Int):=by omega
     have B1:=zh ((zu HB).alloc bs (.cells #[.int .i64 x0,.int .i64 x1,.int .i64 x2,.int .i64 s,.int .i64 x4] 123))
     have L1:=zh ((zu HLo).alloc (.cells #[.int .i64 x0,.int .i64 x1,.int .i64 x2,.int .i64 s,.int .i64 x4] 123))
     have S1:=zh (World.ownsRow.alloc (zu HS) (.cells #[.int .i64 x0,.int .i64 x1,.int .i64 x2,.int .i64 s,.int .i64 x4] 123))
     by_cases sz:s=0
     ·subst sz
      have NL:=zh ((zu NL).trans (by rw[if_pos rfl,List.append_nil]))
      have NC:=zh ((zu NC).trans (by rw[if_pos rfl]))
      go_wp2
      go_roundw
      case rel=>exact⟨L,c+x4,gL,cL,m+1,rfl,rfl,by go_num,by omega,by omega,by omega,by omega,n3,zh (zu NL).symm,zh (zu NC).symm,L1,S1,B1⟩
      case measure=>simp[intOf];omega
     ·have sb:(s==0)=false:=by simpa using sz
      have NL:=zh ((zu NL).trans (by rw[if_neg sz]))
      have NC:=zh ((zu NC).trans (by rw[if_neg sz,Int.add_zero]))
      have V5:=zh (show Holds5 ((wr.alloc (.cells #[.int .i64 x0,.int .i64 x1,.int .i64 x2,.int .i64 s,.int .i64 x4] 123)).alloc (.cells #[.int .i64 x0,.int .i64 x1,.int .i64 x2,.int .i64 s,.int .i64 x4] 123)) (wr.heap.size+1) 0 (x0,x1,x2,s,x4) from by unfold Holds5;simp)
      have bs1:=(zu B1).size
      clear sz
      go_wp2_with (first|(at_builtin;refine LotApp.wp_app _ rfl _ _ rfl w.heap.size gL L.length cL L (wr.heap.size+1) x0 x1 x2 s x4 rfl rfl ((zu L1).alloc _) (zu V5) (by omega) (by simp;omega) ?_)|go_in)
      intro g9 c9 w9 o9 gr9 loc9
      have L9:=zh (show Own5 123 w9 w.heap.size g9 (L++[(x0,x1,x2,s,x4)]).length c9 (L++[(x0,x1,x2,s,x4)]) from by rw[show(L++[(x0,x1,x2,s,x4)]).length=L.length+1 by simp];exact o9)
      have S9:=zh (Ints.Own.kept (show Ints.Own ((wr.alloc (.cells #[.int .i64 x0,.int .i64 x1,.int .i64 x2,.int .i64 s,.int .i64 x4] 123)).alloc (.cells #[.int .i64 x0,.int .i64 x1,.int .i64 x2,.int .i64 s,.int .i64 x4] 123)) w.heap.size gS ss.length cS ss from World.ownsRow.alloc (zu S1) (.cells #[.int .i64 x0,.int .i64 x1,.int .i64 x2,.int .i64 s,.int .i64 x4] 123)) gr9 (by simp;omega))
      have B9:=zh (((zu B1).alloc bs1 (.cells #[.int .i64 x0,.int .i64 x1,.int .i64 x2,.int .i64 s,.int .i64 x4] 123)).grown gr9 (by simp;omega) (fun j hj=>by cases hj;exact d4.1))
      have m3:g9≠gS:=by
       try simp at loc9
       omega
      clear o9 gr9 loc9 V5 L1 S1 B1
      go_wp2
      go_roundw
      case rel=>exact⟨L++[(x0,x1,x2,s,x4)],c,g9,c9,m+1,by rw[show(L++[(x0,x1,x2,s,x4)]).length=L.length+1 by simp],rfl,by go_num,by omega,by simp;omega,by omega,by omega,m3,zh (zu NL).symm,zh (zu NC).symm,L9,S9,B9⟩
      case measure=>simp[intOf];omega
    ·obtain rfl:m=k:=by omega
     have EL:=zh (show scaleL own ss=addFirst L c from by unfold scaleL;rw[hl,←zu HL,←zu HC])
     have KC:=kept_cost (zu HP) ss m (by omega)
     rw[←zu HL] at KC
     have cM:c≤1000000000000000:=by rw[List.take_of_length_le (by omega)] at c1;omega
     clear HL HC HS
     cases L with
     |nil=>
      go_wp2
      go_ret
      rw[zu EL]
      exact⟨gL,cL,rfl,zu HLo,zu HB⟩
     |cons p r=>
      obtain⟨p0,p1,p2,p3,p4⟩:=p
      have pc:=KC (p0,p1,p2,p3,p4) List.mem_cons_self
      have pc0:0≤p4:=pc.1
      have pc1:p4≤1000000000000000:=pc.2
      have HL2:=zh (show Own5 123 wr w.heap.size gL (r.length+1) cL ((p0,p1,p2,p3,p4)::r) from zu HLo)
      obtain⟨e0,e1,e2,e3,e4⟩:=(zu HL2).at 0 (by simp)
      have e4:wr.cell? ⟨gL,4,none⟩=some (.int .i64 p4):=e4
      have r4:wr.frozen? ⟨gL,4,none⟩=false:=(zu HL2).free 4
      have S4:=(zu HL2).set4 0 (p4+c)
      have O8:=zh (show Own5 123 (wr.setCell ⟨gL,4,none⟩ (.int .i64 (p4+c))) w.heap.size gL (r.length+1) cL ((p0,p1,p2,p3,p4+c)::r) from S4.1)
      have B8:=zh (show Below w.heap.size w (wr.setCell ⟨gL,4,none⟩ (.int .i64 (p4+c))) from(zu HB).grown S4.2 bs (fun j hj=>by cases hj;exact d4.1))
      have LE:((p0,p1,p2,p3,p4)::r).length=r.length+1:=rfl
      rw[LE]
      clear S4 KC pc HLo HL2 e0 e1 e2 e3 LE Lk
      go_wp2
      go_ret
      rw[zu EL]
      exact⟨gL,cL,rfl,zu O8,zu B8⟩
end IScale
namespace IScale2
open Tup5 Lots Takes CmpL IOk5 Quieter IPlace5 ICut Cat5 Concat5 IMean Scale SScale IScale
open STake (not_of)
open ITake (cut_merge')
open Parts (STells)
theorem iScale(w:World)(g n cap:Nat)(ps R:List T5)(ss:List Int)(okS:Bool)(a i q:Int)(bad short full:Bool)(hl:ps.length=n)(h20:n≤1048576)(hc:n≤cap)(hg:g<w.heap.size)(h:At5 w g ps)(hbad:Says bad (¬ScaleOk ps q))(hshort:Says short ((ownL ps a i).length=0∧0<q))(hfull:Says full (40<(ownL ps a i).length))(hS:Hid (STells q (qtys (ownL ps a i)) ss okS))(hR:Hid (R=mergeL ((restL ps a i).length+(scaleL (ownL ps a i) ss).length) (restL ps a i) (scaleL (ownL ps a i) ss))):
  Calls Tryz.prog 166 #[.slice (some ⟨g,0,none⟩) n cap,.int .i64 a,.int .i64 i,.int .i64 q] w fun e w'=>∃v,e= .returned (.tuple #[v,.int .i64 (scaleD bad short full)])∧OwnV 123 w' w.heap.size v (scaleA ps R bad short full)∧Below w.heap.size w w':=by
 obtain⟨ok,OK⟩:=says_of (Right ps)
 obtain⟨b2,B2⟩:=says_of (Amt q)
 have H:=zh h
 clear h
 go_enter Tryz.func166,Tryz.ntmps166
 go_wp2_with fail
 refine(iOk w g n cap ps ok hl h20 hg (zu H) OK).mono ?_
 rintro e w1 ⟨rfl,b1⟩
 have H1:=zh ((zu H).below b1 hg)
 have HB:=zh b1
 have hg1:=Nat.lt_of_lt_of_le hg b1.size
 have NOLIT:=zh (OwnV.of (lit50 123 w1 w.heap.size b1.size))
 have NB:=zh ((zu HB).alloc b1.size (.cells #[] 123))
 clear b1 H
 cases ok
 ·obtain rfl:bad=true:=not_of hbad (fun r=>OK.no r.1)
  go_wp2
  go_ret2
  exact⟨_,rfl,zu NOLIT,zu NB⟩
 go_wp2_with fail
 refine(iAmt q b2 _ B2).mono ?_
 rintro e w2 ⟨rfl,rfl⟩
 cases b2
 ·obtain rfl:bad=true:=not_of hbad (fun r=>B2.no (by have:=r.2;unfold Amt;omega))
  go_wp2
  go_ret2
  exact⟨_,rfl,zu NOLIT,zu NB⟩
 have qM:q≤1000000000000000:=B2.yes.2
 by_cases q1:q<0
 ·obtain rfl:bad=true:=not_of hbad (fun r=>by have:=r.2;omega)
  go_wp2
  go_ret2
  exact⟨_,rfl,zu NOLIT,zu NB⟩
 have q0:0≤q:=by omega
 obtain rfl:bad=false:=hbad.not (fun r=>r ⟨OK.yes,q0,qM⟩)
 have n120:=OK.yes.1
 have OP:=zh (own_pos OK.yes a i)
 have KEY:=zh (show ∀p∈ownL ps a i,p.1=a∧p.2.1=i from fun p hp=>by simpa using(List.mem_filter.1 hp).2)
 have ASC:=zh (asc_right OK.yes)
 clear NOLIT NB hbad
 go_wp2_with fail
 refine(iCut w2 g n cap ps a i hl h20 hc hg1 (zu H1) ASC).mono ?_
 rintro e w3 ⟨f,u,o1,o2,o3,cut,rfl,a1,a2,a3,b3⟩
 have fu:=cut.1
 have un:u≤n:=by rw[←hl];exact cut.2.1
 have ml:(midL ps f u).length=u-f:=mid_len cut.1 cut.2.1
 have OW:=(cut_own cut).1
 have CUT:=zh cut
 rw[OW] at hshort hfull hS OP KEY
 have ER:=zh (show R=ps.take f++(scaleL (midL ps f u) ss++ps.drop u) from by
  rw[zu hR,OW]
  exact cut_merge' (zu CUT) (scale_key (zu KEY) ss) (Nat.le_refl _))
 obtain⟨m,HM⟩:∃m,u-f=m:=⟨_,rfl⟩
 rw[HM] at ml
 rw[HM]
 have mn:m≤n:=by omega
 have mun:f+m+(n-u)≤n:=by omega
 rw[ml] at hshort hfull
 clear hR HM
 have ONE:=(Below.refl w3.heap.size w3).alloc (Nat.le_refl _) (.cells #[.slice (some ⟨g,o1,none⟩) f f,.slice (some ⟨g,o2,none⟩) m m,.slice (some ⟨g,o3,none⟩) (n-u) (n-u)] 202)
 have hg3:=Nat.lt_of_lt_of_le hg1 b3.size
 have H4:=zh (((zu H1).below b3 hg1).below ONE hg3)
 have A1:=zh (a1.below ONE hg3)
 have A2:=zh (a2.below ONE hg3)
 have A3:=zh (a3.below ONE hg3)
 have HB4:=zh (next (next (zu HB) b3) ONE)
 have k0:(w3.alloc (.cells #[.slice (some ⟨g,o1,none⟩) f f,.slice (some ⟨g,o2,none⟩) m m,.slice (some ⟨g,o3,none⟩) (n-u) (n-u)] 202)).cell? ⟨w3.heap.size,0,none⟩=some (.slice (some ⟨g,o1,none⟩) f f):=by simp
 have k1:(w3.alloc (.cells #[.slice (some ⟨g,o1,none⟩) f f,.slice (some ⟨g,o2,none⟩) m m,.slice (some ⟨g,o3,none⟩) (n-u) (n-u)] 202)).cell? ⟨w3.heap.size,1,none⟩=some (.slice (some ⟨g,o2,none⟩) m m):=by simp
 have k2:(w3.alloc (.cells #[.slice (some ⟨g,o1,none⟩) f f,.slice (some ⟨g,o2,none⟩) m m,.slice (some ⟨g,o3,none⟩) (n-u) (n-u)] 202)).cell? ⟨w3.heap.size,2,none⟩=some (.slice (some ⟨g,o3,none⟩) (n-u) (n-u)):=by simp
 have hg4:g<(w3.alloc (.cells #[.slice (some ⟨g,o1,none⟩) f f,.slice (some ⟨g,o2,none⟩) m m,.slice (some ⟨g,o3,none⟩) (n-u) (n-u)] 202)).heap.size:=by simp;omega
 have kl4:w3.heap.size<(w3.alloc (.cells #[.slice (some ⟨g,o1,none⟩) f f,.slice (some ⟨g,o2,none⟩) m m,.slice (some ⟨g,o3,none⟩) (n-u) (n-u)] 202)).heap.size:=by simp
 clear a1 a2 a3 b3 ONE hg3 H1 HB ASC hg1 cut
 obtain⟨own,HO⟩:∃own,Hid (midL ps f u=own):=⟨_,rfl⟩
 rw[zu HO] at hS OP KEY A2 ml ER
 clear HO OW CUT
 by_cases sh:m=0∧0<q
 ·obtain rfl:short=true:=hshort.of sh
  obtain⟨rfl,qp⟩:=sh
  have qn:(q==0)=false:=by simp;omega
  have qn2:(q !=0)=true:=by simp;omega
  have EA:scaleA ps R false true full=ps:=by simp[scaleA]
  have ED:scaleD false true full=2:=by simp[scaleD]
  have L1:=zh (show Own5 123 ((w3.alloc (.cells #[.slice (some ⟨g,o1,none⟩) f f,.slice (some ⟨g,o2,none⟩) 0 0,.slice (some ⟨g,o3,none⟩) (n-u) (n-u)] 202)).alloc (.cells #[] 123)) w.heap.size (w3.heap.size+1) 0 0 [] from by have:=lit50 123 (w3.alloc (.cells #[.slice (some ⟨g,o1,none⟩) f f,.slice (some ⟨g,o2,none⟩) 0 0,.slice (some ⟨g,o3,none⟩) (n-u) (n-u)] 202)) w.heap.size (zu HB4).size;simpa using this)
  have B6:=zh ((zu HB4).alloc (zu HB4).size (.cells #[] 123))
  have A6:=zh ((zu H4).below ((Below.refl (w3.alloc (.cells #[.slice (some ⟨g,o1,none⟩) f f,.slice (some ⟨g,o2,none⟩) 0 0,.slice (some ⟨g,o3,none⟩) (n-u) (n-u)] 202)).heap.size (w3.alloc (.cells #[.slice (some ⟨g,o1,none⟩) f f,.slice (some ⟨g,o2,none⟩) 0 0,.slice (some ⟨g,o3,none⟩) (n-u) (n-u)] 202))).alloc (Nat.le_refl _) (.cells #[] 123)) hg4)
  have bs:=(zu B6).size
  go_wp2_with (first|(at_builtin;refine wp_copyO _ rfl _ _ rfl w.heap.size (w3.heap.size+1) 0 n ps g 0 cap rfl rfl (zu L1) hl (at_o (zu A6)) (by omega) bs ?_)|go_in)
  intro g7 c7 w7 o7 gr7 loc7
  have O7:=zh (OwnV.of o7)
  have B7:=zh ((zu B6).grown gr7 bs (fun j hj=>by cases hj;exact(zu L1).lt.1))
  clear o7 gr7 loc7
  go_wp2
  go_ret2
  rw[EA,ED]
  exact⟨_,rfl,zu O7,zu B7⟩
 obtain rfl:short=false:=hshort.not sh
 by_cases fl:40<m
 ·obtain rfl:full=true:=hfull.of fl
  have fl2:(40:Int)<(m:Int):=by omega
  have m0:((m:Int)==0)=false:=by simp;omega
  have EA:scaleA ps R false false true=ps:=by simp[scaleA]
  have ED:scaleD false false true=3:=by simp[scaleD]
  have L1:=zh (show Own5 123 ((w3.alloc (.cells #[.slice (some ⟨g,o1,none⟩) f f,.slice (some ⟨g,o2,none⟩) m m,.slice (some ⟨g,o3,none⟩) (n-u) (n-u)] 202)).alloc (.cells #[] 123)) w.heap.size (w3.heap.size+1) 0 0 [] from by have:=lit50 123 (w3.alloc (.cells #[.slice (some ⟨g,o1,none⟩) f f,.slice (some ⟨g,o2,none⟩) m m,.slice (some ⟨g,o3,none⟩) (n-u) (n-u)] 202)) w.heap.size (zu HB4).size;simpa using this)
  have B6:=zh ((zu HB4).alloc (zu HB4).size (.cells #[] 123))
  have A6:=zh ((zu H4).below ((Below.refl (w3.alloc (.cells #[.slice (some ⟨g,o1,none⟩) f f,.slice (some ⟨g,o2,none⟩) m m,.slice (some ⟨g,o3,none⟩) (n-u) (n-u)] 202)).heap.size (w3.alloc (.cells #[.slice (some ⟨g,o1,none⟩) f f,.slice (some ⟨g,o2,none⟩) m m,.slice (some ⟨g,o3,none⟩) (n-u) (n-u)] 202))).alloc (Nat.le_refl _) (.cells #[] 123)) hg4)
  have bs:=(zu B6).size
  go_wp2_with (first|(at_builtin;refine wp_copyO _ rfl _ _ rfl w.heap.size (w3.heap.size+1) 0 n ps g 0 cap rfl rfl (zu L1) hl (at_o (zu A6)) (by omega) bs ?_)|go_in)
  intro g7 c7 w7 o7 gr7 loc7
  have O7:=zh (OwnV.of o7)
  have B7:=zh ((zu B6).grown gr7 bs (fun j hj=>by cases hj;exact(zu L1).lt.1))
  clear o7 gr7 loc7
  go_wp2
  go_ret2
  rw[EA,ED]
  exact⟨_,rfl,zu O7,zu B7⟩
 obtain rfl:full=false:=hfull.not fl
 have EA:scaleA ps R false false false=R:=by simp[scaleA]
 have ED:scaleD false false false=0:=by simp[scaleD]
 have SL:=Scale.scale_len own ss
 have PATH:(m=0∧q=0)∨((m:Int)==0)=false:=by
  by_cases m0:m=0
  ·exact .inl ⟨m0,by omega⟩
  ·exact .inr (by simp;omega)
 rcases PATH with⟨m00,q00⟩|m0
 ·subst m00
  subst q00
  have fl2:¬(40:Int)<(0:Int):=by omega
  go_wp2_with fail
  generalize w3.alloc (.cells #[.slice (some ⟨g,o1,none⟩) f f,.slice (some ⟨g,o2,none⟩) 0 0,.slice (some ⟨g,o3,none⟩) (n-u) (n-u)] 202)=w4 at *
  generalize w3.heap.size=cb at *
  go_region_held3 (fun w'=>w'.cell? ⟨cb,0,none⟩=some (.slice (some ⟨g,o1,none⟩) f f)∧w'.cell? ⟨cb,1,none⟩=some (.slice (some ⟨g,o2,none⟩) 0 0)∧w'.cell? ⟨cb,2,none⟩=some (.slice (some ⟨g,o3,none⟩) (n-u) (n-u))) (go_keep)
   (first|(go_at_call 187;refine(iScaleLots w4.drew g o2 0 0 own ss okS 0 ml (by omega) hg4 (show AtO w4.drew g o2 own from zu A2) (zu OP).1 (zu OP).2.1 (zu OP).2.2 q0 qM hS).mono ?_;rintro e w6 ⟨gl,cl,rfl,ol,b6⟩;have L6:=zh (at_o ol.at);have gl6:=ol.lt.2;have A1:=zh (AtO.below (show AtO w4.drew g o1 (ps.take f) from zu A1) b6 hg4);have A3:=zh (AtO.below (show AtO w4.drew g o3 (ps.drop u) from zu A3) b6 hg4);have HB6:=zh (next (zu HB4).drew b6);have k0:=(b6.cell (p:=⟨cb,0,none⟩) kl4).trans k0;have k1:=(b6.cell (p:=⟨cb,1,none⟩) kl4).trans k1;have k2:=(b6.cell (p:=⟨cb,2,none⟩) kl4).trans k2;have hg6:g<w6.heap.size:=Nat.lt_of_lt_of_le hg4 b6.size;have kl6:cb<w6.heap.size:=Nat.lt_of_lt_of_le kl4 b6.size;clear ol b6)|(go_at_call 186;refine(iWith _ g o1 f f gl 0 (scaleL own ss).length cl g o3 (n-u) (n-u) (.slice (some ⟨g,o2,none⟩) 0 0) (ps.take f) (scaleL own ss) (ps.drop u) (by rw[List.length_take];omega) rfl (by rw[List.length_drop,hl]) (by omega) hg6 gl6 hg6 (zu A1) (zu L6) (zu A3)).mono ?_;rw[←zu ER];rintro e w7 ⟨v,rfl,ov,b7⟩;have OV:=zh (OwnV.rebase ov (base':=w.heap.size) (zu HB6).size);have B7:=zh (next (zu HB6) b7);have k0:=(b7.cell (p:=⟨cb,0,none⟩) kl6).trans k0;have k1:=(b7.cell (p:=⟨cb,1,none⟩) kl6).trans k1;have k2:=(b7.cell (p:=⟨cb,2,none⟩) kl6).trans k2;clear ov b7))
  go_wp2
  go_ret2
  rw[EA,ED]
  exact⟨v,rfl,zu OV,zu B7⟩
 ·have fl2:¬(40:Int)<(m:Int):=by omega
  go_wp2_with fail
  generalize w3.alloc (.cells #[.slice (some ⟨g,o1,none⟩) f f,.slice (some ⟨g,o2,none⟩) m m,.slice (some ⟨g,o3,none⟩) (n-u) (n-u)] 202)=w4 at *
  generalize w3.heap.size=cb at *
  go_region_held3 (fun w'=>w'.cell? ⟨cb,0,none⟩=some (.slice (some ⟨g,o1,none⟩) f f)∧w'.cell? ⟨cb,1,none⟩=some (.slice (some ⟨g,o2,none⟩) m m)∧w'.cell? ⟨cb,2,none⟩=some (.slice (some ⟨g,o3,none⟩) (n-u) (n-u))) (go_keep)
   (first|(go_at_call 187;refine(iScaleLots w4.drew g o2 m m own ss okS q ml (by omega) hg4 (show AtO w4.drew g o2 own from zu A2) (zu OP).1 (zu OP).2.1 (zu OP).2.2 q0 qM hS).mono ?_;rintro e w6 ⟨gl,cl,rfl,ol,b6⟩;have L6:=zh (at_o ol.at);have gl6:=ol.lt.2;have A1:=zh (AtO.below (show AtO w4.drew g o1 (ps.take f) from zu A1) b6 hg4);have A3:=zh (AtO.below (show AtO w4.drew g o3 (ps.drop u) from zu A3) b6 hg4);have HB6:=zh (next (zu HB4).drew b6);have k0:=(b6.cell (p:=⟨cb,0,none⟩) kl4).trans k0;have k1:=(b6.cell (p:=⟨cb,1,none⟩) kl4).trans k1;have k2:=(b6.cell (p:=⟨cb,2,none⟩) kl4).trans k2;have hg6:g<w6.heap.size:=Nat.lt_of_lt_of_le hg4 b6.size;have kl6:cb<w6.heap.size:=Nat.lt_of_lt_of_le kl4 b6.size;clear ol b6)|(go_at_call 186;refine(iWith _ g o1 f f gl 0 (scaleL own ss).length cl g o3 (n-u) (n-u) (.slice (some ⟨g,o2,none⟩) m m) (ps.take f) (scaleL own ss) (ps.drop u) (by rw[List.length_take];omega) rfl (by rw[List.length_drop,hl]) (by omega) hg6 gl6 hg6 (zu A1) (zu L6) (zu A3)).mono ?_;rw[←zu ER];rintro e w7 ⟨v,rfl,ov,b7⟩;have OV:=zh (OwnV.rebase ov (base':=w.heap.size) (zu HB6).size);have B7:=zh (next (zu HB6) b7);have k0:=(b7.cell (p:=⟨cb,0,none⟩) kl6).trans k0;have k1:=(b7.cell (p:=⟨cb,1,none⟩) kl6).trans k1;have k2:=(b7.cell (p:=⟨cb,2,none⟩) kl6).trans k2;clear ov b7))
  go_wp2
  go_ret2
  rw[EA,ED]
  exact⟨v,rfl,zu OV,zu B7⟩
end IScale2
namespace TBox
open BMem Bks ILists BHelp Ans Trd
open Tup8 (T8 el8 Own8)
open SIssue (row_ne)
def Box8(w:World)(base g:Nat)(p:T8):Prop:=w.ownsRow base 110 8 (.slice (some ⟨g,0,none⟩) 1 1) 1 [.int .i64 p.1,.int .i64 p.2.1,.int .i64 p.2.2.1,.int .i64 p.2.2.2.1,.int .i64 p.2.2.2.2.1,.int .i64 p.2.2.2.2.2.1,.int .i64 p.2.2.2.2.2.2.1,.int .i64 p.2.2.2.2.2.2.2]
theorem Box8.made{w:World}{base g:Nat}(p:T8)(hb:base≤w.heap.size)(hg:g=w.heap.size):Box8 (w.alloc (.cells #[.int .i64 p.1,.int .i64 p.2.1,.int .i64 p.2.2.1,.int .i64 p.2.2.2.1,.int .i64 p.2.2.2.2.1,.int .i64 p.2.2.2.2.2.1,.int .i64 p.2.2.2.2.2.2.1,.int .i64 p.2.2.2.2.2.2.2] 110)) base g p:=by
 subst hg
 exact World.ownsRow_lit w #[.int .i64 p.1,.int .i64 p.2.1,.int .i64 p.2.2.1,.int .i64 p.2.2.2.1,.int .i64 p.2.2.2.2.1,.int .i64 p.2.2.2.2.2.1,.int .i64 p.2.2.2.2.2.2.1,.int .i64 p.2.2.2.2.2.2.2] 1 hb (by decide) rfl
section
variable {w w':World} {base g:Nat} {p:T8}
theorem Box8.lt(h:Box8 w base g p):base≤g∧g<w.heap.size:=World.ownsRow.lt h g rfl
theorem Box8.free(h:Box8 w base g p)(i:Nat):w.frozen? ⟨g,i,none⟩=false:=World.ownsRow.frozenAt h i
theorem Box8.c0(h:Box8 w base g p):w.cell? ⟨g,0,none⟩=some (.int .i64 p.1):=(World.ownsRow.cellAt h 0 (by omega)).trans rfl
theorem Box8.c1(h:Box8 w base g p):w.cell? ⟨g,1,none⟩=some (.int .i64 p.2.1):=(World.ownsRow.cellAt h 1 (by omega)).trans rfl
theorem Box8.c2(h:Box8 w base g p):w.cell? ⟨g,2,none⟩=some (.int .i64 p.2.2.1):=(World.ownsRow.cellAt h 2 (by omega)).trans rfl
theorem Box8.c3(h:Box8 w base g p):w.cell? ⟨g,3,none⟩=some (.int .i64 p.2.2.2.1):=(World.ownsRow.cellAt h 3 (by omega)).trans rfl
theorem Box8.c4(h:Box8 w base g p):w.cell? ⟨g,4,none⟩=some (.int .i64 p.2.2.2.2.1):=(World.ownsRow.cellAt h 4 (by omega)).trans rfl
theorem Box8.c5(h:Box8 w base g p):w.cell? ⟨g,5,none⟩=some (.int .i64 p.2.2.2.2.2.1):=(World.ownsRow.cellAt h 5 (by omega)).trans rfl
theorem Box8.below{B:Nat}(h:Box8 w base g p)(k:Below B w w')(hg:g<B):Box8 w' base g p:=by
 refine⟨h.1,?_⟩
 rcases h.2 with⟨h1,_⟩|⟨g',c,cur,h1,h2,h3,h4⟩
 ·simp at h1
 ·obtain⟨e,_⟩:g=g'∧1=c:=by simpa using h1
  subst e
  exact Or.inr ⟨g,c,cur,h1,h2,by rw[k.block g hg];exact h3,h4⟩
theorem Box8.kept{row:Option Nat}(h:Box8 w base g p)(k:w.grownBy w' row)(hne:some g≠row):Box8 w' base g p:=World.ownsRow.kept h k (Or.inr hne)
theorem Box8.alloc(h:Box8 w base g p)(o:Obj):Box8 (w.alloc o) base g p:=World.ownsRow.alloc h o
end
end TBox
namespace SLegs
open BMem Bks ILists Trd
open Bals (T3)
open Tup8 (T8 el8)
open Triples (Own3 At3 flat3 flat3_len flat3_one flat3_append own3_of_row)
theorem step_cat3(u:World){ops:Array Oper}{o:Oper}{a:Act}{K:Act→World→Prop}{Q:Exit→Act→World→Prop}{E:Prop}(hgd:o.guard=none)(s x:Operand)
  (ho:o.op= .call {callee:= .builtin .append,args:= #[s,x],argTypes:= #[66,66]})(base g n cap m:Nat)(ps qs:List T3)(vb c:Nat)
  (hs:a.eval s= .slice (some ⟨g,0,none⟩) n cap)(hx:a.eval x= .slice (some ⟨vb,0,none⟩) m c)(hown:Own3 80 u base g n cap ps)(hl:qs.length=m)(hv:At3 u vb qs)(hn:n+m≤1048576)(hb:base≤u.heap.size)
  (h:∀g' c' w',Own3 80 w' base g' (n+m) c' (ps++qs)→u.grownBy w' (some g)→(g'=g∨g'=u.heap.size)→K (a.put o.dst (.slice (some ⟨g',0,none⟩) (n+m) c')) w'):if Region.wanted o (yielded ops a.tmps)=true then Oper.wp Tryz.prog o a u K Q else E:=by
 obtain⟨i0,hi,hz0,hz1,hz2⟩:=info_parts LegApp.info2
 have hw:Region.wanted o (yielded ops a.tmps)=true:=by simp[Region.wanted,hgd]
 rw[if_pos hw]
 obtain⟨v',w',hr,own',gr',nil',loc'⟩:=run_append_own_at (P:=Tryz.prog) u base 66 o.type 80 i0 (.agg #[.int .i64 0,.int .i64 0,.int .i64 0]) 3 24 Tryz.underlying66 hi hz0 hz1 hz2 rfl (by decide) (.slice (some ⟨g,0,none⟩) n cap) n (flat3 ps) hown ⟨vb,0,none⟩ m c (flat3 qs) (by rw[flat3_len,hl]) hv.cells (fun u hu=>flat3_one u _ hu) (by unfold maxLen;omega) (by omega) hb
 unfold Oper.wp execOp
 simp only[ho,resolve,invoke,builtin,Sem.run_bind,Sem.run_pure,Result.andThen_ok,List.map_toArray,List.map_cons,List.map_nil,hs,hx,hr]
 obtain⟨g',c',rfl,o'⟩:=own3_of_row (n':=n+m) (ps:=ps++qs) own' rfl (by rw[flat3_append]) (by rw[nil'];simp)
 exact h g' c' w' o' gr' (by simpa[Value.ownBlock] using loc')
def Six8(w:World)(g:Nat)(b s p q c r:Int):Prop:=w.cell? ⟨g,1,none⟩=some (.int .i64 b)∧w.cell? ⟨g,2,none⟩=some (.int .i64 s)∧w.cell? ⟨g,3,none⟩=some (.int .i64 p)∧w.cell? ⟨g,4,none⟩=some (.int .i64 q)∧w.cell? ⟨g,5,none⟩=some (.int .i64 c)∧w.cell? ⟨g,6,none⟩=some (.int .i64 r)
theorem Six8.below{w w':World}{g B:Nat}{b s p q c r:Int}(h:Six8 w g b s p q c r)(k:Below B w w')(hg:g<B):Six8 w' g b s p q c r:=
 ⟨(k.cell (p:=⟨g,1,none⟩) hg).trans h.1,(k.cell (p:=⟨g,2,none⟩) hg).trans h.2.1,(k.cell (p:=⟨g,3,none⟩) hg).trans h.2.2.1,(k.cell (p:=⟨g,4,none⟩) hg).trans h.2.2.2.1,(k.cell (p:=⟨g,5,none⟩) hg).trans h.2.2.2.2.1,(k.cell (p:=⟨g,6,none⟩) hg).trans h.2.2.2.2.2⟩
end SLegs
namespace SMove
open BMem Bks ILists BHelp Ans SBk
open IBalsFit (one_more)
open Lots (Says says_of NoOk)
open Quieter (Near near_is quiet_near)
open Bals (T3)
open Tup5 (T5)
open SIssue (posted_small to_wb off_box ne_true ne_false eq_true eq_false)
def AnsM(told:Prop)(P:Bk→Int→Int→Prop)(w:World)(e:Ending)(w':World):Prop:=
 (¬told∧e= .returned (.tuple #[.agg #[.slice none 0 0,.slice none 0 0,.slice none 0 0,.slice none 0 0,.slice none 0 0,.int .i64 0],.int .i64 0,.int .i64 1])∧Below w.heap.size w w')∨
 (told∧∃(z:Bx) (t c:Int),P z.b t c∧e= .returned (.tuple #[.agg #[.slice (some ⟨z.ga,0,none⟩) z.b.ac.length z.ca,.slice (some ⟨z.gi,0,none⟩) z.b.ic.length z.ci,.slice (some ⟨z.gb,0,none⟩) z.b.bs.length z.cb,.slice (some ⟨z.gl,0,none⟩) z.b.ls.length z.cl,.slice (some ⟨z.gt,0,none⟩) z.b.ts.length z.ct,.int .i64 z.b.lot],.int .i64 t,.int .i64 c])∧Ow w' w.heap.size z∧Below w.heap.size w w')
end SMove
namespace SFx
open BMem Bks ILists BHelp Ans SBk Corp Trd
open IBalsFit (one_more)
open Lots (Says says_of NoOk)
open Bals (T3)
open Triples (Own3 At3 flat3 flat3_len flat3_one flat3_append own3_of_row)
open SIssue (to_wb off_box eq_true eq_false ne_true ne_false)
open SMove (AnsM)
open MulC (Tells)
theorem wp_cat3(u:World){ops:Array Oper}{rest:List Oper}{o:Oper}{a:Act}{Q:Exit→Act→World→Prop}(hgd:o.guard=none)(s x:Operand)
  (ho:o.op= .call {callee:= .builtin .append,args:= #[s,x],argTypes:= #[66,66]})(base g n cap m:Nat)(ps qs:List T3)(vb c:Nat)
  (hs:a.eval s= .slice (some ⟨g,0,none⟩) n cap)(hx:a.eval x= .slice (some ⟨vb,0,none⟩) m c)(hown:Own3 80 u base g n cap ps)(hl:qs.length=m)(hv:At3 u vb qs)(hn:n+m≤1048576)(hb:base≤u.heap.size)
  (h:∀g' c' w',Own3 80 w' base g' (n+m) c' (ps++qs)→u.grownBy w' (some g)→wpList Tryz.prog ops Q rest (a.put o.dst (.slice (some ⟨g',0,none⟩) (n+m) c')) w'):wpList Tryz.prog ops Q (o::rest) a u:=by
 obtain⟨i0,hi,hz0,hz1,hz2⟩:=info_parts LegApp.info2
 refine wpList_append_own_at u hgd s x 66 ho base 80 i0 (.agg #[.int .i64 0,.int .i64 0,.int .i64 0]) 3 24 Tryz.underlying66 hi hz0 hz1 hz2 rfl (by decide) _ n _ hs hown ⟨vb,0,none⟩ m c (flat3 qs) hx (by rw[flat3_len,hl]) hv.cells (fun u hu=>flat3_one u _ hu) (by unfold maxLen;omega) (by omega) hb ?_
 intro v' w' own' gr' nil' loc'
 obtain⟨g',c',rfl,o'⟩:=own3_of_row (n':=n+m) (ps:=ps++qs) own' rfl (by rw[flat3_append]) (by rw[nil'];simp)
 exact h g' c' w' o' gr'
end SFx
namespace SSplitB
open BMem Bks ILists BHelp Ans SBk Corp Trd Pay Split
open IBalsFit (one_more)
open Lots (Says says_of NoOk)
open Bals (T3)
open Tup5 (T5 Own5)
open Triples (Own3 At3 Holds3)
open SIssue (to_wb off_box eq_true eq_false ne_true ne_false)
open SMove (AnsM)
open SHeld (IsHeld)
open Parts (STells bump wholes)
def ToldS(b:Bk)(pp sn sd py:Int):Prop:=Ok b∧NoOk pp∧(1≤sn∧sn≤1000000)∧(1≤sd∧sd≤1000000)∧NoOk py
theorem own_none(w:World):Own3 80 (w.alloc (.cells #[] 80)) w.heap.size w.heap.size 0 0 []:=
 World.ownsRow_lit w #[] 0 (Nat.le_refl _) (by decide) rfl
def Inv(i:Int)(zs:List (Int×Int))(l0:List T5)(k1:Int)(l:List T5)(cc:Int)(k:Nat):Prop:=
 (k1≠0∧cc=k1)∨(k1=0∧(cc=0∨cc=7)∧ScAll i (zs.take k) l0 l cc)
theorem Inv.start(i:Int)(zs:List (Int×Int))(l0:List T5)(k1:Int):Inv i zs l0 k1 l0 k1 0:=by
 by_cases h:k1=0
 ·exact .inr ⟨h,.inl h,by rw[List.take_zero];exact⟨rfl,h⟩⟩
 ·exact .inl ⟨h,rfl⟩
theorem Inv.zero{i:Int}{zs:List (Int×Int)}{l0 l:List T5}{k1:Int}{k:Nat}(h:Inv i zs l0 k1 l 0 k):k1=0∧ScAll i (zs.take k) l0 l 0:=by
 rcases h with⟨h,e⟩|⟨h,_,s⟩
 ·exact absurd e.symm h
 ·exact⟨h,s⟩
theorem Inv.next{i:Int}{zs:List (Int×Int)}{l0 l l1:List T5}{k1 d:Int}{k:Nat}{p:Int×Int}(hz:k1=0)(h:ScAll i (zs.take k) l0 l 0)(s:IsSc l p.1 i p.2 l1 d)(e:zs.take (k+1)=zs.take k++[p]):Inv i zs l0 k1 l1 (if d=0 then 0 else 7) (k+1):=by
 refine .inr ⟨hz,by split<;>simp,?_⟩
 rw[e]
 exact h.more s
theorem Inv.other{i:Int}{zs:List (Int×Int)}{l0 l:List T5}{k1 cc:Int}{k:Nat}(h:Inv i zs l0 k1 l cc k)(ne:cc≠0):(k1≠0∧cc=k1)∨(k1=0∧ScAll i zs l0 l cc):=by
 rcases h with h|⟨hz,rfl|rfl,s⟩
 ·exact .inl h
 ·exact absurd rfl ne
 ·exact .inr ⟨hz,by have:=s.stop (s:=zs.drop k);rwa [List.take_append_drop] at this⟩
theorem zip_next{xs ys:List Int}{k:Nat}(h:k<xs.length)(h':k<ys.length):(xs.zip ys).take (k+1)=(xs.zip ys).take k++[(xs.getD k 0,ys.getD k 0)]:=by
 rw[List.take_succ_eq_append_getElem (by simp;omega)]
 simp[List.getD,h,h']
theorem scaled_len{ps R:List T5}{a i q:Int}{ss:List Int}{bad short full:Bool}(hbad:Says bad (¬SScale.ScaleOk ps q))(hR:R=Lots.mergeL ((Lots.restL ps a i).length+(Scale.scaleL (Lots.ownL ps a i) ss).length) (Lots.restL ps a i) (Scale.scaleL (Lots.ownL ps a i) ss)):(SScale.scaleA ps R bad short full).length≤241:=by
 unfold SScale.scaleA
 split
 ·simp
 ·rename_i nb
  have ok:SScale.ScaleOk ps q:=Classical.byContradiction fun h=>nb (hbad.2 h)
  have n120:=ok.1.1
  split
  ·omega
  ·split
   ·omega
   ·have h0:=Scale.scale_len (Lots.ownL ps a i) ss
    have h1:(Lots.ownL ps a i).length≤ps.length:=List.length_filter_le _ _
    have h2:(Lots.restL ps a i).length≤ps.length:=List.length_filter_le _ _
    rw[hR,Takes.merge_len _ _ _ (Nat.le_refl _)]
    omega
theorem posted_ls{b b1:Bk}{ls:List T3}{c:Int}(h:IsPosted b ls b1 c):b1.ls=b.ls:=by
 obtain⟨qs,pc,_,⟨_,rfl,_⟩|⟨_,rfl,_⟩|⟨_,rfl,_⟩|⟨_,rfl,_⟩⟩:=h<;>rfl
abbrev oA0:Oper:={dst:=some 125,op:=Go.Op.move (Go.Operand.tmp 24),type:=66,pos:= "l09_corp.go:71",after:= #[],guard:=none}
abbrev oA1:Oper:={dst:=some 126,op:=Go.Op.move (Go.Operand.tmp 15),type:=43,pos:= "l09_corp.go:71",after:= #[],guard:=none}
abbrev oA2:Oper:={dst:=some 127,op:=Go.Op.move (Go.Operand.tmp 25),type:=3,pos:= "l09_corp.go:71",after:= #[],guard:=none}
abbrev oA3:Oper:={dst:=some 128,op:=Go.Op.indexAddr 43 (Go.Operand.tmp 126) (Go.Operand.tmp 127),type:=0,pos:= "l09_corp.go:71",after:= #[{on:=1,ground:=Go.Ground.data},{on:=2,ground:=Go.Ground.data}],guard:=none}
abbrev oA4:Oper:={dst:=some 129,op:=Go.Op.load 3 (Go.Operand.tmp 128),type:=3,pos:= "l09_corp.go:71",after:= #[{on:=3,ground:=Go.Ground.data}],guard:=none}
abbrev oA5:Oper:={dst:=some 130,op:=Go.Op.move (Go.Operand.tmp 1),type:=3,pos:= "l09_corp.go:71",after:= #[],guard:=none}
abbrev oA6:Oper:={dst:=some 131,op:=Go.Op.move (Go.Operand.tmp 22),type:=43,pos:= "l09_corp.go:71",after:= #[],guard:=none}
abbrev oA7:Oper:={dst:=some 132,op:=Go.Op.move (Go.Operand.tmp 25),type:=3,pos:= "l09_corp.go:71",after:= #[],guard:=none}
abbrev oA8:Oper:={dst:=some 133,op:=Go.Op.indexAddr 43 (Go.Operand.tmp 131) (Go.Operand.tmp 132),type:=0,pos:= "l09_corp.go:71",after:= #[{on:=6,ground:=Go.Ground.data},{on:=7,ground:=Go.Ground.data}],guard:=none}
abbrev oA9:Oper:={dst:=some 134,op:=Go.Op.load 3 (Go.Operand.tmp 133),type:=3,pos:= "l09_corp.go:71",after:= #[{on:=8,ground:=Go.Ground.data}],guard:=none}
abbrev oA10:Oper:={dst:=some 135,op:=Go.Op.move (Go.Operand.tmp 16),type:=43,pos:= "l09_corp.go:71",after:= #[],guard:=none}
abbrev oA11:Oper:={dst:=some 136,op:=Go.Op.move (Go.Operand.tmp 25),type:=3,pos:= "l09_corp.go:71",after:= #[],guard:=none}
abbrev oA12:Oper:={dst:=some 137,op:=Go.Op.indexAddr 43 (Go.Operand.tmp 135) (Go.Operand.tmp 136),type:=0,pos:= "l09_corp.go:71",after:= #[{on:=10,ground:=Go.Ground.data},{on:=11,ground:=Go.Ground.data}],guard:=none}
abbrev oA13:Oper:={dst:=some 138,op:=Go.Op.load 3 (Go.Operand.tmp 137),type:=3,pos:= "l09_corp.go:71",after:= #[{on:=12,ground:=Go.Ground.data}],guard:=none}
abbrev oA14:Oper:={dst:=some 139,op:=Go.Op.binOp Go.BinOp.sub 3 (Go.Operand.tmp 134) (Go.Operand.tmp 138) 3,type:=3,pos:= "l09_corp.go:71",after:= #[{on:=9,ground:=Go.Ground.data},{on:=13,ground:=Go.Ground.data}],guard:=none}
abbrev oA15:Oper:={dst:=some 140,op:=Go.Op.build 80 #[(0,Go.Operand.tmp 129),(1,Go.Operand.tmp 130),(2,Go.Operand.tmp 139)],type:=80,pos:= "l09_corp.go:71",after:= #[{on:=4,ground:=Go.Ground.data},{on:=5,ground:=Go.Ground.data},{on:=14,ground:=Go.Ground.data}],guard:=none}
abbrev oA16:Oper:={dst:=some 141,op:=Go.Op.buildSlice 66 1 #[(0,Go.Operand.tmp 140)],type:=66,pos:= "l09_corp.go:71",after:= #[{on:=15,ground:=Go.Ground.data}],guard:=none}
abbrev oA17:Oper:={dst:=some 142,op:=Go.Op.call {callee:=Go.Callee.builtin Go.Builtin.append,args:= #[Go.Operand.tmp 125,Go.Operand.tmp 141],argTypes:= #[66,66]},type:=66,pos:= "l09_corp.go:71",after:= #[{on:=0,ground:=Go.Ground.data},{on:=16,ground:=Go.Ground.data}],guard:=none}
abbrev oA18:Oper:={dst:=some 24,op:=Go.Op.assign (Go.Operand.tmp 142),type:=66,pos:= "l09_corp.go:71",after:= #[{on:=17,ground:=Go.Ground.data},{on:=17,ground:=Go.Ground.chain},{on:=0,ground:=Go.Ground.phase},{on:=1,ground:=Go.Ground.phase},{on:=2,ground:=Go.Ground.phase},{on:=3,ground:=Go.Ground.phase},{on:=4,ground:=Go.Ground.phase},{on:=5,ground:=Go.Ground.phase},{on:=6,ground:=Go.Ground.phase},{on:=7,ground:=Go.Ground.phase},{on:=8,ground:=Go.Ground.phase},{on:=9,ground:=Go.Ground.phase},{on:=10,ground:=Go.Ground.phase},{on:=11,ground:=Go.Ground.phase},{on:=12,ground:=Go.Ground.phase},{on:=13,ground:=Go.Ground.phase},{on:=14,ground:=Go.Ground.phase},{on:=15,ground:=Go.Ground.phase},{on:=16,ground:=Go.Ground.phase},{on:=17,ground:=Go.Ground.phase}],guard:=none}
abbrev oB0:Oper:={dst:=some 170,op:=Go.Op.fieldAddr 36 (Go.Operand.tmp 26) 3,type:=0,pos:= "l09_corp.go:76",after:= #[],guard:=none}
abbrev oB1:Oper:={dst:=some 171,op:=Go.Op.load 33 (Go.Operand.tmp 170),type:=33,pos:= "l09_corp.go:76",after:= #[{on:=0,ground:=Go.Ground.data}],guard:=none}
abbrev oB2:Oper:={dst:=some 172,op:=Go.Op.move (Go.Operand.tmp 15),type:=43,pos:= "l09_corp.go:76",after:= #[],guard:=none}
abbrev oB3:Oper:={dst:=some 173,op:=Go.Op.move (Go.Operand.tmp 28),type:=3,pos:= "l09_corp.go:76",after:= #[],guard:=none}
abbrev oB4:Oper:={dst:=some 174,op:=Go.Op.indexAddr 43 (Go.Operand.tmp 172) (Go.Operand.tmp 173),type:=0,pos:= "l09_corp.go:76",after:= #[{on:=2,ground:=Go.Ground.data},{on:=3,ground:=Go.Ground.data}],guard:=none}
abbrev oB5:Oper:={dst:=some 175,op:=Go.Op.load 3 (Go.Operand.tmp 174),type:=3,pos:= "l09_corp.go:76",after:= #[{on:=4,ground:=Go.Ground.data}],guard:=none}
abbrev oB6:Oper:={dst:=some 176,op:=Go.Op.move (Go.Operand.tmp 1),type:=3,pos:= "l09_corp.go:76",after:= #[],guard:=none}
abbrev oB7:Oper:={dst:=some 177,op:=Go.Op.move (Go.Operand.tmp 22),type:=43,pos:= "l09_corp.go:76",after:= #[],guard:=none}
abbrev oB8:Oper:={dst:=some 178,op:=Go.Op.move (Go.Operand.tmp 28),type:=3,pos:= "l09_corp.go:76",after:= #[],guard:=none}
abbrev oB9:Oper:={dst:=some 179,op:=Go.Op.indexAddr 43 (Go.Operand.tmp 177) (Go.Operand.tmp 178),type:=0,pos:= "l09_corp.go:76",after:= #[{on:=7,ground:=Go.Ground.data},{on:=8,ground:=Go.Ground.data}],guard:=none}
abbrev oB10:Oper:={dst:=some 180,op:=Go.Op.load 3 (Go.Operand.tmp 179),type:=3,pos:= "l09_corp.go:76",after:= #[{on:=9,ground:=Go.Ground.data}],guard:=none}
abbrev oB11:Oper:={dst:=some 181,op:=Go.Op.call {callee:=Go.Callee.value (Go.Operand.func 72),args:= #[Go.Operand.tmp 171,Go.Operand.tmp 175,Go.Operand.tmp 176,Go.Operand.tmp 180],argTypes:= #[33,3,3,3]},type:=100,pos:= "l09_corp.go:76",after:= #[{on:=1,ground:=Go.Ground.data},{on:=5,ground:=Go.Ground.data},{on:=6,ground:=Go.Ground.data},{on:=10,ground:=Go.Ground.data}],guard:=none}
abbrev oB12:Oper:={dst:=some 169,op:=Go.Op.move (Go.Operand.tmp 181),type:=100,pos:= "l09_corp.go:76",after:= #[{on:=11,ground:=Go.Ground.data}],guard:=none}
abbrev oB13:Oper:={dst:=some 182,op:=Go.Op.extract (Go.Operand.tmp 169) 0,type:=33,pos:= "l09_corp.go:76",after:= #[{on:=12,ground:=Go.Ground.data}],guard:=none}
abbrev oB14:Oper:={dst:=some 183,op:=Go.Op.extract (Go.Operand.tmp 169) 1,type:=3,pos:= "l09_corp.go:76",after:= #[{on:=12,ground:=Go.Ground.data},{on:=15,ground:=Go.Ground.gcOnly Go.Departure.lateStores}],guard:=none}
abbrev oB15:Oper:={dst:=some 29,op:=Go.Op.assign (Go.Operand.tmp 182),type:=33,pos:= "l09_corp.go:76",after:= #[{on:=13,ground:=Go.Ground.data},{on:=11,ground:=Go.Ground.chain},{on:=0,ground:=Go.Ground.phase},{on:=1,ground:=Go.Ground.phase},{on:=2,ground:=Go.Ground.phase},{on:=3,ground:=Go.Ground.phase},{on:=4,ground:=Go.Ground.phase},{on:=5,ground:=Go.Ground.phase},{on:=6,ground:=Go.Ground.phase},{on:=7,ground:=Go.Ground.phase},{on:=8,ground:=Go.Ground.phase},{on:=9,ground:=Go.Ground.phase},{on:=10,ground:=Go.Ground.phase},{on:=11,ground:=Go.Ground.phase},{on:=12,ground:=Go.Ground.phase},{on:=13,ground:=Go.Ground.phase},{on:=14,ground:=Go.Ground.textOnly Go.Departure.lateStores}],guard:=none}
abbrev oB16:Oper:={dst:=some 30,op:=Go.Op.assign (Go.Operand.tmp 183),type:=3,pos:= "l09_corp.go:76",after:= #[{on:=14,ground:=Go.Ground.data},{on:=15,ground:=Go.Ground.chain},{on:=0,ground:=Go.Ground.phase},{on:=1,ground:=Go.Ground.phase},{on:=2,ground:=Go.Ground.phase},{on:=3,ground:=Go.Ground.phase},{on:=4,ground:=Go.Ground.phase},{on:=5,ground:=Go.Ground.phase},{on:=6,ground:=Go.Ground.phase},{on:=7,ground:=Go.Ground.phase},{on:=8,ground:=Go.Ground.phase},{on:=9,ground:=Go.Ground.phase},{on:=10,ground:=Go.Ground.phase},{on:=11,ground:=Go.Ground.phase},{on:=12,ground:=Go.Ground.phase},{on:=13,ground:=Go.Ground.phase},{on:=14,ground:=Go.Ground.phase},{on:=15,ground:=Go.Ground.phase}],guard:=none}
theorem sSplit(w:World)(x:Bx)(pp sn sd py:Int)(hr:Rd w x):
  Calls Tryz.prog 19 #[.agg #[.slice (some ⟨x.ga,0,none⟩) x.b.ac.length x.ca,.slice (some ⟨x.gi,0,none⟩) x.b.ic.length x.ci,.slice (some ⟨x.gb,0,none⟩) x.b.bs.length x.cb,.slice (some ⟨x.gl,0,none⟩) x.b.ls.length x.cl,.slice (some ⟨x.gt,0,none⟩) x.b.ts.length x.ct,.int .i64 x.b.lot],.int .i64 pp,.int .i64 sn,.int .i64 sd,.int .i64 py] w (AnsM (ToldS x.b pp sn sd py) (IsSplit x.b pp sn sd py) w):=by
 obtain⟨b0,h0⟩:=says_of (Ok x.b)
 obtain⟨b1,h1⟩:=says_of (NoOk pp)
 obtain⟨b2,h2⟩:=says_of (1≤sn∧sn≤1000000)
 obtain⟨b3,h3⟩:=says_of (1≤sd∧sd≤1000000)
 obtain⟨b4,h4⟩:=says_of (NoOk py)
 have H0:=zh h0
 have H1:=zh h1
 have H2:=zh h2
 have H3:=zh h3
 have H4:=zh h4
 have S0:=zh (SR.start hr)
 have HR:=zh hr
 clear h0 h1 h2 h3 h4 hr
 go_enter Tryz.func19,Tryz.ntmps19
 go_wp2_with fail
 refine(SBooksOk.sBooksOk _ x b0 (zu S0).r (zu H0)).mono ?_
 rintro e w1 ⟨rfl,bb⟩
 have S1:=zh ((zu S0).step bb)
 have B1:=zh (zu S1).b
 clear bb
 obtain⟨c0,c1,c2,c3,c4,c5⟩:=(zu S1).c
 obtain⟨r0,r1,r2,r3,r4,r5,f0,f1,f2,f3,f4,f5⟩:=Box.all ((zu S1).v)
 cases b0
 ·have N:=zh (show ¬ToldS x.b pp sn sd py from fun hh=>(zu H0).no hh.1)
  go_wp2
  refine bodyPost_ret (v:= .tuple #[.agg #[.slice none 0 0,.slice none 0 0,.slice none 0 0,.slice none 0 0,.slice none 0 0,.int .i64 0],.int .i64 0,.int .i64 1]) (by simp[results,Tryz.results19,go_sem,r0,r1,r2,r3,r4,r5]) rfl (.inl ⟨zu N,rfl,?_⟩)
  exact six (zu B1) (by omega) _ _ _ _ _ _
 go_wp2_with fail
 refine(SOk5.sNo pp b1 _ (zu H1)).mono ?_
 rintro e v1 ⟨rfl,rfl⟩
 cases b1
 ·have N:=zh (show ¬ToldS x.b pp sn sd py from fun hh=>(zu H1).no hh.2.1)
  go_wp2
  refine bodyPost_ret (v:= .tuple #[.agg #[.slice none 0 0,.slice none 0 0,.slice none 0 0,.slice none 0 0,.slice none 0 0,.int .i64 0],.int .i64 0,.int .i64 1]) (by simp[results,Tryz.results19,go_sem,r0,r1,r2,r3,r4,r5]) rfl (.inl ⟨zu N,rfl,?_⟩)
  exact six (zu B1) (by omega) _ _ _ _ _ _
 go_wp2_with fail
 refine(SOk5.sIn sn 1 1000000 b2 _ (zu H2)).mono ?_
 rintro e v2 ⟨rfl,rfl⟩
 cases b2
 ·have N:=zh (show ¬ToldS x.b pp sn sd py from fun hh=>(zu H2).no hh.2.2.1)
  go_wp2
  refine bodyPost_ret (v:= .tuple #[.agg #[.slice none 0 0,.slice none 0 0,.slice none 0 0,.slice none 0 0,.slice none 0 0,.int .i64 0],.int .i64 0,.int .i64 1]) (by simp[results,Tryz.results19,go_sem,r0,r1,r2,r3,r4,r5]) rfl (.inl ⟨zu N,rfl,?_⟩)
  exact six (zu B1) (by omega) _ _ _ _ _ _
 go_wp2_with fail
 refine(SOk5.sIn sd 1 1000000 b3 _ (zu H3)).mono ?_
 rintro e v3 ⟨rfl,rfl⟩
 cases b3
 ·have N:=zh (show ¬ToldS x.b pp sn sd py from fun hh=>(zu H3).no hh.2.2.2.1)
  go_wp2
  refine bodyPost_ret (v:= .tuple #[.agg #[.slice none 0 0,.slice none 0 0,.slice none 0 0,.slice none 0 0,.slice none 0 0,.int .i64 0],.int .i64 0,.int .i64 1]) (by simp[results,Tryz.results19,go_sem,r0,r1,r2,r3,r4,r5]) rfl (.inl ⟨zu N,rfl,?_⟩)
  exact six (zu B1) (by omega) _ _ _ _ _ _
 go_wp2_with fail
 refine(SOk5.sNo py b4 _ (zu H4)).mono ?_
 rintro e v4 ⟨rfl,rfl⟩
 cases b4
 ·have N:=zh (show ¬ToldS x.b pp sn sd py from fun hh=>(zu H4).no hh.2.2.2.2)
  go_wp2
  refine bodyPost_ret (v:= .tuple #[.agg #[.slice none 0 0,.slice none 0 0,.slice none 0 0,.slice none 0 0,.slice none 0 0,.int .i64 0],.int .i64 0,.int .i64 1]) (by simp[results,Tryz.results19,go_sem,r0,r1,r2,r3,r4,r5]) rfl (.inl ⟨zu N,rfl,?_⟩)
  exact six (zu B1) (by omega) _ _ _ _ _ _
 have TT:=zh (show ToldS x.b pp sn sd py from⟨(zu H0).yes,(zu H1).yes,(zu H2).yes,(zu H3).yes,(zu H4).yes⟩)
 have LI:=zh (zu H0).yes.1
 have SM:=zh (ok_small (zu H0).yes)
 have n1:1≤sn:=(zu H2).yes.1
 have n2:sn≤1000000:=(zu H2).yes.2
 have d1:1≤sd:=(zu H3).yes.1
 have d2:sd≤1000000:=(zu H3).yes.2
 clear H0 H1 H2 H3 H4 S0
 clear c0 c1 c2 c3 c4 c5 r0 r1 r2 r3 r4 r5 f0 f1 f2 f3 f4 f5
 obtain⟨K1,hK1⟩:∃K,Hid (kindOf x.b.ac py=K):=⟨_,rfl⟩
 obtain⟨K2,hK2⟩:∃K,Hid (kindOf x.b.ic pp=K):=⟨_,rfl⟩
 go_wp2_with fail
 have Q4:=And.intro (zu S1).c.c0 (zu S1).c.c1
 go_region_held3 (fun w'=>w'.cell? ⟨w.heap.size,0,none⟩=some (.slice (some ⟨x.ga,0,none⟩) x.b.ac.length x.ca)∧w'.cell? ⟨w.heap.size,1,none⟩=some (.slice (some ⟨x.gi,0,none⟩) x.b.ic.length x.ci)) (first|exact Q4|exact Q5|exact Q6)
  (first|(go_at_call 31;refine(SBals.sKindA v4.drew x py K1 ((zu S1).r.below (Below.refl _ _).drew) (zu LI).1 (zu hK1)).mono ?_;rintro e u1 ⟨rfl,bb⟩;have bW:Below v4.heap.size v4 u1:=ILotsFit.below_of_drew bb;have T1:=zh ((zu S1).step bW);have Q5:=And.intro (zu T1).c.c0 (zu T1).c.c1;clear bb bW)|(go_at_call 32;refine(SBals.sKindI u1 x pp K2 (zu T1).r (zu LI).2.1 (zu hK2)).mono ?_;rintro e u2 ⟨rfl,bb2⟩;have S2:=zh ((zu T1).step bb2);have Q6:=And.intro (zu S2).c.c0 (zu S2).c.c1;clear bb2))
 clear Q4 Q5 Q6 T1
 obtain⟨c0,c1,c2,c3,c4,c5⟩:=(zu S2).c
 obtain⟨r0,r1,r2,r3,r4,r5,f0,f1,f2,f3,f4,f5⟩:=Box.all ((zu S2).v)
 go_wp2_with fail
 refine(SHeld.sHeld _ x pp (zu S2).r).mono ?_
 rintro e w3 ⟨who,what,hv,ok,gw,cw,gq,cq,ih,wl',wl2',rfl,oa,oc,gne,bb⟩
 have WL:=zh wl'
 clear wl' wl2'
 have S3:=zh ((zu S2).step bb)
 have IH:=zh ih
 have OA:=zh oa
 have OC:=zh oc
 clear bb ih oa oc
 clear c0 c1 c2 c3 c4 c5 r0 r1 r2 r3 r4 r5 f0 f1 f2 f3 f4 f5
 obtain⟨c0,c1,c2,c3,c4,c5⟩:=(zu S3).c
 obtain⟨r0,r1,r2,r3,r4,r5,f0,f1,f2,f3,f4,f5⟩:=Box.all ((zu S3).v)
 have zero:((K1==0)=true∨((K1==0)=false∧(K2==0)=true))∧Hid (SplNone x.b pp py)∨((K1==0)=false∧(K2==0)=false)∧Hid (¬SplNone x.b pp py):=by
  unfold SplNone
  rw[zu hK1,zu hK2]
  by_cases k1:K1=0
  ·exact .inl ⟨.inl (eq_true k1),.inl k1⟩
  by_cases k2:K2=0
  ·exact .inl ⟨.inr ⟨eq_false k1,eq_true k2⟩,.inr k2⟩
  ·exact .inr ⟨⟨eq_false k1,eq_false k2⟩,fun hh=>by omega⟩
 obtain⟨Z,ZZ⟩|⟨⟨m1,m2⟩,NZ⟩:=zero
 ·have I3:=zh (show IsSplit x.b pp sn sd py x.b 0 3 from .inl ⟨zu ZZ,rfl,rfl,rfl⟩)
  clear hK1 hK2 ZZ IH OA OC
  obtain m1|⟨m1,m2⟩:=Z
  all_goals
   go_wp2_with fail
   refine(SCopy.sCopy _ x (zu S3).r).mono ?_
   rintro e w8 ⟨z,hz,rfl,oz,bb⟩
   have S8:=zh ((zu S3).step bb)
   have OZ:=zh (oz.rebase (zu S3).b.size)
   have LZ:=zh (ow_lo oz)
   have zl:=(zu S3).v.lt.2
   have IZ:=zh (show IsSplit x.b pp sn sd py z.b 0 3 from by rw[hz];exact(zu I3))
   clear bb oz hz
   clear c0 c1 c2 c3 c4 c5 r0 r1 r2 r3 r4 r5 f0 f1 f2 f3 f4 f5
   obtain⟨c0,c1,c2,c3,c4,c5⟩:=(zu S8).c
   obtain⟨r0,r1,r2,r3,r4,r5,f0,f1,f2,f3,f4,f5⟩:=Box.all ((zu S8).v)
   go_wp2
   refine bodyPost_ret (v:= .tuple #[.agg #[.slice (some ⟨z.ga,0,none⟩) z.b.ac.length z.ca,.slice (some ⟨z.gi,0,none⟩) z.b.ic.length z.ci,.slice (some ⟨z.gb,0,none⟩) z.b.bs.length z.cb,.slice (some ⟨z.gl,0,none⟩) z.b.ls.length z.cl,.slice (some ⟨z.gt,0,none⟩) z.b.ts.length z.ct,.int .i64 z.b.lot],.int .i64 0,.int .i64 3]) (by simp[results,Tryz.results19,go_sem,r0,r1,r2,r3,r4,r5]) rfl (.inr ⟨zu TT,z,0,3,zu IZ,rfl,?_,?_⟩)
   ·exact ow_six (zu OZ) (off_lo (zu LZ) zl) _ _ _ _ _ _
   ·exact six (zu S8).b (by omega) _ _ _ _ _ _
 have kinds:((K1 !=2)=true∨((K1 !=2)=false∧(K2 !=2)=true))∧Hid (SplKind x.b pp py)∨((K1 !=2)=false∧(K2 !=2)=false)∧Hid (¬SplKind x.b pp py):=by
  unfold SplKind
  rw[zu hK1,zu hK2]
  by_cases k1:K1=2
  ·by_cases k2:K2=2
   ·exact .inr ⟨⟨ne_false k1,ne_false k2⟩,fun hh=>by omega⟩
   ·exact .inl ⟨.inr ⟨ne_false k1,ne_true k2⟩,.inr k2⟩
  ·exact .inl ⟨.inl (ne_true k1),.inl k1⟩
 obtain⟨Z,ZZ⟩|⟨⟨q1,q2⟩,NK⟩:=kinds
 ·have I4:=zh (show IsSplit x.b pp sn sd py x.b 0 4 from .inr (.inl ⟨zu NZ,zu ZZ,rfl,rfl,rfl⟩))
  clear hK1 hK2 ZZ NZ IH OA OC
  obtain q1|⟨q1,q2⟩:=Z
  all_goals
   go_wp2_with fail
   refine(SCopy.sCopy _ x (zu S3).r).mono ?_
   rintro e w8 ⟨z,hz,rfl,oz,bb⟩
   have S8:=zh ((zu S3).step bb)
   have OZ:=zh (oz.rebase (zu S3).b.size)
   have LZ:=zh (ow_lo oz)
   have zl:=(zu S3).v.lt.2
   have IZ:=zh (show IsSplit x.b pp sn sd py z.b 0 4 from by rw[hz];exact(zu I4))
   clear bb oz hz
   clear c0 c1 c2 c3 c4 c5 r0 r1 r2 r3 r4 r5 f0 f1 f2 f3 f4 f5
   obtain⟨c0,c1,c2,c3,c4,c5⟩:=(zu S8).c
   obtain⟨r0,r1,r2,r3,r4,r5,f0,f1,f2,f3,f4,f5⟩:=Box.all ((zu S8).v)
   go_wp2
   refine bodyPost_ret (v:= .tuple #[.agg #[.slice (some ⟨z.ga,0,none⟩) z.b.ac.length z.ca,.slice (some ⟨z.gi,0,none⟩) z.b.ic.length z.ci,.slice (some ⟨z.gb,0,none⟩) z.b.bs.length z.cb,.slice (some ⟨z.gl,0,none⟩) z.b.ls.length z.cl,.slice (some ⟨z.gt,0,none⟩) z.b.ts.length z.ct,.int .i64 z.b.lot],.int .i64 0,.int .i64 4]) (by simp[results,Tryz.results19,go_sem,r0,r1,r2,r3,r4,r5]) rfl (.inr ⟨zu TT,z,0,4,zu IZ,rfl,?_,?_⟩)
   ·exact ow_six (zu OZ) (off_lo (zu LZ) zl) _ _ _ _ _ _
   ·exact six (zu S8).b (by omega) _ _ _ _ _ _
 clear hK1 hK2
 cases ok
 ·have I8:=zh (show IsSplit x.b pp sn sd py x.b 0 8 from .inr (.inr ⟨zu NZ,zu NK,who,what,hv,false,zu IH,.inl ⟨rfl,rfl,rfl,rfl⟩⟩))
  clear NZ NK IH OA OC
  go_wp2_with fail
  refine(SCopy.sCopy _ x (zu S3).r).mono ?_
  rintro e w8 ⟨z,hz,rfl,oz,bb⟩
  have S8:=zh ((zu S3).step bb)
  have OZ:=zh (oz.rebase (zu S3).b.size)
  have LZ:=zh (ow_lo oz)
  have zl:=(zu S3).v.lt.2
  have IZ:=zh (show IsSplit x.b pp sn sd py z.b 0 8 from by rw[hz];exact(zu I8))
  clear bb oz hz
  clear c0 c1 c2 c3 c4 c5 r0 r1 r2 r3 r4 r5 f0 f1 f2 f3 f4 f5
  obtain⟨c0,c1,c2,c3,c4,c5⟩:=(zu S8).c
  obtain⟨r0,r1,r2,r3,r4,r5,f0,f1,f2,f3,f4,f5⟩:=Box.all ((zu S8).v)
  go_wp2
  refine bodyPost_ret (v:= .tuple #[.agg #[.slice (some ⟨z.ga,0,none⟩) z.b.ac.length z.ca,.slice (some ⟨z.gi,0,none⟩) z.b.ic.length z.ci,.slice (some ⟨z.gb,0,none⟩) z.b.bs.length z.cb,.slice (some ⟨z.gl,0,none⟩) z.b.ls.length z.cl,.slice (some ⟨z.gt,0,none⟩) z.b.ts.length z.ct,.int .i64 z.b.lot],.int .i64 0,.int .i64 8]) (by simp[results,Tryz.results19,go_sem,r0,r1,r2,r3,r4,r5]) rfl (.inr ⟨zu TT,z,0,8,zu IZ,rfl,?_,?_⟩)
  ·exact ow_six (zu OZ) (off_lo (zu LZ) zl) _ _ _ _ _ _
  ·exact six (zu S8).b (by omega) _ _ _ _ _ _
 by_cases hn:who=[]
 ·have I5:=zh (show IsSplit x.b pp sn sd py x.b 0 5 from .inr (.inr ⟨zu NZ,zu NK,who,what,hv,true,zu IH,.inr (.inl ⟨rfl,hn,rfl,rfl,rfl⟩)⟩))
  have lb:((who.length:Int)==0)=true:=by rw[hn];rfl
  clear NZ NK IH OA OC hn
  go_wp2_with fail
  refine(SCopy.sCopy _ x (zu S3).r).mono ?_
  rintro e w8 ⟨z,hz,rfl,oz,bb⟩
  have S8:=zh ((zu S3).step bb)
  have OZ:=zh (oz.rebase (zu S3).b.size)
  have LZ:=zh (ow_lo oz)
  have zl:=(zu S3).v.lt.2
  have IZ:=zh (show IsSplit x.b pp sn sd py z.b 0 5 from by rw[hz];exact(zu I5))
  clear bb oz hz
  clear c0 c1 c2 c3 c4 c5 r0 r1 r2 r3 r4 r5 f0 f1 f2 f3 f4 f5
  obtain⟨c0,c1,c2,c3,c4,c5⟩:=(zu S8).c
  obtain⟨r0,r1,r2,r3,r4,r5,f0,f1,f2,f3,f4,f5⟩:=Box.all ((zu S8).v)
  go_wp2
  refine bodyPost_ret (v:= .tuple #[.agg #[.slice (some ⟨z.ga,0,none⟩) z.b.ac.length z.ca,.slice (some ⟨z.gi,0,none⟩) z.b.ic.length z.ci,.slice (some ⟨z.gb,0,none⟩) z.b.bs.length z.cb,.slice (some ⟨z.gl,0,none⟩) z.b.ls.length z.cl,.slice (some ⟨z.gt,0,none⟩) z.b.ts.length z.ct,.int .i64 z.b.lot],.int .i64 0,.int .i64 5]) (by simp[results,Tryz.results19,go_sem,r0,r1,r2,r3,r4,r5]) rfl (.inr ⟨zu TT,z,0,5,zu IZ,rfl,?_,?_⟩)
  ·exact ow_six (zu OZ) (off_lo (zu LZ) zl) _ _ _ _ _ _
  ·exact six (zu S8).b (by omega) _ _ _ _ _ _
 have lb:((who.length:Int)==0)=false:=by
  have:=List.length_pos_iff.2 hn
  exact eq_false (by omega)
 obtain⟨good,hvt',hwl',h20,hno,_,hw1⟩:=held_good (zu IH) hn
 clear hwl'
 have GD:=zh good
 have NO:=zh hno
 have HN:=zh hn
 have HVT:=zh hvt'
 have v0:0≤hv:=by have:=good.2.2.1;rw[S_tot] at this;omega
 have v1:hv≤1000000000000000:=by have:=good.2.2.2;rw[S_tot] at this;omega
 have WB:=zh (show ∀q∈what,0≤q∧q≤1000000000000000 from fun q hq=>by
  have a:=hw1 q hq
  have b:=tot_one what (fun p hp=>by have:=hw1 p hp;omega) q hq
  omega)
 obtain⟨aq,ar,fine,htl⟩:=tells_is hv sn sd
 have TL:=zh htl
 have qb:=tells_bd htl v0 (by omega) (by omega)
 clear good hno hn hvt' hw1 htl
 go_wp2_with fail
 refine(MulC.sMD hv sn sd aq ar fine _ v0 v1 (by omega) (by omega) d1 (by omega) TL).mono ?_
 rintro e v5 ⟨rfl,rfl⟩
 cases fine
 ·have I8:=zh (show IsSplit x.b pp sn sd py x.b 0 8 from .inr (.inr ⟨zu NZ,zu NK,who,what,hv,true,zu IH,.inr (.inr ⟨rfl,zu HN,aq,ar,false,zu TL,.inl ⟨rfl,rfl,rfl,rfl⟩⟩)⟩))
  clear NZ NK IH OA OC GD NO HN HVT WB TL
  go_wp2_with fail
  refine(SCopy.sCopy _ x (zu S3).r).mono ?_
  rintro e w8 ⟨z,hz,rfl,oz,bb⟩
  have S8:=zh ((zu S3).step bb)
  have OZ:=zh (oz.rebase (zu S3).b.size)
  have LZ:=zh (ow_lo oz)
  have zl:=(zu S3).v.lt.2
  have IZ:=zh (show IsSplit x.b pp sn sd py z.b 0 8 from by rw[hz];exact(zu I8))
  clear bb oz hz
  clear c0 c1 c2 c3 c4 c5 r0 r1 r2 r3 r4 r5 f0 f1 f2 f3 f4 f5
  obtain⟨c0,c1,c2,c3,c4,c5⟩:=(zu S8).c
  obtain⟨r0,r1,r2,r3,r4,r5,f0,f1,f2,f3,f4,f5⟩:=Box.all ((zu S8).v)
  go_wp2
  refine bodyPost_ret (v:= .tuple #[.agg #[.slice (some ⟨z.ga,0,none⟩) z.b.ac.length z.ca,.slice (some ⟨z.gi,0,none⟩) z.b.ic.length z.ci,.slice (some ⟨z.gb,0,none⟩) z.b.bs.length z.cb,.slice (some ⟨z.gl,0,none⟩) z.b.ls.length z.cl,.slice (some ⟨z.gt,0,none⟩) z.b.ts.length z.ct,.int .i64 z.b.lot],.int .i64 0,.int .i64 8]) (by simp[results,Tryz.results19,go_sem,r0,r1,r2,r3,r4,r5]) rfl (.inr ⟨zu TT,z,0,8,zu IZ,rfl,?_,?_⟩)
  ·exact ow_six (zu OZ) (off_lo (zu LZ) zl) _ _ _ _ _ _
  ·exact six (zu S8).b (by omega) _ _ _ _ _ _
 have tot':=zh (show Quota.Tot aq from qb)
 go_wp2_with fail
 refine(SShares.sShares_good _ aq gq what.length cq what rfl (zu OC).lt.2 (zu OC).at (zu GD) (zu tot')).mono ?_
 rintro e w5 ⟨L,MM,gs,cs,ord,hM,hMn,rfl,o3,bb⟩
 obtain⟨ps,hps⟩:∃ps,Hid (bump (wholes aq what what.length) L MM=ps):=⟨_,rfl⟩
 rw[zu hps] at o3
 have ST:=zh (show STells aq what ps true from .inl ⟨zu GD,zu tot',rfl,L,MM,ord,hM,hMn,(zu hps).symm⟩)
 have S4:=zh ((zu S3).step bb)
 have OA4:=zh ((zu OA).below bb (zu OA).lt.2).at
 have OC4:=zh ((zu OC).below bb (zu OC).lt.2).at
 have gwl:gw<w5.heap.size:=Nat.lt_of_lt_of_le (zu OA).lt.2 bb.size
 have gql:gq<w5.heap.size:=Nat.lt_of_lt_of_le (zu OC).lt.2 bb.size
 have OS:=zh o3
 have gsl:gs<w5.heap.size:=o3.lt.2
 obtain⟨pt,pl',pb⟩:=shares_tot (zu ST) rfl
 have PL:=zh pl'
 clear pl'
 have PT:=zh pt
 have PB:=zh pb
 have w53:=bb.size
 clear bb o3 ord hM hMn hps pt pb OA OC GD tot' L MM
 clear c0 c1 c2 c3 c4 c5 r0 r1 r2 r3 r4 r5 f0 f1 f2 f3 f4 f5
 have OL0:=zh (own_none w5)
 have B50:=zh (one_more w5 (.cells #[] 80))
 have WPL:=zh (show ps.length=what.length∧who.length=what.length from⟨zu PL,by have:=zu WL;omega⟩)
 clear WL PL
 go_wp2
 go_loopw [24,25] (fun l j wr=>∃(ls:List T3) (g c k:Nat),l= .slice (some ⟨g,0,none⟩) ls.length c∧j= .int .i64 k∧k≤who.length∧Hid (ls=legsW pp (who.take k) ((moreL ps what).take k))∧Hid (ls.length=k)∧Hid (Own3 80 wr w5.heap.size g ls.length c ls)∧w5.heap.size≤g∧Hid (Below w5.heap.size w5 wr)) (fun _ j _=>who.length-(intOf j).toNat)
 case atStart=>exact⟨[],w5.heap.size,0,0,rfl,rfl,by omega,zh (by simp[legsW]),zh rfl,OL0,Nat.le_refl _,B50⟩
 case round=>
  clear OL0 B50
  obtain⟨ls,g,c,k,rfl,rfl,hk,HL,HLL,OL,hg,HB⟩:=hrel
  have wz1:=(zu HB).size
  by_cases t:k<who.length
  ·have kp:k<ps.length:=by have:=zu WPL;omega
   have kw:k<what.length:=by have:=zu WPL;omega
   have e0:=((zu OA4).below (zu HB) gwl) k t
   have e1:=((zu OS).at.below (zu HB) gsl) k kp
   have e2:=((zu OC4).below (zu HB) gql) k kw
   have TN:=zh (legsW_next (i:=pp) (who:=who) (ps:=moreL ps what) (k:=k) t (by rw[moreL_len (zu WPL).1];have:=zu WPL;omega))
   rw[moreL_getD kp (zu WPL).1] at TN
   have y2b:=(zu PB) (ps.getD k 0) (by simp only[List.getD,List.getElem?_eq_getElem kp,Option.getD_some];exact List.getElem_mem kp)
   have y3b:=(zu WB) (what.getD k 0) (by simp only[List.getD,List.getElem?_eq_getElem kw,Option.getD_some];exact List.getElem_mem kw)
   obtain⟨y0,hy0⟩:∃q,Hid (who.getD k 0=q):=⟨_,rfl⟩
   obtain⟨y2,hy2⟩:∃q,Hid (ps.getD k 0=q):=⟨_,rfl⟩
   obtain⟨y3,hy3⟩:∃q,Hid (what.getD k 0=q):=⟨_,rfl⟩
   rw[zu hy0] at e0 TN
   rw[zu hy2] at e1 TN y2b
   rw[zu hy3] at e2 TN y3b
   clear hy0 hy2 hy3
   have K4:=And.intro e0 (And.intro e1 e2)
   have AO:=zh (one_more wr (.cells #[.int .i64 y0,.int .i64 pp,.int .i64 (y2-y3)] 80))
   have K5:=And.intro (((zu AO).cell (p:=⟨gw,k,none⟩) (show gw<wr.heap.size by omega)).trans e0) (And.intro (((zu AO).cell (p:=⟨gs,k,none⟩) (show gs<wr.heap.size by omega)).trans e1) (((zu AO).cell (p:=⟨gq,k,none⟩) (show gq<wr.heap.size by omega)).trans e2))
   have OG5:=zh ((zu OL).alloc (.cells #[.int .i64 y0,.int .i64 pp,.int .i64 (y2-y3)] 80))
   have X5:=zh (show At3 (wr.alloc (.cells #[.int .i64 y0,.int .i64 pp,.int .i64 (y2-y3)] 80)) wr.heap.size [(y0,pp,y2-y3)] from by
    intro i hi
    obtain rfl:i=0:=by simpa using hi
    simp[Holds3])
   have ne1:some gw≠some g:=fun e=>by injection e;omega
   have ne2:some gs≠some g:=fun e=>by injection e;omega
   have ne3:some gq≠some g:=fun e=>by injection e;omega
   have i2:(k:Int)<(what.length:Int):=by omega
   have i3:(k:Int)<(ps.length:Int):=by omega
   have lsl:ls.length≤100:=by have:=zu HLL;omega
   go_wp2_with fail
   have WS:IntKind.i64.wrap (y2-y3)=y2-y3:=by rw[IntKind.wrap_i64];omega
   refine wp_region_held_drew (S:=(fun w'=>w'.cell? ⟨gw,k,none⟩=some (.int .i64 y0)∧w'.cell? ⟨gs,k,none⟩=some (.int .i64 y2)∧w'.cell? ⟨gq,k,none⟩=some (.int .i64 y3))) (by kernel_rfl) K4 (fun hHeld=>?_)
   refine tk 0 oA0 (.slice (some ⟨g,0,none⟩) ls.length c) rfl (by kernel_rfl) (fun _ _ _ h=>h) (by rfl) (fun w hSw=>?_) hHeld ?_
   ·(try dsimp only at hSw)
    unfold oA0
    go_simp
   try simp only[oA0,Act.put,zA,zB,zC]
   refine tk 1 oA1 (.slice (some ⟨gw,0,none⟩) who.length cw) rfl (by kernel_rfl) (fun _ _ _ h=>h) (by rfl) (fun w hSw=>?_) hHeld ?_
   ·(try dsimp only at hSw)
    unfold oA1
    go_simp
   try simp only[oA1,Act.put,zA,zB,zC]
   refine tk 2 oA2 (.int .i64 k) rfl (by kernel_rfl) (fun _ _ _ h=>h) (by rfl) (fun w hSw=>?_) hHeld ?_
   ·(try dsimp only at hSw)
    unfold oA2
    go_simp
   try simp only[oA2,Act.put,zA,zB,zC]
   refine tk 3 oA3 (.pointer (some ⟨gw,k,none⟩)) rfl (by kernel_rfl) (fun _ _ _ h=>h) (by rfl) (fun w hSw=>?_) hHeld ?_
   ·(try dsimp only at hSw)
    unfold oA3
    go_simp
   try simp only[oA3,Act.put,zA,zB,zC]
   refine tk 4 oA4 (.int .i64 y0) rfl (by kernel_rfl) (fun _ _ _ h=>h) (by rfl) (fun w hSw=>?_) hHeld ?_
   ·(try dsimp only at hSw)
    unfold oA4
    go_simp
   try simp only[oA4,Act.put,zA,zB,zC]
   refine tk 5 oA5 (.int .i64 pp) rfl (by kernel_rfl) (fun _ _ _ h=>h) (by rfl) (fun w hSw=>?_) hHeld ?_
   ·(try dsimp only at hSw)
    unfold oA5
    go_simp
   try simp only[oA5,Act.put,zA,zB,zC]
   refine tk 6 oA6 (.slice (some ⟨gs,0,none⟩) what.length cs) rfl (by kernel_rfl) (fun _ _ _ h=>h) (by rfl) (fun w hSw=>?_) hHeld ?_
   ·(try dsimp only at hSw)
    unfold oA6
    go_simp
   try simp only[oA6,Act.put,zA,zB,zC]
   refine tk 7 oA7 (.int .i64 k) rfl (by kernel_rfl) (fun _ _ _ h=>h) (by rfl) (fun w hSw=>?_) hHeld ?_
   ·(try dsimp only at hSw)
    unfold oA7
    go_simp
   try simp only[oA7,Act.put,zA,zB,zC]
   refine tk 8 oA8 (.pointer (some ⟨gs,k,none⟩)) rfl (by kernel_rfl) (fun _ _ _ h=>h) (by rfl) (fun w hSw=>?_) hHeld ?_
   ·(try dsimp only at hSw)
    unfold oA8
    go_simp
   try simp only[oA8,Act.put,zA,zB,zC]
   refine tk 9 oA9 (.int .i64 y2) rfl (by kernel_rfl) (fun _ _ _ h=>h) (by rfl) (fun w hSw=>?_) hHeld ?_
   ·(try dsimp only at hSw)
    unfold oA9
    go_simp
   try simp only[oA9,Act.put,zA,zB,zC]
   refine tk 10 oA10 (.slice (some ⟨gq,0,none⟩) what.length cq) rfl (by kernel_rfl) (fun _ _ _ h=>h) (by rfl) (fun w hSw=>?_) hHeld ?_
   ·(try dsimp only at hSw)
    unfold oA10
    go_simp
   try simp only[oA10,Act.put,zA,zB,zC]
   refine tk 11 oA11 (.int .i64 k) rfl (by kernel_rfl) (fun _ _ _ h=>h) (by rfl) (fun w hSw=>?_) hHeld ?_
   ·(try dsimp only at hSw)
    unfold oA11
    go_simp
   try simp only[oA11,Act.put,zA,zB,zC]
   refine tk 12 oA12 (.pointer (some ⟨gq,k,none⟩)) rfl (by kernel_rfl) (fun _ _ _ h=>h) (by rfl) (fun w hSw=>?_) hHeld ?_
   ·(try dsimp only at hSw)
    unfold oA12
    go_simp
   try simp only[oA12,Act.put,zA,zB,zC]
   refine tk 13 oA13 (.int .i64 y3) rfl (by kernel_rfl) (fun _ _ _ h=>h) (by rfl) (fun w hSw=>?_) hHeld ?_
   ·(try dsimp only at hSw)
    unfold oA13
    go_simp
   try simp only[oA13,Act.put,zA,zB,zC]
   refine tk 14 oA14 (.int .i64 (y2-y3)) rfl (by kernel_rfl) (fun _ _ _ h=>h) (by rfl) (fun w hSw=>?_) hHeld ?_
   ·(try dsimp only at hSw)
    unfold oA14
    go_simp
   try simp only[oA14,Act.put,zA,zB,zC]
   refine tk 15 oA15 (.agg #[.int .i64 y0,.int .i64 pp,.int .i64 (y2-y3)]) rfl (by kernel_rfl) (fun _ _ _ h=>h) (by rfl) (fun w hSw=>?_) hHeld ?_
   ·(try dsimp only at hSw)
    unfold oA15
    go_simp
   try simp only[oA15,Act.put,zA,zB,zC]
   refine wpAnyH_ready (rs:=[16]) (by kernel_rfl) (by simp) ?_
   refine AllReadyH.cons (o:=oA16) rfl (fun K hK=>?_) AllReadyH.nil
   unfold oA16
   go_simp
   refine hK.out _ _ K5 (fun hHeld=>?_)
   clear hK K
   try simp only[oA16,Act.put,zA,zB,zC]
   refine wpAnyH_ready (rs:=[17]) (by kernel_rfl) (by simp) ?_
   refine AllReadyH.cons (o:=oA17) rfl (fun K hK=>?_) AllReadyH.nil
   refine SLegs.step_cat3 _ (by rfl) _ _ (by rfl) w5.heap.size g ls.length c 1 ls [(y0,pp,y2-y3)] wr.heap.size 1 (by rfl) (by rfl) (by exact zu OG5) (by rfl) (by exact zu X5) (by omega) (by simp;omega) ?_
   intro g5 c5 w6 o5 gr5 loc5
   have O5:=zh o5
   have GR:=zh gr5
   have LOC:=zh loc5
   have K6:=And.intro (gr5.cell K5.1 ne1) (And.intro (gr5.cell K5.2.1 ne2) (gr5.cell K5.2.2 ne3))
   clear o5 gr5 loc5
   refine hK.out _ _ K6 (fun hHeld=>?_)
   clear hK K
   try simp only[oA17,Act.put,zA,zB,zC]
   refine tk 18 oA18 (.slice (some ⟨g5,0,none⟩) (ls.length+1) c5) rfl (by kernel_rfl) (fun _ _ _ h=>h) (by rfl) (fun w hSw=>?_) hHeld ?_
   ·(try dsimp only at hSw)
    unfold oA18
    go_simp
   try simp only[oA18,Act.put,zA,zB,zC]
   refine wpAnyH_done (by kernel_rfl) ?_ _
   clear K4 K5 K6 e0 e1 e2
   have B5:=zh (((zu HB).trans ((zu AO).mono wz1)).drew.grown (zu GR) (by simp;omega) (fun i e=>by injection e;omega))
   have g6:w5.heap.size≤g5:=by
    rcases zu LOC with e|e
    ·omega
    ·rw[e];simp;omega
   go_wp2
   go_roundw
   case rel=>exact⟨ls++[(y0,pp,y2-y3)],g5,c5,k+1,by rw[show(ls++[(y0,pp,y2-y3)]).length=ls.length+1 by simp],by go_num,by omega,zh (by rw[zu TN,zu HL]),zh (by have:=zu HLL;simp;omega),zh (by rw[show(ls++[(y0,pp,y2-y3)]).length=ls.length+1 by simp];exact zu O5),g6,B5⟩
   case measure=>simp[intOf];omega
  ·obtain rfl:k=who.length:=by omega
   have EL:=zh (show ls=legsW pp who (moreL ps what) from by
    rw[zu HL,List.take_length,List.take_of_length_le (by rw[moreL_len (zu WPL).1];have:=zu WPL;omega)])
   clear HL
   have WS2:IntKind.i64.wrap (hv-aq)=hv-aq:=by have:=qb.1;have:=qb.2;rw[IntKind.wrap_i64];omega
   have AO:=zh (one_more wr (.cells #[.int .i64 py,.int .i64 pp,.int .i64 (hv-aq)] 80))
   have OG5:=zh ((zu OL).alloc (.cells #[.int .i64 py,.int .i64 pp,.int .i64 (hv-aq)] 80))
   have X5:=zh (show At3 (wr.alloc (.cells #[.int .i64 py,.int .i64 pp,.int .i64 (hv-aq)] 80)) wr.heap.size [(py,pp,hv-aq)] from by
    intro i hi
    obtain rfl:i=0:=by simpa using hi
    simp[Holds3])
   have lsl:ls.length≤100:=by have:=zu HLL;omega
   go_wp2_with (first|(at_builtin;refine SFx.wp_cat3 _ rfl _ _ rfl w5.heap.size g ls.length c 1 ls [(py,pp,hv-aq)] wr.heap.size 1 rfl rfl (zu OG5) rfl (zu X5) (by omega) (by simp;omega) ?_)|go_in)
   intro g5 cL w6 o5 gr5
   obtain⟨l2,hl2⟩:∃l:List T3,Hid (ls++[(py,pp,hv-aq)]=l):=⟨_,rfl⟩
   have n2:ls.length+1=l2.length:=by rw[←zu hl2];simp
   rw[zu hl2] at o5
   rw[n2] at o5⊢
   have l2l:l2.length≤101:=by omega
   have EL2:=zh (show l2=legsS py pp hv aq who what ps from by rw[←zu hl2,zu EL];rfl)
   have B6:=zh (((zu HB).trans ((zu AO).mono wz1)).grown gr5 (by simp;omega) (fun i e=>by injection e;omega))
   have S5:=zh ((zu S4).step (zu B6))
   have OL6:=zh o5
   have LF:=zh (show Bals.Formed l2 from by rw[zu EL2];exact legsS_formed (zu TT).2.2.2.2 (zu TT).2.1 qb.1 qb.2 v0 v1 (zu WPL).1 (zu WPL).2 h20 (zu NO) (zu PB) (zu WB))
   have LE:=zh (show Bals.Even l2 from by rw[zu EL2];exact legsS_even (zu WPL).1 (zu WPL).2 (zu PT) (zu HVT).symm)
   have OA6:=zh ((zu OA4).below (zu B6) gwl)
   have OS6:=zh ((zu OS).at.below (zu B6) gsl)
   have gw6:gw<w6.heap.size:=Nat.lt_of_lt_of_le gwl (zu B6).size
   have gs6:gs<w6.heap.size:=Nat.lt_of_lt_of_le gsl (zu B6).size
   clear n2 hl2 o5 gr5 OG5 X5 AO OL HLL EL HB OA4 OC4 OS PB NO PT WB B6 lsl HVT
   obtain⟨c0,c1,c2,c3,c4,c5⟩:=(zu S5).c
   obtain⟨r0,r1,r2,r3,r4,r5,f0,f1,f2,f3,f4,f5⟩:=Box.all ((zu S5).v)
   go_wp2_with fail
   refine(SCopy.sCopy _ x (zu S5).r).mono ?_
   rintro e w8 ⟨zc,hzc,rfl,oz,bb⟩
   have S6:=zh ((zu S5).step bb)
   have OZ:=zh (oz.rebase (zu S5).b.size)
   have O3:=zh ((zu OL6).below bb (zu OL6).lt.2)
   have HZ:=zh hzc
   have OA8:=zh ((zu OA6).below bb gw6)
   have OS8:=zh ((zu OS6).below bb gs6)
   have gw8:gw<w8.heap.size:=Nat.lt_of_lt_of_le gw6 bb.size
   have gs8:gs<w8.heap.size:=Nat.lt_of_lt_of_le gs6 bb.size
   clear bb oz hzc OL6 OA6 OS6
   go_wp2_with fail
   refine(sPost w8 w.heap.size zc g5 cL l2 (zu OZ) (by rw[zu HZ];exact zu LI) (by rw[zu HZ];exact zu SM) (by omega) (zu O3).lt.2 (zu O3).at (zu LF) (zu LE)).mono ?_
   rintro e w7 ⟨y,k1,hpo,rfl,oy,bb⟩
   rw[zu HZ] at hpo
   have HP:=zh hpo
   rw[zu EL2] at HP
   have S7:=zh ((zu S6).step bb)
   have OA7:=zh ((zu OA8).below bb gw8)
   have OS7:=zh ((zu OS8).below bb gs8)
   have gw7:gw<w7.heap.size:=Nat.lt_of_lt_of_le gw8 bb.size
   have gs7:gs<w7.heap.size:=Nat.lt_of_lt_of_le gs8 bb.size
   have YL:=zh (show y.b.ls.length≤1048576 from by rw[posted_ls hpo];exact(zu SM).2.2.2.1)
   have OY0:=zh (oy.below (one_more w7 (.cells #[.slice (some ⟨y.ga,0,none⟩) y.b.ac.length y.ca,.slice (some ⟨y.gi,0,none⟩) y.b.ic.length y.ci,.slice (some ⟨y.gb,0,none⟩) y.b.bs.length y.cb,.slice (some ⟨y.gl,0,none⟩) y.b.ls.length y.cl,.slice (some ⟨y.gt,0,none⟩) y.b.ts.length y.ct,.int .i64 y.b.lot] 36)) (Nat.le_refl _))
   have s7l:=(zu S7).v.lt
   have BX0:=zh (Box.made (w:=w7) (base:=w.heap.size) (g:=w7.heap.size) (.slice (some ⟨y.ga,0,none⟩) y.b.ac.length y.ca) (.slice (some ⟨y.gi,0,none⟩) y.b.ic.length y.ci) (.slice (some ⟨y.gb,0,none⟩) y.b.bs.length y.cb) (.slice (some ⟨y.gl,0,none⟩) y.b.ls.length y.cl) (.slice (some ⟨y.gt,0,none⟩) y.b.ts.length y.ct) (.int .i64 y.b.lot) (by omega) rfl)
   have BW0:=zh (one_more w7 (.cells #[.slice (some ⟨y.ga,0,none⟩) y.b.ac.length y.ca,.slice (some ⟨y.gi,0,none⟩) y.b.ic.length y.ci,.slice (some ⟨y.gb,0,none⟩) y.b.bs.length y.cb,.slice (some ⟨y.gl,0,none⟩) y.b.ls.length y.cl,.slice (some ⟨y.gt,0,none⟩) y.b.ts.length y.ct,.int .i64 y.b.lot] 36))
   have IV0:=zh (Inv.start pp (who.zip ps) y.b.ls k1)
   clear bb hpo oy c0 c1 c2 c3 c4 c5 r0 r1 r2 r3 r4 r5 f0 f1 f2 f3 f4 f5 EL2 LF LE OZ O3 HZ S6 S5 OA8 OS8
   go_wp2
   go_loopw [27,28,29,30] (fun cv j _ _ wr=>∃(z:Bx) (cc:Int) (k:Nat),cv= .int .i64 cc∧j= .int .i64 k∧k≤who.length∧Hid (Inv pp (who.zip ps) y.b.ls k1 z.b.ls cc k)∧Hid (z.b={y.b with ls:=z.b.ls})∧Hid (Box wr w.heap.size w7.heap.size (.slice (some ⟨z.ga,0,none⟩) z.b.ac.length z.ca) (.slice (some ⟨z.gi,0,none⟩) z.b.ic.length z.ci) (.slice (some ⟨z.gb,0,none⟩) z.b.bs.length z.cb) (.slice (some ⟨z.gl,0,none⟩) z.b.ls.length z.cl) (.slice (some ⟨z.gt,0,none⟩) z.b.ts.length z.ct) (.int .i64 z.b.lot))∧Hid (Ow wr w.heap.size z)∧Hid (z.b.ls.length≤1048576)∧Hid (Below w7.heap.size w7 wr)) (fun _ j _ _ _=>who.length-(intOf j).toNat)
   case atStart=>exact⟨y,k1,0,rfl,rfl,by omega,IV0,zh rfl,BX0,OY0,YL,BW0⟩
   case round=>
    clear IV0 BX0 OY0 YL BW0
    obtain⟨z,cc,k,rfl,rfl,hk,IV,ZE,BX,OZ,ZL,BW⟩:=hrel
    have S9':=zh ((zu S7).step (zu BW))
    by_cases cz:cc=0
    ·subst cz
     obtain⟨kz,SA⟩:=Inv.zero (zu IV)
     have SA:=zh SA
     have KZ:=zh kz
     clear kz IV
     by_cases t:k<who.length
     ·have kp:k<ps.length:=by have:=zu WPL;omega
      have e0:=((zu OA7).below (zu BW) gw7) k t
      have e1:=((zu OS7).below (zu BW) gs7) k kp
      have TN:=zh (zip_next (k:=k) t kp)
      obtain⟨y0,hy0⟩:∃q,Hid (who.getD k 0=q):=⟨_,rfl⟩
      obtain⟨y2,hy2⟩:∃q,Hid (ps.getD k 0=q):=⟨_,rfl⟩
      rw[zu hy0] at e0 TN
      rw[zu hy2] at e1 TN
      clear hy0 hy2
      obtain⟨l1,dd,hsc⟩:=IsSc.of z.b.ls y0 pp y2
      obtain⟨R,ss,okS,bad,short,full,s1,s2,s3,s4,hR,hl1,hdd⟩:=id hsc
      have SC:=SScale.sScale wr.drew z.gl z.b.ls.length z.cl z.b.ls R ss okS y0 pp y2 bad short full rfl (zu ZL) ((zu OZ).below (Below.refl _ _).drew (Nat.le_refl _)).ol.lt.2 ((zu OZ).below (Below.refl _ _).drew (Nat.le_refl _)).ol.at s1 s2 s3 (zh s4) (zh hR)
      have LL:=zh (show l1.length≤1048576 from by have:=scaled_len (short:=short) (full:=full) s1 hR;rw[hl1];omega)
      rw[←hl1,←hdd] at SC
      have SC:=zh SC
      have HC:=zh hsc
      clear hsc s1 s2 s3 s4 hR hl1 hdd
      have d3:=(zu BX).c3
      have zlt:=(zu BX).lt
      have K4:=And.intro e0 (And.intro e1 d3)
      have i3:(k:Int)<(ps.length:Int):=by omega
      have i2b:(k:Int)<(what.length:Int):=by have:=zu WPL;omega
      have gwr:gw<wr.heap.size:=Nat.lt_of_lt_of_le gw7 (zu BW).size
      have gsr:gs<wr.heap.size:=Nat.lt_of_lt_of_le gs7 (zu BW).size
      go_wp2_with fail
      refine wp_region_held_drew (S:=(fun w'=>w'.cell? ⟨gw,k,none⟩=some (.int .i64 y0)∧w'.cell? ⟨gs,k,none⟩=some (.int .i64 y2)∧w'.cell? ⟨w7.heap.size,3,none⟩=some (.slice (some ⟨z.gl,0,none⟩) z.b.ls.length z.cl))) (by kernel_rfl) K4 (fun hHeld=>?_)
      refine tk 0 oB0 (.pointer (some ⟨w7.heap.size,3,none⟩)) rfl (by kernel_rfl) (fun _ _ _ h=>h) (by rfl) (fun w hSw=>?_) hHeld ?_
      ·(try dsimp only at hSw)
       unfold oB0
       go_simp
      try simp only[oB0,Act.put,zA,zB,zC]
      refine tk 1 oB1 (.slice (some ⟨z.gl,0,none⟩) z.b.ls.length z.cl) rfl (by kernel_rfl) (fun _ _ _ h=>h) (by rfl) (fun w hSw=>?_) hHeld ?_
      ·(try dsimp only at hSw)
       unfold oB1
       go_simp
      try simp only[oB1,Act.put,zA,zB,zC]
      refine tk 2 oB2 (.slice (some ⟨gw,0,none⟩) who.length cw) rfl (by kernel_rfl) (fun _ _ _ h=>h) (by rfl) (fun w hSw=>?_) hHeld ?_
      ·(try dsimp only at hSw)
       unfold oB2
       go_simp
      try simp only[oB2,Act.put,zA,zB,zC]
      refine tk 3 oB3 (.int .i64 k) rfl (by kernel_rfl) (fun _ _ _ h=>h) (by rfl) (fun w hSw=>?_) hHeld ?_
      ·(try dsimp only at hSw)
       unfold oB3
       go_simp
      try simp only[oB3,Act.put,zA,zB,zC]
      refine tk 4 oB4 (.pointer (some ⟨gw,k,none⟩)) rfl (by kernel_rfl) (fun _ _ _ h=>h) (by rfl) (fun w hSw=>?_) hHeld ?_
      ·(try dsimp only at hSw)
       unfold oB4
       go_simp
      try simp only[oB4,Act.put,zA,zB,zC]
      refine tk 5 oB5 (.int .i64 y0) rfl (by kernel_rfl) (fun _ _ _ h=>h) (by rfl) (fun w hSw=>?_) hHeld ?_
      ·(try dsimp only at hSw)
       unfold oB5
       go_simp
      try simp only[oB5,Act.put,zA,zB,zC]
      refine tk 6 oB6 (.int .i64 pp) rfl (by kernel_rfl) (fun _ _ _ h=>h) (by rfl) (fun w hSw=>?_) hHeld ?_
      ·(try dsimp only at hSw)
       unfold oB6
       go_simp
      try simp only[oB6,Act.put,zA,zB,zC]
      refine tk 7 oB7 (.slice (some ⟨gs,0,none⟩) what.length cs) rfl (by kernel_rfl) (fun _ _ _ h=>h) (by rfl) (fun w hSw=>?_) hHeld ?_
      ·(try dsimp only at hSw)
       unfold oB7
       go_simp
      try simp only[oB7,Act.put,zA,zB,zC]
      refine tk 8 oB8 (.int .i64 k) rfl (by kernel_rfl) (fun _ _ _ h=>h) (by rfl) (fun w hSw=>?_) hHeld ?_
      ·(try dsimp only at hSw)
       unfold oB8
       go_simp
      try simp only[oB8,Act.put,zA,zB,zC]
      refine tk 9 oB9 (.pointer (some ⟨gs,k,none⟩)) rfl (by kernel_rfl) (fun _ _ _ h=>h) (by rfl) (fun w hSw=>?_) hHeld ?_
      ·(try dsimp only at hSw)
       unfold oB9
       go_simp
      try simp only[oB9,Act.put,zA,zB,zC]
      refine tk 10 oB10 (.int .i64 y2) rfl (by kernel_rfl) (fun _ _ _ h=>h) (by rfl) (fun w hSw=>?_) hHeld ?_
      ·(try dsimp only at hSw)
       unfold oB10
       go_simp
      try simp only[oB10,Act.put,zA,zB,zC]
      refine wpAnyH_ready (rs:=[11]) (by kernel_rfl) (by simp) ?_
      refine AllReadyH.cons (o:=oB11) rfl (fun K hK=>?_) AllReadyH.nil
      unfold oB11
      go_simp
      go_wp2_with fail
      refine(zu SC).mono ?_
      rintro e u1 ⟨g2,k2,rfl,o2,bb⟩
      have bW:=zh (show Below wr.heap.size wr u1 from ILotsFit.below_of_drew bb)
      have O2:=zh o2
      have K5:=And.intro (((zu bW).cell (p:=⟨gw,k,none⟩) gwr).trans e0) (And.intro (((zu bW).cell (p:=⟨gs,k,none⟩) gsr).trans e1) (((zu bW).cell (p:=⟨w7.heap.size,3,none⟩) zlt.2).trans d3))
      clear bb o2
      go_wp2_with fail
      refine hK.out _ _ K5 (fun hHeld=>?_)
      clear hK K
      try simp only[oB11,Act.put,zA,zB,zC]
      refine tk 12 oB12 (.tuple #[.slice (some ⟨g2,0,none⟩) l1.length k2,.int .i64 dd]) rfl (by kernel_rfl) (fun _ _ _ h=>h) (by rfl) (fun w hSw=>?_) hHeld ?_
      ·(try dsimp only at hSw)
       unfold oB12
       go_simp
      try simp only[oB12,Act.put,zA,zB,zC]
      refine tk 13 oB13 (.slice (some ⟨g2,0,none⟩) l1.length k2) rfl (by kernel_rfl) (fun _ _ _ h=>h) (by rfl) (fun w hSw=>?_) hHeld ?_
      ·(try dsimp only at hSw)
       unfold oB13
       go_simp
      try simp only[oB13,Act.put,zA,zB,zC]
      refine tk 14 oB14 (.int .i64 dd) rfl (by kernel_rfl) (fun _ _ _ h=>h) (by rfl) (fun w hSw=>?_) hHeld ?_
      ·(try dsimp only at hSw)
       unfold oB14
       go_simp
      try simp only[oB14,Act.put,zA,zB,zC]
      refine tk 15 oB15 (.slice (some ⟨g2,0,none⟩) l1.length k2) rfl (by kernel_rfl) (fun _ _ _ h=>h) (by rfl) (fun w hSw=>?_) hHeld ?_
      ·(try dsimp only at hSw)
       unfold oB15
       go_simp
      try simp only[oB15,Act.put,zA,zB,zC]
      refine tk 16 oB16 (.int .i64 dd) rfl (by kernel_rfl) (fun _ _ _ h=>h) (by rfl) (fun w hSw=>?_) hHeld ?_
      ·(try dsimp only at hSw)
       unfold oB16
       go_simp
      try simp only[oB16,Act.put,zA,zB,zC]
      refine wpAnyH_done (by kernel_rfl) ?_ _
      clear K4 K5 e0 e1 d3 SC
      have BX1:=zh ((zu BX).below (zu bW) zlt.2)
      have OY2:=zh (ow_withL (lot:=z.b.lot) ((zu OZ).below (zu bW) (Nat.le_refl _)) ((zu O2).rebase (base':=w.heap.size) (by have h1q:=(zu O2).lt.1;have h2q:wr.drew.heap.size=wr.heap.size:=rfl;omega)))
      have F2:=zh (off_box (zu OY2) (zu BX1))
      have ZE2:=zh (congrArg (fun b:Bk=>{b with ls:=l1}) (zu ZE))
      have BW2:=zh (((zu BW).trans ((zu bW).mono (zu BW).size)).setCell (p:=⟨w7.heap.size,3,none⟩) (Nat.le_refl _) (.slice (some ⟨g2,0,none⟩) l1.length k2))
      have IV2:=zh (Inv.next (zu KZ) (zu SA) (zu HC) (zu TN))
      have x3:=(zu BX1).free 3
      have BX2:=zh ((zu BX1).set3 (.slice (some ⟨g2,0,none⟩) l1.length k2)).1
      have OY3:=zh (ow_set (zu OY2) (zu F2) 3 (.slice (some ⟨g2,0,none⟩) l1.length k2))
      clear SA HC TN BX OZ ZE BW O2 bW F2 BX1 OY2
      by_cases dz:dd=0
      ·subst dz
       have IV3:=zh (show Inv pp (who.zip ps) y.b.ls k1 l1 0 (k+1) from by have:=zu IV2;rwa [if_pos rfl] at this)
       clear IV2
       go_wp2
       go_roundw
       case rel=>exact⟨withL z g2 k2 l1 z.b.lot,0,k+1,rfl,by go_num,by omega,IV3,ZE2,BX2,OY3,LL,BW2⟩
       case measure=>simp[intOf];omega
      ·have db:(dd !=0)=true:=ne_true dz
       have IV3:=zh (show Inv pp (who.zip ps) y.b.ls k1 l1 7 (k+1) from by have:=zu IV2;rwa [if_neg dz] at this)
       clear IV2 dz
       go_wp2
       go_roundw
       case rel=>exact⟨withL z g2 k2 l1 z.b.lot,7,k+1,rfl,by go_num,by omega,IV3,ZE2,BX2,OY3,LL,BW2⟩
       case measure=>simp[intOf];omega
     ·obtain rfl:k=who.length:=by omega
      have IZ:=zh (show IsSplit x.b pp sn sd py z.b aq 0 from .inr (.inr ⟨zu NZ,zu NK,who,what,hv,true,zu IH,.inr (.inr ⟨rfl,zu HN,aq,ar,true,zu TL,.inr ⟨rfl,ps,zu ST,y.b,k1,zu HP,.inr ⟨zu KZ,z.b.ls,0,by have:=zu SA;rwa [List.take_of_length_le (by simp;omega)] at this,.inr ⟨rfl,zu ZE,rfl,rfl⟩⟩⟩⟩)⟩))
      have F7:=zh (off_box (zu OZ) (zu S9').v)
      have z0:=(zu BX).c0
      have z1:=(zu BX).c1
      have z2:=(zu BX).c2
      have z3:=(zu BX).c3
      have z4:=(zu BX).c4
      have z5:=(zu BX).c5
      clear NZ NK IH HP ST SA KZ ZE TL HN
      obtain⟨c0,c1,c2,c3,c4,c5⟩:=(zu S9').c
      obtain⟨r0,r1,r2,r3,r4,r5,f0,f1,f2,f3,f4,f5⟩:=Box.all ((zu S9').v)
      go_wp2
      refine to_wb (fun W=>Box W w.heap.size (w.heap.size+1) (.slice (some ⟨z.ga,0,none⟩) z.b.ac.length z.ca) (.slice (some ⟨z.gi,0,none⟩) z.b.ic.length z.ci) (.slice (some ⟨z.gb,0,none⟩) z.b.bs.length z.cb) (.slice (some ⟨z.gl,0,none⟩) z.b.ls.length z.cl) (.slice (some ⟨z.gt,0,none⟩) z.b.ts.length z.ct) (.int .i64 z.b.lot)∧Ow W w.heap.size z∧Below w.heap.size w W) ⟨(box_six (zu S9').v _ _ _ _ _ _).1,ow_six (zu OZ) (zu F7) _ _ _ _ _ _,six (zu S9').b (by omega) _ _ _ _ _ _⟩ ?_
      rintro W ⟨X,OW,B⟩
      have g0:=X.c0
      have g1:=X.c1
      have g2:=X.c2
      have g3:=X.c3
      have g4:=X.c4
      have g5:=X.c5
      exact bodyPost_ret (v:= .tuple #[.agg #[.slice (some ⟨z.ga,0,none⟩) z.b.ac.length z.ca,.slice (some ⟨z.gi,0,none⟩) z.b.ic.length z.ci,.slice (some ⟨z.gb,0,none⟩) z.b.bs.length z.cb,.slice (some ⟨z.gl,0,none⟩) z.b.ls.length z.cl,.slice (some ⟨z.gt,0,none⟩) z.b.ts.length z.ct,.int .i64 z.b.lot],.int .i64 aq,.int .i64 0]) (by simp[results,Tryz.results19,go_sem,g0,g1,g2,g3,g4,g5]) rfl (.inr ⟨zu TT,z,aq,0,zu IZ,rfl,OW,B⟩)
    ·have kb:(cc !=0)=true:=ne_true cz
     have ke:(cc==0)=false:=eq_false cz
     have IE:=zh (show IsSplit x.b pp sn sd py x.b 0 cc from .inr (.inr ⟨zu NZ,zu NK,who,what,hv,true,zu IH,.inr (.inr ⟨rfl,zu HN,aq,ar,true,zu TL,.inr ⟨rfl,ps,zu ST,y.b,k1,zu HP,by
      rcases Inv.other (zu IV) cz with⟨h,h'⟩|⟨h,h'⟩
      ·exact .inl ⟨h,rfl,rfl,h'⟩
      ·exact .inr ⟨h,z.b.ls,cc,h',.inl ⟨cz,rfl,rfl,rfl⟩⟩⟩⟩)⟩))
     clear NZ NK IH HP cz ST IV ZE BX OZ TL HN
     by_cases t:k<who.length
     all_goals
      obtain⟨c0,c1,c2,c3,c4,c5⟩:=(zu S9').c
      obtain⟨r0,r1,r2,r3,r4,r5,f0,f1,f2,f3,f4,f5⟩:=Box.all ((zu S9').v)
      go_wp2_with fail
      refine(SCopy.sCopy _ x (zu S9').r).mono ?_
      rintro e w8 ⟨z,hz,rfl,oz,bb⟩
      have S8:=zh ((zu S9').step bb)
      have OZ:=zh (oz.rebase (zu S9').b.size)
      have LZ:=zh (ow_lo oz)
      have zl:=(zu S9').v.lt.2
      have IZ:=zh (show IsSplit x.b pp sn sd py z.b 0 cc from by rw[hz];exact(zu IE))
      clear bb oz hz
      clear c0 c1 c2 c3 c4 c5 r0 r1 r2 r3 r4 r5 f0 f1 f2 f3 f4 f5
      obtain⟨c0,c1,c2,c3,c4,c5⟩:=(zu S8).c
      obtain⟨r0,r1,r2,r3,r4,r5,f0,f1,f2,f3,f4,f5⟩:=Box.all ((zu S8).v)
      go_wp2
      refine bodyPost_ret (v:= .tuple #[.agg #[.slice (some ⟨z.ga,0,none⟩) z.b.ac.length z.ca,.slice (some ⟨z.gi,0,none⟩) z.b.ic.length z.ci,.slice (some ⟨z.gb,0,none⟩) z.b.bs.length z.cb,.slice (some ⟨z.gl,0,none⟩) z.b.ls.length z.cl,.slice (some ⟨z.gt,0,none⟩) z.b.ts.length z.ct,.int .i64 z.b.lot],.int .i64 0,.int .i64 cc]) (by simp[results,Tryz.results19,go_sem,r0,r1,r2,r3,r4,r5]) rfl (.inr ⟨zu TT,z,0,cc,zu IZ,rfl,?_,?_⟩)
      ·exact ow_six (zu OZ) (off_lo (zu LZ) zl) _ _ _ _ _ _
      ·exact six (zu S8).b (by omega) _ _ _ _ _ _
end SSplitB
namespace IPostB
open BMem Bks ILists BHelp Ans ICopied ICmdB IHave SBk
open IBalsFit (one_more all_one)
open ITrade (at_new)
open Lots (Says says_of NoOk)
open Bals (T3)
open Tup5 (T5)
theorem iPostT(u:World)(z:Bx)(base g gL capL:Nat)(ls:List T3)(ok:Lists z.b)(sm:Small z.b)(V:Var u base g z)(O:Ow u (base+4) z)(hg:g<base+4)(hl:ls.length≤1048576)(hgL:gL<u.heap.size)(hL:Triples.At3 u gL ls)(hf:Bals.Formed ls)(he:Bals.Even ls):
  Calls Tryz.prog 48 #[.pointer (some ⟨g,0,none⟩),.slice (some ⟨gL,0,none⟩) ls.length capL] u fun e u'=>∃(y:Bx) (c:Int),IsPosted z.b ls y.b c∧e= .returned (.int .i64 c)∧Var u' base g y∧Ow u' (base+4) y∧u.grownBy u' (some g)∧y.gt=z.gt∧y.ct=z.ct:=by
 have PC:=zh (fun qs c (hp:Bals.IsPost z.b.bs ls (shortL z.b.ac) qs c)=>post_code hp ok.2.2.1 hf he (Nat.le_trans (short_len _) ok.1.1))
 have xl:(shortL z.b.ac).length≤1048576:=Nat.le_trans (short_len _) sm.1
 have na:=sm.1
 have nb:=sm.2.2.1
 have L0:=zh hL
 have S0:=zh (DW.start V O sm)
 have S1:=zh ((zu S0).step (one_more u (.cells #[] 3)))
 have O1:=zh (Shorts.lit0 u u.heap.size (Nat.le_refl _) rfl)
 have hb0:=O.oa.lt
 have hgu:=Box.lt V
 have d0:=(zu S1).v.c0
 have d2:=(zu S1).v.c2
 have z1:u.heap.size<(u.alloc (.cells #[] 3)).heap.size:=by simp
 clear ok V O hf he hL sm
 go_enter Tryz.func48,Tryz.ntmps48
 go_wp2
 generalize u.alloc (.cells #[] 3)=u1 at *
 clear d0 d2
 go_loopw [5,16] (fun l j wr=>∃(p:List Int) (g1 c1 k:Nat),l= .slice (some ⟨g1,0,none⟩) p.length c1∧j= .int .i64 k∧k≤z.b.ac.length∧p.length≤k∧Hid (p=shortL (z.b.ac.take k))∧Hid (Ints.Own wr u.heap.size g1 p.length c1 p)∧Hid (DW u wr z base g)) (fun _ j _=>z.b.ac.length-(intOf j).toNat)
 case atStart=>exact⟨[],u.heap.size,0,0,rfl,rfl,by omega,by simp,zh rfl,O1,S1⟩
 case round=>
  clear O1 S1
  obtain⟨p,g1,c1,k,rfl,rfl,hk,pl,HP,H1,S2⟩:=hrel
  have bs:=(zu S2).b.size
  by_cases t:k<z.b.ac.length
  ·obtain⟨e0,e1⟩:=(zu S2).r.ra k t
   have NP:=zh (short_next (ps:=z.b.ac) (k:=k) t)
   rw[←zu HP] at NP
   obtain⟨no,hno⟩:∃no,Hid ((z.b.ac.getD k (0,0)).1=no):=⟨_,rfl⟩
   obtain⟨kd,hkd⟩:∃kd,Hid ((z.b.ac.getD k (0,0)).2=kd):=⟨_,rfl⟩
   rw[zu hno] at e0
   rw[zu hkd] at e1
   have NQ:=zh (show shortL (z.b.ac.take (k+1))=p++(if kd=1 then[] else[no]) from by
    first|(rw[zu NP,←zu hno,←zu hkd];done)|(rw[zu NP,←zu hno,←zu hkd];rfl))
   clear NP hno hkd
   have S3:=zh ((zu S2).step (one_more wr (.cells #[.int .i64 no,.int .i64 kd] 92)))
   have H3:=zh (Shorts.own_alloc (zu H1) (.cells #[.int .i64 no,.int .i64 kd] 92))
   by_cases own:kd=1
   ·have NP1:Hid (shortL (z.b.ac.take (k+1))=p):=zh (by rw[zu NQ,if_pos own,List.append_nil])
    clear NQ
    subst own
    go_wp2
    go_roundw
    case rel=>exact⟨p,g1,c1,k+1,rfl,by go_num,by omega,by omega,zh (zu NP1).symm,H3,S3⟩
    case measure=>simp[intOf];omega
   ·have NP1:Hid (shortL (z.b.ac.take (k+1))=p++[no]):=zh (by rw[zu NQ,if_neg own])
    have ob:(kd !=1)=true:=by simpa using own
    clear NQ own
    go_wp2_with (first|(at_builtin;refine Shorts.wp_appI _ rfl _ _ rfl u.heap.size g1 p.length c1 p (wr.heap.size+1) no rfl rfl (Shorts.own_alloc (zu H3) _) (by simp) (by omega) (by simp;omega) ?_)|go_in)
    intro g5 c5 w5 o5 gr5 loc5
    have O5:=zh o5
    have S5:=zh (show DW u w5 z base g from by
     have l:=(zu H1).lt
     have s4:=(zu S3).step (one_more (wr.alloc (.cells #[.int .i64 no,.int .i64 kd] 92)) (.cells #[.int .i64 no] 3))
     have b5:Below u.heap.size u w5:=s4.b.grown gr5 (by simp;omega) (fun j hj=>by cases hj;exact l.1)
     have lz:=ow_up (zu S0).o
     exact⟨(zu S0).r.below b5,Box.below (zu S0).v b5 hgu.2,(zu S0).o.below b5 (Nat.le_refl _),b5⟩)
    clear o5 gr5 loc5
    go_wp2
    go_roundw
    case rel=>exact⟨p++[no],g5,c5,k+1,by rw[show(p++[no]).length=p.length+1 by simp],by go_num,by omega,by simp;omega,zh (zu NP1).symm,zh (by rw[show(p++[no]).length=p.length+1 by simp];exact zu O5),S5⟩
    case measure=>simp[intOf];omega
  ·obtain rfl:k=z.b.ac.length:=by omega
   have EP:=zh (show p=shortL z.b.ac by rw[zu HP,List.take_of_length_le (by omega)])
   have pl2:p.length≤1048576:=by omega
   clear HP
   have d2:=(zu S2).v.c2
   go_wp2_with fail
   refine(Post2.iBalsPost wr z.gb _ z.cb gL _ capL g1 _ c1 z.b.bs ls p rfl rfl rfl nb hl pl2 (zu S2).r.lb (Nat.lt_of_lt_of_le hgL (zu S2).b.size) (zu H1).lt.2 (zu S2).r.rb ((zu L0).below (zu S2).b hgL) (zu H1).at).mono ?_
   rintro e w3 ⟨qs,pc,g5,k5,hp,rfl,o5,bb⟩
   rw[zu EP] at hp
   have S3:=zh ((zu S2).step bb)
   have HP:=zh hp
   have O5:=zh o5
   have l5:=o5.lt
   clear bb hp o5 d2
   have e2:=(zu S3).v.c2
   have f2:=(zu S3).v.free 2
   rcases(zu PC) _ _ (zu HP) with rfl|rfl|rfl|rfl
   ·have OY:=zh (ow_withB (zu S3).o ((zu O5).rebase (base':=base+4) (by omega)))
    have UZ:=zh (ow_up (zu S0).o)
    go_wp2
    go_ret
    refine⟨withB z g5 k5 qs,0,⟨qs,0,zu HP,.inl ⟨rfl,rfl,rfl⟩⟩,rfl,(Box.set2 (zu S3).v _).1,?_,Pairs.grown_trans (zu S3).grown (Box.set2 (zu S3).v _).2,rfl,rfl⟩
    refine ow_set (zu OY) ?_ 2 _
    have LO:=ow_lo (zu S0).o
    unfold Lo at LO
    unfold Off
    simp
    omega
   ·go_wp2
    go_ret
    exact⟨z,5,⟨qs,3,zu HP,.inr (.inl ⟨rfl,rfl,rfl⟩)⟩,rfl,(zu S3).v,(zu S3).o,(zu S3).grown,rfl,rfl⟩
   ·go_wp2
    go_ret
    exact⟨z,8,⟨qs,4,zu HP,.inr (.inr (.inl ⟨rfl,rfl,rfl⟩))⟩,rfl,(zu S3).v,(zu S3).o,(zu S3).grown,rfl,rfl⟩
   ·go_wp2
    go_ret
    exact⟨z,7,⟨qs,5,zu HP,.inr (.inr (.inr ⟨rfl,rfl,rfl⟩))⟩,rfl,(zu S3).v,(zu S3).o,(zu S3).grown,rfl,rfl⟩
theorem iPost(u:World)(z:Bx)(base g gL capL:Nat)(ls:List T3)(ok:Lists z.b)(sm:Small z.b)(V:Var u base g z)(O:Ow u (base+4) z)(hg:g<base+4)(hl:ls.length≤1048576)(hgL:gL<u.heap.size)(hL:Triples.At3 u gL ls)(hf:Bals.Formed ls)(he:Bals.Even ls):
  Calls Tryz.prog 48 #[.pointer (some ⟨g,0,none⟩),.slice (some ⟨gL,0,none⟩) ls.length capL] u fun e u'=>∃(y:Bx) (c:Int),IsPosted z.b ls y.b c∧e= .returned (.int .i64 c)∧Var u' base g y∧Ow u' (base+4) y∧u.grownBy u' (some g):=
 (iPostT u z base g gL capL ls ok sm V O hg hl hgL hL hf he).mono (fun e u' ⟨y,c,h1,h2,h3,h4,h5,_⟩=>⟨y,c,h1,h2,h3,h4,h5⟩)
end IPostB
namespace ICmdW
open BMem Bks ILists BHelp Ans ICopied ICmdB
open Lots (Says says_of NoOk)
open ICmd (to_w)
structure Frm(u u':World)(base g:Nat):Prop where
 os:u'.os=u.os
 tape:u'.tape=u.tape
 output:u'.output=u.output
 size:u.heap.size≤u'.heap.size
 block:∀j,j<base+4→j≠g→u'.heap[j]?=u.heap[j]?
theorem Frm.refl(u:World)(base g:Nat):Frm u u base g:=⟨rfl,rfl,rfl,Nat.le_refl _,fun _ _ _=>rfl⟩
theorem Frm.trans{u v w:World}{base g:Nat}(h:Frm u v base g)(k:Frm v w base g):Frm u w base g:=
 ⟨k.os.trans h.os,k.tape.trans h.tape,k.output.trans h.output,Nat.le_trans h.size k.size,fun j hj hn=>(k.block j hj hn).trans (h.block j hj hn)⟩
theorem Frm.grown{u v:World}{base g r:Nat}(k:u.grownBy v (some r))(hr:r=g∨base+4≤r)(hs:base+4≤u.heap.size):Frm u v base g:=
 ⟨k.os,k.tape,k.output,k.size,fun j hj hn=>k.block j (by omega) (fun e=>by injection e;omega)⟩
theorem Frm.below{u v:World}{base g B:Nat}(k:Below B u v)(hB:base+4≤B):Frm u v base g:=
 ⟨k.os,k.tape,k.output,k.size,fun j hj hn=>k.block j (by omega)⟩
end ICmdW
namespace ICmdF
open BMem Bks ILists BHelp Ans ICopied ICmdB ICmdW
open SIssue (off_box)
open SMove (AnsM)
def Fin(told:Prop)(b:Bk)(P:Bk→Int→Int→Prop)(base:Nat)(a0 a1 a2 a3 a4:Option Addr)(n0 n1 n2 n3 n4 k0 k1 k2 k3 k4:Nat)(l:Int)(t c:Int)(W:World):Prop:=
 (¬told∧(a0=none∧n0=0∧k0=0∧a1=none∧n1=0∧k1=0∧a2=none∧n2=0∧k2=0∧a3=none∧n3=0∧k3=0∧a4=none∧n4=0∧k4=0∧l=0)∧t=0∧c=1)∨
 (told∧∃(z:Bx) (b':Bk) (t':Int),P b' t' c∧(a0=some ⟨z.ga,0,none⟩∧n0=z.b.ac.length∧k0=z.ca∧a1=some ⟨z.gi,0,none⟩∧n1=z.b.ic.length∧k1=z.ci∧a2=some ⟨z.gb,0,none⟩∧n2=z.b.bs.length∧k2=z.cb∧a3=some ⟨z.gl,0,none⟩∧n3=z.b.ls.length∧k3=z.cl∧a4=some ⟨z.gt,0,none⟩∧n4=z.b.ts.length∧k4=z.ct∧l=z.b.lot)∧((c=0∧z.b=b'∧t=t')∨(c≠0∧z.b=b∧t=0))∧Ow W base z)
section
variable {told:Prop} {b:Bk} {P:Bk→Int→Int→Prop} {base:Nat} {a0 a1 a2 a3 a4:Option Addr} {n0 n1 n2 n3 n4 k0 k1 k2 k3 k4:Nat} {l:Int} {t c:Int} {W W':World}
theorem Fin.map(h:Fin told b P base a0 a1 a2 a3 a4 n0 n1 n2 n3 n4 k0 k1 k2 k3 k4 l t c W)(f:∀z,Ow W base z→Ow W' base z):Fin told b P base a0 a1 a2 a3 a4 n0 n1 n2 n3 n4 k0 k1 k2 k3 k4 l t c W':=by
 rcases h with h|⟨h,z,b',t',h1,h2,h3,h4⟩
 ·exact .inl h
 ·exact .inr ⟨h,z,b',t',h1,h2,h3,f z h4⟩
theorem Fin.rebase{base':Nat}(h:Fin told b P base a0 a1 a2 a3 a4 n0 n1 n2 n3 n4 k0 k1 k2 k3 k4 l t c W)(hb:base'≤base):Fin told b P base' a0 a1 a2 a3 a4 n0 n1 n2 n3 n4 k0 k1 k2 k3 k4 l t c W:=by
 rcases h with h|⟨h,z,b',t',h1,h2,h3,h4⟩
 ·exact .inl h
 ·exact .inr ⟨h,z,b',t',h1,h2,h3,h4.rebase hb⟩
theorem Fin.alloc(h:Fin told b P base a0 a1 a2 a3 a4 n0 n1 n2 n3 n4 k0 k1 k2 k3 k4 l t c W)(o:Obj):Fin told b P base a0 a1 a2 a3 a4 n0 n1 n2 n3 n4 k0 k1 k2 k3 k4 l t c (W.alloc o):=h.map fun z O=>ow_alloc O o
theorem Fin.drew(h:Fin told b P base a0 a1 a2 a3 a4 n0 n1 n2 n3 n4 k0 k1 k2 k3 k4 l t c W):Fin told b P base a0 a1 a2 a3 a4 n0 n1 n2 n3 n4 k0 k1 k2 k3 k4 l t c W.drew:=h.map fun z O=>ow_drew O
theorem Fin.six{base' g:Nat}{v0 v1 v2 v3 v4 v5:Value}(h:Fin told b P base a0 a1 a2 a3 a4 n0 n1 n2 n3 n4 k0 k1 k2 k3 k4 l t c W)(B:Box W base' g v0 v1 v2 v3 v4 v5)(u0 u1 u2 u3 u4 u5:Value):Fin told b P base a0 a1 a2 a3 a4 n0 n1 n2 n3 n4 k0 k1 k2 k3 k4 l t c ((((((W.setCell ⟨g,0,none⟩ u0).setCell ⟨g,1,none⟩ u1).setCell ⟨g,2,none⟩ u2).setCell ⟨g,3,none⟩ u3).setCell ⟨g,4,none⟩ u4).setCell ⟨g,5,none⟩ u5):=
 h.map fun z O=>ow_six O (off_box O B) _ _ _ _ _ _
end
end ICmdF
namespace FxI
open BMem Bks ILists BHelp Ans ICopied ICmdB IHave SBk Trd Corp
open SIssue (posted_small ne_true ne_false eq_true eq_false)
open IBalsFit (one_more all_one St)
open ITrade (at_new)
open Lots (Says says_of NoOk)
open Bals (T3)
open Triples (Own3 At3)
open MulC (Tells)
def DoneP(Q:Bk→Int→Int→Prop)(b b':Bk)(t c:Int):Prop:=(c=0∧Q b' t 0)∨(c≠0∧Q b 0 c)
theorem DoneP.done{Q:Bk→Int→Int→Prop}{b b':Bk}{t:Int}(h:DoneP Q b b' t 0):Q b' t 0:=by
 rcases h with h|h
 ·exact h.2
 ·exact absurd rfl h.1
theorem DoneP.not{Q:Bk→Int→Int→Prop}{b b':Bk}{t c:Int}(h:DoneP Q b b' t c)(hc:c≠0):Q b 0 c:=by
 rcases h with h|h
 ·exact absurd h.1 hc
 ·exact h.2
def Keeps(base:Nat)(W W':World):Prop:=∀p,p<base→∀v,W.cell? ⟨p,0,none⟩=some v→W'.cell? ⟨p,0,none⟩=some v
theorem Keeps.below{base B:Nat}{W W':World}(k:Below B W W')(h:base≤B):Keeps base W W':=fun p hp v hv=>(k.cell (p:=⟨p,0,none⟩) (show p<B by omega)).trans hv
theorem Keeps.grown{base g:Nat}{W W':World}(k:W.grownBy W' (some g))(h:base≤g):Keeps base W W':=fun p hp v hv=>k.cell hv (fun e=>by injection e with e;have e':p=g:=e;omega)
def C7(W:World)(p1 p2 p3 p4 p5 p6 p7:Nat)(fx fy ff ft am nu de:Int):Prop:=W.cell? ⟨p1,0,none⟩=some (.int .i64 fx)∧W.cell? ⟨p2,0,none⟩=some (.int .i64 fy)∧W.cell? ⟨p3,0,none⟩=some (.int .i64 ff)∧W.cell? ⟨p4,0,none⟩=some (.int .i64 ft)∧W.cell? ⟨p5,0,none⟩=some (.int .i64 am)∧W.cell? ⟨p6,0,none⟩=some (.int .i64 nu)∧W.cell? ⟨p7,0,none⟩=some (.int .i64 de)
theorem C7.keep{base:Nat}{W W':World}{p1 p2 p3 p4 p5 p6 p7:Nat}{fx fy ff ft am nu de:Int}(h:C7 W p1 p2 p3 p4 p5 p6 p7 fx fy ff ft am nu de)(k:Keeps base W W')(l1:p1<base)(l2:p2<base)(l3:p3<base)(l4:p4<base)(l5:p5<base)(l6:p6<base)(l7:p7<base):C7 W' p1 p2 p3 p4 p5 p6 p7 fx fy ff ft am nu de:=
 ⟨k _ l1 _ h.1,k _ l2 _ h.2.1,k _ l3 _ h.2.2.1,k _ l4 _ h.2.2.2.1,k _ l5 _ h.2.2.2.2.1,k _ l6 _ h.2.2.2.2.2.1,k _ l7 _ h.2.2.2.2.2.2⟩
end FxI
namespace ScaleI
open BMem Bks ILists BHelp Ans ICopied ICmdB IHave SBk SHeld Pay Split SplitP ITakeBk
open Concat5 (OwnV)
open SIssue (ne_true ne_false)
open IBalsFit (one_more)
open Lots (Says says_of NoOk)
open Tup5 (T5)
open SSplitB (zip_next scaled_len)
def lotsOf(y:Bx)(ls:List T5):Bx:={y with b:={y.b with ls:=ls}}
theorem slice_of{w:World}{base:Nat}{v:Value}{ls:List T5}(h:OwnV 123 w base v ls):∃ao k,v= .slice ao ls.length k:=by
 rcases h.cases with⟨rfl,rfl⟩|⟨g,c,rfl,_⟩
 ·exact⟨none,0,rfl⟩
 ·exact⟨_,c,rfl⟩
theorem cap_ok{w:World}{base g n c:Nat}{ls:List T5}(h:Tup5.Own5 123 w base g n c ls):n≤c:=by
 rcases h.2 with⟨z,_⟩|⟨g',c',cur,z,hb,hc,h1,_⟩
 ·simp at z
 ·obtain⟨rfl,rfl⟩:g=g'∧c=c':=by simpa using z
  exact h1
theorem ow_lots{W W':World}{base base' g:Nat}{y:Bx}{ls l1:List T5}{v v1 a0 a1 a2 a3 a4 a5:Value}(h:OwL W base (lotsOf y ls) v)(o:OwnV 123 W base v1 l1)(k:W.grownBy W' (some g))(B:Box W base' g a0 a1 a2 a3 a4 a5)(nv:v1.ownBlock≠some g):OwL W' base (lotsOf y l1) v1:=
 ⟨h.oa.kept k (fun e=>by injection e with e;exact SIssue.row_ne h.oa B (by decide) e),h.oi.kept k (fun e=>by injection e with e;exact SIssue.row_ne h.oi B (by decide) e),h.ob.kept k (fun e=>by injection e with e;exact SIssue.row_ne h.ob B (by decide) e),o.kept k (fun g' hg e=>nv (by rw[hg,←e])),h.ot.kept k (fun e=>by injection e with e;exact SIssue.row_ne h.ot B (by decide) e)⟩
abbrev oL0:Oper:={dst:=some 21,op:=Go.Op.move (Go.Operand.tmp 0),type:=75,pos:= "l09_corp.go:153",after:= #[],guard:=none}
abbrev oL1:Oper:={dst:=some 22,op:=Go.Op.nilCheck (Go.Operand.tmp 21),type:=0,pos:= "l09_corp.go:153",after:= #[{on:=0,ground:=Go.Ground.data}],guard:=none}
abbrev oL2:Oper:={dst:=some 23,op:=Go.Op.fieldAddr 36 (Go.Operand.tmp 22) 3,type:=0,pos:= "l09_corp.go:153",after:= #[{on:=1,ground:=Go.Ground.data}],guard:=none}
abbrev oL3:Oper:={dst:=some 24,op:=Go.Op.load 33 (Go.Operand.tmp 23),type:=33,pos:= "l09_corp.go:153",after:= #[{on:=2,ground:=Go.Ground.data}],guard:=none}
abbrev oL4:Oper:={dst:=some 25,op:=Go.Op.move (Go.Operand.tmp 10),type:=3,pos:= "l09_corp.go:153",after:= #[],guard:=none}
abbrev oL5:Oper:={dst:=some 26,op:=Go.Op.move (Go.Operand.tmp 1),type:=3,pos:= "l09_corp.go:153",after:= #[],guard:=none}
abbrev oL6:Oper:={dst:=some 27,op:=Go.Op.move (Go.Operand.tmp 3),type:=43,pos:= "l09_corp.go:153",after:= #[],guard:=none}
abbrev oL7:Oper:={dst:=some 28,op:=Go.Op.move (Go.Operand.tmp 9),type:=3,pos:= "l09_corp.go:153",after:= #[],guard:=none}
abbrev oL8:Oper:={dst:=some 29,op:=Go.Op.indexAddr 43 (Go.Operand.tmp 27) (Go.Operand.tmp 28),type:=0,pos:= "l09_corp.go:153",after:= #[{on:=6,ground:=Go.Ground.data},{on:=7,ground:=Go.Ground.data}],guard:=none}
abbrev oL9:Oper:={dst:=some 30,op:=Go.Op.load 3 (Go.Operand.tmp 29),type:=3,pos:= "l09_corp.go:153",after:= #[{on:=8,ground:=Go.Ground.data}],guard:=none}
abbrev oL10:Oper:={dst:=some 31,op:=Go.Op.call {callee:=Go.Callee.value (Go.Operand.func 166),args:= #[Go.Operand.tmp 24,Go.Operand.tmp 25,Go.Operand.tmp 26,Go.Operand.tmp 30],argTypes:= #[33,3,3,3]},type:=100,pos:= "l09_corp.go:153",after:= #[{on:=3,ground:=Go.Ground.data},{on:=4,ground:=Go.Ground.data},{on:=5,ground:=Go.Ground.data},{on:=9,ground:=Go.Ground.data}],guard:=none}
abbrev oL11:Oper:={dst:=some 20,op:=Go.Op.move (Go.Operand.tmp 31),type:=100,pos:= "l09_corp.go:153",after:= #[{on:=10,ground:=Go.Ground.data}],guard:=none}
abbrev oL12:Oper:={dst:=some 32,op:=Go.Op.extract (Go.Operand.tmp 20) 0,type:=33,pos:= "l09_corp.go:153",after:= #[{on:=11,ground:=Go.Ground.data}],guard:=none}
abbrev oL13:Oper:={dst:=some 33,op:=Go.Op.extract (Go.Operand.tmp 20) 1,type:=3,pos:= "l09_corp.go:153",after:= #[{on:=11,ground:=Go.Ground.data},{on:=14,ground:=Go.Ground.gcOnly Go.Departure.lateStores}],guard:=none}
abbrev oL14:Oper:={dst:=some 11,op:=Go.Op.assign (Go.Operand.tmp 32),type:=33,pos:= "l09_corp.go:153",after:= #[{on:=12,ground:=Go.Ground.data},{on:=10,ground:=Go.Ground.chain},{on:=0,ground:=Go.Ground.phase},{on:=1,ground:=Go.Ground.phase},{on:=2,ground:=Go.Ground.phase},{on:=3,ground:=Go.Ground.phase},{on:=4,ground:=Go.Ground.phase},{on:=5,ground:=Go.Ground.phase},{on:=6,ground:=Go.Ground.phase},{on:=7,ground:=Go.Ground.phase},{on:=8,ground:=Go.Ground.phase},{on:=9,ground:=Go.Ground.phase},{on:=10,ground:=Go.Ground.phase},{on:=11,ground:=Go.Ground.phase},{on:=12,ground:=Go.Ground.phase},{on:=13,ground:=Go.Ground.textOnly Go.Departure.lateStores}],guard:=none}
abbrev oL15:Oper:={dst:=some 12,op:=Go.Op.assign (Go.Operand.tmp 33),type:=3,pos:= "l09_corp.go:153",after:= #[{on:=13,ground:=Go.Ground.data},{on:=14,ground:=Go.Ground.chain},{on:=0,ground:=Go.Ground.phase},{on:=1,ground:=Go.Ground.phase},{on:=2,ground:=Go.Ground.phase},{on:=3,ground:=Go.Ground.phase},{on:=4,ground:=Go.Ground.phase},{on:=5,ground:=Go.Ground.phase},{on:=6,ground:=Go.Ground.phase},{on:=7,ground:=Go.Ground.phase},{on:=8,ground:=Go.Ground.phase},{on:=9,ground:=Go.Ground.phase},{on:=10,ground:=Go.Ground.phase},{on:=11,ground:=Go.Ground.phase},{on:=12,ground:=Go.Ground.phase},{on:=13,ground:=Go.Ground.phase},{on:=14,ground:=Go.Ground.phase}],guard:=none}
theorem iScaleAll(u:World)(y:Bx)(base g gw cw gs cs n:Nat)(pp:Int)(who ps:List Int)(hn:n≤20)(l1:who.length=n)(l2:ps.length=n)(V:Var u base g y)(O:Ow u (base+4) y)(hg:g<base+4)(hw:gw<u.heap.size)(hs:gs<u.heap.size)(nw:gw≠g)(ns:gs≠g)(aw:Ints.At u gw who)(as':Ints.At u gs ps)(sm:y.b.ls.length≤1048576)(has:∀j,j<n→Has y.b.ls (who.getD j 0) pp)(ne:∀j k,j<n→k<j→who.getD k 0≠who.getD j 0):
  Calls Tryz.prog 132 #[.pointer (some ⟨g,0,none⟩),.int .i64 pp,.slice (some ⟨gw,0,none⟩) n cw,.slice (some ⟨gs,0,none⟩) n cs] u fun e u'=>∃(ls:List T5) (c:Int),ScAll pp (who.zip ps) y.b.ls ls c∧e= .returned (.int .i64 c)∧((c=0∧∃v,VarL u' base g (lotsOf y ls) v∧OwL u' (base+4) (lotsOf y ls) v)∨(c≠0∧AnyBox u' base g))∧u.grownBy u' (some g):=by
 have N1:=zh l1
 have N2:=zh l2
 have HS:=zh has
 have NE:=zh ne
 have gl0:=(Box.lt V).2
 have V0:=zh (show VarL u base g (lotsOf y y.b.ls) (.slice (some ⟨y.gl,0,none⟩) y.b.ls.length y.cl) from V)
 have O0:=zh (show OwL u (base+4) (lotsOf y y.b.ls) (.slice (some ⟨y.gl,0,none⟩) y.b.ls.length y.cl) from OwL.of O)
 have AW:=zh aw
 have AS:=zh as'
 have SM:=zh sm
 clear l1 l2 has ne V O aw as' sm
 go_enter Tryz.func132,Tryz.ntmps132
 go_wp2
 go_loopw [15] (fun j wr=>∃(ls:List T5) (v:Value) (k:Nat),j= .int .i64 k∧k≤n∧Hid (ScAll pp ((who.zip ps).take k) y.b.ls ls 0)∧Hid (VarL wr base g (lotsOf y ls) v)∧Hid (OwL wr (base+4) (lotsOf y ls) v)∧Hid (ls.length≤1048576)∧Hid (∀i,k≤i→i<n→Has ls (who.getD i 0) pp)∧Hid (Ints.At wr gw who)∧Hid (Ints.At wr gs ps)∧Hid (u.grownBy wr (some g))) (fun j _=>n-(intOf j).toNat)
 case atStart=>exact⟨y.b.ls,_,0,rfl,by omega,zh ⟨rfl,rfl⟩,V0,O0,SM,zh (fun i _ hi=>(zu HS) i hi),AW,AS,zh (below_grown (Below.refl _ _))⟩
 case round=>
  clear V0 O0 SM AW AS
  obtain⟨ls,v,k,rfl,hk,SA,VV,OV,LL,HH,AW,AS,GR⟩:=hrel
  have gsz:=(zu GR).size
  by_cases t:k<n
  ·obtain⟨g1,c1,rfl,o1⟩:∃g1 c1,v= .slice (some ⟨g1,0,none⟩) ls.length c1∧Tup5.Own5 123 wr (base+4) g1 ls.length c1 ls:=by
    rcases(zu OV).ol.cases with⟨_,h⟩|⟨g1,c1,h,o⟩
    ·exact absurd h (has_ne ((zu HH) k (Nat.le_refl _) t))
    ·exact⟨g1,c1,h,o⟩
   have e0:=(zu AW) k (by rw[zu N1];exact t)
   have e1:=(zu AS) k (by rw[zu N2];exact t)
   have TN:=zh (zip_next (xs:=who) (ys:=ps) (k:=k) (by rw[zu N1];exact t) (by rw[zu N2];exact t))
   have WN:=zh (fun i (hi:k<i) (hn':i<n)=>(zu NE) i k hn' hi)
   obtain⟨y0,hy0⟩:∃q,Hid (who.getD k 0=q):=⟨_,rfl⟩
   obtain⟨y2,hy2⟩:∃q,Hid (ps.getD k 0=q):=⟨_,rfl⟩
   rw[zu hy0] at e0 TN WN
   rw[zu hy2] at e1 TN
   clear hy0 hy2
   obtain⟨l1,dd,hsc⟩:=IsSc.of ls y0 pp y2
   obtain⟨R,ss,okS,bad,short,full,s1,s2,s3,s4,hR,hl1,hdd⟩:=id hsc
   have o1d:Tup5.Own5 123 wr.drew (base+4) g1 ls.length c1 ls:=o1.below (Below.refl wr.heap.size wr).drew o1.lt.2
   have SC:=IScale2.iScale wr.drew g1 ls.length c1 ls R ss okS y0 pp y2 bad short full rfl (zu LL) (cap_ok o1) o1d.lt.2 o1d.at s1 s2 s3 (zh s4) (zh hR)
   have LN:=zh (show l1.length≤1048576 from by have:=scaled_len (short:=short) (full:=full) s1 hR;rw[hl1];omega)
   rw[←hl1,←hdd] at SC
   have SC:=zh SC
   have HC:=zh hsc
   clear hsc s1 s2 s3 s4 hR hl1 hdd o1d
   have d3:=(zu VV).c3
   have gl:=(Box.lt (zu VV)).2
   have gsr:gs<wr.heap.size:=by omega
   have gwr:gw<wr.heap.size:=by omega
   have K4:=And.intro d3 e1
   have i3:(k:Int)<(n:Int):=by omega
   clear d3 e1
   go_wp2_with fail
   refine wp_region_held_drew (S:=(fun w'=>w'.cell? ⟨g,3,none⟩=some (.slice (some ⟨g1,0,none⟩) ls.length c1)∧w'.cell? ⟨gs,k,none⟩=some (.int .i64 y2))) (by kernel_rfl) K4 (fun hHeld=>?_)
   refine tk 0 oL0 (.pointer (some ⟨g,0,none⟩)) rfl (by kernel_rfl) (fun _ _ _ h=>h) (by rfl) (fun w hSw=>?_) hHeld ?_
   ·(try dsimp only at hSw)
    unfold oL0
    go_simp
   try simp only[oL0,Act.put,zA,zB,zC]
   refine tk 1 oL1 (.pointer (some ⟨g,0,none⟩)) rfl (by kernel_rfl) (fun _ _ _ h=>h) (by rfl) (fun w hSw=>?_) hHeld ?_
   ·(try dsimp only at hSw)
    unfold oL1
    go_simp
   try simp only[oL1,Act.put,zA,zB,zC]
   refine tk 2 oL2 (.pointer (some ⟨g,3,none⟩)) rfl (by kernel_rfl) (fun _ _ _ h=>h) (by rfl) (fun w hSw=>?_) hHeld ?_
   ·(try dsimp only at hSw)
    unfold oL2
    go_simp
   try simp only[oL2,Act.put,zA,zB,zC]
   refine tk 3 oL3 (.slice (some ⟨g1,0,none⟩) ls.length c1) rfl (by kernel_rfl) (fun _ _ _ h=>h) (by rfl) (fun w hSw=>?_) hHeld ?_
   ·(try dsimp only at hSw)
    unfold oL3
    go_simp
   try simp only[oL3,Act.put,zA,zB,zC]
   refine tk 4 oL4 (.int .i64 y0) rfl (by kernel_rfl) (fun _ _ _ h=>h) (by rfl) (fun w hSw=>?_) hHeld ?_
   ·(try dsimp only at hSw)
    unfold oL4
    go_simp
   try simp only[oL4,Act.put,zA,zB,zC]
   refine tk 5 oL5 (.int .i64 pp) rfl (by kernel_rfl) (fun _ _ _ h=>h) (by rfl) (fun w hSw=>?_) hHeld ?_
   ·(try dsimp only at hSw)
    unfold oL5
    go_simp
   try simp only[oL5,Act.put,zA,zB,zC]
   refine tk 6 oL6 (.slice (some ⟨gs,0,none⟩) n cs) rfl (by kernel_rfl) (fun _ _ _ h=>h) (by rfl) (fun w hSw=>?_) hHeld ?_
   ·(try dsimp only at hSw)
    unfold oL6
    go_simp
   try simp only[oL6,Act.put,zA,zB,zC]
   refine tk 7 oL7 (.int .i64 k) rfl (by kernel_rfl) (fun _ _ _ h=>h) (by rfl) (fun w hSw=>?_) hHeld ?_
   ·(try dsimp only at hSw)
    unfold oL7
    go_simp
   try simp only[oL7,Act.put,zA,zB,zC]
   refine tk 8 oL8 (.pointer (some ⟨gs,k,none⟩)) rfl (by kernel_rfl) (fun _ _ _ h=>h) (by rfl) (fun w hSw=>?_) hHeld ?_
   ·(try dsimp only at hSw)
    unfold oL8
    go_simp
   try simp only[oL8,Act.put,zA,zB,zC]
   refine tk 9 oL9 (.int .i64 y2) rfl (by kernel_rfl) (fun _ _ _ h=>h) (by rfl) (fun w hSw=>?_) hHeld ?_
   ·(try dsimp only at hSw)
    unfold oL9
    go_simp
   try simp only[oL9,Act.put,zA,zB,zC]
   refine wpAnyH_ready (rs:=[10]) (by kernel_rfl) (by simp) ?_
   refine AllReadyH.cons (o:=oL10) rfl (fun K hK=>?_) AllReadyH.nil
   unfold oL10
   go_simp
   go_wp2_with fail
   refine(zu SC).mono ?_
   rintro e u1 ⟨v1,rfl,o2,bb⟩
   have bW:=zh (show Below wr.heap.size wr u1 from ILotsFit.below_of_drew bb)
   have O2:=zh (show OwnV 123 u1 wr.heap.size v1 l1 from o2)
   have K5:=And.intro (((zu bW).cell (p:=⟨g,3,none⟩) gl).trans K4.1) (((zu bW).cell (p:=⟨gs,k,none⟩) gsr).trans K4.2)
   clear bb o2
   go_wp2_with fail
   refine hK.out _ _ K5 (fun hHeld=>?_)
   clear hK K
   try simp only[oL10,Act.put,zA,zB,zC]
   refine tk 11 oL11 (.tuple #[v1,.int .i64 dd]) rfl (by kernel_rfl) (fun _ _ _ h=>h) (by rfl) (fun w hSw=>?_) hHeld ?_
   ·(try dsimp only at hSw)
    unfold oL11
    go_simp
   try simp only[oL11,Act.put,zA,zB,zC]
   refine tk 12 oL12 v1 rfl (by kernel_rfl) (fun _ _ _ h=>h) (by rfl) (fun w hSw=>?_) hHeld ?_
   ·(try dsimp only at hSw)
    unfold oL12
    go_simp
   try simp only[oL12,Act.put,zA,zB,zC]
   refine tk 13 oL13 (.int .i64 dd) rfl (by kernel_rfl) (fun _ _ _ h=>h) (by rfl) (fun w hSw=>?_) hHeld ?_
   ·(try dsimp only at hSw)
    unfold oL13
    go_simp
   try simp only[oL13,Act.put,zA,zB,zC]
   refine tk 14 oL14 v1 rfl (by kernel_rfl) (fun _ _ _ h=>h) (by rfl) (fun w hSw=>?_) hHeld ?_
   ·(try dsimp only at hSw)
    unfold oL14
    go_simp
   try simp only[oL14,Act.put,zA,zB,zC]
   refine tk 15 oL15 (.int .i64 dd) rfl (by kernel_rfl) (fun _ _ _ h=>h) (by rfl) (fun w hSw=>?_) hHeld ?_
   ·(try dsimp only at hSw)
    unfold oL15
    go_simp
   try simp only[oL15,Act.put,zA,zB,zC]
   refine wpAnyH_done (by kernel_rfl) ?_ _
   clear K4 K5 SC e0
   have VV1:=zh (Box.below (zu VV) (zu bW) gl)
   have OV1:=zh ((zu OV).below (zu bW) (Nat.le_refl _))
   have AW1:=zh ((zu AW).below (zu bW) gwr)
   have AS1:=zh ((zu AS).below (zu bW) gsr)
   have GR1:=zh (Pairs.grown_trans (zu GR) (below_grown (zu bW)))
   have x3:=(zu VV1).free 3
   have x3c:=(zu VV1).c3
   obtain⟨ao,kk,hv1⟩:=slice_of (zu O2)
   have gg:=(Box.lt (zu VV1)).1
   by_cases dz:dd=0
   ·subst dz
    have SA2:=zh (show ScAll pp ((who.zip ps).take (k+1)) y.b.ls l1 0 from by
     rw[zu TN]
     have:=ScAll.more (zu SA) (p:=(y0,y2)) (zu HC)
     rwa [if_pos rfl] at this)
    have HH2:=zh (show ∀i,k+1≤i→i<n→Has l1 (who.getD i 0) pp from fun i h1 h2=>has_next (zu HC) ((zu HH) i (by omega) h2) (fun e=>(zu WN) i (by omega) h2 e.symm))
    have g3:=zh (Box.set3 (zu VV1) v1)
    have nv:v1.ownBlock≠some g:=fun e=>by
     have:=(zu O2).lt g e
     omega
    have OV2:=zh (show OwL (u1.setCell ⟨g,3,none⟩ v1) (base+4) (lotsOf y l1) v1 from ow_lots (zu OV1) ((zu O2).rebase (by have:=(zu OV).oa.lt;omega)) (zu g3).2 (zu VV1) nv)
    have AW2:=zh (show Ints.At (u1.setCell ⟨g,3,none⟩ v1) gw who from fun i hi=>(zu g3).2.cell ((zu AW1) i hi) (fun e=>by injection e with e;exact nw e))
    have AS2:=zh (show Ints.At (u1.setCell ⟨g,3,none⟩ v1) gs ps from fun i hi=>(zu g3).2.cell ((zu AS1) i hi) (fun e=>by injection e with e;exact ns e))
    have GR2:=zh (Pairs.grown_trans (zu GR1) (zu g3).2)
    have VV2:=zh (show VarL (u1.setCell ⟨g,3,none⟩ v1) base g (lotsOf y l1) v1 from(zu g3).1)
    subst hv1
    clear SA HC TN VV OV AW AS GR VV1 OV1 AW1 AS1 GR1 O2 bW g3 HH WN nv
    go_wp2
    go_roundw
    case rel=>exact⟨l1,_,k+1,by go_num,by omega,SA2,VV2,OV2,LN,HH2,AW2,AS2,GR2⟩
    case measure=>simp[intOf];omega
   ·have db:(dd !=0)=true:=ne_true dz
    have SA2:=zh (show ScAll pp (who.zip ps) y.b.ls l1 7 from by
     have h1:ScAll pp ((who.zip ps).take (k+1)) y.b.ls l1 7:=by
      rw[zu TN]
      have:=ScAll.more (zu SA) (p:=(y0,y2)) (zu HC)
      rwa [if_neg dz] at this
     have:=ScAll.stop (s:=(who.zip ps).drop (k+1)) h1
     rwa [List.take_append_drop] at this)
    have VA:=zh (VarL.any (zu VV1))
    clear dz
    go_wp2
    go_ret
    exact⟨l1,7,zu SA2,rfl,.inr ⟨by omega,zu VA⟩,zu GR1⟩
  ·obtain rfl:k=n:=by omega
   have SA2:=zh (show ScAll pp (who.zip ps) y.b.ls ls 0 from by
    have:=zu SA
    rwa [List.take_of_length_le (by rw[List.length_zip,zu N1,zu N2];omega)] at this)
   clear SA
   go_wp2
   go_ret
   exact⟨ls,0,zu SA2,rfl,.inl ⟨rfl,v,zu VV,zu OV⟩,zu GR⟩
end ScaleI
namespace ICmdV
open BMem Bks ILists BHelp Ans ICopied ICmdB ITakeBk ScaleI
open Lots (Says says_of NoOk)
open Concat5 (OwnV)
open ICmd (to_w)
open SMove (AnsM)
def DoesV(P:Bk→Int→Int→Prop)(base g:Nat)(u:World)(e:Ending)(u':World):Prop:=
 ∃(b':Bk) (t c:Int),P b' t c∧e= .returned (.tuple #[.int .i64 t,.int .i64 c])∧((c=0∧∃z vv,z.b=b'∧VarL u' base g z vv∧OwL u' (base+4) z vv)∨(c≠0∧AnyBox u' base g))∧u.grownBy u' (some g)
def AnsCV(told:Prop)(b:Bk)(P:Bk→Int→Int→Prop)(w:World)(e:Ending)(w':World):Prop:=
 (¬told∧e= .returned (.tuple #[.agg #[.slice none 0 0,.slice none 0 0,.slice none 0 0,.slice none 0 0,.slice none 0 0,.int .i64 0],.int .i64 0,.int .i64 1])∧Below w.heap.size w w')∨
 (told∧∃(b':Bk) (t c:Int) (z:Bx) (vv:Value),P b' t c∧((c=0∧z.b=b'∧e= .returned (.tuple #[.agg #[.slice (some ⟨z.ga,0,none⟩) z.b.ac.length z.ca,.slice (some ⟨z.gi,0,none⟩) z.b.ic.length z.ci,.slice (some ⟨z.gb,0,none⟩) z.b.bs.length z.cb,vv,.slice (some ⟨z.gt,0,none⟩) z.b.ts.length z.ct,.int .i64 z.b.lot],.int .i64 t,.int .i64 c]))∨(c≠0∧z.b=b∧e= .returned (.tuple #[.agg #[.slice (some ⟨z.ga,0,none⟩) z.b.ac.length z.ca,.slice (some ⟨z.gi,0,none⟩) z.b.ic.length z.ci,.slice (some ⟨z.gb,0,none⟩) z.b.bs.length z.cb,vv,.slice (some ⟨z.gt,0,none⟩) z.b.ts.length z.ct,.int .i64 z.b.lot],.int .i64 0,.int .i64 c])))∧OwL w' w.heap.size z vv∧Below w.heap.size w w')
theorem row_keptK{W W':World}{base base':Nat}{e:TypeId}{size n:Nat}{v:Value}{xs:List Value}(h:W.ownsRow base e size v n xs)(k:Kept base W W')(hb:base'≤base):W'.ownsRow base' e size v n xs:=by
 refine⟨h.1,?_⟩
 rcases h.2 with z|⟨g,c,cur,z,hb',hc,r⟩
 ·exact .inl z
 ·exact .inr ⟨g,c,cur,z,by omega,(k.2 g hb' (Array.getElem?_eq_some_iff.1 hc).1).trans hc,r⟩
theorem owL_kept{W W':World}{base base':Nat}{z:Bx}{v:Value}(h:OwL W base z v)(k:Kept base W W')(hb:base'≤base):OwL W' base' z v:=
 ⟨row_keptK h.oa k hb,row_keptK h.oi k hb,row_keptK h.ob k hb,row_keptK h.ol k hb,row_keptK h.ot k hb⟩
theorem iCmdV(w:World)(x:Bx)(tb:Bool)(told:Prop)(K:Nat)(caps:Array Value)(P:Bk→Int→Int→Prop)(h:Rd w x)(ht:Says tb told)
  (hK:∀(args:Array Value) (u:World),(callFunc K args).run Tryz.prog u= .ok (.enter K args) u)
  (hf:Ok x.b→told→∀(u:World) (z:Bx),z.b=x.b→Var u w.heap.size (w.heap.size+1) z→Ow u (w.heap.size+4) z→Below w.heap.size w u→Calls Tryz.prog K (#[.pointer (some ⟨w.heap.size+1,0,none⟩)]++caps) u (DoesV P w.heap.size (w.heap.size+1) u)):
  Calls Tryz.prog 44 #[.agg #[.slice (some ⟨x.ga,0,none⟩) x.b.ac.length x.ca,.slice (some ⟨x.gi,0,none⟩) x.b.ic.length x.ci,.slice (some ⟨x.gb,0,none⟩) x.b.bs.length x.cb,.slice (some ⟨x.gl,0,none⟩) x.b.ls.length x.cl,.slice (some ⟨x.gt,0,none⟩) x.b.ts.length x.ct,.int .i64 x.b.lot],.bool tb,.func (.func K) #[] caps] w (AnsCV (told∧Ok x.b) x.b P w):=by
 obtain⟨b0,h0⟩:=says_of (Ok x.b)
 have H0:=zh h0
 have HT:=zh ht
 have HF:=zh hf
 have H:=zh h
 have hmf:∀(fn:Fn) (first cp:Array Value) (w:World),(Instr.makeFunc fn first cp).run Tryz.prog w= .ok (.func fn first cp) w:=fun _ _ _ _=>rfl
 have C0:=zh (CW.start h)
 have X0:=zh (var_start w x)
 clear h0 ht hf h
 go_enter_defers Tryz.func44,Tryz.ntmps44
 cases tb
 ·have N:=zh (show ¬(told∧Ok x.b) from fun hh=>(zu HT).no hh.1)
  go_wp2
  refine⟨.tuple #[.agg #[.slice none 0 0,.slice none 0 0,.slice none 0 0,.slice none 0 0,.slice none 0 0,.int .i64 0],.int .i64 0,.int .i64 1],by simp[results,Tryz.results44,go_sem],.inl ⟨zu N,rfl,?_⟩⟩
  exact((((Below.refl _ _).alloc (Nat.le_refl _) _).alloc (by simp) _).alloc (by simp;omega) _).alloc (by simp;omega) _
 go_wp2_with fail
 refine(IBooksOk.iBooksOk _ x b0 (zu C0).r (zu H0)).mono ?_
 rintro e w1 ⟨rfl,bb⟩
 have C1:=zh ((zu C0).step bb)
 have X1:=zh ((zu X0).below bb (by simp))
 clear bb C0 X0
 obtain⟨c0,c1,c2,c3,c4,c5⟩:=(zu C1).cl
 have t1:=(zu C1).t
 have t2:=(zu C1).tf
 have t3:=(zu C1).c
 have t4:=(zu C1).cf
 obtain⟨r0,r1,r2,r3,r4,r5,f0,f1,f2,f3,f4,f5⟩:=Box.all (zu X1)
 have B1:=zh (zu C1).b
 cases b0
 ·have N:=zh (show ¬(told∧Ok x.b) from fun hh=>(zu H0).no hh.2)
  go_wp2
  refine⟨.tuple #[.agg #[.slice none 0 0,.slice none 0 0,.slice none 0 0,.slice none 0 0,.slice none 0 0,.int .i64 0],.int .i64 0,.int .i64 1],by simp[results,Tryz.results44,go_sem,r0,r1,r2,r3,r4,r5,t1,t3],.inl ⟨zu N,rfl,?_⟩⟩
  exact((six (zu B1) (by omega) _ _ _ _ _ _).setCell (p:=⟨w.heap.size+1+1,0,none⟩) (by simp;omega) _).setCell (p:=⟨w.heap.size+1+1+1,0,none⟩) (by simp;omega) _
 have OK:=zh (zu H0).yes
 have TOLD:=zh (zu HT).yes
 go_wp2_with fail
 refine(iCopied _ x (zu C1).r).mono ?_
 rintro e w2 ⟨z,hz,rfl,oz,bb⟩
 have C2:=zh ((zu C1).step bb)
 have X2:=zh ((zu X1).below bb (by have:=(zu C1).s;omega))
 have LZ:=zh (lo_mono (ow_lo oz) (show w.heap.size+4≤w1.heap.size from(zu C1).s))
 have OZ:=zh (oz.rebase (show w.heap.size+4≤w1.heap.size from(zu C1).s))
 have HZ:=zh hz
 clear bb oz hz C1 X1 c0 c1 c2 c3 c4 c5 t1 t2 t3 t4 r0 r1 r2 r3 r4 r5 f0 f1 f2 f3 f4 f5 B1
 obtain⟨c0,c1,c2,c3,c4,c5⟩:=(zu C2).cl
 obtain⟨r0,r1,r2,r3,r4,r5,f0,f1,f2,f3,f4,f5⟩:=Box.all (zu X2)
 go_wp2_with fail
 have bx3:=box_six (zu X2) (.slice (some ⟨z.ga,0,none⟩) z.b.ac.length z.ca) (.slice (some ⟨z.gi,0,none⟩) z.b.ic.length z.ci) (.slice (some ⟨z.gb,0,none⟩) z.b.bs.length z.cb) (.slice (some ⟨z.gl,0,none⟩) z.b.ls.length z.cl) (.slice (some ⟨z.gt,0,none⟩) z.b.ts.length z.ct) (.int .i64 z.b.lot)
 have C3:=zh (CW.grown (zu H) (zu C2) bx3.2)
 have O3:=zh (ow_six (zu OZ) (off_lo (zu LZ) (g:=w.heap.size+1) (by omega)) (.slice (some ⟨z.ga,0,none⟩) z.b.ac.length z.ca) (.slice (some ⟨z.gi,0,none⟩) z.b.ic.length z.ci) (.slice (some ⟨z.gb,0,none⟩) z.b.bs.length z.cb) (.slice (some ⟨z.gl,0,none⟩) z.b.ls.length z.cl) (.slice (some ⟨z.gt,0,none⟩) z.b.ts.length z.ct) (.int .i64 z.b.lot))
 refine((zu HF) (zu OK) (zu TOLD) _ z (zu HZ) bx3.1 (zu O3) (zu C3).b).mono ?_
 rintro e w4 ⟨b',t,c,hp,rfl,hz4,gr⟩
 have C4:=zh (CW.grown (zu H) (zu C3) gr)
 have PP:=zh hp
 clear bx3 gr hp c0 c1 c2 c3 c4 c5 r0 r1 r2 r3 r4 r5 f0 f1 f2 f3 f4 f5 X2 C2 C3 O3 OZ LZ HZ
 have t1:=(zu C4).t
 have t2:=(zu C4).tf
 have t3:=(zu C4).c
 have t4:=(zu C4).cf
 rcases hz4 with⟨rfl,z4,vv,hz4,v4,o4⟩|⟨hc,v4⟩
 ·have HZ4:=zh hz4
  clear hz4
  obtain⟨ao,kk,hvv⟩:=slice_of o4.ol
  subst hvv
  replace v4:Box w4 w.heap.size (w.heap.size+1) (.slice (some ⟨z4.ga,0,none⟩) z4.b.ac.length z4.ca) (.slice (some ⟨z4.gi,0,none⟩) z4.b.ic.length z4.ci) (.slice (some ⟨z4.gb,0,none⟩) z4.b.bs.length z4.cb) (.slice ao z4.b.ls.length kk) (.slice (some ⟨z4.gt,0,none⟩) z4.b.ts.length z4.ct) (.int .i64 z4.b.lot):=v4
  obtain⟨d0,d1,d2,d3,d4,d5,f0,f1,f2,f3,f4,f5⟩:=Box.all v4
  have E:=zh (CW.final (zu H) (zu C4) v4 t 0)
  have O4:=zh o4
  clear v4 o4
  go_wp2_with fail
  go_region
  go_wp2
  refine to_w (fun W=>CW w W x t 0∧Box W w.heap.size (w.heap.size+1) (.slice (some ⟨z4.ga,0,none⟩) z4.b.ac.length z4.ca) (.slice (some ⟨z4.gi,0,none⟩) z4.b.ic.length z4.ci) (.slice (some ⟨z4.gb,0,none⟩) z4.b.bs.length z4.cb) (.slice ao z4.b.ls.length kk) (.slice (some ⟨z4.gt,0,none⟩) z4.b.ts.length z4.ct) (.int .i64 z4.b.lot)∧OwL W w.heap.size z4 (.slice ao z4.b.ls.length kk)) ?_ ?_
  ·exact⟨(zu E).1,(zu E).2,owL_kept (zu O4) (kept_final (Kept.of (Below.refl _ _)) (Nat.le_refl _) _ _ _ _ _ _ _ _) (by omega)⟩
  rintro W ⟨E1,E2,E3⟩
  refine leaves_cons (f:=100) (args:= #[.pointer (some ⟨w.heap.size+1+1+1,0,none⟩),.pointer (some ⟨w.heap.size,0,none⟩),.pointer (some ⟨w.heap.size+1,0,none⟩),.pointer (some ⟨w.heap.size+1+1,0,none⟩)]) (by simp) (by simp[go_sem]) ?_
  refine(back_no ⟨w.heap.size+1+1+1,0,none⟩ ⟨w.heap.size,0,none⟩ ⟨w.heap.size+1,0,none⟩ ⟨w.heap.size+1+1,0,none⟩ .returning _ E1.c).mono ?_
  rintro e u' w6 ⟨rfl,rfl,rfl⟩
  have g0:=E2.c0
  have g1:=E2.c1
  have g2:=E2.c2
  have g3:=E2.c3
  have g4:=E2.c4
  have g5:=E2.c5
  have et:=E1.t
  have ec:=E1.c
  refine⟨.tuple #[.agg #[.slice (some ⟨z4.ga,0,none⟩) z4.b.ac.length z4.ca,.slice (some ⟨z4.gi,0,none⟩) z4.b.ic.length z4.ci,.slice (some ⟨z4.gb,0,none⟩) z4.b.bs.length z4.cb,.slice ao z4.b.ls.length kk,.slice (some ⟨z4.gt,0,none⟩) z4.b.ts.length z4.ct,.int .i64 z4.b.lot],.int .i64 t,.int .i64 0],by simp[results,Tryz.results44,go_sem,g0,g1,g2,g3,g4,g5,et,ec],.inr ⟨⟨zu TOLD,zu OK⟩,b',t,0,z4,_,zu PP,.inl ⟨rfl,zu HZ4,rfl⟩,E3,E1.b⟩⟩
 ·obtain⟨a0,a1,a2,a3,a4,n0,n1,n2,n3,n4,k0,k1,k2,k3,k4,l,v4⟩:=v4
  obtain⟨d0,d1,d2,d3,d4,d5,f0,f1,f2,f3,f4,f5⟩:=Box.all v4
  have E:=zh (CW.final (zu H) (zu C4) v4 t c)
  have HC:=zh hc
  clear v4 hc
  go_wp2_with fail
  go_region
  go_wp2
  refine leaves_cons (f:=100) (args:= #[.pointer (some ⟨w.heap.size+1+1+1,0,none⟩),.pointer (some ⟨w.heap.size,0,none⟩),.pointer (some ⟨w.heap.size+1,0,none⟩),.pointer (some ⟨w.heap.size+1+1,0,none⟩)]) (by simp) (by simp[go_sem]) ?_
  refine(back_yes w x c t .returning _ (zu HC) (zu E).1.r (zu E).1.cl (zu E).1.s ⟨_,_,_,_,_,_,_,_,_,_,_,_,_,_,_,_,(zu E).2⟩ (zu E).1.c (zu E).1.t (zu E).1.tf).mono ?_
  rintro e u' w6 ⟨rfl,rfl,z6,hz6,vz,oz,ec,et,bb,_⟩
  have g0:=vz.c0
  have g1:=vz.c1
  have g2:=vz.c2
  have g3:=vz.c3
  have g4:=vz.c4
  have g5:=vz.c5
  refine⟨.tuple #[.agg #[.slice (some ⟨z6.ga,0,none⟩) z6.b.ac.length z6.ca,.slice (some ⟨z6.gi,0,none⟩) z6.b.ic.length z6.ci,.slice (some ⟨z6.gb,0,none⟩) z6.b.bs.length z6.cb,.slice (some ⟨z6.gl,0,none⟩) z6.b.ls.length z6.cl,.slice (some ⟨z6.gt,0,none⟩) z6.b.ts.length z6.ct,.int .i64 z6.b.lot],.int .i64 0,.int .i64 c],by simp[results,Tryz.results44,go_sem,g0,g1,g2,g3,g4,g5,ec,et],.inr ⟨⟨zu TOLD,zu OK⟩,b',t,c,z6,_,zu PP,.inr ⟨zu HC,hz6,rfl⟩,OwL.of (oz.rebase (by omega)),(zu E).1.b.trans bb⟩⟩
def FinV(told:Prop)(b:Bk)(P:Bk→Int→Int→Prop)(base:Nat)(a0 a1 a2 a3 a4:Option Addr)(n0 n1 n2 n3 n4 k0 k1 k2 k3 k4:Nat)(l:Int)(t c:Int)(W:World):Prop:=
 (¬told∧(a0=none∧n0=0∧k0=0∧a1=none∧n1=0∧k1=0∧a2=none∧n2=0∧k2=0∧a3=none∧n3=0∧k3=0∧a4=none∧n4=0∧k4=0∧l=0)∧t=0∧c=1)∨
 (told∧∃(z:Bx) (b':Bk) (t':Int),P b' t' c∧(a0=some ⟨z.ga,0,none⟩∧n0=z.b.ac.length∧k0=z.ca∧a1=some ⟨z.gi,0,none⟩∧n1=z.b.ic.length∧k1=z.ci∧a2=some ⟨z.gb,0,none⟩∧n2=z.b.bs.length∧k2=z.cb∧a4=some ⟨z.gt,0,none⟩∧n4=z.b.ts.length∧k4=z.ct∧l=z.b.lot)∧((c=0∧z.b=b'∧t=t')∨(c≠0∧z.b=b∧t=0))∧OwL W base z (.slice a3 n3 k3))
section
variable {told:Prop} {b:Bk} {P:Bk→Int→Int→Prop} {base:Nat} {a0 a1 a2 a3 a4:Option Addr} {n0 n1 n2 n3 n4 k0 k1 k2 k3 k4:Nat} {l:Int} {t c:Int} {W W':World}
theorem offL{base' p:Nat}{y:Bx}{v v0 v1 v2 v3 v4 v5:Value}(O:OwL W base y v)(B:Box W base' p v0 v1 v2 v3 v4 v5)(k:W.grownBy W' (some p)):OwL W' base y v:=
 ⟨O.oa.kept k (fun e=>by injection e with e;exact SIssue.row_ne O.oa B (by decide) e),O.oi.kept k (fun e=>by injection e with e;exact SIssue.row_ne O.oi B (by decide) e),O.ob.kept k (fun e=>by injection e with e;exact SIssue.row_ne O.ob B (by decide) e),O.ol.kept k (fun g' hg e=>by
  rcases O.ol.cases with⟨rfl,_⟩|⟨g1,c1,rfl,o⟩
  ·cases hg
  ·have e1:g1=g':=by simpa[Value.ownBlock] using hg
   injection e with e
   exact SIssue.row_ne o B (by decide) (e1.trans e.symm)),O.ot.kept k (fun e=>by injection e with e;exact SIssue.row_ne O.ot B (by decide) e)⟩
theorem FinV.six{base' g:Nat}{v0 v1 v2 v3 v4 v5:Value}(h:FinV told b P base a0 a1 a2 a3 a4 n0 n1 n2 n3 n4 k0 k1 k2 k3 k4 l t c W)(B:Box W base' g v0 v1 v2 v3 v4 v5)(u0 u1 u2 u3 u4 u5:Value):FinV told b P base a0 a1 a2 a3 a4 n0 n1 n2 n3 n4 k0 k1 k2 k3 k4 l t c ((((((W.setCell ⟨g,0,none⟩ u0).setCell ⟨g,1,none⟩ u1).setCell ⟨g,2,none⟩ u2).setCell ⟨g,3,none⟩ u3).setCell ⟨g,4,none⟩ u4).setCell ⟨g,5,none⟩ u5):=by
 rcases h with h|⟨h,z,b',t',h1,h2,h3,h4⟩
 ·exact .inl h
 ·exact .inr ⟨h,z,b',t',h1,h2,h3,offL h4 B (box_six B u0 u1 u2 u3 u4 u5).2⟩
end
theorem fin_ofV{told:Prop}{b:Bk}{P:Bk→Int→Int→Prop}{w w':World}{e:Ending}(h:AnsCV told b P w e w'):
  ∃(a0 a1 a2 a3 a4:Option Addr) (n0 n1 n2 n3 n4 k0 k1 k2 k3 k4:Nat) (l:Int) (t c:Int),e= .returned (.tuple #[.agg #[.slice a0 n0 k0,.slice a1 n1 k1,.slice a2 n2 k2,.slice a3 n3 k3,.slice a4 n4 k4,.int .i64 l],.int .i64 t,.int .i64 c])∧FinV told b P w.heap.size a0 a1 a2 a3 a4 n0 n1 n2 n3 n4 k0 k1 k2 k3 k4 l t c w'∧Below w.heap.size w w':=by
 rcases h with⟨N,rfl,bb⟩|⟨T,b',t,c,z,vv,hP,h,oz,bb⟩
 ·exact⟨none,none,none,none,none,0,0,0,0,0,0,0,0,0,0,0,0,1,rfl,.inl ⟨N,⟨rfl,rfl,rfl,rfl,rfl,rfl,rfl,rfl,rfl,rfl,rfl,rfl,rfl,rfl,rfl,rfl⟩,rfl,rfl⟩,bb⟩
 ·obtain⟨ao,kk,rfl⟩:=slice_of oz.ol
  rcases h with⟨h1,h2,rfl⟩|⟨h1,h2,rfl⟩
  ·exact⟨_,_,_,_,_,_,_,_,_,_,_,_,_,_,_,_,t,c,rfl,.inr ⟨T,z,b',t,hP,⟨rfl,rfl,rfl,rfl,rfl,rfl,rfl,rfl,rfl,rfl,rfl,rfl,rfl⟩,.inl ⟨h1,h2,rfl⟩,oz⟩,bb⟩
  ·exact⟨_,_,_,_,_,_,_,_,_,_,_,_,_,_,_,_,0,c,rfl,.inr ⟨T,z,b',t,hP,⟨rfl,rfl,rfl,rfl,rfl,rfl,rfl,rfl,rfl,rfl,rfl,rfl,rfl⟩,.inr ⟨h1,h2,rfl⟩,oz⟩,bb⟩
structure OwN(w:World)(base:Nat)(x:Bx):Prop where
 oa:Pairs.Own 92 w base x.ga x.b.ac.length x.ca x.b.ac
 oi:Pairs.Own 111 w base x.gi x.b.ic.length x.ci x.b.ic
 ob:Triples.Own3 119 w base x.gb x.b.bs.length x.cb x.b.bs
 ot:Tup8.Own8 110 w base x.gt x.b.ts.length x.ct x.b.ts
 nl:x.b.ls=[]
 gl:x.gl=x.ga
 cl:x.cl=0
def AnsV(told:Prop)(Q:Bk→Int→Int→Prop)(w:World)(e:Ending)(w':World):Prop:=
 AnsM told Q w e w'∨(told∧∃(z:Bx) (t c:Int),Q z.b t c∧e= .returned (.tuple #[.agg #[.slice (some ⟨z.ga,0,none⟩) z.b.ac.length z.ca,.slice (some ⟨z.gi,0,none⟩) z.b.ic.length z.ci,.slice (some ⟨z.gb,0,none⟩) z.b.bs.length z.cb,.slice none 0 0,.slice (some ⟨z.gt,0,none⟩) z.b.ts.length z.ct,.int .i64 z.b.lot],.int .i64 t,.int .i64 c])∧OwN w' w.heap.size z∧Below w.heap.size w w')
theorem fin_ansV{told:Prop}{b:Bk}{P Q:Bk→Int→Int→Prop}{w W:World}{base:Nat}{a0 a1 a2 a3 a4:Option Addr}{n0 n1 n2 n3 n4 k0 k1 k2 k3 k4:Nat}{l:Int}{t c:Int}(h:FinV told b P base a0 a1 a2 a3 a4 n0 n1 n2 n3 n4 k0 k1 k2 k3 k4 l t c W)(hb:w.heap.size≤base)(B:Below w.heap.size w W)
  (h0:∀b' t,P b' t 0→Q b' t 0)(h1:∀b' t c,P b' t c→c≠0→Q b 0 c):AnsV told Q w (.returned (.tuple #[.agg #[.slice a0 n0 k0,.slice a1 n1 k1,.slice a2 n2 k2,.slice a3 n3 k3,.slice a4 n4 k4,.int .i64 l],.int .i64 t,.int .i64 c])) W:=by
 rcases h with⟨N,⟨rfl,rfl,rfl,rfl,rfl,rfl,rfl,rfl,rfl,rfl,rfl,rfl,rfl,rfl,rfl,rfl⟩,rfl,rfl⟩|⟨T,z,b',t',hP,⟨rfl,rfl,rfl,rfl,rfl,rfl,rfl,rfl,rfl,rfl,rfl,rfl,rfl⟩,h,oz⟩
 ·exact .inl (.inl ⟨N,rfl,B⟩)
 ·have hq:Q z.b t c:=by
   rcases h with⟨rfl,rfl,rfl⟩|⟨hc,hz,rfl⟩
   ·exact h0 _ _ hP
   ·rw[hz];exact h1 _ _ _ hP hc
  rcases oz.ol.cases with⟨e,e2⟩|⟨g,k,e,o⟩
  ·injection e with e3 e4 e5
   subst e3 e4 e5
   exact .inr ⟨T,{z with gl:=z.ga,cl:=0},t,c,hq,rfl,⟨oz.oa.rebase (Nat.le_trans hb oz.oa.lt.1),oz.oi.rebase (Nat.le_trans hb oz.oi.lt.1),oz.ob.rebase (Nat.le_trans hb oz.ob.lt.1),oz.ot.rebase (Nat.le_trans hb oz.ot.lt.1),e2,rfl,rfl⟩,B⟩
  ·injection e with e3 e4 e5
   subst e3 e4 e5
   exact .inl (.inr ⟨T,{z with gl:=g,cl:=k3},t,c,hq,rfl,⟨oz.oa.rebase (Nat.le_trans hb oz.oa.lt.1),oz.oi.rebase (Nat.le_trans hb oz.oi.lt.1),oz.ob.rebase (Nat.le_trans hb oz.ob.lt.1),o.rebase (Nat.le_trans hb o.lt.1),oz.ot.rebase (Nat.le_trans hb oz.ot.lt.1)⟩,B⟩)
end ICmdV
end Go.Proofs.YtnmeiiaipacplaaGreat
