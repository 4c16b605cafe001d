/- Lemmas. -/
import Derived.Test.YtcjgepkdpkhljaaGreatQG5
import Derived.Sort.Statements
open Go.ChangeShapes Go.WideShapes Go.ChangeAt Go.RowKit
set_option linter.unusedVariables false
set_option linter.unusedSimpArgs false
set_option maxRecDepth 100000
set_option maxHeartbeats 32000000
namespace Go.Proofs.YtcjgepkdpkhljaaGreat
namespace Order
open Weigh Quota
def Ahead(t:Int)(xs:List Int)(a b:Nat):Prop:=R t xs b<R t xs a∨(R t xs a=R t xs b∧a<b)
theorem Ahead.asymm{t:Int}{xs:List Int}{a b:Nat}(h:Ahead t xs a b)(k:Ahead t xs b a):False:=by
 unfold Ahead at *;omega
theorem Ahead.rest{t:Int}{xs:List Int}{a b:Nat}(h:Ahead t xs a b):R t xs b≤R t xs a:=by
 unfold Ahead at h;omega
def IsOrder(t:Int)(xs:List Int)(n:Nat)(L:List Nat):Prop:=L.Perm (List.range n)∧L.Pairwise (Ahead t xs)
theorem perm_unique(t:Int)(xs:List Int):∀(L M:List Nat),L.Perm M→L.Pairwise (Ahead t xs)→M.Pairwise (Ahead t xs)→L=M:=by
 intro L
 induction L with
 |nil=>intro M h _ _;exact(List.Perm.nil_eq h)
 |cons a L ih=>
  intro M h h1 h2
  cases M with
  |nil=>exact absurd h.length_eq (by simp)
  |cons b M=>
   have e:a=b:=by
    by_cases e:a=b
    ·exact e
    ·have m1:a∈b::M:=h.subset (List.mem_cons_self ..)
     have m2:b∈a::L:=h.symm.subset (List.mem_cons_self ..)
     have m1':a∈M:=by simpa[e] using m1
     have m2':b∈L:=by simpa[Ne.symm e] using m2
     exact(Ahead.asymm ((List.pairwise_cons.1 h1).1 b m2') ((List.pairwise_cons.1 h2).1 a m1')).elim
   subst e
   rw[ih M (List.Perm.cons_inv h) (List.pairwise_cons.1 h1).2 (List.pairwise_cons.1 h2).2]
theorem IsOrder.unique{t:Int}{xs:List Int}{n:Nat}{L M:List Nat}(h:IsOrder t xs n L)(k:IsOrder t xs n M):L=M:=
 perm_unique t xs L M (h.1.trans k.1.symm) h.2 k.2
theorem IsOrder.len{t:Int}{xs:List Int}{n:Nat}{L:List Nat}(h:IsOrder t xs n L):L.length=n:=by
 have:=h.1.length_eq;simpa using this
theorem IsOrder.lt{t:Int}{xs:List Int}{n:Nat}{L:List Nat}(h:IsOrder t xs n L)(a:Nat)(ha:a∈L):a<n:=by
 have:=h.1.subset ha;simpa using this
theorem IsOrder.getD_lt{t:Int}{xs:List Int}{n:Nat}{L:List Nat}(h:IsOrder t xs n L)(j:Nat)(hj:j<n):L.getD j 0<n:=by
 have hl:=h.len
 refine h.lt _ ?_
 rw[List.getD_eq_getElem?_getD,List.getElem?_eq_getElem (by omega)]
 exact List.getElem_mem _
theorem IsOrder.insert{t:Int}{xs:List Int}{n:Nat}{L:List Nat}(h:IsOrder t xs n L)(k:Nat)(hk:k≤n)
  (hd:∀j,k≤j→j<n→R t xs (L.getD j 0)<R t xs n)(ht:k=0∨R t xs n≤R t xs (L.getD (k-1) 0)):
  IsOrder t xs (n+1) (L.take k++n::L.drop k):=by
 have hl:=h.len
 constructor
 ·refine List.perm_middle.trans ?_
  rw[List.take_append_drop,List.range_succ]
  exact(List.Perm.cons n h.1).trans (List.perm_append_singleton n (List.range n)).symm
 ·have hp:=h.2
  rw[←List.take_append_drop k L,List.pairwise_append] at hp
  obtain⟨p1,p2,p3⟩:=hp
  rw[List.pairwise_append,List.pairwise_cons]
  refine⟨p1,⟨fun b hb=>?_,p2⟩,fun a ha b hb=>?_⟩
  ·obtain⟨j,hj,rfl⟩:=List.mem_iff_getElem.1 hb
   have hj':k+j<L.length:=by simpa[Nat.lt_sub_iff_add_lt'] using hj
   have:=hd (k+j) (by omega) (by omega)
   rw[List.getD_eq_getElem?_getD,List.getElem?_eq_getElem hj'] at this
   left
   simpa using this
  ·rcases List.mem_cons.1 hb with rfl|hb
   ·have ha':a∈L:=List.mem_of_mem_take ha
    have han:=h.lt a ha'
    rcases ht with rfl|ht
    ·simp at ha
    ·have hk0:0<k:=by
      cases k with
      |zero=>simp at ha
      |succ k=>omega
     obtain⟨j,hj,rfl⟩:=List.mem_iff_getElem.1 ha
     have hj':j<k:=by
      have:(L.take k).length≤k:=by simp;omega
      omega
     have hjl:j<L.length:=by omega
     have e:(L.take k)[j]=L[j]:=by simp
     have e2:L.getD (k-1) 0=L[k-1]'(by omega):=by rw[List.getD_eq_getElem?_getD,List.getElem?_eq_getElem (by omega)];rfl
     have hr:R t xs (L[k-1]'(by omega))≤R t xs L[j]:=by
      by_cases ej:j=k-1
      ·subst ej;exact Int.le_refl _
      ·exact Ahead.rest (List.pairwise_iff_getElem.1 h.2 j (k-1) hjl (by omega) (by omega))
     rw[e2] at ht
     rw[e] at han⊢
     unfold Ahead
     omega
   ·exact p3 a ha b hb
def ints(L:List Nat):List Int:=L.map fun(i:Nat)=>(i:Int)
theorem ints_len(L:List Nat):(ints L).length=L.length:=by simp[ints]
theorem ints_getD(L:List Nat)(j:Nat):(ints L).getD j 0=((L.getD j 0:Nat):Int):=by
 unfold ints
 rw[List.getD_eq_getElem?_getD,List.getD_eq_getElem?_getD,List.getElem?_map]
 cases L[j]?<;>rfl
def rests(t:Int)(xs:List Int)(k:Nat):List Int:=(List.range k).map (R t xs)
theorem rests_len(t:Int)(xs:List Int)(k:Nat):(rests t xs k).length=k:=by simp[rests]
theorem rests_getD(t:Int)(xs:List Int)(k j:Nat)(h:j<k):(rests t xs k).getD j 0=R t xs j:=by simp[rests,List.getD,h]
theorem rests_succ(t:Int)(xs:List Int)(k:Nat):rests t xs (k+1)=rests t xs k++[R t xs k]:=by simp[rests,List.range_succ]
end Order
namespace Parts
open Weigh Quota Order
def SQ(t:Int)(xs:List Int):Nat→Int
 |0=>0
 |k+1=>SQ t xs k+Q t xs k
def SR(t:Int)(xs:List Int):Nat→Int
 |0=>0
 |k+1=>SR t xs k+R t xs k
theorem split(t:Int)(xs:List Int)(k:Nat):t*S xs k=S xs xs.length*SQ t xs k+SR t xs k:=by
 induction k with
 |zero=>simp[S,SQ,SR]
 |succ k ih=>
  have e:t*xs.getD k 0=S xs xs.length*Q t xs k+R t xs k:=(Int.mul_ediv_add_emod _ _).symm
  show t*(S xs k+xs.getD k 0)=S xs xs.length*(SQ t xs k+Q t xs k)+(SR t xs k+R t xs k)
  rw[Int.mul_add,Int.mul_add,ih,e]
  generalize S xs xs.length*SQ t xs k=a
  generalize S xs xs.length*Q t xs k=b
  omega
theorem SR_bd(t:Int)(xs:List Int)(hg:Weigh.Good xs)(k:Nat):0≤SR t xs k∧SR t xs k≤(k:Int)*(S xs xs.length-1):=by
 induction k with
 |zero=>simp[SR]
 |succ k ih=>
  have:=R_lt t xs k hg
  have e:((k+1:Nat):Int)*(S xs xs.length-1)=(k:Int)*(S xs xs.length-1)+(S xs xs.length-1):=by
   rw[Int.natCast_succ,Int.add_mul,Int.one_mul]
  show 0≤SR t xs k+R t xs k∧SR t xs k+R t xs k≤_
  rw[e]
  generalize (k:Int)*(S xs xs.length-1)=a at *
  omega
theorem SQ_mono(t:Int)(xs:List Int)(ht:Tot t)(hg:Weigh.Good xs)(k n:Nat)(hk:k≤n)(hn:n≤xs.length):SQ t xs k≤SQ t xs n:=by
 induction n with
 |zero=>
  obtain rfl:k=0:=by omega
  exact Int.le_refl _
 |succ n ih=>
  by_cases e:k=n+1
  ·subst e;exact Int.le_refl _
  ·have:=ih (by omega) (by omega)
   have:=(Q_le t xs n ht hg (by omega)).1
   show _≤SQ t xs n+Q t xs n
   omega
theorem missing(t:Int)(xs:List Int)(ht:Tot t)(hg:Weigh.Good xs):S xs xs.length*(t-SQ t xs xs.length)=SR t xs xs.length∧0≤t-SQ t xs xs.length∧t-SQ t xs xs.length<xs.length:=by
 have h:=split t xs xs.length
 obtain⟨r0,r1⟩:=SR_bd t xs hg xs.length
 have s0:=hg.2.2.1
 have n0:=hg.1.1
 have e:S xs xs.length*(t-SQ t xs xs.length)=SR t xs xs.length:=by
  rw[Int.mul_sub,Int.mul_comm _ t,h]
  generalize S xs xs.length*SQ t xs xs.length=a
  omega
 generalize hs:S xs xs.length=s at *
 generalize hm:t-SQ t xs xs.length=m at *
 refine⟨e,?_,?_⟩
 ·apply Int.le_of_lt_add_one
  by_cases z:0≤m
  ·omega
  ·have:s*m≤s*(-1):=Int.mul_le_mul_of_nonneg_left (by omega) (by omega)
   rw[Int.mul_neg_one] at this
   omega
 ·by_cases z:m<(xs.length:Int)
  ·exact z
  ·have h1:s*(xs.length:Int)≤s*m:=Int.mul_le_mul_of_nonneg_left (by omega) (by omega)
   have h2:(xs.length:Int)*(s-1)=s*(xs.length:Int) -(xs.length:Int):=by rw[Int.mul_sub,Int.mul_one,Int.mul_comm]
   omega
theorem missing_nat(t:Int)(xs:List Int)(ht:Tot t)(hg:Weigh.Good xs):∃M:Nat,t-SQ t xs xs.length=(M:Int)∧M<xs.length:=by
 obtain⟨_,h1,h2⟩:=missing t xs ht hg
 obtain⟨M,hM⟩:=Int.eq_ofNat_of_zero_le h1
 exact⟨M,hM,by omega⟩
def wholes(t:Int)(xs:List Int)(k:Nat):List Int:=(List.range k).map (Q t xs)
theorem wholes_len(t:Int)(xs:List Int)(k:Nat):(wholes t xs k).length=k:=by simp[wholes]
theorem wholes_getD(t:Int)(xs:List Int)(k j:Nat)(h:j<k):(wholes t xs k).getD j 0=Q t xs j:=by simp[wholes,List.getD,h]
theorem wholes_succ(t:Int)(xs:List Int)(k:Nat):wholes t xs (k+1)=wholes t xs k++[Q t xs k]:=by simp[wholes,List.range_succ]
def bump(qs:List Int)(L:List Nat):Nat→List Int
 |0=>qs
 |m+1=>(bump qs L m).set (L.getD m 0) ((bump qs L m).getD (L.getD m 0) 0+1)
theorem bump_len(qs:List Int)(L:List Nat)(m:Nat):(bump qs L m).length=qs.length:=by
 induction m with
 |zero=>rfl
 |succ m ih=>simp[bump,ih]
theorem getD_set(qs:List Int)(i j:Nat)(x:Int)(h:i<qs.length):(qs.set i x).getD j 0=if i=j then x else qs.getD j 0:=by
 simp only[List.getD_eq_getElem?_getD,List.getElem?_set]
 by_cases e:i=j
 ·subst e;simp[h]
 ·simp[e]
theorem getD_set_le(qs:List Int)(i j:Nat)(x:Int):(qs.set i x).getD j 0=if i=j∧i<qs.length then x else qs.getD j 0:=by
 by_cases h:i<qs.length
 ·rw[getD_set qs i j x h];simp[h]
 ·rw[List.set_eq_of_length_le (by omega)];simp[h]
theorem bump_bd(qs:List Int)(L:List Nat)(t:Int)(ht:0≤t)(h:∀j,0≤qs.getD j 0∧qs.getD j 0≤t)(m:Nat):∀j,0≤(bump qs L m).getD j 0∧(bump qs L m).getD j 0≤t+(m:Int):=by
 induction m with
 |zero=>intro j;have:=h j;simp only[bump];omega
 |succ m ih=>
  intro j
  rw[bump,getD_set_le]
  have h1:=ih (L.getD m 0)
  have h2:=ih j
  split<;>omega
theorem wholes_bd(t:Int)(xs:List Int)(ht:Tot t)(hg:Weigh.Good xs)(j:Nat):0≤(wholes t xs xs.length).getD j 0∧(wholes t xs xs.length).getD j 0≤t:=by
 by_cases h:j<xs.length
 ·rw[wholes_getD t xs _ j h]
  exact Q_le t xs j ht hg h
 ·have e:(wholes t xs xs.length).getD j 0=0:=by
   rw[List.getD_eq_getElem?_getD,List.getElem?_eq_none (by rw[wholes_len];omega)];rfl
  rw[e]
  exact⟨Int.le_refl _,ht.1⟩
def STells(t:Int)(xs:List Int)(ps:List Int)(ok:Bool):Prop:=
 (Weigh.Good xs∧Tot t∧ok=true∧∃L,∃M:Nat,IsOrder t xs xs.length L∧t-SQ t xs xs.length=(M:Int)∧M<xs.length∧ps=bump (wholes t xs xs.length) L M)∨(¬(Weigh.Good xs∧Tot t)∧ok=false∧ps=[])
theorem STells.unique{t:Int}{xs ps ps':List Int}{ok ok':Bool}(h:STells t xs ps ok)(k:STells t xs ps' ok'):ps=ps'∧ok=ok':=by
 rcases h with⟨h1,h2,h3,L,M,h4,h5,_,h6⟩|h
 ·rcases k with⟨_,_,k3,L',M',k4,k5,_,k6⟩|k
  ·obtain rfl:=h4.unique k4
   obtain rfl:M=M':=by omega
   exact⟨h6.trans k6.symm,h3.trans k3.symm⟩
  ·exact absurd ⟨h1,h2⟩ k.1
 ·rcases k with⟨k1,k2,_⟩|k
  ·exact absurd ⟨k1,k2⟩ h.1
  ·exact⟨h.2.2.trans k.2.2.symm,h.2.1.trans k.2.1.symm⟩
end Parts
namespace OrderEx
open Quota Order Parts
def leB(t:Int)(xs:List Int)(a b:Nat):Bool:=decide (R t xs b<R t xs a∨(R t xs a=R t xs b∧a≤b))
theorem order_ex(t:Int)(xs:List Int)(n:Nat):∃L,IsOrder t xs n L:=by
 refine⟨(List.range n).mergeSort (leB t xs),List.mergeSort_perm _ _,?_⟩
 have h1:((List.range n).mergeSort (leB t xs)).Pairwise (fun a b=>leB t xs a b=true):=List.pairwise_mergeSort (fun a b c h k=>by
  unfold leB at *
  simp only[decide_eq_true_eq] at *
  omega) (fun a b=>by
  unfold leB
  simp only[Bool.or_eq_true,decide_eq_true_eq]
  omega) _
 have h2:((List.range n).mergeSort (leB t xs)).Pairwise (fun a b=>a≠b):=(List.mergeSort_perm _ _).nodup_iff.2 List.nodup_range
 rw[List.pairwise_iff_getElem] at h1 h2⊢
 intro i j hi hj hij
 have h:=h1 i j hi hj hij
 have k:=h2 i j hi hj hij
 generalize ((List.range n).mergeSort (leB t xs))[i]=a at *
 generalize ((List.range n).mergeSort (leB t xs))[j]=b at *
 unfold leB at h
 simp only[decide_eq_true_eq] at h
 unfold Ahead
 omega
theorem stells_ex(t:Int)(xs:List Int):∃ps ok,STells t xs ps ok:=by
 by_cases h:Weigh.Good xs∧Tot t
 ·obtain⟨L,hL⟩:=order_ex t xs xs.length
  obtain⟨M,h1,h2⟩:=missing_nat t xs h.2 h.1
  exact⟨_,true,.inl ⟨h.1,h.2,rfl,L,M,hL,h1,h2,rfl⟩⟩
 ·exact⟨[],false,.inr ⟨h,rfl,rfl⟩⟩
end OrderEx
end Go.Proofs.YtcjgepkdpkhljaaGreat
