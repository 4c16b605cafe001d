/- Lemmas. -/
import Derived.Test.YtcjgepkdpkhljaaGreatQG0
import Derived.Below
open Go.ChangeShapes Go.WideShapes Go.RowKit
set_option linter.unusedVariables false
set_option linter.unusedSimpArgs false
set_option maxRecDepth 100000
set_option maxHeartbeats 32000000
namespace Go.Proofs.YtcjgepkdpkhljaaGreat
namespace Bals
open Go Go.RowKit
abbrev T3:Type:=Int×Int×Int
abbrev el3(ps:List T3)(i:Nat):T3:=ps.getD i (0,0,0)
def Amt(x:Int):Prop:= -1000000000000000≤x∧x≤1000000000000000
def NoOk(x:Int):Prop:=1≤x∧x≤1000
def Bef(p q:T3):Prop:=p.1<q.1∨(p.1=q.1∧p.2.1<q.2.1)
theorem bef_irrefl(p:T3):¬Bef p p:=by unfold Bef;omega
theorem bef_trans{p q r:T3}(h:Bef p q)(k:Bef q r):Bef p r:=by unfold Bef at *;omega
theorem bef_asymm{p q:T3}(h:Bef p q):¬Bef q p:=fun k=>bef_irrefl _ (bef_trans h k)
def RowOk(ps:List T3)(i:Nat):Prop:=
 NoOk (el3 ps i).1∧NoOk (el3 ps i).2.1∧Amt (el3 ps i).2.2∧(el3 ps i).2.2≠0∧(0<i→Bef (el3 ps (i-1)) (el3 ps i))
def Right(ps:List T3):Prop:=ps.length≤160∧∀i,i<ps.length→RowOk ps i
def LegOk(ps:List T3)(i:Nat):Prop:=NoOk (el3 ps i).1∧NoOk (el3 ps i).2.1∧Amt (el3 ps i).2.2
def Formed(ps:List T3):Prop:=ps.length≤160∧∀i,i<ps.length→LegOk ps i
theorem bool_of(p:Prop):∃b:Bool,b=true↔p:=by
 by_cases h:p
 ·exact⟨true,⟨fun _=>h,fun _=>rfl⟩⟩
 ·exact⟨false,⟨fun e=>Bool.noConfusion e,fun e=>absurd e h⟩⟩
def Says(b:Bool)(p:Prop):Prop:=b=true↔p
theorem says_of(p:Prop):∃b,Says b p:=bool_of _
theorem Says.yes{p:Prop}(h:Says true p):p:=h.1 rfl
theorem Says.no{p:Prop}(h:Says false p):¬p:=fun r=>Bool.noConfusion (h.2 r)
theorem Says.of{b:Bool}{p:Prop}(h:Says b p)(r:p):b=true:=h.2 r
theorem Says.not{b:Bool}{p:Prop}(h:Says b p)(r:¬p):b=false:=by
 cases b
 ·rfl
 ·exact absurd h.yes r
def val:List T3→Int→Int→Int
 |[],_,_=>0
 |p::r,a,i=>if p.1=a∧p.2.1=i then p.2.2 else val r a i
def Good(ps:List T3):Prop:=ps.Pairwise Bef∧∀p∈ps,p.2.2≠0
theorem val_mem:∀(ps:List T3) (a i:Int),val ps a i≠0→(a,i,val ps a i)∈ps
 |[],a,i,h=>absurd rfl h
 |p::r,a,i,h=>by
  unfold val at h⊢
  by_cases e:p.1=a∧p.2.1=i
  ·rw[if_pos e]
   obtain⟨rfl,rfl⟩:=e
   exact List.mem_cons_self
  ·rw[if_neg e] at h⊢
   exact List.mem_cons_of_mem _ (val_mem r a i h)
theorem val_of_mem:∀(ps:List T3),ps.Pairwise Bef→∀p∈ps,val ps p.1 p.2.1=p.2.2
 |[],_,p,h=>by simp at h
 |q::r,h,p,hp=>by
  obtain⟨h1,h2⟩:=List.pairwise_cons.1 h
  unfold val
  rcases List.mem_cons.1 hp with rfl|hp
  ·rw[if_pos ⟨rfl,rfl⟩]
  ·have:=h1 p hp
   rw[if_neg (by unfold Bef at this;omega)]
   exact val_of_mem r h2 p hp
theorem asc_ext:∀{l₁ l₂:List T3},l₁.Pairwise Bef→l₂.Pairwise Bef→(∀p,p∈l₁↔p∈l₂)→l₁=l₂
 |[],[],_,_,_=>rfl
 |[],y::r,_,_,h=>absurd ((h y).2 List.mem_cons_self) List.not_mem_nil
 |x::r,[],_,_,h=>absurd ((h x).1 List.mem_cons_self) List.not_mem_nil
 |x::r,y::s,h1,h2,h=>by
  obtain⟨a1,b1⟩:=List.pairwise_cons.1 h1
  obtain⟨a2,b2⟩:=List.pairwise_cons.1 h2
  have exy:x=y:=by
   rcases List.mem_cons.1 ((h x).1 List.mem_cons_self) with e|e
   ·exact e
   ·rcases List.mem_cons.1 ((h y).2 List.mem_cons_self) with e'|e'
    ·exact e'.symm
    ·exact absurd (a2 x e) (bef_asymm (a1 y e'))
  subst exy
  rw[asc_ext b1 b2 (fun p=>⟨fun hp=>?_,fun hp=>?_⟩)]
  ·rcases List.mem_cons.1 ((h p).1 (List.mem_cons_of_mem _ hp)) with rfl|e
   ·exact absurd (a1 _ hp) (bef_irrefl _)
   ·exact e
  ·rcases List.mem_cons.1 ((h p).2 (List.mem_cons_of_mem _ hp)) with rfl|e
   ·exact absurd (a2 _ hp) (bef_irrefl _)
   ·exact e
theorem Good.mem{ps:List T3}(h:Good ps)(p:T3):p∈ps↔p.2.2≠0∧val ps p.1 p.2.1=p.2.2:=by
 constructor
 ·intro hp
  exact⟨h.2 p hp,val_of_mem ps h.1 p hp⟩
 ·rintro⟨h1,h2⟩
  have:=val_mem ps p.1 p.2.1 (by rw[h2];exact h1)
  rw[h2] at this
  exact this
theorem Good.ext{ps qs:List T3}(h:Good ps)(k:Good qs)(e:∀a i,val ps a i=val qs a i):ps=qs:=
 asc_ext h.1 k.1 (fun p=>by rw[h.mem,k.mem,e])
theorem getD_mem{ps:List T3}{i:Nat}(h:i<ps.length):el3 ps i∈ps:=by
 unfold el3
 simp only[List.getD,List.getElem?_eq_getElem h,Option.getD_some]
 exact List.getElem_mem h
theorem mem_getD{ps:List T3}{p:T3}(h:p∈ps):∃i,i<ps.length∧el3 ps i=p:=by
 obtain⟨i,hi,e⟩:=List.getElem_of_mem h
 refine⟨i,hi,?_⟩
 unfold el3
 simp[List.getD,hi,e]
theorem Right.asc{ps:List T3}(h:Right ps):∀j i,i<j→j<ps.length→Bef (el3 ps i) (el3 ps j):=by
 intro j
 induction j with
 |zero=>intro i h1;omega
 |succ j ih=>
  intro i h1 h2
  have r:=(h.2 (j+1) h2).2.2.2.2 (by omega)
  rw[show j+1-1=j by omega] at r
  by_cases e:i=j
  ·subst e;exact r
  ·exact bef_trans (ih i (by omega) (by omega)) r
theorem pairwise_of{ps:List T3}(h:∀j i,i<j→j<ps.length→Bef (el3 ps i) (el3 ps j)):ps.Pairwise Bef:=by
 rw[List.pairwise_iff_getElem]
 intro i j hi hj hij
 have:=h j i hij hj
 simpa[el3,List.getD,hi,hj] using this
theorem Right.good{ps:List T3}(h:Right ps):Good ps:=by
 refine⟨pairwise_of h.asc,fun p hp=>?_⟩
 obtain⟨i,hi,rfl⟩:=mem_getD hp
 exact(h.2 i hi).2.2.2.1
theorem Right.of{ps:List T3}(hl:ps.length≤160)(g:Good ps)(h:∀p∈ps,NoOk p.1∧NoOk p.2.1∧Amt p.2.2):Right ps:=by
 refine⟨hl,fun i hi=>?_⟩
 obtain⟨a,b,c⟩:=h _ (getD_mem hi)
 refine⟨a,b,c,g.2 _ (getD_mem hi),fun h0=>?_⟩
 have:=List.pairwise_iff_getElem.1 g.1 (i-1) i (by omega) hi (by omega)
 simpa[el3,List.getD,hi,show i-1<ps.length by omega] using this
theorem Right.val_in{ps:List T3}(h:Right ps)(a i:Int):Amt (val ps a i)∧(val ps a i≠0→NoOk a∧NoOk i):=by
 by_cases z:val ps a i=0
 ·rw[z]
  exact⟨by unfold Amt;omega,fun h0=>absurd rfl h0⟩
 ·obtain⟨k,hk,e⟩:=mem_getD (val_mem ps a i z)
  obtain⟨h1,h2,h3,_⟩:=h.2 k hk
  rw[e] at h1 h2 h3
  exact⟨h3,fun _=>⟨h1,h2⟩⟩
def upd(f:Int→Int→Int)(a i x:Int):Int→Int→Int:=fun b j=>if b=a∧j=i then x else f b j
theorem upd_same(f:Int→Int→Int)(a i x:Int):upd f a i x a i=x:=by unfold upd;rw[if_pos ⟨rfl,rfl⟩]
theorem upd_other(f:Int→Int→Int)(a i x b j:Int)(h:¬(b=a∧j=i)):upd f a i x b j=f b j:=by unfold upd;rw[if_neg h]
def putL(x:T3):List T3→Bool→List T3
 |[],put=>if put then[] else[x]
 |y::r,put=>
  let here:Bool:= !put&&decide (¬(y.1<x.1∨(y.1=x.1∧y.2.1<x.2.1)))
  (if here then[x] else[])++((if y.1≠x.1∨y.2.1≠x.2.1 then[y] else[])++putL x r (put||here))
def other(x:T3)(y:T3):Prop:=y.1≠x.1∨y.2.1≠x.2.1
theorem putL_true(x:T3):∀(ps:List T3),ps.Pairwise Bef→(putL x ps true).Pairwise Bef∧∀p,p∈putL x ps true↔p∈ps∧other x p
 |[],_=>by simp[putL]
 |y::r,h=>by
  obtain⟨h1,h2⟩:=List.pairwise_cons.1 h
  obtain⟨i1,i2⟩:=putL_true x r h2
  have e:putL x (y::r) true=(if y.1≠x.1∨y.2.1≠x.2.1 then[y] else[])++putL x r true:=by simp[putL]
  rw[e]
  by_cases c:y.1≠x.1∨y.2.1≠x.2.1
  ·rw[if_pos c]
   refine⟨List.pairwise_cons.2 ⟨fun p hp=>h1 p ((i2 p).1 hp).1,i1⟩,fun p=>?_⟩
   show p∈y::putL x r true↔_
   rw[List.mem_cons,i2,List.mem_cons]
   constructor
   ·rintro(rfl|⟨a,b⟩)
    ·exact⟨.inl rfl,c⟩
    ·exact⟨.inr a,b⟩
   ·rintro⟨rfl|a,b⟩
    ·exact .inl rfl
    ·exact .inr ⟨a,b⟩
  ·rw[if_neg c]
   refine⟨i1,fun p=>?_⟩
   show p∈putL x r true↔_
   rw[i2,List.mem_cons]
   constructor
   ·rintro⟨a,b⟩
    exact⟨.inr a,b⟩
   ·rintro⟨rfl|a,b⟩
    ·exact absurd b c
    ·exact⟨a,b⟩
theorem putL_false(x:T3):∀(ps:List T3),ps.Pairwise Bef→(putL x ps false).Pairwise Bef∧∀p,p∈putL x ps false↔p=x∨(p∈ps∧other x p)
 |[],_=>by simp[putL]
 |y::r,h=>by
  obtain⟨h1,h2⟩:=List.pairwise_cons.1 h
  by_cases b:Bef y x
  ·obtain⟨i1,i2⟩:=putL_false x r h2
   have c:y.1≠x.1∨y.2.1≠x.2.1:=by unfold Bef at b;omega
   have e:putL x (y::r) false=y::putL x r false:=by simp only[Bef] at b;simp[putL,b,c]
   rw[e]
   refine⟨List.pairwise_cons.2 ⟨fun p hp=>?_,i1⟩,fun p=>?_⟩
   ·rcases(i2 p).1 hp with rfl|⟨k,_⟩
    ·exact b
    ·exact h1 p k
   ·rw[List.mem_cons,i2,List.mem_cons]
    constructor
    ·rintro(rfl|rfl|⟨k,l⟩)
     ·exact .inr ⟨.inl rfl,c⟩
     ·exact .inl rfl
     ·exact .inr ⟨.inr k,l⟩
    ·rintro(rfl|⟨rfl|k,l⟩)
     ·exact .inr (.inl rfl)
     ·exact .inl rfl
     ·exact .inr (.inr ⟨k,l⟩)
  ·obtain⟨i1,i2⟩:=putL_true x r h2
   have e:putL x (y::r) false=x::putL x (y::r) true:=by simp only[Bef] at b;simp[putL,b]
   obtain⟨j1,j2⟩:=putL_true x (y::r) h
   rw[e]
   refine⟨List.pairwise_cons.2 ⟨fun p hp=>?_,j1⟩,fun p=>?_⟩
   ·obtain⟨k,l⟩:=(j2 p).1 hp
    have hxy:other x y→Bef x y:=fun o=>by unfold other at o;unfold Bef at b⊢;omega
    rcases List.mem_cons.1 k with rfl|k
    ·exact hxy l
    ·have:=h1 p k
     unfold other at l
     unfold Bef at b this⊢
     omega
   ·rw[List.mem_cons,j2]
theorem putL_len(x:T3):∀(ps:List T3) (put:Bool),(putL x ps put).length≤ps.length+(if put then 0 else 1)
 |[],put=>by cases put<;>simp[putL]
 |y::r,put=>by
  have i0:=putL_len x r true
  have i1:=putL_len x r false
  simp only[if_true,if_false,Bool.false_eq_true] at i0 i1
  unfold putL
  by_cases b:Bef y x<;>by_cases c:y.1≠x.1∨y.2.1≠x.2.1<;>cases put<;>simp only[Bef] at b<;>simp[b,c]<;>omega
theorem put_val(x:T3)(ps:List T3)(put:Bool)(h:Good ps)(hp:put=true↔x.2.2=0):
  Good (putL x ps put)∧∀b j,val (putL x ps put) b j=upd (val ps) x.1 x.2.1 x.2.2 b j:=by
 have key:(putL x ps put).Pairwise Bef∧∀p,p∈putL x ps put↔(p=x∧x.2.2≠0)∨(p∈ps∧other x p):=by
  cases put
  ·have z:x.2.2≠0:=fun e=>by have:=hp.2 e;cases this
   obtain⟨a,b⟩:=putL_false x ps h.1
   exact⟨a,fun p=>by rw[b];simp[z]⟩
  ·have z:x.2.2=0:=hp.1 rfl
   obtain⟨a,b⟩:=putL_true x ps h.1
   exact⟨a,fun p=>by rw[b];simp[z]⟩
 obtain⟨asc,mem⟩:=key
 have g:Good (putL x ps put):=⟨asc,fun p hp=>by
  rcases(mem p).1 hp with⟨rfl,z⟩|⟨k,_⟩
  ·exact z
  ·exact h.2 p k⟩
 refine⟨g,fun b j=>?_⟩
 by_cases e:b=x.1∧j=x.2.1
 ·obtain⟨rfl,rfl⟩:=e
  rw[upd_same]
  by_cases z:x.2.2=0
  ·rw[z]
   refine Classical.byContradiction fun nz=>?_
   have:=val_mem _ _ _ nz
   rcases(mem _).1 this with⟨_,q⟩|⟨_,q⟩
   ·exact q z
   ·unfold other at q
    simp at q
  ·exact val_of_mem _ asc x ((mem x).2 (.inl ⟨rfl,z⟩))
 ·rw[upd_other _ _ _ _ _ _ e]
  by_cases z:val ps b j=0
  ·rw[z]
   refine Classical.byContradiction fun nz=>?_
   have hm:=val_mem _ _ _ nz
   rcases(mem _).1 hm with⟨q,_⟩|⟨q,_⟩
   ·exact e (by rw[←q];exact⟨rfl,rfl⟩)
   ·have:=val_of_mem ps h.1 _ q
    simp only at this
    rw[z] at this
    exact nz this.symm
  ·have hm:=val_mem ps b j z
   exact val_of_mem _ asc _ ((mem _).2 (.inr ⟨hm,by unfold other;show b≠x.1∨j≠x.2.1;omega⟩))
def sumI:List T3→Int→Int
 |[],_=>0
 |p::r,i=>(if p.2.1=i then p.2.2 else 0)+sumI r i
theorem sumI_append(i:Int):∀(ps qs:List T3),sumI (ps++qs) i=sumI ps i+sumI qs i
 |[],qs=>by simp[sumI]
 |p::r,qs=>by
  have:=sumI_append i r qs
  simp only[List.cons_append,sumI,this]
  omega
theorem take_next{ps:List T3}{k:Nat}(h:k<ps.length):ps.take (k+1)=ps.take k++[el3 ps k]:=by
 rw[List.take_add_one]
 simp[List.getD,h]
theorem sumI_next{ps:List T3}{k:Nat}(h:k<ps.length)(i:Int):sumI (ps.take (k+1)) i=sumI (ps.take k) i+(if(el3 ps k).2.1=i then(el3 ps k).2.2 else 0):=by
 rw[take_next h,sumI_append]
 simp[sumI]
theorem sumI_bound{ps:List T3}(i:Int)(h:∀j,j<ps.length→Amt (el3 ps j).2.2):∀k,k≤ps.length→-(1000000000000000*(k:Int))≤sumI (ps.take k) i∧sumI (ps.take k) i≤1000000000000000*(k:Int)
 |0,_=>by simp[sumI]
 |k+1,hk=>by
  have ih:=sumI_bound i h k (by omega)
  have a:=h k (by omega)
  rw[sumI_next (by omega)]
  unfold Amt at a
  split<;>omega
def IsSum(ps:List T3)(i r:Int)(ok:Bool):Prop:=
 (Right ps∧Amt (sumI ps i)∧r=sumI ps i∧ok=true)∨(¬(Right ps∧Amt (sumI ps i))∧r=0∧ok=false)
def Even(ps:List T3):Prop:=∀i,sumI ps i=0
theorem sumI_none(i:Int):∀(ps:List T3),(∀p∈ps,p.2.1≠i)→sumI ps i=0
 |[],_=>rfl
 |p::r,h=>by
  unfold sumI
  rw[if_neg (h p List.mem_cons_self),sumI_none i r (fun q hq=>h q (List.mem_cons_of_mem _ hq))]
  rfl
theorem even_of{ps:List T3}(h:∀k,k<ps.length→sumI ps (el3 ps k).2.1=0):Even ps:=by
 intro i
 by_cases e:∃p∈ps,p.2.1=i
 ·obtain⟨p,hp,rfl⟩:=e
  obtain⟨k,hk,rfl⟩:=mem_getD hp
  exact h k hk
 ·exact sumI_none i ps (fun p hp e'=>e ⟨p,hp,e'⟩)
def posts:(Int→Int→Int)→List T3→Option (Int→Int→Int)
 |f,[]=>some f
 |f,l::r=>if-1000000000000000≤f l.1 l.2.1+l.2.2∧f l.1 l.2.1+l.2.2≤1000000000000000 then posts (upd f l.1 l.2.1 (f l.1 l.2.1+l.2.2)) r else none
theorem posts_yes{f:Int→Int→Int}{ps:List T3}{k:Nat}(h:k<ps.length)(a:Amt (f (el3 ps k).1 (el3 ps k).2.1+(el3 ps k).2.2)):
  posts f (ps.drop k)=posts (upd f (el3 ps k).1 (el3 ps k).2.1 (f (el3 ps k).1 (el3 ps k).2.1+(el3 ps k).2.2)) (ps.drop (k+1)):=by
 have e:ps.drop k=el3 ps k::ps.drop (k+1):=by
  rw[List.drop_eq_getElem_cons h]
  simp[el3,List.getD,h]
 rw[e]
 show(if _ then _ else _)=_
 unfold Amt at a
 rw[if_pos a]
theorem posts_no{f:Int→Int→Int}{ps:List T3}{k:Nat}(h:k<ps.length)(a:¬Amt (f (el3 ps k).1 (el3 ps k).2.1+(el3 ps k).2.2)):posts f (ps.drop k)=none:=by
 have e:ps.drop k=el3 ps k::ps.drop (k+1):=by
  rw[List.drop_eq_getElem_cons h]
  simp[el3,List.getD,h]
 rw[e]
 show(if _ then _ else _)=_
 unfold Amt at a
 rw[if_neg a]
def Fine(f:Int→Int→Int):Prop:=∀a i,Amt (f a i)∧(f a i≠0→NoOk a∧NoOk i)
theorem Fine.upd{f:Int→Int→Int}(h:Fine f){a i x:Int}(ha:NoOk a)(hi:NoOk i)(hx:Amt x):Fine (upd f a i x):=by
 intro b j
 by_cases e:b=a∧j=i
 ·obtain⟨rfl,rfl⟩:=e
  rw[upd_same]
  exact⟨hx,fun _=>⟨ha,hi⟩⟩
 ·rw[upd_other _ _ _ _ _ _ e]
  exact h b j
theorem fine_of{ps:List T3}(h:Right ps):Fine (val ps):=fun a i=>h.val_in a i
theorem posts_fine:∀(ls:List T3) (f g:Int→Int→Int),Fine f→(∀l∈ls,NoOk l.1∧NoOk l.2.1)→posts f ls=some g→Fine g
 |[],f,g,h,_,e=>by
  cases e
  exact h
 |l::r,f,g,h,hl,e=>by
  unfold posts at e
  split at e
  ·rename_i a
   obtain⟨l1,l2⟩:=hl l List.mem_cons_self
   exact posts_fine r _ g (h.upd l1 l2 a) (fun m hm=>hl m (List.mem_cons_of_mem _ hm)) e
  ·cases e
def Lacks(f:Int→Int→Int)(ls:List T3)(short:List Int):Prop:=∃k,k<ls.length∧f (el3 ls k).1 (el3 ls k).2.1<0∧(el3 ls k).1∉short
def ListOf(f:Int→Int→Int)(qs:List T3):Prop:=Good qs∧∀a i,val qs a i=f a i
theorem ListOf.fine{f:Int→Int→Int}{ps:List T3}(h:ListOf f ps)(k:Fine f):∀p∈ps,NoOk p.1∧NoOk p.2.1∧Amt p.2.2:=by
 intro p hp
 obtain⟨h1,h2⟩:=(h.1.mem p).1 hp
 rw[h.2] at h2
 obtain⟨a,b⟩:=k p.1 p.2.1
 rw[h2] at a b
 exact⟨(b h1).1,(b h1).2,a⟩
theorem ListOf.right{f:Int→Int→Int}{ps:List T3}(h:ListOf f ps)(k:Fine f)(hl:ps.length≤160):Right ps:=Right.of hl h.1 (h.fine k)
def IsPost(ps ls:List T3)(short:List Int)(qs:List T3)(c:Int):Prop:=
 (¬(Right ps∧Formed ls∧short.length≤20)∧qs=[]∧c=1)∨
 ((Right ps∧Formed ls∧short.length≤20)∧¬Even ls∧qs=ps∧c=2)∨
 ((Right ps∧Formed ls∧short.length≤20)∧Even ls∧posts (val ps) ls=none∧qs=ps∧c=4)∨
 (∃f,(Right ps∧Formed ls∧short.length≤20)∧Even ls∧posts (val ps) ls=some f∧Lacks f ls short∧qs=ps∧c=3)∨
 (∃f us,(Right ps∧Formed ls∧short.length≤20)∧Even ls∧posts (val ps) ls=some f∧¬Lacks f ls short∧ListOf f us∧¬us.length≤160∧qs=ps∧c=5)∨
 (∃f,(Right ps∧Formed ls∧short.length≤20)∧Even ls∧posts (val ps) ls=some f∧¬Lacks f ls short∧ListOf f qs∧qs.length≤160∧c=0)
section
variable {ps ls:List T3} {xs:List Int}
theorem IsPost.bad(h:¬(Right ps∧Formed ls∧xs.length≤20)):IsPost ps ls xs [] 1:= .inl ⟨h,rfl,rfl⟩
theorem IsPost.uneven(h:(Right ps∧Formed ls∧xs.length≤20))(h2:¬Even ls):IsPost ps ls xs ps 2:= .inr (.inl ⟨h,h2,rfl,rfl⟩)
theorem IsPost.large(h:(Right ps∧Formed ls∧xs.length≤20))(h2:Even ls)(h3:posts (val ps) ls=none):IsPost ps ls xs ps 4:= .inr (.inr (.inl ⟨h,h2,h3,rfl,rfl⟩))
theorem IsPost.short(f:Int→Int→Int)(h:(Right ps∧Formed ls∧xs.length≤20))(h2:Even ls)(h3:posts (val ps) ls=some f)(h4:Lacks f ls xs):IsPost ps ls xs ps 3:= .inr (.inr (.inr (.inl ⟨f,h,h2,h3,h4,rfl,rfl⟩)))
theorem IsPost.full(f:Int→Int→Int)(qs:List T3)(h:(Right ps∧Formed ls∧xs.length≤20))(h2:Even ls)(h3:posts (val ps) ls=some f)(h4:¬Lacks f ls xs)(h5:ListOf f qs)(h6:¬qs.length≤160):IsPost ps ls xs ps 5:=
 .inr (.inr (.inr (.inr (.inl ⟨f,qs,h,h2,h3,h4,h5,h6,rfl,rfl⟩))))
theorem IsPost.done(f:Int→Int→Int)(qs:List T3)(h:(Right ps∧Formed ls∧xs.length≤20))(h2:Even ls)(h3:posts (val ps) ls=some f)(h4:¬Lacks f ls xs)(h5:ListOf f qs)(h6:qs.length≤160):IsPost ps ls xs qs 0:=
 .inr (.inr (.inr (.inr (.inr ⟨f,h,h2,h3,h4,h5,h6,rfl⟩))))
end
theorem IsPost.len{ps ls:List T3}{short:List Int}{qs:List T3}{c:Int}(h:IsPost ps ls short qs c):qs.length≤160:=by
 rcases h with⟨_,rfl,_⟩|⟨h1,_,rfl,_⟩|⟨h1,_,_,rfl,_⟩|⟨_,h1,_,_,_,rfl,_⟩|⟨_,_,h1,_,_,_,_,_,rfl,_⟩|⟨_,_,_,_,_,_,h6,_⟩
 ·exact Nat.zero_le _
 ·exact h1.1.1
 ·exact h1.1.1
 ·exact h1.1.1
 ·exact h1.1.1
 ·exact h6
end Bals
namespace Chart
open Go Go.RowKit
abbrev el(ps:List (Int×Int))(i:Nat):Int×Int:=ps.getD i (0,0)
def RowOk(last:Int)(ps:List (Int×Int))(i:Nat):Prop:=
 (1≤(el ps i).1∧(el ps i).1≤1000)∧(1≤(el ps i).2∧(el ps i).2≤last)∧(0<i→(el ps (i-1)).1<(el ps i).1)
def Right(most:Nat)(last:Int)(ps:List (Int×Int)):Prop:=ps.length≤most∧∀i,i<ps.length→RowOk last ps i
theorem bool_of(p:Prop):∃b:Bool,b=true↔p:=by
 by_cases h:p
 ·exact⟨true,⟨fun _=>h,fun _=>rfl⟩⟩
 ·exact⟨false,⟨fun e=>Bool.noConfusion e,fun e=>absurd e h⟩⟩
def Says(b:Bool)(most:Nat)(last:Int)(ps:List (Int×Int)):Prop:=b=true↔Right most last ps
theorem says_of(most:Nat)(last:Int)(ps:List (Int×Int)):∃b,Says b most last ps:=bool_of _
theorem Says.yes{most:Nat}{last:Int}{ps:List (Int×Int)}(h:Says true most last ps):Right most last ps:=h.1 rfl
theorem Says.no{most:Nat}{last:Int}{ps:List (Int×Int)}(h:Says false most last ps):¬Right most last ps:=fun r=>Bool.noConfusion (h.2 r)
theorem Says.of{b:Bool}{most:Nat}{last:Int}{ps:List (Int×Int)}(h:Says b most last ps)(r:Right most last ps):b=true:=h.2 r
theorem Says.not{b:Bool}{most:Nat}{last:Int}{ps:List (Int×Int)}(h:Says b most last ps)(r:¬Right most last ps):b=false:=by
 cases b
 ·rfl
 ·exact absurd h.yes r
theorem Right.asc{most:Nat}{last:Int}{ps:List (Int×Int)}(h:Right most last ps):∀j i,i<j→j<ps.length→(el ps i).1<(el ps j).1:=by
 intro j
 induction j with
 |zero=>intro i h1;omega
 |succ j ih=>
  intro i h1 h2
  have r:=(h.2 (j+1) h2).2.2 (by omega)
  rw[show j+1-1=j by omega] at r
  by_cases e:i=j
  ·subst e;exact r
  ·have:=ih i (by omega) (by omega)
   omega
theorem Right.one{most:Nat}{last:Int}{ps:List (Int×Int)}(h:Right most last ps)(i j:Nat)(hi:i<ps.length)(hj:j<ps.length)(e:(el ps i).1=(el ps j).1):i=j:=by
 rcases Nat.lt_trichotomy i j with l|l|l
 ·have:=h.asc j i l hj;omega
 ·exact l
 ·have:=h.asc i j l hi;omega
def IsKind(most:Nat)(last:Int)(ps:List (Int×Int))(no r:Int):Prop:=
 (Right most last ps∧∃i,i<ps.length∧(el ps i).1=no∧r=(el ps i).2)∨((¬Right most last ps∨∀i,i<ps.length→(el ps i).1≠no)∧r=0)
def IsPlace(ps:List (Int×Int))(no:Int)(c:Nat):Prop:=c≤ps.length∧(∀i,i<c→(el ps i).1<no)∧(c<ps.length→no≤(el ps c).1)
def ins(ps:List (Int×Int))(c:Nat)(p:Int×Int):List (Int×Int):=ps.take c++p::ps.drop c
theorem ins_len(ps:List (Int×Int))(c:Nat)(p:Int×Int)(h:c≤ps.length):(ins ps c p).length=ps.length+1:=by
 simp[ins];omega
theorem ins_el(ps:List (Int×Int))(c:Nat)(p:Int×Int)(h:c≤ps.length)(i:Nat):el (ins ps c p) i=if i<c then el ps i else if i=c then p else el ps (i-1):=by
 have l1:(ps.take c).length=c:=by simp;omega
 unfold el ins
 simp only[List.getD]
 by_cases l:i<c
 ·rw[if_pos l,List.getElem?_append_left (by omega),List.getElem?_take,if_pos l]
 ·rw[if_neg l,List.getElem?_append_right (by omega),l1]
  by_cases e:i=c
  ·subst e;simp
  ·rw[if_neg e,show i-c=(i-1-c)+1 by omega,List.getElem?_cons_succ,List.getElem?_drop,show c+(i-1-c)=i-1 by omega]
def IsPut(most:Nat)(last:Int)(ps:List (Int×Int))(p:Int×Int)(qs:List (Int×Int))(ok:Bool):Prop:=
 (¬Right most last ps∧qs=[]∧ok=false)∨
 (Right most last ps∧∃c,IsPlace ps p.1 c∧((¬Right most last (ins ps c p)∧qs=ps∧ok=false)∨(Right most last (ins ps c p)∧qs=ins ps c p∧ok=true)))
theorem IsPut.len{most:Nat}{last:Int}{ps:List (Int×Int)}{p:Int×Int}{qs:List (Int×Int)}{ok:Bool}(h:IsPut most last ps p qs ok):qs.length≤most:=by
 rcases h with⟨_,rfl,_⟩|⟨h,c,_,⟨_,rfl,_⟩|⟨h',rfl,_⟩⟩
 ·exact Nat.zero_le _
 ·exact h.1
 ·exact h'.1
theorem place_is(ps:List (Int×Int))(no:Int):∃c,IsPlace ps no c:=by
 have:∀k,k≤ps.length→(∃c,IsPlace ps no c)∨(∀i,i<k→(el ps i).1<no):=by
  intro k
  induction k with
  |zero=>intro _;exact .inr (fun i hi=>by omega)
  |succ k ih=>
   intro hk
   rcases ih (by omega) with h|h
   ·exact .inl h
   ·by_cases l:(el ps k).1<no
    ·right
     intro i hi
     by_cases e:i=k
     ·subst e;exact l
     ·exact h i (by omega)
    ·exact .inl ⟨k,by omega,h,fun _=>by omega⟩
 rcases this ps.length (Nat.le_refl _) with h|h
 ·exact h
 ·exact⟨ps.length,Nat.le_refl _,h,fun l=>absurd l (Nat.lt_irrefl _)⟩
end Chart
namespace PostMore
open Bals
def sumK:List T3→Int→Int→Int
 |[],_,_=>0
 |p::r,a,i=>(if p.1=a∧p.2.1=i then p.2.2 else 0)+sumK r a i
theorem sumK_append(a i:Int):∀(ps qs:List T3),sumK (ps++qs) a i=sumK ps a i+sumK qs a i
 |[],qs=>by simp[sumK]
 |p::r,qs=>by
  have:=sumK_append a i r qs
  simp only[List.cons_append,sumK,this]
  omega
theorem sumK_next{ps:List T3}{k:Nat}(h:k<ps.length)(a i:Int):sumK (ps.take (k+1)) a i=sumK (ps.take k) a i+(if(el3 ps k).1=a∧(el3 ps k).2.1=i then(el3 ps k).2.2 else 0):=by
 rw[take_next h,sumK_append]
 simp[sumK]
theorem sumK_bound{ps:List T3}(a i:Int)(h:∀j,j<ps.length→Amt (el3 ps j).2.2):∀k,k≤ps.length→-(1000000000000000*(k:Int))≤sumK (ps.take k) a i∧sumK (ps.take k) a i≤1000000000000000*(k:Int)
 |0,_=>by simp[sumK]
 |k+1,hk=>by
  have ih:=sumK_bound a i h k (by omega)
  have am:=h k (by omega)
  rw[sumK_next (by omega)]
  unfold Amt at am
  split<;>omega
theorem posts_sum:∀(ls:List T3) (f f':Int→Int→Int),posts f ls=some f'→∀a i,f' a i=f a i+sumK ls a i
 |[],f,f',h,a,i=>by
  cases h
  simp[sumK]
 |l::r,f,f',h,a,i=>by
  unfold posts at h
  split at h
  ·have ih:=posts_sum r _ f' h a i
   rw[ih]
   simp only[sumK]
   by_cases e:a=l.1∧i=l.2.1
   ·obtain⟨rfl,rfl⟩:=e
    rw[upd_same,if_pos ⟨rfl,rfl⟩]
    omega
   ·rw[upd_other _ _ _ _ _ _ e,if_neg (fun q=>e ⟨q.1.symm,q.2.symm⟩)]
    omega
  ·cases h
theorem val_none:∀(ps:List T3) (a i:Int),(∀p∈ps,¬(p.1=a∧p.2.1=i))→val ps a i=0
 |[],_,_,_=>rfl
 |p::r,a,i,h=>by
  unfold val
  rw[if_neg (h p List.mem_cons_self)]
  exact val_none r a i (fun q hq=>h q (List.mem_cons_of_mem _ hq))
theorem sum_true(x:T3)(j:Int):∀(ps:List T3),ps.Pairwise Bef→sumI (putL x ps true) j=sumI ps j-(if x.2.1=j then val ps x.1 x.2.1 else 0)
 |[],_=>by simp[putL,sumI,val]
 |y::r,h=>by
  obtain⟨h1,h2⟩:=List.pairwise_cons.1 h
  have ih:=sum_true x j r h2
  by_cases c:y.1≠x.1∨y.2.1≠x.2.1
  ·have e:putL x (y::r) true=y::putL x r true:=by simp[putL,c]
   have v:val (y::r) x.1 x.2.1=val r x.1 x.2.1:=by
    rw[val,if_neg (by omega)]
   rw[e,v]
   simp only[sumI,ih]
   omega
  ·have e:putL x (y::r) true=putL x r true:=by simp[putL,c]
   have k1:y.1=x.1:=by omega
   have k2:y.2.1=x.2.1:=by omega
   have v:val (y::r) x.1 x.2.1=y.2.2:=by rw[val,if_pos ⟨k1,k2⟩]
   have z:val r x.1 x.2.1=0:=val_none r _ _ (fun q hq e=>by have:=h1 q hq;unfold Bef at this;omega)
   rw[e,ih,z,v]
   simp only[sumI]
   rw[k2]
   split<;>omega
theorem sum_false(x:T3)(j:Int):∀(ps:List T3),ps.Pairwise Bef→sumI (putL x ps false) j=sumI ps j+(if x.2.1=j then x.2.2-val ps x.1 x.2.1 else 0)
 |[],_=>by simp[putL,sumI,val]
 |y::r,h=>by
  obtain⟨h1,h2⟩:=List.pairwise_cons.1 h
  by_cases b:Bef y x
  ·have ih:=sum_false x j r h2
   have b':=b
   unfold Bef at b'
   have c:y.1≠x.1∨y.2.1≠x.2.1:=by omega
   have e:putL x (y::r) false=y::putL x r false:=by simp[putL,b',c]
   have v:val (y::r) x.1 x.2.1=val r x.1 x.2.1:=by rw[val,if_neg (by omega)]
   rw[e,v]
   simp only[sumI,ih]
   omega
  ·have b':=b
   unfold Bef at b'
   have e:putL x (y::r) false=x::putL x (y::r) true:=by simp[putL,b']
   have t:=sum_true x j (y::r) h
   rw[e]
   simp only[sumI] at t⊢
   rw[t]
   split<;>omega
theorem put_sum(x:T3)(ps:List T3)(j:Int)(h:Bals.Good ps):∃qs,ListOf (upd (val ps) x.1 x.2.1 x.2.2) qs∧sumI qs j=sumI ps j+(if x.2.1=j then x.2.2-val ps x.1 x.2.1 else 0):=by
 by_cases z:x.2.2=0
 ·refine⟨putL x ps true,put_val x ps true h ⟨fun _=>z,fun _=>rfl⟩,?_⟩
  rw[sum_true x j ps h.1,z]
  split<;>omega
 ·exact⟨putL x ps false,put_val x ps false h ⟨fun e=>Bool.noConfusion e,fun e=>absurd e z⟩,sum_false x j ps h.1⟩
theorem posts_sumI(j:Int):∀(ls ps qs:List T3) (f':Int→Int→Int),Bals.Good ps→posts (val ps) ls=some f'→ListOf f' qs→sumI qs j=sumI ps j+sumI ls j
 |[],ps,qs,f',h,e,l=>by
  cases e
  have:qs=ps:=l.1.ext h l.2
  rw[this]
  simp[sumI]
 |l::r,ps,qs,f',h,e,lo=>by
  unfold posts at e
  split at e
  ·obtain⟨us,hu,hs⟩:=put_sum (l.1,l.2.1,val ps l.1 l.2.1+l.2.2) ps j h
   have ev:val us=upd (val ps) l.1 l.2.1 (val ps l.1 l.2.1+l.2.2):=funext fun a=>funext fun i=>hu.2 a i
   rw[←ev] at e
   have ih:=posts_sumI j r us qs f' hu.1 e lo
   rw[ih,hs]
   simp only[sumI]
   split<;>omega
  ·cases e
section
variable {ps ls qs rs:List T3} {xs:List Int} {c:Int}
end
end PostMore
end Go.Proofs.YtcjgepkdpkhljaaGreat
