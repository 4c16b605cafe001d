/- Lemmas. -/
import Derived.Test.YtppkkmaoaiopaaaGreatQF0
import Derived.Below
open Go.ChangeShapes Go.WideShapes Go.RowKit
set_option linter.unusedVariables false
set_option linter.unusedSimpArgs false
set_option maxRecDepth 100000
set_option maxHeartbeats 32000000
namespace Go.Proofs.YtppkkmaoaiopaaaGreat
namespace Bals
open Go Go.RowKit
abbrev T3:Type:=Int×Int×Int
abbrev el3(ps:List T3)(i:Nat):T3:=ps.getD i (0,0,0)
def Amt(x:Int):Prop:= -1000000000000000≤x∧x≤1000000000000000
def NoOk(x:Int):Prop:=1≤x∧x≤1000
def Bef(p q:T3):Prop:=p.1<q.1∨(p.1=q.1∧p.2.1<q.2.1)
theorem bef_irrefl(p:T3):¬Bef p p:=by unfold Bef;omega
theorem bef_trans{p q r:T3}(h:Bef p q)(k:Bef q r):Bef p r:=by unfold Bef at *;omega
def RowOk(ps:List T3)(i:Nat):Prop:=
 NoOk (el3 ps i).1∧NoOk (el3 ps i).2.1∧Amt (el3 ps i).2.2∧(el3 ps i).2.2≠0∧(0<i→Bef (el3 ps (i-1)) (el3 ps i))
def Right(ps:List T3):Prop:=ps.length≤160∧∀i,i<ps.length→RowOk ps i
theorem bool_of(p:Prop):∃b:Bool,b=true↔p:=by
 by_cases h:p
 ·exact⟨true,⟨fun _=>h,fun _=>rfl⟩⟩
 ·exact⟨false,⟨fun e=>Bool.noConfusion e,fun e=>absurd e h⟩⟩
def Says(b:Bool)(p:Prop):Prop:=b=true↔p
theorem says_of(p:Prop):∃b,Says b p:=bool_of _
theorem Says.yes{p:Prop}(h:Says true p):p:=h.1 rfl
theorem Says.no{p:Prop}(h:Says false p):¬p:=fun r=>Bool.noConfusion (h.2 r)
theorem Says.of{b:Bool}{p:Prop}(h:Says b p)(r:p):b=true:=h.2 r
theorem Says.not{b:Bool}{p:Prop}(h:Says b p)(r:¬p):b=false:=by
 cases b
 ·rfl
 ·exact absurd h.yes r
def val:List T3→Int→Int→Int
 |[],_,_=>0
 |p::r,a,i=>if p.1=a∧p.2.1=i then p.2.2 else val r a i
def Good(ps:List T3):Prop:=ps.Pairwise Bef∧∀p∈ps,p.2.2≠0
theorem val_mem:∀(ps:List T3) (a i:Int),val ps a i≠0→(a,i,val ps a i)∈ps
 |[],a,i,h=>absurd rfl h
 |p::r,a,i,h=>by
  unfold val at h⊢
  by_cases e:p.1=a∧p.2.1=i
  ·rw[if_pos e]
   obtain⟨rfl,rfl⟩:=e
   exact List.mem_cons_self
  ·rw[if_neg e] at h⊢
   exact List.mem_cons_of_mem _ (val_mem r a i h)
theorem val_of_mem:∀(ps:List T3),ps.Pairwise Bef→∀p∈ps,val ps p.1 p.2.1=p.2.2
 |[],_,p,h=>by simp at h
 |q::r,h,p,hp=>by
  obtain⟨h1,h2⟩:=List.pairwise_cons.1 h
  unfold val
  rcases List.mem_cons.1 hp with rfl|hp
  ·rw[if_pos ⟨rfl,rfl⟩]
  ·have:=h1 p hp
   rw[if_neg (by unfold Bef at this;omega)]
   exact val_of_mem r h2 p hp
theorem Good.mem{ps:List T3}(h:Good ps)(p:T3):p∈ps↔p.2.2≠0∧val ps p.1 p.2.1=p.2.2:=by
 constructor
 ·intro hp
  exact⟨h.2 p hp,val_of_mem ps h.1 p hp⟩
 ·rintro⟨h1,h2⟩
  have:=val_mem ps p.1 p.2.1 (by rw[h2];exact h1)
  rw[h2] at this
  exact this
theorem mem_getD{ps:List T3}{p:T3}(h:p∈ps):∃i,i<ps.length∧el3 ps i=p:=by
 obtain⟨i,hi,e⟩:=List.getElem_of_mem h
 refine⟨i,hi,?_⟩
 unfold el3
 simp[List.getD,hi,e]
theorem Right.asc{ps:List T3}(h:Right ps):∀j i,i<j→j<ps.length→Bef (el3 ps i) (el3 ps j):=by
 intro j
 induction j with
 |zero=>intro i h1;omega
 |succ j ih=>
  intro i h1 h2
  have r:=(h.2 (j+1) h2).2.2.2.2 (by omega)
  rw[show j+1-1=j by omega] at r
  by_cases e:i=j
  ·subst e;exact r
  ·exact bef_trans (ih i (by omega) (by omega)) r
theorem Right.val_in{ps:List T3}(h:Right ps)(a i:Int):Amt (val ps a i)∧(val ps a i≠0→NoOk a∧NoOk i):=by
 by_cases z:val ps a i=0
 ·rw[z]
  exact⟨by unfold Amt;omega,fun h0=>absurd rfl h0⟩
 ·obtain⟨k,hk,e⟩:=mem_getD (val_mem ps a i z)
  obtain⟨h1,h2,h3,_⟩:=h.2 k hk
  rw[e] at h1 h2 h3
  exact⟨h3,fun _=>⟨h1,h2⟩⟩
def upd(f:Int→Int→Int)(a i x:Int):Int→Int→Int:=fun b j=>if b=a∧j=i then x else f b j
theorem upd_same(f:Int→Int→Int)(a i x:Int):upd f a i x a i=x:=by unfold upd;rw[if_pos ⟨rfl,rfl⟩]
theorem upd_other(f:Int→Int→Int)(a i x b j:Int)(h:¬(b=a∧j=i)):upd f a i x b j=f b j:=by unfold upd;rw[if_neg h]
def other(x:T3)(y:T3):Prop:=y.1≠x.1∨y.2.1≠x.2.1
def sumI:List T3→Int→Int
 |[],_=>0
 |p::r,i=>(if p.2.1=i then p.2.2 else 0)+sumI r i
theorem sumI_append(i:Int):∀(ps qs:List T3),sumI (ps++qs) i=sumI ps i+sumI qs i
 |[],qs=>by simp[sumI]
 |p::r,qs=>by
  have:=sumI_append i r qs
  simp only[List.cons_append,sumI,this]
  omega
theorem take_next{ps:List T3}{k:Nat}(h:k<ps.length):ps.take (k+1)=ps.take k++[el3 ps k]:=by
 rw[List.take_add_one]
 simp[List.getD,h]
theorem sumI_next{ps:List T3}{k:Nat}(h:k<ps.length)(i:Int):sumI (ps.take (k+1)) i=sumI (ps.take k) i+(if(el3 ps k).2.1=i then(el3 ps k).2.2 else 0):=by
 rw[take_next h,sumI_append]
 simp[sumI]
theorem sumI_bound{ps:List T3}(i:Int)(h:∀j,j<ps.length→Amt (el3 ps j).2.2):∀k,k≤ps.length→-(1000000000000000*(k:Int))≤sumI (ps.take k) i∧sumI (ps.take k) i≤1000000000000000*(k:Int)
 |0,_=>by simp[sumI]
 |k+1,hk=>by
  have ih:=sumI_bound i h k (by omega)
  have a:=h k (by omega)
  rw[sumI_next (by omega)]
  unfold Amt at a
  split<;>omega
def IsSum(ps:List T3)(i r:Int)(ok:Bool):Prop:=
 (Right ps∧Amt (sumI ps i)∧r=sumI ps i∧ok=true)∨(¬(Right ps∧Amt (sumI ps i))∧r=0∧ok=false)
def Even(ps:List T3):Prop:=∀i,sumI ps i=0
theorem sumI_none(i:Int):∀(ps:List T3),(∀p∈ps,p.2.1≠i)→sumI ps i=0
 |[],_=>rfl
 |p::r,h=>by
  unfold sumI
  rw[if_neg (h p List.mem_cons_self),sumI_none i r (fun q hq=>h q (List.mem_cons_of_mem _ hq))]
  rfl
theorem even_of{ps:List T3}(h:∀k,k<ps.length→sumI ps (el3 ps k).2.1=0):Even ps:=by
 intro i
 by_cases e:∃p∈ps,p.2.1=i
 ·obtain⟨p,hp,rfl⟩:=e
  obtain⟨k,hk,rfl⟩:=mem_getD hp
  exact h k hk
 ·exact sumI_none i ps (fun p hp e'=>e ⟨p,hp,e'⟩)
def ListOf(f:Int→Int→Int)(qs:List T3):Prop:=Good qs∧∀a i,val qs a i=f a i
section
variable {ps ls:List T3} {xs:List Int}
end
end Bals
namespace Chart
open Go Go.RowKit
abbrev el(ps:List (Int×Int))(i:Nat):Int×Int:=ps.getD i (0,0)
def RowOk(last:Int)(ps:List (Int×Int))(i:Nat):Prop:=
 (1≤(el ps i).1∧(el ps i).1≤1000)∧(1≤(el ps i).2∧(el ps i).2≤last)∧(0<i→(el ps (i-1)).1<(el ps i).1)
def Right(most:Nat)(last:Int)(ps:List (Int×Int)):Prop:=ps.length≤most∧∀i,i<ps.length→RowOk last ps i
theorem bool_of(p:Prop):∃b:Bool,b=true↔p:=by
 by_cases h:p
 ·exact⟨true,⟨fun _=>h,fun _=>rfl⟩⟩
 ·exact⟨false,⟨fun e=>Bool.noConfusion e,fun e=>absurd e h⟩⟩
def Says(b:Bool)(most:Nat)(last:Int)(ps:List (Int×Int)):Prop:=b=true↔Right most last ps
theorem says_of(most:Nat)(last:Int)(ps:List (Int×Int)):∃b,Says b most last ps:=bool_of _
theorem Says.yes{most:Nat}{last:Int}{ps:List (Int×Int)}(h:Says true most last ps):Right most last ps:=h.1 rfl
theorem Says.no{most:Nat}{last:Int}{ps:List (Int×Int)}(h:Says false most last ps):¬Right most last ps:=fun r=>Bool.noConfusion (h.2 r)
theorem Says.of{b:Bool}{most:Nat}{last:Int}{ps:List (Int×Int)}(h:Says b most last ps)(r:Right most last ps):b=true:=h.2 r
theorem Says.not{b:Bool}{most:Nat}{last:Int}{ps:List (Int×Int)}(h:Says b most last ps)(r:¬Right most last ps):b=false:=by
 cases b
 ·rfl
 ·exact absurd h.yes r
theorem Right.asc{most:Nat}{last:Int}{ps:List (Int×Int)}(h:Right most last ps):∀j i,i<j→j<ps.length→(el ps i).1<(el ps j).1:=by
 intro j
 induction j with
 |zero=>intro i h1;omega
 |succ j ih=>
  intro i h1 h2
  have r:=(h.2 (j+1) h2).2.2 (by omega)
  rw[show j+1-1=j by omega] at r
  by_cases e:i=j
  ·subst e;exact r
  ·have:=ih i (by omega) (by omega)
   omega
theorem Right.one{most:Nat}{last:Int}{ps:List (Int×Int)}(h:Right most last ps)(i j:Nat)(hi:i<ps.length)(hj:j<ps.length)(e:(el ps i).1=(el ps j).1):i=j:=by
 rcases Nat.lt_trichotomy i j with l|l|l
 ·have:=h.asc j i l hj;omega
 ·exact l
 ·have:=h.asc i j l hi;omega
def IsKind(most:Nat)(last:Int)(ps:List (Int×Int))(no r:Int):Prop:=
 (Right most last ps∧∃i,i<ps.length∧(el ps i).1=no∧r=(el ps i).2)∨((¬Right most last ps∨∀i,i<ps.length→(el ps i).1≠no)∧r=0)
def IsPlace(ps:List (Int×Int))(no:Int)(c:Nat):Prop:=c≤ps.length∧(∀i,i<c→(el ps i).1<no)∧(c<ps.length→no≤(el ps c).1)
def StandsAt(f:Bool)(ps:List (Int×Int))(no:Int)(c:Nat):Prop:=f=true↔c<ps.length∧(el ps c).1=no
theorem StandsAt.yes{ps:List (Int×Int)}{no:Int}{c:Nat}(h:StandsAt true ps no c):c<ps.length∧(el ps c).1=no:=h.1 rfl
theorem StandsAt.no{ps:List (Int×Int)}{no:Int}{c:Nat}(h:StandsAt false ps no c):¬(c<ps.length∧(el ps c).1=no):=fun z=>Bool.noConfusion (h.2 z)
end Chart
end Go.Proofs.YtppkkmaoaiopaaaGreat
