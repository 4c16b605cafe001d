/- Texts of one proof, one behind the other: Pairs, Bals, Triples, Tup5, Tup8, Chart, Lots, Takes, Bks, BMem, AccountIOk, AccountIPlace, AccountIKind, InstrIOk, InstrIPlace, InstrIKind, Ints, IRead, IHave, Quieter, SOk5, ITrade, Cmp, IOk3, CmpL, IOk5, ILists, Tab, SOk3, Look, IBalsFit, AccountSOk, InstrSOk, AccountHelp, AccountMark, InstrHelp, InstrMark, BalHelp. -/
import Derived.Test.YtagmnociflkhcaaGreatDoorRows
import Derived.Test.YtagmnociflkhcaaGreatDoorCards
import Derived.Test.YtagmnociflkhcaaGreatDoorTie
import Derived.OrdersHeld
import Derived.Deep.RegionHeld3
import Derived.WalkKit
import Derived.ProofKit
import Derived.OpenShut
import Derived.Below
import Derived.BigQuiet
import Derived.RowKit
import Derived.WalkSmall
import Derived.Deep.LoopGhost
import Derived.Sort.Grow
import Derived.Laws.StructEq
import Derived.Maps.OwnOps
import Derived.Maps.RangeWalk
import Derived.Maps.Ext
import Derived.DeepKeys4
set_option linter.unusedVariables false
set_option linter.unusedSimpArgs false
open Go.ChangeShapes Go.WideShapes Go.ChangeAt Go.RowKit
set_option maxRecDepth 100000
set_option maxHeartbeats 32000000
namespace Go.Proofs.YtagmnociflkhcaaGreatDoor
section
variable {P:Program} {ops:Array Oper} {Q:Exit→Act→World→Prop} {md:Region.Mode} {S:World→Prop} {fuel:Nat} {listed:Array Bool} {a:Act} {w:World}
theorem tk(i:Nat)(oi:Oper)(v:Value)(hi:ops[i]?=some oi)(hb:(Region.noSelect ops&&(Region.free md ops listed i&&(Region.ready md ops listed).contains i))=true)(hQ:∀c a w,Q (.panic c) (a.put oi.dst v) w→Q (.panic c) a w)(hw:Region.wanted oi (yielded ops a.tmps)=true)(hy:∀w,S w→(execOp a.eval oi).run P w= .ok (.value v) w)(hS:S w)(h:wpAnyH P md ops Q S fuel (listed.setIfInBounds i true) (a.put oi.dst v) w):wpAnyH P md ops Q S (fuel+1) listed a w:=by
 rw[Bool.and_eq_true,Bool.and_eq_true] at hb
 exact wpAnyH_take hi hb.1 hb.2.1 hb.2.2 hQ (.inl ⟨hw,hy⟩) hS h
theorem sk(i:Nat)(oi:Oper)(hi:ops[i]?=some oi)(hb:(Region.noSelect ops&&(Region.free md ops listed i&&(Region.ready md ops listed).contains i))=true)(hQ:∀c a w,Q (.panic c) (a.put oi.dst undef) w→Q (.panic c) a w)(hw:Region.wanted oi (yielded ops a.tmps)=false)(hS:S w)(h:wpAnyH P md ops Q S fuel (listed.setIfInBounds i true) (a.put oi.dst undef) w):wpAnyH P md ops Q S (fuel+1) listed a w:=by
 rw[Bool.and_eq_true,Bool.and_eq_true] at hb
 exact wpAnyH_take hi hb.1 hb.2.1 hb.2.2 hQ (.inr ⟨hw,rfl⟩) hS h
end
theorem zA{α:Type}(l:List α)(i:Nat)(x:α):l.toArray.setIfInBounds i x=(l.set i x).toArray:=List.setIfInBounds_toArray ..
theorem zB{α:Type}(x y:α)(l:List α):(x::l).set 0 y=y::l:=rfl
theorem zC{α:Type}(x y:α)(l:List α)(n:Nat):(x::l).set (n+1) y=x::l.set n y:=rfl
namespace Pairs
theorem zh{p:Prop}(h:p):Hid p:=h
theorem zu{p:Prop}(h:Hid p):p:=h
def flat(ps:List (Int×Int)):List Value:=ps.flatMap fun p=>[.int .i64 p.1,.int .i64 p.2]
theorem flat_cons(p:Int×Int)(ps:List (Int×Int)):flat (p::ps)= .int .i64 p.1:: .int .i64 p.2::flat ps:=rfl
theorem flat_len(ps:List (Int×Int)):(flat ps).length=ps.length*2:=by
 induction ps with
 |nil=>rfl
 |cons p ps ih=>rw[flat_cons];simp[ih];omega
theorem flat_get(ps:List (Int×Int)):∀i,i<ps.length→(flat ps)[i*2]?=some (.int .i64 (ps.getD i (0,0)).1)∧(flat ps)[i*2+1]?=some (.int .i64 (ps.getD i (0,0)).2):=by
 induction ps with
 |nil=>intro i h;simp at h
 |cons p ps ih=>
  intro i h
  cases i with
  |zero=>rw[flat_cons];simp
  |succ i=>
   have:=ih i (by simpa using h)
   rw[flat_cons,show(i+1)*2=i*2+2 by omega,show i*2+2+1=(i*2+1)+2 by omega]
   simpa using this
theorem flat_set0(ps:List (Int×Int)):∀(i:Nat) (x:Int),(flat ps).set (i*2) (.int .i64 x)=flat (ps.modify i fun p=>(x,p.2)):=by
 induction ps with
 |nil=>intro i x;simp[flat]
 |cons p ps ih=>
  intro i x
  cases i with
  |zero=>simp[flat_cons]
  |succ i=>
   rw[flat_cons,show(i+1)*2=i*2+1+1 by omega,List.set_cons_succ,List.set_cons_succ,ih i x,List.modify_succ_cons,flat_cons]
theorem flat_set1(ps:List (Int×Int)):∀(i:Nat) (x:Int),(flat ps).set (i*2+1) (.int .i64 x)=flat (ps.modify i fun p=>(p.1,x)):=by
 induction ps with
 |nil=>intro i x;simp[flat]
 |cons p ps ih=>
  intro i x
  cases i with
  |zero=>simp[flat_cons]
  |succ i=>
   rw[flat_cons,show(i+1)*2+1=i*2+1+1+1 by omega,List.set_cons_succ,List.set_cons_succ,ih i x,List.modify_succ_cons,flat_cons]
def At(w:World)(g:Nat)(ps:List (Int×Int)):Prop:=
 ∀i,i<ps.length→w.cell? ⟨g,i*2,none⟩=some (.int .i64 (ps.getD i (0,0)).1)∧w.cell? ⟨g,i*2+1,none⟩=some (.int .i64 (ps.getD i (0,0)).2)
def Reads(w:World)(a:Option Addr)(ps:List (Int×Int)):Prop:=
 ps.length=0∨∃b off,a=some ⟨b,off,none⟩∧b<w.heap.size∧∀i,i<ps.length→w.cell? ⟨b,off+i*2,none⟩=some (.int .i64 (ps.getD i (0,0)).1)∧w.cell? ⟨b,off+i*2+1,none⟩=some (.int .i64 (ps.getD i (0,0)).2)
def Own(e:TypeId)(w:World)(base g n cap:Nat)(ps:List (Int×Int)):Prop:=w.ownsRow base e 2 (.slice (some ⟨g,0,none⟩) n cap) n (flat ps)
section
variable {e:TypeId} {w w':World} {base base' g n cap:Nat} {ps:List (Int×Int)}
theorem Own.len(h:Own e w base g n cap ps):ps.length=n:=by
 have:=h.1
 rw[flat_len] at this
 omega
theorem Own.lt(h:Own e w base g n cap ps):base≤g∧g<w.heap.size:=World.ownsRow.lt h g rfl
theorem Own.at(h:Own e w base g n cap ps):At w g ps:=by
 intro i hi
 have hl:=h.len
 have g0:=World.ownsRow.cellAt h (i*2) (by omega)
 have g1:=World.ownsRow.cellAt h (i*2+1) (by omega)
 obtain⟨f0,f1⟩:=flat_get ps i hi
 exact⟨g0.trans f0,g1.trans f1⟩
theorem Own.free(h:Own e w base g n cap ps)(i:Nat):w.frozen? ⟨g,i,none⟩=false:=World.ownsRow.frozenAt h i
theorem Own.rebase(h:Own e w base g n cap ps)(hb:base'≤g):Own e w base' g n cap ps:=by
 refine⟨h.1,?_⟩
 rcases h.2 with⟨h1,_⟩|⟨g',c,cur,h1,h2,h3⟩
 ·simp at h1
 ·obtain⟨e,_⟩:g=g'∧cap=c:=by simpa using h1
  subst e
  exact Or.inr ⟨g,c,cur,h1,hb,h3⟩
theorem Own.kept{row:Option Nat}(h:Own e w base g n cap ps)(k:w.grownBy w' row)(hne:some g≠row):Own e w' base g n cap ps:=
 World.ownsRow.kept h k (Or.inr hne)
theorem Own.below{B:Nat}(h:Own e w base g n cap ps)(k:Below B w w')(hg:g<B):Own e w' base g n cap ps:=by
 refine⟨h.1,?_⟩
 rcases h.2 with⟨h1,_⟩|⟨g',c,cur,h1,h2,h3,h4⟩
 ·simp at h1
 ·obtain⟨e,_⟩:g=g'∧cap=c:=by simpa using h1
  subst e
  exact Or.inr ⟨g,c,cur,h1,h2,by rw[k.block g hg];exact h3,h4⟩
theorem Own.alloc(h:Own e w base g n cap ps)(o:Obj):Own e (w.alloc o) base g n cap ps:=World.ownsRow.alloc h o
theorem Own.drew(h:Own e w base g n cap ps):Own e w.drew base g n cap ps:=h
theorem At.below{B:Nat}(h:At w g ps)(k:Below B w w')(hg:g<B):At w' g ps:=fun i hi=>
 ⟨(k.cell (p:=⟨g,i*2,none⟩) hg).trans (h i hi).1,(k.cell (p:=⟨g,i*2+1,none⟩) hg).trans (h i hi).2⟩
theorem Reads.below{a:Option Addr}(h:Reads w a ps)(k:Below w.heap.size w w'):Reads w' a ps:=by
 rcases h with h|⟨b,off,rfl,hb,hc⟩
 ·exact Or.inl h
 ·exact Or.inr ⟨b,off,rfl,Nat.lt_of_lt_of_le hb k.size,fun i hi=>⟨(k.cell (p:=⟨b,off+i*2,none⟩) hb).trans (hc i hi).1,(k.cell (p:=⟨b,off+i*2+1,none⟩) hb).trans (hc i hi).2⟩⟩
theorem Own.set0(h:Own e w base g n cap ps)(i:Nat)(x:Int):
  Own e (w.setCell ⟨g,i*2,none⟩ (.int .i64 x)) base g n cap (ps.modify i fun p=>(x,p.2))∧w.grownBy (w.setCell ⟨g,i*2,none⟩ (.int .i64 x)) (some g):=by
 have:=World.ownsRow.stored h (i*2) (.int .i64 x)
 refine⟨?_,this.2⟩
 unfold Own
 rw[←flat_set0]
 exact this.1
theorem Own.set1(h:Own e w base g n cap ps)(i:Nat)(x:Int):
  Own e (w.setCell ⟨g,i*2+1,none⟩ (.int .i64 x)) base g n cap (ps.modify i fun p=>(p.1,x))∧w.grownBy (w.setCell ⟨g,i*2+1,none⟩ (.int .i64 x)) (some g):=by
 have:=World.ownsRow.stored h (i*2+1) (.int .i64 x)
 refine⟨?_,this.2⟩
 unfold Own
 rw[←flat_set1]
 exact this.1
end
theorem next{a b c:World}(h:Below a.heap.size a b)(k:Below b.heap.size b c):Below a.heap.size a c:=h.trans (k.mono h.size)
theorem grown_trans{a b c:World}{row:Option Nat}(h:a.grownBy b row)(k:b.grownBy c row):a.grownBy c row:=
 ⟨k.os.trans h.os,k.tape.trans h.tape,k.output.trans h.output,Nat.le_trans h.size k.size,fun j hj hne=>(k.block j (Nat.lt_of_lt_of_le hj h.size) hne).trans (h.block j hj hne)⟩
theorem At.cells{w:World}{g:Nat}{ps:List (Int×Int)}(h:At w g ps):∀(j:Nat) (u:Value),(flat ps)[j]?=some u→w.cell? ((⟨g,0,none⟩:Addr).add j)=some u:=by
 intro j u hj
 have hl:j<ps.length*2:=by
  have:=(List.getElem?_eq_some_iff.1 hj).1
  rw[flat_len] at this
  exact this
 rw[Addr.add_lit,Nat.zero_add]
 obtain⟨c0,c1⟩:=h (j/2) (by omega)
 obtain⟨f0,f1⟩:=flat_get ps (j/2) (by omega)
 rcases(show j%2=0∨j%2=1 by omega) with e|e
 ·rw[show j/2*2=j by omega] at c0 f0
  rw[c0,←hj,f0]
 ·rw[show j/2*2+1=j by omega] at c1 f1
  rw[c1,←hj,f1]
theorem below_drewN{B:Nat}{a w:World}(h:Below B a w)(m:Nat):Below B a (w.drewN m):=⟨h.os,h.tape,h.output,h.size,h.block⟩
end Pairs
namespace Bals
open Go Go.RowKit
abbrev T3:Type:=Int×Int×Int
abbrev el3(ps:List T3)(i:Nat):T3:=ps.getD i (0,0,0)
def Amt(x:Int):Prop:= -1000000000000000≤x∧x≤1000000000000000
def NoOk(x:Int):Prop:=1≤x∧x≤1000
def Bef(p q:T3):Prop:=p.1<q.1∨(p.1=q.1∧p.2.1<q.2.1)
theorem bef_irrefl(p:T3):¬Bef p p:=by unfold Bef;omega
theorem bef_trans{p q r:T3}(h:Bef p q)(k:Bef q r):Bef p r:=by unfold Bef at *;omega
def RowOk(ps:List T3)(i:Nat):Prop:=
 NoOk (el3 ps i).1∧NoOk (el3 ps i).2.1∧Amt (el3 ps i).2.2∧(el3 ps i).2.2≠0∧(0<i→Bef (el3 ps (i-1)) (el3 ps i))
def Right(ps:List T3):Prop:=ps.length≤160∧∀i,i<ps.length→RowOk ps i
def LegOk(ps:List T3)(i:Nat):Prop:=NoOk (el3 ps i).1∧NoOk (el3 ps i).2.1∧Amt (el3 ps i).2.2
def Formed(ps:List T3):Prop:=ps.length≤160∧∀i,i<ps.length→LegOk ps i
theorem bool_of(p:Prop):∃b:Bool,b=true↔p:=by
 by_cases h:p
 ·exact⟨true,⟨fun _=>h,fun _=>rfl⟩⟩
 ·exact⟨false,⟨fun e=>Bool.noConfusion e,fun e=>absurd e h⟩⟩
def Says(b:Bool)(p:Prop):Prop:=b=true↔p
theorem says_of(p:Prop):∃b,Says b p:=bool_of _
theorem Says.yes{p:Prop}(h:Says true p):p:=h.1 rfl
theorem Says.no{p:Prop}(h:Says false p):¬p:=fun r=>Bool.noConfusion (h.2 r)
theorem Says.of{b:Bool}{p:Prop}(h:Says b p)(r:p):b=true:=h.2 r
theorem Says.not{b:Bool}{p:Prop}(h:Says b p)(r:¬p):b=false:=by
 cases b
 ·rfl
 ·exact absurd h.yes r
def val:List T3→Int→Int→Int
 |[],_,_=>0
 |p::r,a,i=>if p.1=a∧p.2.1=i then p.2.2 else val r a i
def Good(ps:List T3):Prop:=ps.Pairwise Bef∧∀p∈ps,p.2.2≠0
theorem val_mem:∀(ps:List T3) (a i:Int),val ps a i≠0→(a,i,val ps a i)∈ps
 |[],a,i,h=>absurd rfl h
 |p::r,a,i,h=>by
  unfold val at h⊢
  by_cases e:p.1=a∧p.2.1=i
  ·rw[if_pos e]
   obtain⟨rfl,rfl⟩:=e
   exact List.mem_cons_self
  ·rw[if_neg e] at h⊢
   exact List.mem_cons_of_mem _ (val_mem r a i h)
theorem val_of_mem:∀(ps:List T3),ps.Pairwise Bef→∀p∈ps,val ps p.1 p.2.1=p.2.2
 |[],_,p,h=>by simp at h
 |q::r,h,p,hp=>by
  obtain⟨h1,h2⟩:=List.pairwise_cons.1 h
  unfold val
  rcases List.mem_cons.1 hp with rfl|hp
  ·rw[if_pos ⟨rfl,rfl⟩]
  ·have:=h1 p hp
   rw[if_neg (by unfold Bef at this;omega)]
   exact val_of_mem r h2 p hp
theorem Good.mem{ps:List T3}(h:Good ps)(p:T3):p∈ps↔p.2.2≠0∧val ps p.1 p.2.1=p.2.2:=by
 constructor
 ·intro hp
  exact⟨h.2 p hp,val_of_mem ps h.1 p hp⟩
 ·rintro⟨h1,h2⟩
  have:=val_mem ps p.1 p.2.1 (by rw[h2];exact h1)
  rw[h2] at this
  exact this
theorem getD_mem{ps:List T3}{i:Nat}(h:i<ps.length):el3 ps i∈ps:=by
 unfold el3
 simp only[List.getD,List.getElem?_eq_getElem h,Option.getD_some]
 exact List.getElem_mem h
theorem mem_getD{ps:List T3}{p:T3}(h:p∈ps):∃i,i<ps.length∧el3 ps i=p:=by
 obtain⟨i,hi,e⟩:=List.getElem_of_mem h
 refine⟨i,hi,?_⟩
 unfold el3
 simp[List.getD,hi,e]
theorem Right.asc{ps:List T3}(h:Right ps):∀j i,i<j→j<ps.length→Bef (el3 ps i) (el3 ps j):=by
 intro j
 induction j with
 |zero=>intro i h1;omega
 |succ j ih=>
  intro i h1 h2
  have r:=(h.2 (j+1) h2).2.2.2.2 (by omega)
  rw[show j+1-1=j by omega] at r
  by_cases e:i=j
  ·subst e;exact r
  ·exact bef_trans (ih i (by omega) (by omega)) r
theorem Right.of{ps:List T3}(hl:ps.length≤160)(g:Good ps)(h:∀p∈ps,NoOk p.1∧NoOk p.2.1∧Amt p.2.2):Right ps:=by
 refine⟨hl,fun i hi=>?_⟩
 obtain⟨a,b,c⟩:=h _ (getD_mem hi)
 refine⟨a,b,c,g.2 _ (getD_mem hi),fun h0=>?_⟩
 have:=List.pairwise_iff_getElem.1 g.1 (i-1) i (by omega) hi (by omega)
 simpa[el3,List.getD,hi,show i-1<ps.length by omega] using this
theorem Right.val_in{ps:List T3}(h:Right ps)(a i:Int):Amt (val ps a i)∧(val ps a i≠0→NoOk a∧NoOk i):=by
 by_cases z:val ps a i=0
 ·rw[z]
  exact⟨by unfold Amt;omega,fun h0=>absurd rfl h0⟩
 ·obtain⟨k,hk,e⟩:=mem_getD (val_mem ps a i z)
  obtain⟨h1,h2,h3,_⟩:=h.2 k hk
  rw[e] at h1 h2 h3
  exact⟨h3,fun _=>⟨h1,h2⟩⟩
def upd(f:Int→Int→Int)(a i x:Int):Int→Int→Int:=fun b j=>if b=a∧j=i then x else f b j
theorem upd_same(f:Int→Int→Int)(a i x:Int):upd f a i x a i=x:=by unfold upd;rw[if_pos ⟨rfl,rfl⟩]
theorem upd_other(f:Int→Int→Int)(a i x b j:Int)(h:¬(b=a∧j=i)):upd f a i x b j=f b j:=by unfold upd;rw[if_neg h]
def other(x:T3)(y:T3):Prop:=y.1≠x.1∨y.2.1≠x.2.1
def sumI:List T3→Int→Int
 |[],_=>0
 |p::r,i=>(if p.2.1=i then p.2.2 else 0)+sumI r i
theorem sumI_append(i:Int):∀(ps qs:List T3),sumI (ps++qs) i=sumI ps i+sumI qs i
 |[],qs=>by simp[sumI]
 |p::r,qs=>by
  have:=sumI_append i r qs
  simp only[List.cons_append,sumI,this]
  omega
theorem take_next{ps:List T3}{k:Nat}(h:k<ps.length):ps.take (k+1)=ps.take k++[el3 ps k]:=by
 rw[List.take_add_one]
 simp[List.getD,h]
theorem sumI_next{ps:List T3}{k:Nat}(h:k<ps.length)(i:Int):sumI (ps.take (k+1)) i=sumI (ps.take k) i+(if(el3 ps k).2.1=i then(el3 ps k).2.2 else 0):=by
 rw[take_next h,sumI_append]
 simp[sumI]
theorem sumI_bound{ps:List T3}(i:Int)(h:∀j,j<ps.length→Amt (el3 ps j).2.2):∀k,k≤ps.length→-(1000000000000000*(k:Int))≤sumI (ps.take k) i∧sumI (ps.take k) i≤1000000000000000*(k:Int)
 |0,_=>by simp[sumI]
 |k+1,hk=>by
  have ih:=sumI_bound i h k (by omega)
  have a:=h k (by omega)
  rw[sumI_next (by omega)]
  unfold Amt at a
  split<;>omega
def IsSum(ps:List T3)(i r:Int)(ok:Bool):Prop:=
 (Right ps∧Amt (sumI ps i)∧r=sumI ps i∧ok=true)∨(¬(Right ps∧Amt (sumI ps i))∧r=0∧ok=false)
def Even(ps:List T3):Prop:=∀i,sumI ps i=0
theorem sumI_none(i:Int):∀(ps:List T3),(∀p∈ps,p.2.1≠i)→sumI ps i=0
 |[],_=>rfl
 |p::r,h=>by
  unfold sumI
  rw[if_neg (h p List.mem_cons_self),sumI_none i r (fun q hq=>h q (List.mem_cons_of_mem _ hq))]
  rfl
theorem even_of{ps:List T3}(h:∀k,k<ps.length→sumI ps (el3 ps k).2.1=0):Even ps:=by
 intro i
 by_cases e:∃p∈ps,p.2.1=i
 ·obtain⟨p,hp,rfl⟩:=e
  obtain⟨k,hk,rfl⟩:=mem_getD hp
  exact h k hk
 ·exact sumI_none i ps (fun p hp e'=>e ⟨p,hp,e'⟩)
def posts:(Int→Int→Int)→List T3→Option (Int→Int→Int)
 |f,[]=>some f
 |f,l::r=>if-1000000000000000≤f l.1 l.2.1+l.2.2∧f l.1 l.2.1+l.2.2≤1000000000000000 then posts (upd f l.1 l.2.1 (f l.1 l.2.1+l.2.2)) r else none
def Lacks(f:Int→Int→Int)(ls:List T3)(short:List Int):Prop:=∃k,k<ls.length∧f (el3 ls k).1 (el3 ls k).2.1<0∧(el3 ls k).1∉short
def ListOf(f:Int→Int→Int)(qs:List T3):Prop:=Good qs∧∀a i,val qs a i=f a i
def IsPost(ps ls:List T3)(short:List Int)(qs:List T3)(c:Int):Prop:=
 (¬(Right ps∧Formed ls∧short.length≤20)∧qs=[]∧c=1)∨
 ((Right ps∧Formed ls∧short.length≤20)∧¬Even ls∧qs=ps∧c=2)∨
 ((Right ps∧Formed ls∧short.length≤20)∧Even ls∧posts (val ps) ls=none∧qs=ps∧c=4)∨
 (∃f,(Right ps∧Formed ls∧short.length≤20)∧Even ls∧posts (val ps) ls=some f∧Lacks f ls short∧qs=ps∧c=3)∨
 (∃f us,(Right ps∧Formed ls∧short.length≤20)∧Even ls∧posts (val ps) ls=some f∧¬Lacks f ls short∧ListOf f us∧¬us.length≤160∧qs=ps∧c=5)∨
 (∃f,(Right ps∧Formed ls∧short.length≤20)∧Even ls∧posts (val ps) ls=some f∧¬Lacks f ls short∧ListOf f qs∧qs.length≤160∧c=0)
section
variable {ps ls:List T3} {xs:List Int}
end
def IsPut(ps:List T3)(a i x:Int)(qs:List T3)(ok:Bool):Prop:=
 ((Right ps∧NoOk a∧NoOk i∧Amt x)∧ListOf (upd (val ps) a i x) qs∧qs.length≤160∧ok=true)∨
 ((Right ps∧NoOk a∧NoOk i∧Amt x)∧(∃rs,ListOf (upd (val ps) a i x) rs∧¬rs.length≤160)∧qs=[]∧ok=false)∨
 (¬(Right ps∧NoOk a∧NoOk i∧Amt x)∧qs=[]∧ok=false)
theorem IsPut.len{ps:List T3}{a i x:Int}{qs:List T3}{ok:Bool}(h:IsPut ps a i x qs ok):qs.length≤160:=by
 rcases h with⟨_,_,h,_⟩|⟨_,_,rfl,_⟩|⟨_,rfl,_⟩
 ·exact h
 ·exact Nat.zero_le _
 ·exact Nat.zero_le _
theorem IsPost.len{ps ls:List T3}{short:List Int}{qs:List T3}{c:Int}(h:IsPost ps ls short qs c):qs.length≤160:=by
 rcases h with⟨_,rfl,_⟩|⟨h1,_,rfl,_⟩|⟨h1,_,_,rfl,_⟩|⟨_,h1,_,_,_,rfl,_⟩|⟨_,_,h1,_,_,_,_,_,rfl,_⟩|⟨_,_,_,_,_,_,h6,_⟩
 ·exact Nat.zero_le _
 ·exact h1.1.1
 ·exact h1.1.1
 ·exact h1.1.1
 ·exact h1.1.1
 ·exact h6
end Bals
namespace Triples
open Bals
theorem zh{p:Prop}(h:p):Hid p:=h
theorem zu{p:Prop}(h:Hid p):p:=h
def flat3(ps:List T3):List Value:=ps.flatMap fun p=>[.int .i64 p.1,.int .i64 p.2.1,.int .i64 p.2.2]
theorem flat3_cons(p:T3)(ps:List T3):flat3 (p::ps)= .int .i64 p.1:: .int .i64 p.2.1:: .int .i64 p.2.2::flat3 ps:=rfl
theorem flat3_append(ps qs:List T3):flat3 (ps++qs)=flat3 ps++flat3 qs:=by simp[flat3,List.flatMap_append]
theorem flat3_len(ps:List T3):(flat3 ps).length=ps.length*3:=by
 induction ps with
 |nil=>rfl
 |cons p ps ih=>rw[flat3_cons];simp[ih];omega
theorem flat3_get(ps:List T3):∀i,i<ps.length→(flat3 ps)[i*3]?=some (.int .i64 (el3 ps i).1)∧(flat3 ps)[i*3+1]?=some (.int .i64 (el3 ps i).2.1)∧(flat3 ps)[i*3+2]?=some (.int .i64 (el3 ps i).2.2):=by
 induction ps with
 |nil=>intro i h;simp at h
 |cons p ps ih=>
  intro i h
  cases i with
  |zero=>rw[flat3_cons];simp
  |succ i=>
   have:=ih i (by simpa using h)
   rw[flat3_cons,show(i+1)*3=i*3+3 by omega,show i*3+3+1=(i*3+1)+3 by omega,show i*3+3+2=(i*3+2)+3 by omega]
   simpa using this
theorem flat3_one(u:Value)(ps:List T3)(h:u∈flat3 ps):u.oneCell'=true:=by
 induction ps with
 |nil=>simp[flat3] at h
 |cons p ps ih=>
  rw[flat3_cons] at h
  simp only[List.mem_cons] at h
  rcases h with rfl|rfl|rfl|h
  ·rfl
  ·rfl
  ·rfl
  ·exact ih h
theorem flat3_set(ps:List T3):∀(i:Nat) (x:Int),(flat3 ps).set (i*3) (.int .i64 x)=flat3 (ps.modify i fun p=>(x,p.2))∧(flat3 ps).set (i*3+1) (.int .i64 x)=flat3 (ps.modify i fun p=>(p.1,x,p.2.2))∧
  (flat3 ps).set (i*3+2) (.int .i64 x)=flat3 (ps.modify i fun p=>(p.1,p.2.1,x)):=by
 induction ps with
 |nil=>intro i x;simp[flat3]
 |cons p ps ih=>
  intro i x
  cases i with
  |zero=>simp[flat3_cons]
  |succ i=>
   obtain⟨a,b,c⟩:=ih i x
   refine⟨?_,?_,?_⟩
   ·rw[flat3_cons,show(i+1)*3=i*3+1+1+1 by omega,List.set_cons_succ,List.set_cons_succ,List.set_cons_succ,a,List.modify_succ_cons,flat3_cons]
   ·rw[flat3_cons,show(i+1)*3+1=i*3+1+1+1+1 by omega,List.set_cons_succ,List.set_cons_succ,List.set_cons_succ,b,List.modify_succ_cons,flat3_cons]
   ·rw[flat3_cons,show(i+1)*3+2=i*3+2+1+1+1 by omega,List.set_cons_succ,List.set_cons_succ,List.set_cons_succ,c,List.modify_succ_cons,flat3_cons]
def Holds3(w:World)(g o:Nat)(p:T3):Prop:=w.cell? ⟨g,o,none⟩=some (.int .i64 p.1)∧w.cell? ⟨g,o+1,none⟩=some (.int .i64 p.2.1)∧w.cell? ⟨g,o+2,none⟩=some (.int .i64 p.2.2)
def At3(w:World)(g:Nat)(ps:List T3):Prop:=∀i,i<ps.length→Holds3 w g (i*3) (el3 ps i)
def Reads3(w:World)(a:Option Addr)(ps:List T3):Prop:=ps.length=0∨∃b off,a=some ⟨b,off,none⟩∧b<w.heap.size∧∀i,i<ps.length→Holds3 w b (off+i*3) (el3 ps i)
def Own3(e:TypeId)(w:World)(base g n cap:Nat)(ps:List T3):Prop:=w.ownsRow base e 3 (.slice (some ⟨g,0,none⟩) n cap) n (flat3 ps)
section
variable {e:TypeId} {w w':World} {base base' g n cap:Nat} {ps:List T3}
theorem Holds3.below{B o:Nat}{p:T3}(h:Holds3 w g o p)(k:Below B w w')(hg:g<B):Holds3 w' g o p:=
 ⟨(k.cell (p:=⟨g,o,none⟩) hg).trans h.1,(k.cell (p:=⟨g,o+1,none⟩) hg).trans h.2.1,(k.cell (p:=⟨g,o+2,none⟩) hg).trans h.2.2⟩
theorem Own3.len(h:Own3 e w base g n cap ps):ps.length=n:=by
 have:=h.1
 rw[flat3_len] at this
 omega
theorem Own3.lt(h:Own3 e w base g n cap ps):base≤g∧g<w.heap.size:=World.ownsRow.lt h g rfl
theorem Own3.at(h:Own3 e w base g n cap ps):At3 w g ps:=by
 intro i hi
 have hl:=h.len
 obtain⟨f0,f1,f2⟩:=flat3_get ps i hi
 exact⟨(World.ownsRow.cellAt h (i*3) (by omega)).trans f0,(World.ownsRow.cellAt h (i*3+1) (by omega)).trans f1,(World.ownsRow.cellAt h (i*3+2) (by omega)).trans f2⟩
theorem Own3.free(h:Own3 e w base g n cap ps)(i:Nat):w.frozen? ⟨g,i,none⟩=false:=World.ownsRow.frozenAt h i
theorem Own3.rebase(h:Own3 e w base g n cap ps)(hb:base'≤g):Own3 e w base' g n cap ps:=by
 refine⟨h.1,?_⟩
 rcases h.2 with⟨h1,_⟩|⟨g',c,cur,h1,h2,h3⟩
 ·simp at h1
 ·obtain⟨e,_⟩:g=g'∧cap=c:=by simpa using h1
  subst e
  exact Or.inr ⟨g,c,cur,h1,hb,h3⟩
theorem Own3.kept{row:Option Nat}(h:Own3 e w base g n cap ps)(k:w.grownBy w' row)(hne:some g≠row):Own3 e w' base g n cap ps:=
 World.ownsRow.kept h k (Or.inr hne)
theorem Own3.below{B:Nat}(h:Own3 e w base g n cap ps)(k:Below B w w')(hg:g<B):Own3 e w' base g n cap ps:=by
 refine⟨h.1,?_⟩
 rcases h.2 with⟨h1,_⟩|⟨g',c,cur,h1,h2,h3,h4⟩
 ·simp at h1
 ·obtain⟨e,_⟩:g=g'∧cap=c:=by simpa using h1
  subst e
  exact Or.inr ⟨g,c,cur,h1,h2,by rw[k.block g hg];exact h3,h4⟩
theorem Own3.alloc(h:Own3 e w base g n cap ps)(o:Obj):Own3 e (w.alloc o) base g n cap ps:=World.ownsRow.alloc h o
theorem Own3.drew(h:Own3 e w base g n cap ps):Own3 e w.drew base g n cap ps:=h
theorem At3.below{B:Nat}(h:At3 w g ps)(k:Below B w w')(hg:g<B):At3 w' g ps:=fun i hi=>(h i hi).below k hg
theorem Reads3.below{a:Option Addr}(h:Reads3 w a ps)(k:Below w.heap.size w w'):Reads3 w' a ps:=by
 rcases h with h|⟨b,off,rfl,hb,hc⟩
 ·exact Or.inl h
 ·exact Or.inr ⟨b,off,rfl,Nat.lt_of_lt_of_le hb k.size,fun i hi=>(hc i hi).below k hb⟩
theorem Own3.set0(h:Own3 e w base g n cap ps)(i:Nat)(x:Int):
  Own3 e (w.setCell ⟨g,i*3,none⟩ (.int .i64 x)) base g n cap (ps.modify i fun p=>(x,p.2))∧w.grownBy (w.setCell ⟨g,i*3,none⟩ (.int .i64 x)) (some g):=by
 have:=World.ownsRow.stored h (i*3) (.int .i64 x)
 refine⟨?_,this.2⟩
 unfold Own3
 rw[←(flat3_set ps i x).1]
 exact this.1
theorem Own3.set1(h:Own3 e w base g n cap ps)(i:Nat)(x:Int):
  Own3 e (w.setCell ⟨g,i*3+1,none⟩ (.int .i64 x)) base g n cap (ps.modify i fun p=>(p.1,x,p.2.2))∧w.grownBy (w.setCell ⟨g,i*3+1,none⟩ (.int .i64 x)) (some g):=by
 have:=World.ownsRow.stored h (i*3+1) (.int .i64 x)
 refine⟨?_,this.2⟩
 unfold Own3
 rw[←(flat3_set ps i x).2.1]
 exact this.1
theorem Own3.set2(h:Own3 e w base g n cap ps)(i:Nat)(x:Int):
  Own3 e (w.setCell ⟨g,i*3+2,none⟩ (.int .i64 x)) base g n cap (ps.modify i fun p=>(p.1,p.2.1,x))∧w.grownBy (w.setCell ⟨g,i*3+2,none⟩ (.int .i64 x)) (some g):=by
 have:=World.ownsRow.stored h (i*3+2) (.int .i64 x)
 refine⟨?_,this.2⟩
 unfold Own3
 rw[←(flat3_set ps i x).2.2]
 exact this.1
end
theorem grownBy_below{w w':World}(h:w.grownBy w' none):Below w.heap.size w w':=⟨h.os,h.tape,h.output,h.size,fun k hk=>h.block k hk (by simp)⟩
theorem next{a b c:World}(h:Below a.heap.size a b)(k:Below b.heap.size b c):Below a.heap.size a c:=h.trans (k.mono h.size)
theorem own3_of_row{e:TypeId}{w:World}{base n n':Nat}{v:Value}{vs:List Value}{ps:List T3}(h:w.ownsRow base e 3 v n vs)(hn:n=n')(hv:vs=flat3 ps)(hs:¬v= .slice none 0 0):
  ∃g c,v= .slice (some ⟨g,0,none⟩) n' c∧Own3 e w base g n' c ps:=by
 subst hn hv
 have h':=h
 rcases h.2 with⟨h1,_⟩|⟨g,c,cur,rfl,_⟩
 ·exact absurd h1 hs
 ·exact⟨g,c,rfl,h'⟩
theorem lit30(e:TypeId)(w:World)(base:Nat)(hb:base≤w.heap.size):Own3 e (w.alloc (.cells #[] e)) base w.heap.size 0 0 []:=World.ownsRow_lit w #[] 0 hb (by decide) rfl
theorem At3.cells{w:World}{g:Nat}{ps:List T3}(h:At3 w g ps):∀(j:Nat) (u:Value),(flat3 ps)[j]?=some u→w.cell? ((⟨g,0,none⟩:Addr).add j)=some u:=by
 intro j u hj
 have hl:j<ps.length*3:=by
  have:=(List.getElem?_eq_some_iff.1 hj).1
  rw[flat3_len] at this
  exact this
 rw[Addr.add_lit,Nat.zero_add]
 obtain⟨c0,c1,c2⟩:=h (j/3) (by omega)
 obtain⟨f0,f1,f2⟩:=flat3_get ps (j/3) (by omega)
 rcases(show j%3=0∨j%3=1∨j%3=2 by omega) with e|e|e
 ·rw[show j/3*3=j by omega] at c0 f0
  rw[c0,←hj,f0]
 ·rw[show j/3*3+1=j by omega] at c1 f1
  rw[c1,←hj,f1]
 ·rw[show j/3*3+2=j by omega] at c2 f2
  rw[c2,←hj,f2]
theorem grown_trans{a b c:World}{row:Option Nat}(h:a.grownBy b row)(k:b.grownBy c row):a.grownBy c row:=
 ⟨k.os.trans h.os,k.tape.trans h.tape,k.output.trans h.output,Nat.le_trans h.size k.size,fun j hj hne=>(k.block j (Nat.lt_of_lt_of_le hj h.size) hne).trans (h.block j hj hne)⟩
theorem below_drewN{B:Nat}{a w:World}(h:Below B a w)(m:Nat):Below B a (w.drewN m):=⟨h.os,h.tape,h.output,h.size,h.block⟩
end Triples
namespace Tup5
theorem zh{p:Prop}(h:p):Hid p:=h
theorem zu{p:Prop}(h:Hid p):p:=h
abbrev T5:Type:=Int×Int×Int×Int×Int
abbrev el5(ps:List T5)(i:Nat):T5:=ps.getD i (0,0,0,0,0)
def flat5(ps:List T5):List Value:=ps.flatMap fun p=>[.int .i64 p.1,.int .i64 p.2.1,.int .i64 p.2.2.1,.int .i64 p.2.2.2.1,.int .i64 p.2.2.2.2]
theorem flat5_cons(p:T5)(ps:List T5):flat5 (p::ps)= .int .i64 p.1:: .int .i64 p.2.1:: .int .i64 p.2.2.1:: .int .i64 p.2.2.2.1:: .int .i64 p.2.2.2.2::flat5 ps:=rfl
theorem flat5_append(ps qs:List T5):flat5 (ps++qs)=flat5 ps++flat5 qs:=by simp[flat5,List.flatMap_append]
theorem flat5_len(ps:List T5):(flat5 ps).length=ps.length*5:=by
 induction ps with
 |nil=>rfl
 |cons p ps ih=>rw[flat5_cons];simp[ih];omega
theorem flat5_get(ps:List T5):∀i,i<ps.length→(flat5 ps)[i*5]?=some (.int .i64 (el5 ps i).1)∧(flat5 ps)[i*5+1]?=some (.int .i64 (el5 ps i).2.1)∧(flat5 ps)[i*5+2]?=some (.int .i64 (el5 ps i).2.2.1)∧(flat5 ps)[i*5+3]?=some (.int .i64 (el5 ps i).2.2.2.1)∧(flat5 ps)[i*5+4]?=some (.int .i64 (el5 ps i).2.2.2.2):=by
 induction ps with
 |nil=>intro i h;simp at h
 |cons p ps ih=>
  intro i h
  cases i with
  |zero=>rw[flat5_cons];simp
  |succ i=>
   have:=ih i (by simpa using h)
   rw[flat5_cons,show(i+1)*5=i*5+5 by omega,show i*5+5+1=(i*5+1)+5 by omega,show i*5+5+2=(i*5+2)+5 by omega,show i*5+5+3=(i*5+3)+5 by omega,show i*5+5+4=(i*5+4)+5 by omega]
   simpa using this
theorem flat5_one(u:Value)(ps:List T5)(h:u∈flat5 ps):u.oneCell'=true:=by
 induction ps with
 |nil=>simp[flat5] at h
 |cons p ps ih=>
  rw[flat5_cons] at h
  simp only[List.mem_cons] at h
  rcases h with rfl|rfl|rfl|rfl|rfl|h
  ·rfl
  ·rfl
  ·rfl
  ·rfl
  ·rfl
  ·exact ih h
theorem flat5_set(ps:List T5):∀(i:Nat) (x:Int),(flat5 ps).set (i*5) (.int .i64 x)=flat5 (ps.modify i fun p=>(x,p.2.1,p.2.2.1,p.2.2.2.1,p.2.2.2.2))∧(flat5 ps).set (i*5+1) (.int .i64 x)=flat5 (ps.modify i fun p=>(p.1,x,p.2.2.1,p.2.2.2.1,p.2.2.2.2))∧(flat5 ps).set (i*5+2) (.int .i64 x)=flat5 (ps.modify i fun p=>(p.1,p.2.1,x,p.2.2.2.1,p.2.2.2.2))∧(flat5 ps).set (i*5+3) (.int .i64 x)=flat5 (ps.modify i fun p=>(p.1,p.2.1,p.2.2.1,x,p.2.2.2.2))∧(flat5 ps).set (i*5+4) (.int .i64 x)=flat5 (ps.modify i fun p=>(p.1,p.2.1,p.2.2.1,p.2.2.2.1,x)):=by
 induction ps with
 |nil=>intro i x;simp[flat5]
 |cons p ps ih=>
  intro i x
  cases i with
  |zero=>simp[flat5_cons]
  |succ i=>
   obtain⟨a0,a1,a2,a3,a4⟩:=ih i x
   refine⟨?_,?_,?_,?_,?_⟩
   ·rw[flat5_cons,show(i+1)*5=i*5+1+1+1+1+1 by omega,List.set_cons_succ,List.set_cons_succ,List.set_cons_succ,List.set_cons_succ,List.set_cons_succ,a0,List.modify_succ_cons,flat5_cons]
   ·rw[flat5_cons,show(i+1)*5+1=i*5+1+1+1+1+1+1 by omega,List.set_cons_succ,List.set_cons_succ,List.set_cons_succ,List.set_cons_succ,List.set_cons_succ,a1,List.modify_succ_cons,flat5_cons]
   ·rw[flat5_cons,show(i+1)*5+2=i*5+2+1+1+1+1+1 by omega,List.set_cons_succ,List.set_cons_succ,List.set_cons_succ,List.set_cons_succ,List.set_cons_succ,a2,List.modify_succ_cons,flat5_cons]
   ·rw[flat5_cons,show(i+1)*5+3=i*5+3+1+1+1+1+1 by omega,List.set_cons_succ,List.set_cons_succ,List.set_cons_succ,List.set_cons_succ,List.set_cons_succ,a3,List.modify_succ_cons,flat5_cons]
   ·rw[flat5_cons,show(i+1)*5+4=i*5+4+1+1+1+1+1 by omega,List.set_cons_succ,List.set_cons_succ,List.set_cons_succ,List.set_cons_succ,List.set_cons_succ,a4,List.modify_succ_cons,flat5_cons]
def Holds5(w:World)(g o:Nat)(p:T5):Prop:=w.cell? ⟨g,o,none⟩=some (.int .i64 p.1)∧w.cell? ⟨g,o+1,none⟩=some (.int .i64 p.2.1)∧w.cell? ⟨g,o+2,none⟩=some (.int .i64 p.2.2.1)∧w.cell? ⟨g,o+3,none⟩=some (.int .i64 p.2.2.2.1)∧w.cell? ⟨g,o+4,none⟩=some (.int .i64 p.2.2.2.2)
def At5(w:World)(g:Nat)(ps:List T5):Prop:=∀i,i<ps.length→Holds5 w g (i*5) (el5 ps i)
def Reads5(w:World)(a:Option Addr)(ps:List T5):Prop:=ps.length=0∨∃b off,a=some ⟨b,off,none⟩∧b<w.heap.size∧∀i,i<ps.length→Holds5 w b (off+i*5) (el5 ps i)
def Own5(e:TypeId)(w:World)(base g n cap:Nat)(ps:List T5):Prop:=w.ownsRow base e 5 (.slice (some ⟨g,0,none⟩) n cap) n (flat5 ps)
section
variable {e:TypeId} {w w':World} {base base' g n cap:Nat} {ps:List T5}
theorem Holds5.below{B o:Nat}{p:T5}(h:Holds5 w g o p)(k:Below B w w')(hg:g<B):Holds5 w' g o p:=
 ⟨(k.cell (p:=⟨g,o,none⟩) hg).trans h.1,(k.cell (p:=⟨g,o+1,none⟩) hg).trans h.2.1,(k.cell (p:=⟨g,o+2,none⟩) hg).trans h.2.2.1,(k.cell (p:=⟨g,o+3,none⟩) hg).trans h.2.2.2.1,(k.cell (p:=⟨g,o+4,none⟩) hg).trans h.2.2.2.2⟩
theorem Own5.len(h:Own5 e w base g n cap ps):ps.length=n:=by
 have:=h.1
 rw[flat5_len] at this
 omega
theorem Own5.lt(h:Own5 e w base g n cap ps):base≤g∧g<w.heap.size:=World.ownsRow.lt h g rfl
theorem Own5.at(h:Own5 e w base g n cap ps):At5 w g ps:=by
 intro i hi
 have hl:=h.len
 obtain⟨f0,f1,f2,f3,f4⟩:=flat5_get ps i hi
 exact⟨(World.ownsRow.cellAt h (i*5) (by omega)).trans f0,(World.ownsRow.cellAt h (i*5+1) (by omega)).trans f1,(World.ownsRow.cellAt h (i*5+2) (by omega)).trans f2,(World.ownsRow.cellAt h (i*5+3) (by omega)).trans f3,(World.ownsRow.cellAt h (i*5+4) (by omega)).trans f4⟩
theorem Own5.free(h:Own5 e w base g n cap ps)(i:Nat):w.frozen? ⟨g,i,none⟩=false:=World.ownsRow.frozenAt h i
theorem Own5.rebase(h:Own5 e w base g n cap ps)(hb:base'≤g):Own5 e w base' g n cap ps:=by
 refine⟨h.1,?_⟩
 rcases h.2 with⟨h1,_⟩|⟨g',c,cur,h1,h2,h3⟩
 ·simp at h1
 ·obtain⟨e,_⟩:g=g'∧cap=c:=by simpa using h1
  subst e
  exact Or.inr ⟨g,c,cur,h1,hb,h3⟩
theorem Own5.kept{row:Option Nat}(h:Own5 e w base g n cap ps)(k:w.grownBy w' row)(hne:some g≠row):Own5 e w' base g n cap ps:=
 World.ownsRow.kept h k (Or.inr hne)
theorem Own5.below{B:Nat}(h:Own5 e w base g n cap ps)(k:Below B w w')(hg:g<B):Own5 e w' base g n cap ps:=by
 refine⟨h.1,?_⟩
 rcases h.2 with⟨h1,_⟩|⟨g',c,cur,h1,h2,h3,h4⟩
 ·simp at h1
 ·obtain⟨e,_⟩:g=g'∧cap=c:=by simpa using h1
  subst e
  exact Or.inr ⟨g,c,cur,h1,h2,by rw[k.block g hg];exact h3,h4⟩
theorem Own5.alloc(h:Own5 e w base g n cap ps)(o:Obj):Own5 e (w.alloc o) base g n cap ps:=World.ownsRow.alloc h o
theorem Own5.drew(h:Own5 e w base g n cap ps):Own5 e w.drew base g n cap ps:=h
theorem At5.below{B:Nat}(h:At5 w g ps)(k:Below B w w')(hg:g<B):At5 w' g ps:=fun i hi=>(h i hi).below k hg
theorem At5.drewN(h:At5 w g ps)(m:Nat):At5 (w.drewN m) g ps:=h
theorem Reads5.below{a:Option Addr}(h:Reads5 w a ps)(k:Below w.heap.size w w'):Reads5 w' a ps:=by
 rcases h with h|⟨b,off,rfl,hb,hc⟩
 ·exact Or.inl h
 ·exact Or.inr ⟨b,off,rfl,Nat.lt_of_lt_of_le hb k.size,fun i hi=>(hc i hi).below k hb⟩
theorem Own5.set0(h:Own5 e w base g n cap ps)(i:Nat)(x:Int):
  Own5 e (w.setCell ⟨g,i*5,none⟩ (.int .i64 x)) base g n cap (ps.modify i fun p=>(x,p.2.1,p.2.2.1,p.2.2.2.1,p.2.2.2.2))∧w.grownBy (w.setCell ⟨g,i*5,none⟩ (.int .i64 x)) (some g):=by
 have:=World.ownsRow.stored h (i*5) (.int .i64 x)
 refine⟨?_,this.2⟩
 unfold Own5
 rw[←(flat5_set ps i x).1]
 exact this.1
theorem Own5.set1(h:Own5 e w base g n cap ps)(i:Nat)(x:Int):
  Own5 e (w.setCell ⟨g,i*5+1,none⟩ (.int .i64 x)) base g n cap (ps.modify i fun p=>(p.1,x,p.2.2.1,p.2.2.2.1,p.2.2.2.2))∧w.grownBy (w.setCell ⟨g,i*5+1,none⟩ (.int .i64 x)) (some g):=by
 have:=World.ownsRow.stored h (i*5+1) (.int .i64 x)
 refine⟨?_,this.2⟩
 unfold Own5
 rw[←(flat5_set ps i x).2.1]
 exact this.1
theorem Own5.set2(h:Own5 e w base g n cap ps)(i:Nat)(x:Int):
  Own5 e (w.setCell ⟨g,i*5+2,none⟩ (.int .i64 x)) base g n cap (ps.modify i fun p=>(p.1,p.2.1,x,p.2.2.2.1,p.2.2.2.2))∧w.grownBy (w.setCell ⟨g,i*5+2,none⟩ (.int .i64 x)) (some g):=by
 have:=World.ownsRow.stored h (i*5+2) (.int .i64 x)
 refine⟨?_,this.2⟩
 unfold Own5
 rw[←(flat5_set ps i x).2.2.1]
 exact this.1
theorem Own5.set3(h:Own5 e w base g n cap ps)(i:Nat)(x:Int):
  Own5 e (w.setCell ⟨g,i*5+3,none⟩ (.int .i64 x)) base g n cap (ps.modify i fun p=>(p.1,p.2.1,p.2.2.1,x,p.2.2.2.2))∧w.grownBy (w.setCell ⟨g,i*5+3,none⟩ (.int .i64 x)) (some g):=by
 have:=World.ownsRow.stored h (i*5+3) (.int .i64 x)
 refine⟨?_,this.2⟩
 unfold Own5
 rw[←(flat5_set ps i x).2.2.2.1]
 exact this.1
theorem Own5.set4(h:Own5 e w base g n cap ps)(i:Nat)(x:Int):
  Own5 e (w.setCell ⟨g,i*5+4,none⟩ (.int .i64 x)) base g n cap (ps.modify i fun p=>(p.1,p.2.1,p.2.2.1,p.2.2.2.1,x))∧w.grownBy (w.setCell ⟨g,i*5+4,none⟩ (.int .i64 x)) (some g):=by
 have:=World.ownsRow.stored h (i*5+4) (.int .i64 x)
 refine⟨?_,this.2⟩
 unfold Own5
 rw[←(flat5_set ps i x).2.2.2.2]
 exact this.1
end
theorem next{a b c:World}(h:Below a.heap.size a b)(k:Below b.heap.size b c):Below a.heap.size a c:=h.trans (k.mono h.size)
theorem own5_of_row{e:TypeId}{w:World}{base n n':Nat}{v:Value}{vs:List Value}{ps:List T5}(h:w.ownsRow base e 5 v n vs)(hn:n=n')(hv:vs=flat5 ps)(hs:¬v= .slice none 0 0):
  ∃g c,v= .slice (some ⟨g,0,none⟩) n' c∧Own5 e w base g n' c ps:=by
 subst hn hv
 have h':=h
 rcases h.2 with⟨h1,_⟩|⟨g,c,cur,rfl,_⟩
 ·exact absurd h1 hs
 ·exact⟨g,c,rfl,h'⟩
theorem lit50(e:TypeId)(w:World)(base:Nat)(hb:base≤w.heap.size):Own5 e (w.alloc (.cells #[] e)) base w.heap.size 0 0 []:=World.ownsRow_lit w #[] 0 hb (by decide) rfl
theorem lit51(e:TypeId)(w:World)(base:Nat)(x0 x1 x2 x3 x4:Int)(hb:base≤w.heap.size):Own5 e (w.alloc (.cells #[.int .i64 x0,.int .i64 x1,.int .i64 x2,.int .i64 x3,.int .i64 x4] e)) base w.heap.size 1 1 [(x0,x1,x2,x3,x4)]:=World.ownsRow_lit w #[.int .i64 x0,.int .i64 x1,.int .i64 x2,.int .i64 x3,.int .i64 x4] 1 hb (by decide) rfl
theorem At5.cells{w:World}{g:Nat}{ps:List T5}(h:At5 w g ps):∀(j:Nat) (u:Value),(flat5 ps)[j]?=some u→w.cell? ((⟨g,0,none⟩:Addr).add j)=some u:=by
 intro j u hj
 have hl:j<ps.length*5:=by
  have:=(List.getElem?_eq_some_iff.1 hj).1
  rw[flat5_len] at this
  exact this
 rw[Addr.add_lit,Nat.zero_add]
 obtain⟨c0,c1,c2,c3,c4⟩:=h (j/5) (by omega)
 obtain⟨f0,f1,f2,f3,f4⟩:=flat5_get ps (j/5) (by omega)
 rcases(show j%5=0∨j%5=1∨j%5=2∨j%5=3∨j%5=4 by omega) with e|e|e|e|e
 ·rw[show j/5*5=j by omega] at c0 f0
  rw[c0,←hj,f0]
 ·rw[show j/5*5+1=j by omega] at c1 f1
  rw[c1,←hj,f1]
 ·rw[show j/5*5+2=j by omega] at c2 f2
  rw[c2,←hj,f2]
 ·rw[show j/5*5+3=j by omega] at c3 f3
  rw[c3,←hj,f3]
 ·rw[show j/5*5+4=j by omega] at c4 f4
  rw[c4,←hj,f4]
theorem grown_trans{a b c:World}{row:Option Nat}(h:a.grownBy b row)(k:b.grownBy c row):a.grownBy c row:=
 ⟨k.os.trans h.os,k.tape.trans h.tape,k.output.trans h.output,Nat.le_trans h.size k.size,fun j hj hne=>(k.block j (Nat.lt_of_lt_of_le hj h.size) hne).trans (h.block j hj hne)⟩
theorem below_drewN{B:Nat}{a w:World}(h:Below B a w)(m:Nat):Below B a (w.drewN m):=⟨h.os,h.tape,h.output,h.size,h.block⟩
theorem getD_mem{ps:List T5}{i:Nat}(h:i<ps.length):el5 ps i∈ps:=by
 unfold el5
 simp only[List.getD,List.getElem?_eq_getElem h,Option.getD_some]
 exact List.getElem_mem h
theorem mem_getD{ps:List T5}{p:T5}(h:p∈ps):∃i,i<ps.length∧el5 ps i=p:=by
 obtain⟨i,hi,e⟩:=List.getElem_of_mem h
 refine⟨i,hi,?_⟩
 unfold el5
 simp[List.getD,hi,e]
theorem take_next{ps:List T5}{k:Nat}(h:k<ps.length):ps.take (k+1)=ps.take k++[el5 ps k]:=by
 rw[List.take_add_one]
 simp[List.getD,h]
end Tup5
namespace Tup8
theorem zh{p:Prop}(h:p):Hid p:=h
theorem zu{p:Prop}(h:Hid p):p:=h
abbrev T8:Type:=Int×Int×Int×Int×Int×Int×Int×Int
abbrev el8(ps:List T8)(i:Nat):T8:=ps.getD i (0,0,0,0,0,0,0,0)
def flat8(ps:List T8):List Value:=ps.flatMap fun p=>[.int .i64 p.1,.int .i64 p.2.1,.int .i64 p.2.2.1,.int .i64 p.2.2.2.1,.int .i64 p.2.2.2.2.1,.int .i64 p.2.2.2.2.2.1,.int .i64 p.2.2.2.2.2.2.1,.int .i64 p.2.2.2.2.2.2.2]
theorem flat8_cons(p:T8)(ps:List T8):flat8 (p::ps)= .int .i64 p.1:: .int .i64 p.2.1:: .int .i64 p.2.2.1:: .int .i64 p.2.2.2.1:: .int .i64 p.2.2.2.2.1:: .int .i64 p.2.2.2.2.2.1:: .int .i64 p.2.2.2.2.2.2.1:: .int .i64 p.2.2.2.2.2.2.2::flat8 ps:=rfl
theorem flat8_len(ps:List T8):(flat8 ps).length=ps.length*8:=by
 induction ps with
 |nil=>rfl
 |cons p ps ih=>rw[flat8_cons];simp[ih];omega
theorem flat8_get(ps:List T8):∀i,i<ps.length→(flat8 ps)[i*8]?=some (.int .i64 (el8 ps i).1)∧(flat8 ps)[i*8+1]?=some (.int .i64 (el8 ps i).2.1)∧(flat8 ps)[i*8+2]?=some (.int .i64 (el8 ps i).2.2.1)∧(flat8 ps)[i*8+3]?=some (.int .i64 (el8 ps i).2.2.2.1)∧(flat8 ps)[i*8+4]?=some (.int .i64 (el8 ps i).2.2.2.2.1)∧(flat8 ps)[i*8+5]?=some (.int .i64 (el8 ps i).2.2.2.2.2.1)∧(flat8 ps)[i*8+6]?=some (.int .i64 (el8 ps i).2.2.2.2.2.2.1)∧(flat8 ps)[i*8+7]?=some (.int .i64 (el8 ps i).2.2.2.2.2.2.2):=by
 induction ps with
 |nil=>intro i h;simp at h
 |cons p ps ih=>
  intro i h
  cases i with
  |zero=>rw[flat8_cons];simp
  |succ i=>
   have:=ih i (by simpa using h)
   rw[flat8_cons,show(i+1)*8=i*8+8 by omega,show i*8+8+1=(i*8+1)+8 by omega,show i*8+8+2=(i*8+2)+8 by omega,show i*8+8+3=(i*8+3)+8 by omega,show i*8+8+4=(i*8+4)+8 by omega,show i*8+8+5=(i*8+5)+8 by omega,show i*8+8+6=(i*8+6)+8 by omega,show i*8+8+7=(i*8+7)+8 by omega]
   simpa using this
theorem flat8_set(ps:List T8):∀(i:Nat) (x:Int),(flat8 ps).set (i*8) (.int .i64 x)=flat8 (ps.modify i fun p=>(x,p.2.1,p.2.2.1,p.2.2.2.1,p.2.2.2.2.1,p.2.2.2.2.2.1,p.2.2.2.2.2.2.1,p.2.2.2.2.2.2.2))∧(flat8 ps).set (i*8+1) (.int .i64 x)=flat8 (ps.modify i fun p=>(p.1,x,p.2.2.1,p.2.2.2.1,p.2.2.2.2.1,p.2.2.2.2.2.1,p.2.2.2.2.2.2.1,p.2.2.2.2.2.2.2))∧(flat8 ps).set (i*8+2) (.int .i64 x)=flat8 (ps.modify i fun p=>(p.1,p.2.1,x,p.2.2.2.1,p.2.2.2.2.1,p.2.2.2.2.2.1,p.2.2.2.2.2.2.1,p.2.2.2.2.2.2.2))∧(flat8 ps).set (i*8+3) (.int .i64 x)=flat8 (ps.modify i fun p=>(p.1,p.2.1,p.2.2.1,x,p.2.2.2.2.1,p.2.2.2.2.2.1,p.2.2.2.2.2.2.1,p.2.2.2.2.2.2.2))∧(flat8 ps).set (i*8+4) (.int .i64 x)=flat8 (ps.modify i fun p=>(p.1,p.2.1,p.2.2.1,p.2.2.2.1,x,p.2.2.2.2.2.1,p.2.2.2.2.2.2.1,p.2.2.2.2.2.2.2))∧(flat8 ps).set (i*8+5) (.int .i64 x)=flat8 (ps.modify i fun p=>(p.1,p.2.1,p.2.2.1,p.2.2.2.1,p.2.2.2.2.1,x,p.2.2.2.2.2.2.1,p.2.2.2.2.2.2.2))∧(flat8 ps).set (i*8+6) (.int .i64 x)=flat8 (ps.modify i fun p=>(p.1,p.2.1,p.2.2.1,p.2.2.2.1,p.2.2.2.2.1,p.2.2.2.2.2.1,x,p.2.2.2.2.2.2.2))∧(flat8 ps).set (i*8+7) (.int .i64 x)=flat8 (ps.modify i fun p=>(p.1,p.2.1,p.2.2.1,p.2.2.2.1,p.2.2.2.2.1,p.2.2.2.2.2.1,p.2.2.2.2.2.2.1,x)):=by
 induction ps with
 |nil=>intro i x;simp[flat8]
 |cons p ps ih=>
  intro i x
  cases i with
  |zero=>simp[flat8_cons]
  |succ i=>
   obtain⟨a0,a1,a2,a3,a4,a5,a6,a7⟩:=ih i x
   refine⟨?_,?_,?_,?_,?_,?_,?_,?_⟩
   ·rw[flat8_cons,show(i+1)*8=i*8+1+1+1+1+1+1+1+1 by omega,List.set_cons_succ,List.set_cons_succ,List.set_cons_succ,List.set_cons_succ,List.set_cons_succ,List.set_cons_succ,List.set_cons_succ,List.set_cons_succ,a0,List.modify_succ_cons,flat8_cons]
   ·rw[flat8_cons,show(i+1)*8+1=i*8+1+1+1+1+1+1+1+1+1 by omega,List.set_cons_succ,List.set_cons_succ,List.set_cons_succ,List.set_cons_succ,List.set_cons_succ,List.set_cons_succ,List.set_cons_succ,List.set_cons_succ,a1,List.modify_succ_cons,flat8_cons]
   ·rw[flat8_cons,show(i+1)*8+2=i*8+2+1+1+1+1+1+1+1+1 by omega,List.set_cons_succ,List.set_cons_succ,List.set_cons_succ,List.set_cons_succ,List.set_cons_succ,List.set_cons_succ,List.set_cons_succ,List.set_cons_succ,a2,List.modify_succ_cons,flat8_cons]
   ·rw[flat8_cons,show(i+1)*8+3=i*8+3+1+1+1+1+1+1+1+1 by omega,List.set_cons_succ,List.set_cons_succ,List.set_cons_succ,List.set_cons_succ,List.set_cons_succ,List.set_cons_succ,List.set_cons_succ,List.set_cons_succ,a3,List.modify_succ_cons,flat8_cons]
   ·rw[flat8_cons,show(i+1)*8+4=i*8+4+1+1+1+1+1+1+1+1 by omega,List.set_cons_succ,List.set_cons_succ,List.set_cons_succ,List.set_cons_succ,List.set_cons_succ,List.set_cons_succ,List.set_cons_succ,List.set_cons_succ,a4,List.modify_succ_cons,flat8_cons]
   ·rw[flat8_cons,show(i+1)*8+5=i*8+5+1+1+1+1+1+1+1+1 by omega,List.set_cons_succ,List.set_cons_succ,List.set_cons_succ,List.set_cons_succ,List.set_cons_succ,List.set_cons_succ,List.set_cons_succ,List.set_cons_succ,a5,List.modify_succ_cons,flat8_cons]
   ·rw[flat8_cons,show(i+1)*8+6=i*8+6+1+1+1+1+1+1+1+1 by omega,List.set_cons_succ,List.set_cons_succ,List.set_cons_succ,List.set_cons_succ,List.set_cons_succ,List.set_cons_succ,List.set_cons_succ,List.set_cons_succ,a6,List.modify_succ_cons,flat8_cons]
   ·rw[flat8_cons,show(i+1)*8+7=i*8+7+1+1+1+1+1+1+1+1 by omega,List.set_cons_succ,List.set_cons_succ,List.set_cons_succ,List.set_cons_succ,List.set_cons_succ,List.set_cons_succ,List.set_cons_succ,List.set_cons_succ,a7,List.modify_succ_cons,flat8_cons]
def Holds8(w:World)(g o:Nat)(p:T8):Prop:=w.cell? ⟨g,o,none⟩=some (.int .i64 p.1)∧w.cell? ⟨g,o+1,none⟩=some (.int .i64 p.2.1)∧w.cell? ⟨g,o+2,none⟩=some (.int .i64 p.2.2.1)∧w.cell? ⟨g,o+3,none⟩=some (.int .i64 p.2.2.2.1)∧w.cell? ⟨g,o+4,none⟩=some (.int .i64 p.2.2.2.2.1)∧w.cell? ⟨g,o+5,none⟩=some (.int .i64 p.2.2.2.2.2.1)∧w.cell? ⟨g,o+6,none⟩=some (.int .i64 p.2.2.2.2.2.2.1)∧w.cell? ⟨g,o+7,none⟩=some (.int .i64 p.2.2.2.2.2.2.2)
def At8(w:World)(g:Nat)(ps:List T8):Prop:=∀i,i<ps.length→Holds8 w g (i*8) (el8 ps i)
def Reads8(w:World)(a:Option Addr)(ps:List T8):Prop:=ps.length=0∨∃b off,a=some ⟨b,off,none⟩∧b<w.heap.size∧∀i,i<ps.length→Holds8 w b (off+i*8) (el8 ps i)
def Own8(e:TypeId)(w:World)(base g n cap:Nat)(ps:List T8):Prop:=w.ownsRow base e 8 (.slice (some ⟨g,0,none⟩) n cap) n (flat8 ps)
section
variable {e:TypeId} {w w':World} {base base' g n cap:Nat} {ps:List T8}
theorem Holds8.below{B o:Nat}{p:T8}(h:Holds8 w g o p)(k:Below B w w')(hg:g<B):Holds8 w' g o p:=
 ⟨(k.cell (p:=⟨g,o,none⟩) hg).trans h.1,(k.cell (p:=⟨g,o+1,none⟩) hg).trans h.2.1,(k.cell (p:=⟨g,o+2,none⟩) hg).trans h.2.2.1,(k.cell (p:=⟨g,o+3,none⟩) hg).trans h.2.2.2.1,(k.cell (p:=⟨g,o+4,none⟩) hg).trans h.2.2.2.2.1,(k.cell (p:=⟨g,o+5,none⟩) hg).trans h.2.2.2.2.2.1,(k.cell (p:=⟨g,o+6,none⟩) hg).trans h.2.2.2.2.2.2.1,(k.cell (p:=⟨g,o+7,none⟩) hg).trans h.2.2.2.2.2.2.2⟩
theorem Own8.len(h:Own8 e w base g n cap ps):ps.length=n:=by
 have:=h.1
 rw[flat8_len] at this
 omega
theorem Own8.lt(h:Own8 e w base g n cap ps):base≤g∧g<w.heap.size:=World.ownsRow.lt h g rfl
theorem Own8.at(h:Own8 e w base g n cap ps):At8 w g ps:=by
 intro i hi
 have hl:=h.len
 obtain⟨f0,f1,f2,f3,f4,f5,f6,f7⟩:=flat8_get ps i hi
 exact⟨(World.ownsRow.cellAt h (i*8) (by omega)).trans f0,(World.ownsRow.cellAt h (i*8+1) (by omega)).trans f1,(World.ownsRow.cellAt h (i*8+2) (by omega)).trans f2,(World.ownsRow.cellAt h (i*8+3) (by omega)).trans f3,(World.ownsRow.cellAt h (i*8+4) (by omega)).trans f4,(World.ownsRow.cellAt h (i*8+5) (by omega)).trans f5,(World.ownsRow.cellAt h (i*8+6) (by omega)).trans f6,(World.ownsRow.cellAt h (i*8+7) (by omega)).trans f7⟩
theorem Own8.free(h:Own8 e w base g n cap ps)(i:Nat):w.frozen? ⟨g,i,none⟩=false:=World.ownsRow.frozenAt h i
theorem Own8.rebase(h:Own8 e w base g n cap ps)(hb:base'≤g):Own8 e w base' g n cap ps:=by
 refine⟨h.1,?_⟩
 rcases h.2 with⟨h1,_⟩|⟨g',c,cur,h1,h2,h3⟩
 ·simp at h1
 ·obtain⟨e,_⟩:g=g'∧cap=c:=by simpa using h1
  subst e
  exact Or.inr ⟨g,c,cur,h1,hb,h3⟩
theorem Own8.kept{row:Option Nat}(h:Own8 e w base g n cap ps)(k:w.grownBy w' row)(hne:some g≠row):Own8 e w' base g n cap ps:=
 World.ownsRow.kept h k (Or.inr hne)
theorem Own8.below{B:Nat}(h:Own8 e w base g n cap ps)(k:Below B w w')(hg:g<B):Own8 e w' base g n cap ps:=by
 refine⟨h.1,?_⟩
 rcases h.2 with⟨h1,_⟩|⟨g',c,cur,h1,h2,h3,h4⟩
 ·simp at h1
 ·obtain⟨e,_⟩:g=g'∧cap=c:=by simpa using h1
  subst e
  exact Or.inr ⟨g,c,cur,h1,h2,by rw[k.block g hg];exact h3,h4⟩
theorem Own8.alloc(h:Own8 e w base g n cap ps)(o:Obj):Own8 e (w.alloc o) base g n cap ps:=World.ownsRow.alloc h o
theorem Own8.drew(h:Own8 e w base g n cap ps):Own8 e w.drew base g n cap ps:=h
theorem At8.below{B:Nat}(h:At8 w g ps)(k:Below B w w')(hg:g<B):At8 w' g ps:=fun i hi=>(h i hi).below k hg
theorem At8.drewN(h:At8 w g ps)(m:Nat):At8 (w.drewN m) g ps:=h
theorem Reads8.below{a:Option Addr}(h:Reads8 w a ps)(k:Below w.heap.size w w'):Reads8 w' a ps:=by
 rcases h with h|⟨b,off,rfl,hb,hc⟩
 ·exact Or.inl h
 ·exact Or.inr ⟨b,off,rfl,Nat.lt_of_lt_of_le hb k.size,fun i hi=>(hc i hi).below k hb⟩
theorem Own8.set0(h:Own8 e w base g n cap ps)(i:Nat)(x:Int):
  Own8 e (w.setCell ⟨g,i*8,none⟩ (.int .i64 x)) base g n cap (ps.modify i fun p=>(x,p.2.1,p.2.2.1,p.2.2.2.1,p.2.2.2.2.1,p.2.2.2.2.2.1,p.2.2.2.2.2.2.1,p.2.2.2.2.2.2.2))∧w.grownBy (w.setCell ⟨g,i*8,none⟩ (.int .i64 x)) (some g):=by
 have:=World.ownsRow.stored h (i*8) (.int .i64 x)
 refine⟨?_,this.2⟩
 unfold Own8
 rw[←(flat8_set ps i x).1]
 exact this.1
theorem Own8.set1(h:Own8 e w base g n cap ps)(i:Nat)(x:Int):
  Own8 e (w.setCell ⟨g,i*8+1,none⟩ (.int .i64 x)) base g n cap (ps.modify i fun p=>(p.1,x,p.2.2.1,p.2.2.2.1,p.2.2.2.2.1,p.2.2.2.2.2.1,p.2.2.2.2.2.2.1,p.2.2.2.2.2.2.2))∧w.grownBy (w.setCell ⟨g,i*8+1,none⟩ (.int .i64 x)) (some g):=by
 have:=World.ownsRow.stored h (i*8+1) (.int .i64 x)
 refine⟨?_,this.2⟩
 unfold Own8
 rw[←(flat8_set ps i x).2.1]
 exact this.1
theorem Own8.set2(h:Own8 e w base g n cap ps)(i:Nat)(x:Int):
  Own8 e (w.setCell ⟨g,i*8+2,none⟩ (.int .i64 x)) base g n cap (ps.modify i fun p=>(p.1,p.2.1,x,p.2.2.2.1,p.2.2.2.2.1,p.2.2.2.2.2.1,p.2.2.2.2.2.2.1,p.2.2.2.2.2.2.2))∧w.grownBy (w.setCell ⟨g,i*8+2,none⟩ (.int .i64 x)) (some g):=by
 have:=World.ownsRow.stored h (i*8+2) (.int .i64 x)
 refine⟨?_,this.2⟩
 unfold Own8
 rw[←(flat8_set ps i x).2.2.1]
 exact this.1
theorem Own8.set3(h:Own8 e w base g n cap ps)(i:Nat)(x:Int):
  Own8 e (w.setCell ⟨g,i*8+3,none⟩ (.int .i64 x)) base g n cap (ps.modify i fun p=>(p.1,p.2.1,p.2.2.1,x,p.2.2.2.2.1,p.2.2.2.2.2.1,p.2.2.2.2.2.2.1,p.2.2.2.2.2.2.2))∧w.grownBy (w.setCell ⟨g,i*8+3,none⟩ (.int .i64 x)) (some g):=by
 have:=World.ownsRow.stored h (i*8+3) (.int .i64 x)
 refine⟨?_,this.2⟩
 unfold Own8
 rw[←(flat8_set ps i x).2.2.2.1]
 exact this.1
theorem Own8.set4(h:Own8 e w base g n cap ps)(i:Nat)(x:Int):
  Own8 e (w.setCell ⟨g,i*8+4,none⟩ (.int .i64 x)) base g n cap (ps.modify i fun p=>(p.1,p.2.1,p.2.2.1,p.2.2.2.1,x,p.2.2.2.2.2.1,p.2.2.2.2.2.2.1,p.2.2.2.2.2.2.2))∧w.grownBy (w.setCell ⟨g,i*8+4,none⟩ (.int .i64 x)) (some g):=by
 have:=World.ownsRow.stored h (i*8+4) (.int .i64 x)
 refine⟨?_,this.2⟩
 unfold Own8
 rw[←(flat8_set ps i x).2.2.2.2.1]
 exact this.1
theorem Own8.set5(h:Own8 e w base g n cap ps)(i:Nat)(x:Int):
  Own8 e (w.setCell ⟨g,i*8+5,none⟩ (.int .i64 x)) base g n cap (ps.modify i fun p=>(p.1,p.2.1,p.2.2.1,p.2.2.2.1,p.2.2.2.2.1,x,p.2.2.2.2.2.2.1,p.2.2.2.2.2.2.2))∧w.grownBy (w.setCell ⟨g,i*8+5,none⟩ (.int .i64 x)) (some g):=by
 have:=World.ownsRow.stored h (i*8+5) (.int .i64 x)
 refine⟨?_,this.2⟩
 unfold Own8
 rw[←(flat8_set ps i x).2.2.2.2.2.1]
 exact this.1
theorem Own8.set6(h:Own8 e w base g n cap ps)(i:Nat)(x:Int):
  Own8 e (w.setCell ⟨g,i*8+6,none⟩ (.int .i64 x)) base g n cap (ps.modify i fun p=>(p.1,p.2.1,p.2.2.1,p.2.2.2.1,p.2.2.2.2.1,p.2.2.2.2.2.1,x,p.2.2.2.2.2.2.2))∧w.grownBy (w.setCell ⟨g,i*8+6,none⟩ (.int .i64 x)) (some g):=by
 have:=World.ownsRow.stored h (i*8+6) (.int .i64 x)
 refine⟨?_,this.2⟩
 unfold Own8
 rw[←(flat8_set ps i x).2.2.2.2.2.2.1]
 exact this.1
theorem Own8.set7(h:Own8 e w base g n cap ps)(i:Nat)(x:Int):
  Own8 e (w.setCell ⟨g,i*8+7,none⟩ (.int .i64 x)) base g n cap (ps.modify i fun p=>(p.1,p.2.1,p.2.2.1,p.2.2.2.1,p.2.2.2.2.1,p.2.2.2.2.2.1,p.2.2.2.2.2.2.1,x))∧w.grownBy (w.setCell ⟨g,i*8+7,none⟩ (.int .i64 x)) (some g):=by
 have:=World.ownsRow.stored h (i*8+7) (.int .i64 x)
 refine⟨?_,this.2⟩
 unfold Own8
 rw[←(flat8_set ps i x).2.2.2.2.2.2.2]
 exact this.1
end
theorem next{a b c:World}(h:Below a.heap.size a b)(k:Below b.heap.size b c):Below a.heap.size a c:=h.trans (k.mono h.size)
theorem At8.cells{w:World}{g:Nat}{ps:List T8}(h:At8 w g ps):∀(j:Nat) (u:Value),(flat8 ps)[j]?=some u→w.cell? ((⟨g,0,none⟩:Addr).add j)=some u:=by
 intro j u hj
 have hl:j<ps.length*8:=by
  have:=(List.getElem?_eq_some_iff.1 hj).1
  rw[flat8_len] at this
  exact this
 rw[Addr.add_lit,Nat.zero_add]
 obtain⟨c0,c1,c2,c3,c4,c5,c6,c7⟩:=h (j/8) (by omega)
 obtain⟨f0,f1,f2,f3,f4,f5,f6,f7⟩:=flat8_get ps (j/8) (by omega)
 rcases(show j%8=0∨j%8=1∨j%8=2∨j%8=3∨j%8=4∨j%8=5∨j%8=6∨j%8=7 by omega) with e|e|e|e|e|e|e|e
 ·rw[show j/8*8=j by omega] at c0 f0
  rw[c0,←hj,f0]
 ·rw[show j/8*8+1=j by omega] at c1 f1
  rw[c1,←hj,f1]
 ·rw[show j/8*8+2=j by omega] at c2 f2
  rw[c2,←hj,f2]
 ·rw[show j/8*8+3=j by omega] at c3 f3
  rw[c3,←hj,f3]
 ·rw[show j/8*8+4=j by omega] at c4 f4
  rw[c4,←hj,f4]
 ·rw[show j/8*8+5=j by omega] at c5 f5
  rw[c5,←hj,f5]
 ·rw[show j/8*8+6=j by omega] at c6 f6
  rw[c6,←hj,f6]
 ·rw[show j/8*8+7=j by omega] at c7 f7
  rw[c7,←hj,f7]
theorem grown_trans{a b c:World}{row:Option Nat}(h:a.grownBy b row)(k:b.grownBy c row):a.grownBy c row:=
 ⟨k.os.trans h.os,k.tape.trans h.tape,k.output.trans h.output,Nat.le_trans h.size k.size,fun j hj hne=>(k.block j (Nat.lt_of_lt_of_le hj h.size) hne).trans (h.block j hj hne)⟩
theorem getD_mem{ps:List T8}{i:Nat}(h:i<ps.length):el8 ps i∈ps:=by
 unfold el8
 simp only[List.getD,List.getElem?_eq_getElem h,Option.getD_some]
 exact List.getElem_mem h
theorem mem_getD{ps:List T8}{p:T8}(h:p∈ps):∃i,i<ps.length∧el8 ps i=p:=by
 obtain⟨i,hi,e⟩:=List.getElem_of_mem h
 refine⟨i,hi,?_⟩
 unfold el8
 simp[List.getD,hi,e]
end Tup8
namespace Chart
open Go Go.RowKit
abbrev el(ps:List (Int×Int))(i:Nat):Int×Int:=ps.getD i (0,0)
def RowOk(last:Int)(ps:List (Int×Int))(i:Nat):Prop:=
 (1≤(el ps i).1∧(el ps i).1≤1000)∧(1≤(el ps i).2∧(el ps i).2≤last)∧(0<i→(el ps (i-1)).1<(el ps i).1)
def Right(most:Nat)(last:Int)(ps:List (Int×Int)):Prop:=ps.length≤most∧∀i,i<ps.length→RowOk last ps i
theorem bool_of(p:Prop):∃b:Bool,b=true↔p:=by
 by_cases h:p
 ·exact⟨true,⟨fun _=>h,fun _=>rfl⟩⟩
 ·exact⟨false,⟨fun e=>Bool.noConfusion e,fun e=>absurd e h⟩⟩
def Says(b:Bool)(most:Nat)(last:Int)(ps:List (Int×Int)):Prop:=b=true↔Right most last ps
theorem says_of(most:Nat)(last:Int)(ps:List (Int×Int)):∃b,Says b most last ps:=bool_of _
theorem Says.yes{most:Nat}{last:Int}{ps:List (Int×Int)}(h:Says true most last ps):Right most last ps:=h.1 rfl
theorem Says.no{most:Nat}{last:Int}{ps:List (Int×Int)}(h:Says false most last ps):¬Right most last ps:=fun r=>Bool.noConfusion (h.2 r)
theorem Says.of{b:Bool}{most:Nat}{last:Int}{ps:List (Int×Int)}(h:Says b most last ps)(r:Right most last ps):b=true:=h.2 r
theorem Says.not{b:Bool}{most:Nat}{last:Int}{ps:List (Int×Int)}(h:Says b most last ps)(r:¬Right most last ps):b=false:=by
 cases b
 ·rfl
 ·exact absurd h.yes r
theorem Right.asc{most:Nat}{last:Int}{ps:List (Int×Int)}(h:Right most last ps):∀j i,i<j→j<ps.length→(el ps i).1<(el ps j).1:=by
 intro j
 induction j with
 |zero=>intro i h1;omega
 |succ j ih=>
  intro i h1 h2
  have r:=(h.2 (j+1) h2).2.2 (by omega)
  rw[show j+1-1=j by omega] at r
  by_cases e:i=j
  ·subst e;exact r
  ·have:=ih i (by omega) (by omega)
   omega
theorem Right.one{most:Nat}{last:Int}{ps:List (Int×Int)}(h:Right most last ps)(i j:Nat)(hi:i<ps.length)(hj:j<ps.length)(e:(el ps i).1=(el ps j).1):i=j:=by
 rcases Nat.lt_trichotomy i j with l|l|l
 ·have:=h.asc j i l hj;omega
 ·exact l
 ·have:=h.asc i j l hi;omega
def IsKind(most:Nat)(last:Int)(ps:List (Int×Int))(no r:Int):Prop:=
 (Right most last ps∧∃i,i<ps.length∧(el ps i).1=no∧r=(el ps i).2)∨((¬Right most last ps∨∀i,i<ps.length→(el ps i).1≠no)∧r=0)
def IsPlace(ps:List (Int×Int))(no:Int)(c:Nat):Prop:=c≤ps.length∧(∀i,i<c→(el ps i).1<no)∧(c<ps.length→no≤(el ps c).1)
def StandsAt(f:Bool)(ps:List (Int×Int))(no:Int)(c:Nat):Prop:=f=true↔c<ps.length∧(el ps c).1=no
theorem StandsAt.yes{ps:List (Int×Int)}{no:Int}{c:Nat}(h:StandsAt true ps no c):c<ps.length∧(el ps c).1=no:=h.1 rfl
theorem StandsAt.no{ps:List (Int×Int)}{no:Int}{c:Nat}(h:StandsAt false ps no c):¬(c<ps.length∧(el ps c).1=no):=fun z=>Bool.noConfusion (h.2 z)
def ins(ps:List (Int×Int))(c:Nat)(p:Int×Int):List (Int×Int):=ps.take c++p::ps.drop c
def IsPut(most:Nat)(last:Int)(ps:List (Int×Int))(p:Int×Int)(qs:List (Int×Int))(ok:Bool):Prop:=
 (¬Right most last ps∧qs=[]∧ok=false)∨
 (Right most last ps∧∃c,IsPlace ps p.1 c∧((¬Right most last (ins ps c p)∧qs=ps∧ok=false)∨(Right most last (ins ps c p)∧qs=ins ps c p∧ok=true)))
theorem IsPut.len{most:Nat}{last:Int}{ps:List (Int×Int)}{p:Int×Int}{qs:List (Int×Int)}{ok:Bool}(h:IsPut most last ps p qs ok):qs.length≤most:=by
 rcases h with⟨_,rfl,_⟩|⟨h,c,_,⟨_,rfl,_⟩|⟨h',rfl,_⟩⟩
 ·exact Nat.zero_le _
 ·exact h.1
 ·exact h'.1
end Chart
namespace Lots
open Tup5
def Amt(x:Int):Prop:= -1000000000000000≤x∧x≤1000000000000000
def NoOk(x:Int):Prop:=1≤x∧x≤1000
theorem bool_of(p:Prop):∃b:Bool,b=true↔p:=by
 by_cases h:p
 ·exact⟨true,⟨fun _=>h,fun _=>rfl⟩⟩
 ·exact⟨false,⟨fun e=>Bool.noConfusion e,fun e=>absurd e h⟩⟩
def Says(b:Bool)(p:Prop):Prop:=b=true↔p
theorem says_of(p:Prop):∃b,Says b p:=bool_of _
theorem Says.yes{p:Prop}(h:Says true p):p:=h.1 rfl
theorem Says.no{p:Prop}(h:Says false p):¬p:=fun r=>Bool.noConfusion (h.2 r)
theorem Says.of{b:Bool}{p:Prop}(h:Says b p)(r:p):b=true:=h.2 r
theorem Says.not{b:Bool}{p:Prop}(h:Says b p)(r:¬p):b=false:=by
 cases b
 ·rfl
 ·exact absurd h.yes r
def Bef(p q:T5):Prop:=p.1<q.1∨(p.1=q.1∧(p.2.1<q.2.1∨(p.2.1=q.2.1∧p.2.2.1<q.2.2.1)))
theorem bef_trans{p q r:T5}(h:Bef p q)(k:Bef q r):Bef p r:=by unfold Bef at *;omega
def One(p:T5):Prop:=NoOk p.1∧NoOk p.2.1∧(1≤p.2.2.1∧p.2.2.1≤1000000000)∧(1≤p.2.2.2.1∧p.2.2.2.1≤1000000000000000)∧(0≤p.2.2.2.2∧p.2.2.2.2≤1000000000000000)
def qtyOf:List T5→Int→Int→Int
 |[],_,_=>0
 |p::r,a,i=>(if p.1=a∧p.2.1=i then p.2.2.2.1 else 0)+qtyOf r a i
def costOf:List T5→Int→Int→Int
 |[],_,_=>0
 |p::r,a,i=>(if p.1=a∧p.2.1=i then p.2.2.2.2 else 0)+costOf r a i
theorem qtyOf_append(a i:Int):∀(ps qs:List T5),qtyOf (ps++qs) a i=qtyOf ps a i+qtyOf qs a i
 |[],qs=>by simp[qtyOf]
 |p::r,qs=>by
  have:=qtyOf_append a i r qs
  simp only[List.cons_append,qtyOf,this]
  omega
theorem costOf_append(a i:Int):∀(ps qs:List T5),costOf (ps++qs) a i=costOf ps a i+costOf qs a i
 |[],qs=>by simp[costOf]
 |p::r,qs=>by
  have:=costOf_append a i r qs
  simp only[List.cons_append,costOf,this]
  omega
theorem qtyOf_next{ps:List T5}{k:Nat}(h:k<ps.length)(a i:Int):qtyOf (ps.take (k+1)) a i=qtyOf (ps.take k) a i+(if(el5 ps k).1=a∧(el5 ps k).2.1=i then(el5 ps k).2.2.2.1 else 0):=by
 rw[take_next h,qtyOf_append]
 simp[qtyOf]
theorem costOf_next{ps:List T5}{k:Nat}(h:k<ps.length)(a i:Int):costOf (ps.take (k+1)) a i=costOf (ps.take k) a i+(if(el5 ps k).1=a∧(el5 ps k).2.1=i then(el5 ps k).2.2.2.2 else 0):=by
 rw[take_next h,costOf_append]
 simp[costOf]
def RowOk(ps:List T5)(i:Nat):Prop:=One (el5 ps i)∧(0<i→Bef (el5 ps (i-1)) (el5 ps i))
def Right(ps:List T5):Prop:=
 ps.length≤120∧(∀i,i<ps.length→RowOk ps i)∧∀a i,qtyOf ps a i≤1000000000000000∧costOf ps a i≤1000000000000000
theorem qty_pos{a i:Int}:∀(ps:List T5),(∀p∈ps,One p)→0≤qtyOf ps a i∧0≤costOf ps a i
 |[],_=>by simp[qtyOf,costOf]
 |p::r,h=>by
  obtain⟨i1,i2⟩:=qty_pos (a:=a) (i:=i) r (fun q hq=>h q (List.mem_cons_of_mem _ hq))
  obtain⟨_,_,_,h4,h5⟩:=h p List.mem_cons_self
  unfold qtyOf costOf
  constructor
  ·split<;>omega
  ·split<;>omega
theorem take_le{ps:List T5}(h:∀p∈ps,One p)(k:Nat)(a i:Int):qtyOf (ps.take k) a i≤qtyOf ps a i∧costOf (ps.take k) a i≤costOf ps a i:=by
 have e:ps=ps.take k++ps.drop k:=(List.take_append_drop k ps).symm
 have q:=qty_pos (a:=a) (i:=i) (ps.drop k) (fun p hp=>h p (List.mem_of_mem_drop hp))
 have e1:=qtyOf_append a i (ps.take k) (ps.drop k)
 have e2:=costOf_append a i (ps.take k) (ps.drop k)
 rw[←e] at e1 e2
 omega
def run(ps:List T5)(k:Nat):Int×Int:=(qtyOf (ps.take (k+1)) (el5 ps k).1 (el5 ps k).2.1,costOf (ps.take (k+1)) (el5 ps k).1 (el5 ps k).2.1)
theorem asc_of{ps:List T5}{m:Nat}(hm:m≤ps.length)(h:∀i,i<m→RowOk ps i):∀j i,i<j→j<m→Bef (el5 ps i) (el5 ps j):=by
 intro j
 induction j with
 |zero=>intro i h1;omega
 |succ j ih=>
  intro i h1 h2
  have r:=(h (j+1) h2).2 (by omega)
  rw[show j+1-1=j by omega] at r
  by_cases e:i=j
  ·subst e;exact r
  ·exact bef_trans (ih i (by omega) (by omega)) r
theorem qty_none(a i:Int):∀(ps:List T5),(∀p∈ps,¬(p.1=a∧p.2.1=i))→qtyOf ps a i=0∧costOf ps a i=0
 |[],_=>⟨rfl,rfl⟩
 |p::r,h=>by
  obtain⟨h1,h2⟩:=qty_none a i r (fun q hq=>h q (List.mem_cons_of_mem _ hq))
  unfold qtyOf costOf
  rw[if_neg (h p List.mem_cons_self),if_neg (h p List.mem_cons_self),h1,h2]
  exact⟨rfl,rfl⟩
theorem mem_take{ps:List T5}{k:Nat}{p:T5}(h:p∈ps.take k):∃i,i<k∧i<ps.length∧el5 ps i=p:=by
 obtain⟨i,hi,e⟩:=mem_getD h
 have h1:i<k∧i<ps.length:=by simp at hi;omega
 refine⟨i,h1.1,h1.2,?_⟩
 rw[←e]
 simp[el5,List.getD,h1.1,h1.2]
theorem run_next{ps:List T5}{k:Nat}(hk:k<ps.length)(h:∀i,i<k+1→RowOk ps i):
  run ps k=(if k=0∨(el5 ps k).1≠(el5 ps (k-1)).1∨(el5 ps k).2.1≠(el5 ps (k-1)).2.1 then((el5 ps k).2.2.2.1,(el5 ps k).2.2.2.2)
   else((run ps (k-1)).1+(el5 ps k).2.2.2.1,(run ps (k-1)).2+(el5 ps k).2.2.2.2)):=by
 unfold run
 rw[qtyOf_next hk,costOf_next hk,if_pos ⟨rfl,rfl⟩,if_pos ⟨rfl,rfl⟩]
 by_cases c:k=0∨(el5 ps k).1≠(el5 ps (k-1)).1∨(el5 ps k).2.1≠(el5 ps (k-1)).2.1
 ·rw[if_pos c]
  obtain⟨z1,z2⟩:=qty_none (el5 ps k).1 (el5 ps k).2.1 (ps.take k) (fun p hp e=>by
   obtain⟨i,hi,hl,rfl⟩:=mem_take hp
   have b:=asc_of (m:=k+1) (by omega) h k i hi (by omega)
   by_cases k0:k=0
   ·omega
   ·have b1:=(h k (by omega)).2 (by omega)
    by_cases e1:i=k-1
    ·subst e1
     rcases c with c|c|c
     ·omega
     ·exact c e.1.symm
     ·exact c e.2.symm
    ·have b2:=asc_of (m:=k+1) (by omega) h (k-1) i (by omega) (by omega)
     unfold Bef at b b1 b2
     omega)
  rw[z1,z2]
  simp
 ·rw[if_neg c]
  have k0:k≠0:=fun e=>c (.inl e)
  have e1:(el5 ps k).1=(el5 ps (k-1)).1:=Classical.byContradiction fun e=>c (.inr (.inl e))
  have e2:(el5 ps k).2.1=(el5 ps (k-1)).2.1:=Classical.byContradiction fun e=>c (.inr (.inr e))
  rw[show k-1+1=k by omega,e1,e2]
theorem right_iff(ps:List T5)(hl:ps.length≤120):Right ps↔∀i,i<ps.length→RowOk ps i∧(run ps i).1≤1000000000000000∧(run ps i).2≤1000000000000000:=by
 constructor
 ·rintro⟨_,h2,h3⟩ i hi
  have one:∀p∈ps,One p:=fun p hp=>by
   obtain⟨j,hj,rfl⟩:=mem_getD hp
   exact(h2 j hj).1
  have t:=take_le one (i+1) (el5 ps i).1 (el5 ps i).2.1
  have s:=h3 (el5 ps i).1 (el5 ps i).2.1
  refine⟨h2 i hi,?_,?_⟩
  ·show qtyOf _ _ _≤_
   omega
  ·show costOf _ _ _≤_
   omega
 ·intro h
  refine⟨hl,fun i hi=>(h i hi).1,fun a i=>?_⟩
  have key:∀m,m≤ps.length→qtyOf (ps.take m) a i≤1000000000000000∧costOf (ps.take m) a i≤1000000000000000:=by
   intro m
   induction m with
   |zero=>intro _;simp[qtyOf,costOf]
   |succ m ih=>
    intro hm
    by_cases e:(el5 ps m).1=a∧(el5 ps m).2.1=i
    ·obtain⟨rfl,rfl⟩:=e
     exact(h m (by omega)).2
    ·have i0:=ih (by omega)
     rw[qtyOf_next (by omega),costOf_next (by omega),if_neg e,if_neg e]
     omega
  have:=key ps.length (Nat.le_refl _)
  rw[List.take_length] at this
  exact this
theorem Right.asc{ps:List T5}(h:Right ps):ps.Pairwise Bef:=by
 rw[List.pairwise_iff_getElem]
 intro i j hi hj hij
 have:=asc_of (m:=ps.length) (Nat.le_refl _) h.2.1 j i hij hj
 simpa[el5,List.getD,hi,hj] using this
def ownL(ps:List T5)(a i:Int):List T5:=ps.filter fun p=>decide (p.1=a∧p.2.1=i)
def restL(ps:List T5)(a i:Int):List T5:=ps.filter fun p=> !decide (p.1=a∧p.2.1=i)
theorem own_next{ps:List T5}{k:Nat}(h:k<ps.length)(a i:Int):ownL (ps.take (k+1)) a i=ownL (ps.take k) a i++(if(el5 ps k).1=a∧(el5 ps k).2.1=i then[el5 ps k] else[]):=by
 unfold ownL
 rw[take_next h,List.filter_append]
 congr 1
 generalize el5 ps k=p
 by_cases e:p.1=a∧p.2.1=i
 ·rw[if_pos e];simp[e]
 ·rw[if_neg e,List.filter_cons];simp[e]
theorem rest_next{ps:List T5}{k:Nat}(h:k<ps.length)(a i:Int):restL (ps.take (k+1)) a i=restL (ps.take k) a i++(if(el5 ps k).1=a∧(el5 ps k).2.1=i then[] else[el5 ps k]):=by
 unfold restL
 rw[take_next h,List.filter_append]
 congr 1
 generalize el5 ps k=p
 by_cases e:p.1=a∧p.2.1=i
 ·rw[if_pos e];simp[e]
 ·rw[if_neg e,List.filter_cons];simp[e]
end Lots
namespace Takes
open Tup5 Lots
def sumQ:List T5→Int
 |[]=>0
 |p::r=>p.2.2.2.1+sumQ r
def sumC:List T5→Int
 |[]=>0
 |p::r=>p.2.2.2.2+sumC r
theorem sumQ_append:∀(a b:List T5),sumQ (a++b)=sumQ a+sumQ b
 |[],b=>by simp[sumQ]
 |p::r,b=>by simp only[List.cons_append,sumQ,sumQ_append r b];omega
theorem sumC_append:∀(a b:List T5),sumC (a++b)=sumC a+sumC b
 |[],b=>by simp[sumC]
 |p::r,b=>by simp only[List.cons_append,sumC,sumC_append r b];omega
theorem sumQ_next{ps:List T5}{k:Nat}(h:k<ps.length):sumQ (ps.take (k+1))=sumQ (ps.take k)+(el5 ps k).2.2.2.1:=by
 rw[take_next h,sumQ_append]
 simp[sumQ]
theorem own_sums(a i:Int):∀(ps:List T5),sumQ (ownL ps a i)=qtyOf ps a i∧sumC (ownL ps a i)=costOf ps a i
 |[]=>⟨rfl,rfl⟩
 |p::r=>by
  obtain⟨h1,h2⟩:=own_sums a i r
  unfold ownL at h1 h2⊢
  by_cases e:p.1=a∧p.2.1=i
  ·rw[List.filter_cons_of_pos (by simpa using e)]
   simp only[sumQ,sumC,qtyOf,costOf,if_pos e,h1,h2]
   exact⟨trivial,trivial⟩
  ·rw[List.filter_cons_of_neg (by simpa using e)]
   simp only[qtyOf,costOf,if_neg e,h1,h2]
   omega
def Pos(p:T5):Prop:=(1≤p.2.2.2.1∧p.2.2.2.1≤1000000000000000)∧0≤p.2.2.2.2∧p.2.2.2.2≤1000000000000000
theorem sum_pos:∀(l:List T5),(∀p∈l,Pos p)→0≤sumQ l∧0≤sumC l
 |[],_=>by simp[sumQ,sumC]
 |p::r,h=>by
  obtain⟨i1,i2⟩:=sum_pos r (fun q hq=>h q (List.mem_cons_of_mem _ hq))
  have hp:=h p List.mem_cons_self
  unfold Pos at hp
  unfold sumQ sumC
  omega
theorem right_pos{ps:List T5}(h:Right ps):∀p∈ps,Pos p:=by
 intro p hp
 obtain⟨i,hi,rfl⟩:=mem_getD hp
 have:=(h.2.1 i hi).1
 exact this.2.2.2
theorem own_pos{ps:List T5}(h:Right ps)(a i:Int):(∀p∈ownL ps a i,Pos p)∧sumQ (ownL ps a i)≤1000000000000000∧sumC (ownL ps a i)≤1000000000000000:=by
 refine⟨fun p hp=>right_pos h p (List.mem_filter.1 hp).1,?_⟩
 obtain⟨e1,e2⟩:=own_sums a i ps
 rw[e1,e2]
 exact h.2.2 a i
end Takes
namespace Bks
open Go Go.RowKit
open Bals (T3 el3 val sumI)
open Tup5 (T5 el5)
open Tup8 (T8 el8)
open Lots (qtyOf NoOk Says says_of ownL restL One)
open Takes (sumQ)
def kindOf:List (Int×Int)→Int→Int
 |[],_=>0
 |p::r,no=>if p.1=no then p.2 else kindOf r no
theorem kind_mem:∀(ps:List (Int×Int)) (no:Int),kindOf ps no≠0→(no,kindOf ps no)∈ps
 |[],no,h=>absurd rfl h
 |p::r,no,h=>by
  unfold kindOf at h⊢
  by_cases e:p.1=no
  ·rw[if_pos e];obtain⟨a,b⟩:=p;obtain rfl:a=no:=e;exact List.mem_cons_self
  ·rw[if_neg e] at h⊢;exact List.mem_cons_of_mem _ (kind_mem r no h)
theorem kind_none:∀(ps:List (Int×Int)) (no:Int),(∀p∈ps,p.1≠no)→kindOf ps no=0
 |[],_,_=>rfl
 |p::r,no,h=>by
  unfold kindOf
  rw[if_neg (h p List.mem_cons_self),kind_none r no (fun q hq=>h q (List.mem_cons_of_mem _ hq))]
theorem el_mem{ps:List (Int×Int)}{i:Nat}(h:i<ps.length):Chart.el ps i∈ps:=by
 unfold Chart.el
 simp[List.getD,h]
theorem mem_el{ps:List (Int×Int)}{p:Int×Int}(h:p∈ps):∃i,i<ps.length∧Chart.el ps i=p:=by
 obtain⟨i,hi,rfl⟩:=List.getElem_of_mem h
 exact⟨i,hi,by simp[Chart.el,List.getD,hi]⟩
theorem kind_of_mem{ps:List (Int×Int)}(h:∀p∈ps,∀q∈ps,p.1=q.1→p=q):∀p∈ps,kindOf ps p.1=p.2:=by
 induction ps with
 |nil=>intro p hp;simp at hp
 |cons q r ih=>
  intro p hp
  unfold kindOf
  by_cases e:q.1=p.1
  ·rw[if_pos e,h q List.mem_cons_self p hp e]
  ·rw[if_neg e]
   rcases List.mem_cons.1 hp with rfl|hp
   ·exact absurd rfl e
   ·exact ih (fun a ha b hb=>h a (List.mem_cons_of_mem _ ha) b (List.mem_cons_of_mem _ hb)) p hp
theorem right_one{most:Nat}{last:Int}{ps:List (Int×Int)}(h:Chart.Right most last ps):∀p∈ps,∀q∈ps,p.1=q.1→p=q:=by
 intro p hp q hq e
 obtain⟨i,hi,rfl⟩:=mem_el hp
 obtain⟨j,hj,rfl⟩:=mem_el hq
 rw[h.one i j hi hj e]
theorem kind_is{most:Nat}{last:Int}{ps:List (Int×Int)}{no r:Int}(h:Chart.Right most last ps)(k:Chart.IsKind most last ps no r):r=kindOf ps no:=by
 rcases k with⟨_,i,hi,e,rfl⟩|⟨k,rfl⟩
 ·rw[←e];exact(kind_of_mem (right_one h) _ (el_mem hi)).symm
 ·rcases k with k|k
  ·exact absurd h k
  ·refine(kind_none ps no fun p hp=>?_).symm
   obtain⟨i,hi,rfl⟩:=mem_el hp
   exact k i hi
def TOne(t:T8):Prop:=NoOk t.1∧NoOk t.2.1∧NoOk t.2.2.1∧NoOk t.2.2.2.1∧NoOk t.2.2.2.2.2.1∧t.2.1≠t.2.2.1∧(1≤t.2.2.2.2.1∧t.2.2.2.2.1≤1000000000000000)∧(0≤t.2.2.2.2.2.2.1∧t.2.2.2.2.2.2.1≤1000000000000000)∧(1≤t.2.2.2.2.2.2.2∧t.2.2.2.2.2.2.2≤3)
def TRowOk(ps:List T8)(i:Nat):Prop:=TOne (el8 ps i)∧(0<i→(el8 ps (i-1)).1<(el8 ps i).1)
def TRight(ps:List T8):Prop:=ps.length≤30∧∀i,i<ps.length→TRowOk ps i
structure Bk where
 ac:List (Int×Int)
 ic:List (Int×Int)
 bs:List T3
 ls:List T5
 ts:List T8
 lot:Int
def Lists(b:Bk):Prop:=Chart.Right 20 4 b.ac∧Chart.Right 8 2 b.ic∧Bals.Right b.bs∧Lots.Right b.ls∧TRight b.ts∧(0≤b.lot∧b.lot≤1000000000)
def BalFit(b:Bk)(p:T3):Prop:=kindOf b.ac p.1≠0∧kindOf b.ic p.2.1≠0∧¬(kindOf b.ac p.1=1∧p.2.2<0)
def BalsFit(b:Bk):Prop:=(∀k,k<b.bs.length→BalFit b (el3 b.bs k))∧∀i,sumI b.bs i=0
def LotFit(b:Bk)(l:T5):Prop:=kindOf b.ac l.1=1∧kindOf b.ic l.2.1=2∧l.2.2.1≤b.lot
def LotsFit(b:Bk):Prop:=(∀k,k<b.ls.length→LotFit b (el5 b.ls k))∧∀a i,kindOf b.ac a=1→kindOf b.ic i=2→qtyOf b.ls a i=val b.bs a i
def TradeFit(b:Bk)(t:T8):Prop:=kindOf b.ac t.2.1=1∧kindOf b.ac t.2.2.1=1∧kindOf b.ic t.2.2.2.1=2∧kindOf b.ic t.2.2.2.2.2.1=1
def TradesFit(b:Bk):Prop:=∀k,k<b.ts.length→TradeFit b (el8 b.ts k)
def Ok(b:Bk):Prop:=Lists b∧BalsFit b∧LotsFit b∧TradesFit b
theorem bals_spec{b:Bk}(h:∀k,k<b.bs.length→BalFit b (el3 b.bs k)∧sumI b.bs (el3 b.bs k).2.1=0):BalsFit b:=
 ⟨fun k hk=>(h k hk).1,Bals.even_of fun k hk=>(h k hk).2⟩
theorem bals_impl{b:Bk}(h:∀k,k<b.bs.length→BalFit b (el3 b.bs k))(hs:∀k,k<b.ic.length→sumI b.bs (Chart.el b.ic k).1=0):BalsFit b:=by
 refine⟨h,Bals.even_of fun k hk=>?_⟩
 obtain⟨i,hi,e⟩:=mem_el (kind_mem b.ic _ (h k hk).2.1)
 have:=hs i hi
 rw[e] at this
 exact this
theorem sum_zero{bs:List T3}{i r:Int}{c:Bool}(hr:Bals.Right bs)(h:Bals.IsSum bs i r c):(c=true∧r=0)↔sumI bs i=0:=by
 rcases h with⟨_,h1,h2,h3⟩|⟨h1,h2,h3⟩
 ·rw[←h2,h3];simp
 ·constructor
  ·rintro⟨e,_⟩;rw[h3] at e;cases e
  ·intro e
   refine absurd ⟨hr,?_⟩ h1
   rw[e];unfold Bals.Amt;omega
def leftT(b:Bk)(a i:Int):Int:=(if kindOf b.ac a=1∧kindOf b.ic i=2 then val b.bs a i else 0) -qtyOf b.ls a i
theorem lots_impl{b:Bk}(h:∀k,k<b.ls.length→LotFit b (el5 b.ls k)):(∀a i,leftT b a i=0)↔LotsFit b:=by
 constructor
 ·intro hz
  refine⟨h,fun a i ha hi=>?_⟩
  have:=hz a i
  unfold leftT at this
  rw[if_pos ⟨ha,hi⟩] at this
  omega
 ·intro hf a i
  unfold leftT
  by_cases e:kindOf b.ac a=1∧kindOf b.ic i=2
  ·rw[if_pos e,hf.2 a i e.1 e.2];omega
  ·rw[if_neg e]
   have:qtyOf b.ls a i=0:=by
    refine(Lots.qty_none a i b.ls fun p hp hk=>e ?_).1
    obtain⟨k,hk1,hk2,rfl⟩:=Lots.mem_take (ps:=b.ls) (k:=b.ls.length) (p:=p) (by rw[List.take_length];exact hp)
    obtain⟨f1,f2,_⟩:=h k hk2
    rw[hk.1] at f1
    rw[hk.2] at f2
    exact⟨f1,f2⟩
   omega
theorem lots_spec{b:Bk}(hA:Chart.Right 20 4 b.ac)(hI:Chart.Right 8 2 b.ic)(h:∀k,k<b.ls.length→LotFit b (el5 b.ls k)):LotsFit b↔∀j,j<b.ac.length→∀k,k<b.ic.length→(Chart.el b.ac j).2=1→(Chart.el b.ic k).2=2→sumQ (ownL b.ls (Chart.el b.ac j).1 (Chart.el b.ic k).1)=val b.bs (Chart.el b.ac j).1 (Chart.el b.ic k).1:=by
 constructor
 ·rintro⟨_,hf⟩ j hj k hk e1 e2
  rw[(Takes.own_sums _ _ b.ls).1]
  exact hf _ _ (by rw[kind_of_mem (right_one hA) _ (el_mem hj)];exact e1) (by rw[kind_of_mem (right_one hI) _ (el_mem hk)];exact e2)
 ·intro hf
  refine⟨h,fun a i ha hi=>?_⟩
  obtain⟨j,hj,ej⟩:=mem_el (kind_mem b.ac a (by omega))
  obtain⟨k,hk,ek⟩:=mem_el (kind_mem b.ic i (by omega))
  have:=hf j hj k hk (by rw[ej];exact ha) (by rw[ek];exact hi)
  rw[(Takes.own_sums _ _ b.ls).1,ej,ek] at this
  exact this
end Bks
namespace BMem
open Bks (Bk)
theorem zh{p:Prop}(h:p):Hid p:=h
theorem zu{p:Prop}(h:Hid p):p:=h
theorem next{a b c:World}(h:Below a.heap.size a b)(k:Below b.heap.size b c):Below a.heap.size a c:=h.trans (k.mono h.size)
structure Bx where
 ga:Nat
 ca:Nat
 gi:Nat
 ci:Nat
 gb:Nat
 cb:Nat
 gl:Nat
 cl:Nat
 gt:Nat
 ct:Nat
 b:Bk
structure Rd(w:World)(x:Bx):Prop where
 la:x.ga<w.heap.size
 ra:Pairs.At w x.ga x.b.ac
 na:x.b.ac.length≤1048576
 li:x.gi<w.heap.size
 ri:Pairs.At w x.gi x.b.ic
 ni:x.b.ic.length≤1048576
 lb:x.gb<w.heap.size
 rb:Triples.At3 w x.gb x.b.bs
 nb:x.b.bs.length≤1048576
 ll:x.gl<w.heap.size
 rl:Tup5.At5 w x.gl x.b.ls
 nl:x.b.ls.length≤1048576
 hc:x.b.ls.length≤x.cl
 hm:x.cl≤9223372036854775807
 lt:x.gt<w.heap.size
 rt:Tup8.At8 w x.gt x.b.ts
 nt:x.b.ts.length≤1048576
theorem Rd.below{w w':World}{x:Bx}(h:Rd w x)(k:Below w.heap.size w w'):Rd w' x:=
 ⟨Nat.lt_of_lt_of_le h.la k.size,h.ra.below k h.la,h.na,Nat.lt_of_lt_of_le h.li k.size,h.ri.below k h.li,h.ni,Nat.lt_of_lt_of_le h.lb k.size,h.rb.below k h.lb,h.nb,Nat.lt_of_lt_of_le h.ll k.size,h.rl.below k h.ll,h.nl,h.hc,h.hm,Nat.lt_of_lt_of_le h.lt k.size,h.rt.below k h.lt,h.nt⟩
theorem Rd.alloc{w:World}{x:Bx}(h:Rd w x)(o:Obj):Rd (w.alloc o) x:=h.below ((Below.refl _ _).alloc (Nat.le_refl _) o)
structure Ow(w:World)(base:Nat)(x:Bx):Prop where
 oa:Pairs.Own 75 w base x.ga x.b.ac.length x.ca x.b.ac
 oi:Pairs.Own 76 w base x.gi x.b.ic.length x.ci x.b.ic
 ob:Triples.Own3 78 w base x.gb x.b.bs.length x.cb x.b.bs
 ol:Tup5.Own5 80 w base x.gl x.b.ls.length x.cl x.b.ls
 ot:Tup8.Own8 82 w base x.gt x.b.ts.length x.ct x.b.ts
def Small(b:Bk):Prop:=b.ac.length≤1048576∧b.ic.length≤1048576∧b.bs.length≤1048576∧b.ls.length≤1048576∧b.ts.length≤1048576
theorem own_cap{e:TypeId}{w:World}{base g n cap:Nat}{ps:List Tup5.T5}(h:Tup5.Own5 e w base g n cap ps):n≤cap∧cap≤9223372036854775807:=by
 rcases h.2 with⟨h1,_⟩|⟨g',c,cur,h1,h2,h3,h4,h5,_⟩
 ·simp at h1
 ·obtain⟨_,e⟩:g=g'∧cap=c:=by simpa using h1
  subst e
  exact⟨h4,by unfold maxLen at h5;omega⟩
theorem Ow.rd{w:World}{base:Nat}{x:Bx}(h:Ow w base x)(s:Small x.b):Rd w x:=
 ⟨h.oa.lt.2,h.oa.at,s.1,h.oi.lt.2,h.oi.at,s.2.1,h.ob.lt.2,h.ob.at,s.2.2.1,h.ol.lt.2,h.ol.at,s.2.2.2.1,(own_cap h.ol).1,(own_cap h.ol).2,h.ot.lt.2,h.ot.at,s.2.2.2.2⟩
theorem Ow.below{w w':World}{base B:Nat}{x:Bx}(h:Ow w base x)(k:Below B w w')(hB:w.heap.size≤B):Ow w' base x:=
 ⟨h.oa.below k (by have:=h.oa.lt;omega),h.oi.below k (by have:=h.oi.lt;omega),h.ob.below k (by have:=h.ob.lt;omega),h.ol.below k (by have:=h.ol.lt;omega),h.ot.below k (by have:=h.ot.lt;omega)⟩
theorem Ow.rebase{w:World}{base base':Nat}{x:Bx}(h:Ow w base x)(hb:base'≤base):Ow w base' x:=
 ⟨h.oa.rebase (by have:=h.oa.lt;omega),h.oi.rebase (by have:=h.oi.lt;omega),h.ob.rebase (by have:=h.ob.lt;omega),h.ol.rebase (by have:=h.ol.lt;omega),h.ot.rebase (by have:=h.ot.lt;omega)⟩
theorem Ow.kept{w w':World}{base:Nat}{row:Option Nat}{x:Bx}(h:Ow w base x)(k:w.grownBy w' row)(hne:∀g,row=some g→g<base):Ow w' base x:=
 ⟨h.oa.kept k (fun e=>by have:=h.oa.lt;have:=hne _ e.symm;omega),h.oi.kept k (fun e=>by have:=h.oi.lt;have:=hne _ e.symm;omega),h.ob.kept k (fun e=>by have:=h.ob.lt;have:=hne _ e.symm;omega),h.ol.kept k (fun e=>by have:=h.ol.lt;have:=hne _ e.symm;omega),h.ot.kept k (fun e=>by have:=h.ot.lt;have:=hne _ e.symm;omega)⟩
structure Cl(w:World)(g:Nat)(x:Bx):Prop where
 c0:w.cell? ⟨g,0,none⟩=some (.slice (some ⟨x.ga,0,none⟩) x.b.ac.length x.ca)
 c1:w.cell? ⟨g,1,none⟩=some (.slice (some ⟨x.gi,0,none⟩) x.b.ic.length x.ci)
 c2:w.cell? ⟨g,2,none⟩=some (.slice (some ⟨x.gb,0,none⟩) x.b.bs.length x.cb)
 c3:w.cell? ⟨g,3,none⟩=some (.slice (some ⟨x.gl,0,none⟩) x.b.ls.length x.cl)
 c4:w.cell? ⟨g,4,none⟩=some (.slice (some ⟨x.gt,0,none⟩) x.b.ts.length x.ct)
 c5:w.cell? ⟨g,5,none⟩=some (.int .i64 x.b.lot)
theorem Cl.below{w w':World}{B g:Nat}{x:Bx}(h:Cl w g x)(k:Below B w w')(hg:g<B):Cl w' g x:=
 ⟨(k.cell (p:=⟨g,0,none⟩) hg).trans h.c0,(k.cell (p:=⟨g,1,none⟩) hg).trans h.c1,(k.cell (p:=⟨g,2,none⟩) hg).trans h.c2,(k.cell (p:=⟨g,3,none⟩) hg).trans h.c3,(k.cell (p:=⟨g,4,none⟩) hg).trans h.c4,(k.cell (p:=⟨g,5,none⟩) hg).trans h.c5⟩
def Box(w:World)(base g:Nat)(v0 v1 v2 v3 v4 v5:Value):Prop:=w.ownsRow base 32 6 (.slice (some ⟨g,0,none⟩) 1 1) 1 [v0,v1,v2,v3,v4,v5]
theorem Box.made{w:World}{base g:Nat}(v0 v1 v2 v3 v4 v5:Value)(hb:base≤w.heap.size)(hg:g=w.heap.size):Box (w.alloc (.cells #[v0,v1,v2,v3,v4,v5] 32)) base g v0 v1 v2 v3 v4 v5:=by
 subst hg
 exact⟨rfl,.inr ⟨w.heap.size,1,#[v0,v1,v2,v3,v4,v5],rfl,hb,heap_alloc_new w _,Nat.le_refl _,by unfold maxLen;omega,rfl,rfl⟩⟩
section
variable {w w':World} {base base' g:Nat} {v0 v1 v2 v3 v4 v5:Value}
theorem Box.lt(h:Box w base g v0 v1 v2 v3 v4 v5):base≤g∧g<w.heap.size:=World.ownsRow.lt h g rfl
theorem Box.free(h:Box w base g v0 v1 v2 v3 v4 v5)(i:Nat):w.frozen? ⟨g,i,none⟩=false:=World.ownsRow.frozenAt h i
theorem Box.c0(h:Box w base g v0 v1 v2 v3 v4 v5):w.cell? ⟨g,0,none⟩=some v0:=(World.ownsRow.cellAt h 0 (by omega)).trans rfl
theorem Box.c1(h:Box w base g v0 v1 v2 v3 v4 v5):w.cell? ⟨g,1,none⟩=some v1:=(World.ownsRow.cellAt h 1 (by omega)).trans rfl
theorem Box.c2(h:Box w base g v0 v1 v2 v3 v4 v5):w.cell? ⟨g,2,none⟩=some v2:=(World.ownsRow.cellAt h 2 (by omega)).trans rfl
theorem Box.c3(h:Box w base g v0 v1 v2 v3 v4 v5):w.cell? ⟨g,3,none⟩=some v3:=(World.ownsRow.cellAt h 3 (by omega)).trans rfl
theorem Box.c4(h:Box w base g v0 v1 v2 v3 v4 v5):w.cell? ⟨g,4,none⟩=some v4:=(World.ownsRow.cellAt h 4 (by omega)).trans rfl
theorem Box.c5(h:Box w base g v0 v1 v2 v3 v4 v5):w.cell? ⟨g,5,none⟩=some v5:=(World.ownsRow.cellAt h 5 (by omega)).trans rfl
theorem Box.set0(h:Box w base g v0 v1 v2 v3 v4 v5)(u:Value):Box (w.setCell ⟨g,0,none⟩ u) base g u v1 v2 v3 v4 v5∧w.grownBy (w.setCell ⟨g,0,none⟩ u) (some g):=World.ownsRow.stored h 0 u
theorem Box.set1(h:Box w base g v0 v1 v2 v3 v4 v5)(u:Value):Box (w.setCell ⟨g,1,none⟩ u) base g v0 u v2 v3 v4 v5∧w.grownBy (w.setCell ⟨g,1,none⟩ u) (some g):=World.ownsRow.stored h 1 u
theorem Box.set2(h:Box w base g v0 v1 v2 v3 v4 v5)(u:Value):Box (w.setCell ⟨g,2,none⟩ u) base g v0 v1 u v3 v4 v5∧w.grownBy (w.setCell ⟨g,2,none⟩ u) (some g):=World.ownsRow.stored h 2 u
theorem Box.set3(h:Box w base g v0 v1 v2 v3 v4 v5)(u:Value):Box (w.setCell ⟨g,3,none⟩ u) base g v0 v1 v2 u v4 v5∧w.grownBy (w.setCell ⟨g,3,none⟩ u) (some g):=World.ownsRow.stored h 3 u
theorem Box.set4(h:Box w base g v0 v1 v2 v3 v4 v5)(u:Value):Box (w.setCell ⟨g,4,none⟩ u) base g v0 v1 v2 v3 u v5∧w.grownBy (w.setCell ⟨g,4,none⟩ u) (some g):=World.ownsRow.stored h 4 u
theorem Box.set5(h:Box w base g v0 v1 v2 v3 v4 v5)(u:Value):Box (w.setCell ⟨g,5,none⟩ u) base g v0 v1 v2 v3 v4 u∧w.grownBy (w.setCell ⟨g,5,none⟩ u) (some g):=World.ownsRow.stored h 5 u
theorem Box.kept{row:Option Nat}(h:Box w base g v0 v1 v2 v3 v4 v5)(k:w.grownBy w' row)(hne:some g≠row):Box w' base g v0 v1 v2 v3 v4 v5:=World.ownsRow.kept h k (Or.inr hne)
theorem Box.rebase(h:Box w base g v0 v1 v2 v3 v4 v5)(hb:base'≤base):Box w base' g v0 v1 v2 v3 v4 v5:=by
 refine⟨h.1,?_⟩
 rcases h.2 with⟨h1,_⟩|⟨g',c,cur,h1,h2,h3⟩
 ·simp at h1
 ·exact .inr ⟨g',c,cur,h1,Nat.le_trans hb h2,h3⟩
theorem Box.below{B:Nat}(h:Box w base g v0 v1 v2 v3 v4 v5)(k:Below B w w')(hg:g<B):Box w' base g v0 v1 v2 v3 v4 v5:=by
 refine⟨h.1,?_⟩
 rcases h.2 with⟨h1,_⟩|⟨g',c,cur,h1,h2,h3,h4⟩
 ·simp at h1
 ·have e:g=g':=by simp at h1;exact h1.1
  subst e
  exact .inr ⟨g,c,cur,h1,h2,(k.block g hg).trans h3,h4⟩
end
theorem Box.all{w:World}{base g:Nat}{v0 v1 v2 v3 v4 v5:Value}(h:Box w base g v0 v1 v2 v3 v4 v5):w.cell? ⟨g,0,none⟩=some v0∧w.cell? ⟨g,1,none⟩=some v1∧w.cell? ⟨g,2,none⟩=some v2∧w.cell? ⟨g,3,none⟩=some v3∧w.cell? ⟨g,4,none⟩=some v4∧w.cell? ⟨g,5,none⟩=some v5∧w.frozen? ⟨g,0,none⟩=false∧w.frozen? ⟨g,1,none⟩=false∧w.frozen? ⟨g,2,none⟩=false∧w.frozen? ⟨g,3,none⟩=false∧w.frozen? ⟨g,4,none⟩=false∧w.frozen? ⟨g,5,none⟩=false:=⟨h.c0,h.c1,h.c2,h.c3,h.c4,h.c5,h.free 0,h.free 1,h.free 2,h.free 3,h.free 4,h.free 5⟩
end BMem
namespace AccountIOk
open Pairs Chart
def ahead(ps:List (Int×Int))(k:Nat):Int:=if k=0 then 0 else(el ps (k-1)).1
theorem ahead_next(ps:List (Int×Int))(k:Nat):ahead ps (k+1)=(el ps k).1:=by unfold ahead;rw[if_neg (by omega)];rfl
theorem row_iff(last:Int)(ps:List (Int×Int))(k:Nat)(hG:∀i,i<k→RowOk last ps i):RowOk last ps k↔¬(el ps k).1≤ahead ps k∧(el ps k).1≤1000∧1≤(el ps k).2∧(el ps k).2≤last:=by
 unfold RowOk ahead
 by_cases k0:k=0
 ·subst k0
  rw[if_pos rfl]
  constructor
  ·rintro⟨⟨a,b⟩,⟨c,d⟩,_⟩
   exact⟨by omega,b,c,d⟩
  ·rintro⟨a,b,c,d⟩
   exact⟨⟨by omega,b⟩,⟨c,d⟩,fun h=>by omega⟩
 ·rw[if_neg k0]
  have:=(hG (k-1) (by omega)).1.1
  constructor
  ·rintro⟨⟨a,b⟩,⟨c,d⟩,e⟩
   have:=e (by omega)
   exact⟨by omega,b,c,d⟩
  ·rintro⟨a,b,c,d⟩
   exact⟨⟨by omega,b⟩,⟨c,d⟩,fun h=>by omega⟩
theorem iOk(w:World)(g n cap:Nat)(ps:List (Int×Int))(ok:Bool)(hl:ps.length=n)(h20:n≤1048576)(hg:g<w.heap.size)(h:At w g ps)(hok:Says ok 20 4 ps):
  Calls Tryz.prog 124 #[.agg #[.slice (some ⟨g,0,none⟩) n cap,.int .i64 20,.int .i64 4]] w fun e w'=>e= .returned (.bool ok)∧Below w.heap.size w w':=by
 by_cases nn:(20:Int)<(n:Int)
 ·obtain rfl:ok=false:=hok.not (fun r=>by have:=r.1;omega)
  clear hok h
  go_enter Tryz.func124,Tryz.ntmps124
  go_wp2
  go_ret
  exact⟨rfl,(Below.refl _ _).alloc (Nat.le_refl _) _⟩
 go_enter Tryz.func124,Tryz.ntmps124
 go_wp2
 go_loopw [3,16] (fun p i wr=>∃(k:Nat) (bf:Int),k≤n∧i= .int .i64 k∧p= .int .i64 bf∧Hid (ahead ps k=bf)∧At wr g ps∧wr.cell? ⟨w.heap.size,2,none⟩=some (.int .i64 4)∧Below w.heap.size w wr∧w.heap.size<wr.heap.size∧Hid (∀i,i<k→RowOk 4 ps i)) (fun _ i _=>n-(intOf i).toNat)
 case atStart=>
  have b1:Below w.heap.size w (w.alloc (.cells #[.slice (some ⟨g,0,none⟩) n cap,.int .i64 20,.int .i64 4] 159)):=(Below.refl _ _).alloc (Nat.le_refl _) _
  exact⟨0,0,by omega,rfl,rfl,zh rfl,h.below b1 hg,by simp,b1,by simp,zh (fun i hi=>absurd hi (by omega))⟩
 case round=>
  clear h
  obtain⟨k,bf,hk,rfl,rfl,HP,h,cl,hb,sz,HG⟩:=hrel
  by_cases t:k<n
  ·obtain⟨e1,e2⟩:=h k (by omega)
   have HA:=zh h
   have HB:=zh hb
   clear h hb
   have ROW:=zh (row_iff 4 ps k (zu HG))
   rw[zu HP] at ROW
   have AN:=zh (ahead_next ps k)
   have BAD:=zh (show ¬RowOk 4 ps k→ok=false from fun hr=>hok.not (fun r=>hr (r.2 k (by omega))))
   have GOOD:=zh (show RowOk 4 ps k→∀i,i<k+1→RowOk 4 ps i from fun hr i hi=>by
    by_cases e:i=k
    ·subst e;exact hr
    ·exact(zu HG) i (by omega))
   generalize (el ps k).1=x at *
   generalize (el ps k).2=y at *
   by_cases c1:x≤bf
   ·have OKF:=zh ((zu BAD) (fun hr=>by have:=(zu ROW).1 hr;omega))
    clear BAD GOOD ROW
    go_wp2
    go_ret
    exact⟨by rw[zu OKF];rfl,next (zu HB) (by repeat(first|exact Below.refl _ _|refine Below.alloc ?_ (by simp;try omega) _))⟩
   ·by_cases c2:x≤1000
    ·by_cases c3:1≤y
     ·by_cases c4:y≤4
      ·have GO:=zh ((zu GOOD) ((zu ROW).2 ⟨c1,c2,c3,c4⟩))
       clear BAD GOOD ROW
       go_wp2
       go_roundw
       case rel=>
        have b2:Below wr.heap.size wr ((wr.alloc (.cells #[.int .i64 x,.int .i64 y] 75)).alloc (.cells #[.int .i64 x,.int .i64 y] 171)):=by repeat(first|exact Below.refl _ _|refine Below.alloc ?_ (by simp;try omega) _)
        exact⟨k+1,_,by omega,by go_num,rfl,zu AN,(zu HA).below b2 (by omega),(b2.cell (p:=⟨w.heap.size,2,none⟩) (by omega)).trans cl,next (zu HB) b2,by simp;omega,GO⟩
       case measure=>simp[intOf];omega
      ·have OKF:=zh ((zu BAD) (fun hr=>by have:=(zu ROW).1 hr;omega))
       clear BAD GOOD ROW
       go_wp2
       go_ret
       exact⟨by rw[zu OKF];rfl,next (zu HB) (by repeat(first|exact Below.refl _ _|refine Below.alloc ?_ (by simp;try omega) _))⟩
     ·have OKF:=zh ((zu BAD) (fun hr=>by have:=(zu ROW).1 hr;omega))
      clear BAD GOOD ROW
      go_wp2
      go_ret
      exact⟨by rw[zu OKF];rfl,next (zu HB) (by repeat(first|exact Below.refl _ _|refine Below.alloc ?_ (by simp;try omega) _))⟩
    ·have OKF:=zh ((zu BAD) (fun hr=>by have:=(zu ROW).1 hr;omega))
     clear BAD GOOD ROW
     go_wp2
     go_ret
     exact⟨by rw[zu OKF];rfl,next (zu HB) (by repeat(first|exact Below.refl _ _|refine Below.alloc ?_ (by simp;try omega) _))⟩
  ·obtain rfl:k=n:=by omega
   obtain rfl:ok=true:=hok.of ⟨by omega,by rw[hl];exact zu HG⟩
   have HB:=zh hb
   clear h hok hb
   go_wp2
   go_ret
   exact⟨rfl,zu HB⟩
end AccountIOk
namespace AccountIPlace
open Pairs Chart
def Cmp(x y r:Int):Prop:=(x<y∧r= -1)∨(y<x∧r=1)∨(x=y∧r=0)
theorem iCompare(x y:Int)(w:World):Calls Tryz.prog 144 #[.int .i64 x,.int .i64 y] w fun e w'=>∃r,Cmp x y r∧e= .returned (.int .i64 r)∧w'=w:=by
 by_cases h1:x<y
 ·go_enter Tryz.func144,Tryz.ntmps144
  go_wp2
  go_ret
  exact⟨-1,.inl ⟨h1,rfl⟩,rfl,rfl⟩
 ·by_cases h2:y<x
  ·go_enter Tryz.func144,Tryz.ntmps144
   go_wp2
   go_ret
   exact⟨1,.inr (.inl ⟨h2,rfl⟩),rfl,rfl⟩
  ·go_enter Tryz.func144,Tryz.ntmps144
   go_wp2
   go_ret
   exact⟨0,.inr (.inr ⟨by omega,rfl⟩),rfl,rfl⟩
theorem iCmp(x y no:Int)(w:World):Calls Tryz.prog 167 #[.agg #[.int .i64 x,.int .i64 y],.int .i64 no] w fun e w'=>∃r,Cmp x no r∧e= .returned (.int .i64 r)∧Below w.heap.size w w':=by
 have hfd:∀w:World,(Instr.field 171 (.agg #[.int .i64 x,.int .i64 y]) 0).run Tryz.prog w= .ok (.int .i64 x) w:=fun _=>by kernel_rfl
 go_enter Tryz.func167,Tryz.ntmps167
 go_wp2_with fail
 refine(iCompare x no _).mono ?_
 rintro e w1 ⟨r,hr,rfl,rfl⟩
 go_wp2
 go_ret
 exact⟨r,hr,rfl,by repeat(first|exact Below.refl _ _|refine Below.alloc ?_ (by simp;try omega) _)⟩
theorem iSearch(w:World)(g n cap:Nat)(ps:List (Int×Int))(no:Int)(hl:ps.length=n)(h20:n≤1048576)(hg:g<w.heap.size)(h:At w g ps)(asc:Hid (∀j i,i<j→j<ps.length→(el ps i).1<(el ps j).1)):
  Calls Tryz.prog 166 #[.slice (some ⟨g,0,none⟩) n cap,.int .i64 no,.func (.func 167) #[] #[]] w fun e w'=>∃c f,IsPlace ps no c∧StandsAt f ps no c∧e= .returned (.tuple #[.int .i64 (c:Nat),.bool f])∧Below w.heap.size w w':=by
 go_enter Tryz.func166,Tryz.ntmps166
 go_wp2
 go_loopw [9,10] (fun p q wr=>∃(lo hi:Nat),lo≤hi∧hi≤n∧p= .int .i64 lo∧q= .int .i64 hi∧At wr g ps∧Below w.heap.size w wr∧Hid ((∀t,t<lo→(el ps t).1<no)∧∀t,hi≤t→t<n→no≤(el ps t).1)) (fun p q _=>(intOf q).toNat-(intOf p).toNat)
 case atStart=>exact⟨0,n,by omega,by omega,rfl,rfl,h,Below.refl _ _,zh ⟨fun t ht=>by omega,fun t h1 h2=>by omega⟩⟩
 case round=>
  clear h
  obtain⟨lo,hi,hlh,hin,rfl,rfl,h,hb,HI⟩:=hrel
  have sz:=hb.size
  by_cases t:lo<hi
  ·obtain⟨m,hm⟩:∃m,m=(lo+hi)/2:=⟨_,rfl⟩
   obtain⟨e1,e2⟩:=h m (by omega)
   have HA:=zh h
   have HB:=zh hb
   clear h hb
   have LOW:=zh (show(el ps m).1<no→∀t,t<m+1→(el ps t).1<no from fun hx t ht=>by
    by_cases e:t=m
    ·subst e;exact hx
    ·have:=(zu asc) m t (by omega) (by omega)
     omega)
   have HIGH:=zh (show ¬(el ps m).1<no→∀t,m≤t→t<n→no≤(el ps t).1 from fun hx t h1 h2=>by
    by_cases e:t=m
    ·subst e;omega
    ·have:=(zu asc) t m (by omega) (by omega)
     omega)
   generalize (el ps m).1=x at *
   generalize (el ps m).2=y at *
   have hm':(((lo:Int)+(hi:Int))/2)=((m:Nat):Int):=by omega
   have M1:lo≤m:=by omega
   have M2:m<hi:=by omega
   have HM:=zh hm
   clear hm
   go_wp2_with fail
   refine(iCmp x y no _).mono ?_
   rintro e w1 ⟨r,hr,rfl,b1⟩
   have bb:=zh (next (zu HB) b1)
   have aa:=zh ((zu HA).below b1 (by omega))
   by_cases lt:x<no
   ·obtain rfl:r= -1:=by rcases hr with⟨_,e⟩|⟨h1,_⟩|⟨h1,_⟩<;>omega
    have L:=zh ((zu LOW) lt)
    clear hr b1 LOW HIGH
    go_wp2
    go_roundw
    case rel=>exact⟨m+1,hi,by omega,hin,by go_num,rfl,zu aa,zu bb,zh ⟨zu L,(zu HI).2⟩⟩
    case measure=>simp[intOf];omega
   ·have nr:¬r<0:=by rcases hr with⟨h1,_⟩|⟨_,e⟩|⟨_,e⟩<;>omega
    have L:=zh ((zu HIGH) (by omega))
    clear hr b1 LOW HIGH
    go_wp2
    go_roundw
    case rel=>exact⟨lo,m,by omega,by omega,rfl,by go_num,zu aa,zu bb,zh ⟨(zu HI).1,zu L⟩⟩
    case measure=>simp[intOf];omega
  ·obtain rfl:lo=hi:=by omega
   have PL:=zh (show IsPlace ps no lo from⟨by omega,(zu HI).1,fun hx=>(zu HI).2 lo (Nat.le_refl _) (by omega)⟩)
   by_cases lt:lo<n
   ·obtain⟨e1,e2⟩:=h lo (by omega)
    have HA:=zh h
    have HB:=zh hb
    clear h hb
    have FT:=zh (show(el ps lo).1=no→StandsAt true ps no lo from fun z=>⟨fun _=>⟨by omega,z⟩,fun _=>rfl⟩)
    have FN:=zh (show ¬(el ps lo).1=no→StandsAt false ps no lo from fun z=>⟨fun e=>Bool.noConfusion e,fun e=>absurd e.2 z⟩)
    generalize (el ps lo).1=x at *
    generalize (el ps lo).2=y at *
    go_wp2_with fail
    refine(iCmp x y no _).mono ?_
    rintro e w1 ⟨r,hr,rfl,b1⟩
    have bb:=zh (next (zu HB) b1)
    by_cases eq:x=no
    ·obtain rfl:r=0:=by rcases hr with⟨_,e⟩|⟨h1,_⟩|⟨_,e⟩<;>omega
     have FF:=(zu FT) eq
     clear hr b1 FT FN eq
     go_wp2
     go_ret2
     exact⟨lo,true,zu PL,FF,rfl,zu bb⟩
    ·have nr:(r==0)=false:=by rw[beq_eq_false_iff_ne];rcases hr with⟨_,e⟩|⟨h1,_⟩|⟨_,e⟩<;>omega
     have FF:=(zu FN) eq
     clear hr b1 FT FN eq
     go_wp2
     go_ret2
     exact⟨lo,false,zu PL,FF,rfl,zu bb⟩
   ·have HB:=zh hb
    clear h hb
    go_wp2
    go_ret2
    exact⟨lo,false,zu PL,⟨fun e=>Bool.noConfusion e,fun e=>absurd e.1 (by omega)⟩,rfl,zu HB⟩
theorem iPlace(w:World)(g n cap:Nat)(ps:List (Int×Int))(no:Int)(hl:ps.length=n)(h20:n≤1048576)(hg:g<w.heap.size)(h:At w g ps)(asc:Hid (∀j i,i<j→j<ps.length→(el ps i).1<(el ps j).1)):
  Calls Tryz.prog 154 #[.agg #[.slice (some ⟨g,0,none⟩) n cap,.int .i64 20,.int .i64 4],.int .i64 no] w fun e w'=>∃c f,IsPlace ps no c∧StandsAt f ps no c∧e= .returned (.tuple #[.int .i64 (c:Nat),.bool f])∧Below w.heap.size w w':=by
 have b0:Below w.heap.size w (w.alloc (.cells #[.slice (some ⟨g,0,none⟩) n cap,.int .i64 20,.int .i64 4] 159)):=(Below.refl _ _).alloc (Nat.le_refl _) _
 have H:=zh (h.below b0 hg)
 have HB:=zh b0
 clear h b0
 go_enter Tryz.func154,Tryz.ntmps154
 go_wp2_with fail
 refine(iSearch _ g n cap ps no hl h20 (by simp;omega) (zu H) asc).mono ?_
 rintro e w1 ⟨c,f,hc,hf,rfl,b1⟩
 have bb:=zh (next (zu HB) b1)
 have PC:=zh hc
 have PF:=zh hf
 clear hc hf b1
 go_wp2
 go_ret2
 exact⟨c,f,zu PC,zu PF,rfl,zu bb⟩
end AccountIPlace
namespace AccountIKind
open Pairs Chart AccountIOk AccountIPlace
theorem iChart(w:World)(g n cap:Nat):Calls Tryz.prog 123 #[.slice (some ⟨g,0,none⟩) n cap] w fun e w'=>e= .returned (.agg #[.slice (some ⟨g,0,none⟩) n cap,.int .i64 20,.int .i64 4])∧Below w.heap.size w w':=by
 go_enter Tryz.func123,Tryz.ntmps123
 go_wp2
 refine bodyPost_ret (v:= .agg #[.slice (some ⟨g,0,none⟩) n cap,.int .i64 20,.int .i64 4]) (by simp[results,Tryz.results123,go_sem]) rfl ⟨rfl,?_⟩
 repeat(first|exact Below.refl _ _|refine Below.alloc ?_ (by simp;try omega) _)
theorem iKindOf(w:World)(g n cap:Nat)(ps:List (Int×Int))(no:Int)(hl:ps.length=n)(h20:n≤1048576)(hg:g<w.heap.size)(h:At w g ps):
  Calls Tryz.prog 148 #[.agg #[.slice (some ⟨g,0,none⟩) n cap,.int .i64 20,.int .i64 4],.int .i64 no] w fun e w'=>∃r,IsKind 20 4 ps no r∧e= .returned (.int .i64 r)∧Below w.heap.size w w':=by
 obtain⟨ok,OK⟩:=says_of 20 4 ps
 have b0:Below w.heap.size w (w.alloc (.cells #[.slice (some ⟨g,0,none⟩) n cap,.int .i64 20,.int .i64 4] 159)):=(Below.refl _ _).alloc (Nat.le_refl _) _
 have H:=zh (h.below b0 hg)
 have HB:=zh b0
 clear h b0
 cases ok
 ·go_enter Tryz.func148,Tryz.ntmps148
  go_wp2_with fail
  refine(iOk _ g n cap ps false hl h20 (by simp;omega) (zu H) OK).mono ?_
  rintro e w1 ⟨rfl,b1⟩
  have bb:=zh (next (zu HB) b1)
  clear b1
  go_wp2
  go_ret
  exact⟨0,.inr ⟨.inl OK.no,rfl⟩,rfl,zu bb⟩
 ·go_enter Tryz.func148,Tryz.ntmps148
  go_wp2_with fail
  refine(iOk _ g n cap ps true hl h20 (by simp;omega) (zu H) OK).mono ?_
  rintro e w1 ⟨rfl,b1⟩
  have A1:=zh ((zu H).below b1 (by simp;omega))
  have B1:=zh (next (zu HB) b1)
  have s1:=b1.size
  have c0:w1.cell? ⟨w.heap.size,0,none⟩=some (.slice (some ⟨g,0,none⟩) n cap):=(b1.cell (p:=⟨w.heap.size,0,none⟩) (by simp)).trans (by simp)
  have c1:w1.cell? ⟨w.heap.size,1,none⟩=some (.int .i64 20):=(b1.cell (p:=⟨w.heap.size,1,none⟩) (by simp)).trans (by simp)
  have c2:w1.cell? ⟨w.heap.size,2,none⟩=some (.int .i64 4):=(b1.cell (p:=⟨w.heap.size,2,none⟩) (by simp)).trans (by simp)
  simp only[World.size_alloc] at s1
  clear b1
  go_wp2_with fail
  refine(iPlace _ g n cap ps no hl h20 (by omega) (zu A1) (zh OK.yes.asc)).mono ?_
  rintro e w2 ⟨c,f,hc,hf,rfl,b2⟩
  have A2:=zh ((zu A1).below b2 (by omega))
  have B2:=zh (next (zu B1) b2)
  have d0:=(b2.cell (p:=⟨w.heap.size,0,none⟩) (by show w.heap.size<_;omega)).trans c0
  clear b2 c0 c1 c2
  cases f
  ·have K0:=zh (show IsKind 20 4 ps no 0 from .inr ⟨.inr (fun i hi e=>hf.no (by
    have:=hc.1
    rcases Nat.lt_trichotomy i c with l|l|l
    ·have:=hc.2.1 i l;omega
    ·subst l;exact⟨hi,e⟩
    ·have h1:=hc.2.2 (by omega)
     have:=OK.yes.asc i c l hi
     omega)),rfl⟩)
   clear hc hf
   go_wp2
   go_ret
   exact⟨0,zu K0,rfl,zu B2⟩
  ·obtain⟨lt,eq⟩:=hf.yes
   have K0:=zh (show IsKind 20 4 ps no (el ps c).2 from .inl ⟨OK.yes,c,lt,eq,rfl⟩)
   obtain⟨e1,e2⟩:=(zu A2) c lt
   rw[hl] at lt
   clear hc hf eq
   generalize (el ps c).1=x at *
   generalize (el ps c).2=y at *
   have hfd:∀w:World,(Instr.field 171 (.agg #[.int .i64 x,.int .i64 y]) 1).run Tryz.prog w= .ok (.int .i64 y) w:=fun _=>by kernel_rfl
   go_wp2
   go_ret
   exact⟨y,zu K0,rfl,zu B2⟩
theorem iKind(w:World)(g n cap:Nat)(ps:List (Int×Int))(no:Int)(hl:ps.length=n)(h20:n≤1048576)(hg:g<w.heap.size)(h:At w g ps):
  Calls Tryz.prog 135 #[.slice (some ⟨g,0,none⟩) n cap,.int .i64 no] w fun e w'=>∃r,IsKind 20 4 ps no r∧e= .returned (.int .i64 r)∧Below w.heap.size w w':=by
 have H:=zh h
 clear h
 go_enter Tryz.func135,Tryz.ntmps135
 go_wp2_with fail
 refine(iChart _ g n cap).mono ?_
 rintro e w1 ⟨rfl,b1⟩
 have A1:=zh ((zu H).below b1 hg)
 have B1:=zh b1
 have s1:=b1.size
 clear b1
 go_wp2_with fail
 refine(iKindOf _ g n cap ps no hl h20 (by omega) (zu A1)).mono ?_
 rintro e w2 ⟨r,hr,rfl,b2⟩
 have B2:=zh (next (zu B1) b2)
 have K:=zh hr
 clear b2 hr
 go_wp2
 go_ret
 exact⟨r,zu K,rfl,zu B2⟩
theorem iOks(w:World)(g n cap:Nat)(ps:List (Int×Int))(ok:Bool)(hl:ps.length=n)(h20:n≤1048576)(hg:g<w.heap.size)(h:At w g ps)(hok:Says ok 20 4 ps):
  Calls Tryz.prog 108 #[.slice (some ⟨g,0,none⟩) n cap] w fun e w'=>e= .returned (.bool ok)∧Below w.heap.size w w':=by
 have H:=zh h
 clear h
 go_enter Tryz.func108,Tryz.ntmps108
 go_wp2_with fail
 refine(iChart _ g n cap).mono ?_
 rintro e w1 ⟨rfl,b1⟩
 have A1:=zh ((zu H).below b1 hg)
 have B1:=zh b1
 have s1:=b1.size
 clear b1
 go_wp2_with fail
 refine(iOk _ g n cap ps ok hl h20 (by omega) (zu A1) hok).mono ?_
 rintro e w2 ⟨rfl,b2⟩
 have B2:=zh (next (zu B1) b2)
 clear b2
 go_wp2
 go_ret
 exact⟨rfl,zu B2⟩
end AccountIKind
namespace InstrIOk
open Pairs Chart
def ahead(ps:List (Int×Int))(k:Nat):Int:=if k=0 then 0 else(el ps (k-1)).1
theorem ahead_next(ps:List (Int×Int))(k:Nat):ahead ps (k+1)=(el ps k).1:=by unfold ahead;rw[if_neg (by omega)];rfl
theorem row_iff(last:Int)(ps:List (Int×Int))(k:Nat)(hG:∀i,i<k→RowOk last ps i):RowOk last ps k↔¬(el ps k).1≤ahead ps k∧(el ps k).1≤1000∧1≤(el ps k).2∧(el ps k).2≤last:=by
 unfold RowOk ahead
 by_cases k0:k=0
 ·subst k0
  rw[if_pos rfl]
  constructor
  ·rintro⟨⟨a,b⟩,⟨c,d⟩,_⟩
   exact⟨by omega,b,c,d⟩
  ·rintro⟨a,b,c,d⟩
   exact⟨⟨by omega,b⟩,⟨c,d⟩,fun h=>by omega⟩
 ·rw[if_neg k0]
  have:=(hG (k-1) (by omega)).1.1
  constructor
  ·rintro⟨⟨a,b⟩,⟨c,d⟩,e⟩
   have:=e (by omega)
   exact⟨by omega,b,c,d⟩
  ·rintro⟨a,b,c,d⟩
   exact⟨⟨by omega,b⟩,⟨c,d⟩,fun h=>by omega⟩
theorem iOk(w:World)(g n cap:Nat)(ps:List (Int×Int))(ok:Bool)(hl:ps.length=n)(h20:n≤1048576)(hg:g<w.heap.size)(h:At w g ps)(hok:Says ok 8 2 ps):
  Calls Tryz.prog 126 #[.agg #[.slice (some ⟨g,0,none⟩) n cap,.int .i64 8,.int .i64 2]] w fun e w'=>e= .returned (.bool ok)∧Below w.heap.size w w':=by
 by_cases nn:(8:Int)<(n:Int)
 ·obtain rfl:ok=false:=hok.not (fun r=>by have:=r.1;omega)
  clear hok h
  go_enter Tryz.func126,Tryz.ntmps126
  go_wp2
  go_ret
  exact⟨rfl,(Below.refl _ _).alloc (Nat.le_refl _) _⟩
 go_enter Tryz.func126,Tryz.ntmps126
 go_wp2
 go_loopw [3,16] (fun p i wr=>∃(k:Nat) (bf:Int),k≤n∧i= .int .i64 k∧p= .int .i64 bf∧Hid (ahead ps k=bf)∧At wr g ps∧wr.cell? ⟨w.heap.size,2,none⟩=some (.int .i64 2)∧Below w.heap.size w wr∧w.heap.size<wr.heap.size∧Hid (∀i,i<k→RowOk 2 ps i)) (fun _ i _=>n-(intOf i).toNat)
 case atStart=>
  have b1:Below w.heap.size w (w.alloc (.cells #[.slice (some ⟨g,0,none⟩) n cap,.int .i64 8,.int .i64 2] 162)):=(Below.refl _ _).alloc (Nat.le_refl _) _
  exact⟨0,0,by omega,rfl,rfl,zh rfl,h.below b1 hg,by simp,b1,by simp,zh (fun i hi=>absurd hi (by omega))⟩
 case round=>
  clear h
  obtain⟨k,bf,hk,rfl,rfl,HP,h,cl,hb,sz,HG⟩:=hrel
  by_cases t:k<n
  ·obtain⟨e1,e2⟩:=h k (by omega)
   have HA:=zh h
   have HB:=zh hb
   clear h hb
   have ROW:=zh (row_iff 2 ps k (zu HG))
   rw[zu HP] at ROW
   have AN:=zh (ahead_next ps k)
   have BAD:=zh (show ¬RowOk 2 ps k→ok=false from fun hr=>hok.not (fun r=>hr (r.2 k (by omega))))
   have GOOD:=zh (show RowOk 2 ps k→∀i,i<k+1→RowOk 2 ps i from fun hr i hi=>by
    by_cases e:i=k
    ·subst e;exact hr
    ·exact(zu HG) i (by omega))
   generalize (el ps k).1=x at *
   generalize (el ps k).2=y at *
   by_cases c1:x≤bf
   ·have OKF:=zh ((zu BAD) (fun hr=>by have:=(zu ROW).1 hr;omega))
    clear BAD GOOD ROW
    go_wp2
    go_ret
    exact⟨by rw[zu OKF];rfl,next (zu HB) (by repeat(first|exact Below.refl _ _|refine Below.alloc ?_ (by simp;try omega) _))⟩
   ·by_cases c2:x≤1000
    ·by_cases c3:1≤y
     ·by_cases c4:y≤2
      ·have GO:=zh ((zu GOOD) ((zu ROW).2 ⟨c1,c2,c3,c4⟩))
       clear BAD GOOD ROW
       go_wp2
       go_roundw
       case rel=>
        have b2:Below wr.heap.size wr ((wr.alloc (.cells #[.int .i64 x,.int .i64 y] 76)).alloc (.cells #[.int .i64 x,.int .i64 y] 171)):=by repeat(first|exact Below.refl _ _|refine Below.alloc ?_ (by simp;try omega) _)
        exact⟨k+1,_,by omega,by go_num,rfl,zu AN,(zu HA).below b2 (by omega),(b2.cell (p:=⟨w.heap.size,2,none⟩) (by omega)).trans cl,next (zu HB) b2,by simp;omega,GO⟩
       case measure=>simp[intOf];omega
      ·have OKF:=zh ((zu BAD) (fun hr=>by have:=(zu ROW).1 hr;omega))
       clear BAD GOOD ROW
       go_wp2
       go_ret
       exact⟨by rw[zu OKF];rfl,next (zu HB) (by repeat(first|exact Below.refl _ _|refine Below.alloc ?_ (by simp;try omega) _))⟩
     ·have OKF:=zh ((zu BAD) (fun hr=>by have:=(zu ROW).1 hr;omega))
      clear BAD GOOD ROW
      go_wp2
      go_ret
      exact⟨by rw[zu OKF];rfl,next (zu HB) (by repeat(first|exact Below.refl _ _|refine Below.alloc ?_ (by simp;try omega) _))⟩
    ·have OKF:=zh ((zu BAD) (fun hr=>by have:=(zu ROW).1 hr;omega))
     clear BAD GOOD ROW
     go_wp2
     go_ret
     exact⟨by rw[zu OKF];rfl,next (zu HB) (by repeat(first|exact Below.refl _ _|refine Below.alloc ?_ (by simp;try omega) _))⟩
  ·obtain rfl:k=n:=by omega
   obtain rfl:ok=true:=hok.of ⟨by omega,by rw[hl];exact zu HG⟩
   have HB:=zh hb
   clear h hok hb
   go_wp2
   go_ret
   exact⟨rfl,zu HB⟩
end InstrIOk
namespace InstrIPlace
open Pairs Chart
def Cmp(x y r:Int):Prop:=(x<y∧r= -1)∨(y<x∧r=1)∨(x=y∧r=0)
theorem iCompare(x y:Int)(w:World):Calls Tryz.prog 144 #[.int .i64 x,.int .i64 y] w fun e w'=>∃r,Cmp x y r∧e= .returned (.int .i64 r)∧w'=w:=by
 by_cases h1:x<y
 ·go_enter Tryz.func144,Tryz.ntmps144
  go_wp2
  go_ret
  exact⟨-1,.inl ⟨h1,rfl⟩,rfl,rfl⟩
 ·by_cases h2:y<x
  ·go_enter Tryz.func144,Tryz.ntmps144
   go_wp2
   go_ret
   exact⟨1,.inr (.inl ⟨h2,rfl⟩),rfl,rfl⟩
  ·go_enter Tryz.func144,Tryz.ntmps144
   go_wp2
   go_ret
   exact⟨0,.inr (.inr ⟨by omega,rfl⟩),rfl,rfl⟩
theorem iCmp(x y no:Int)(w:World):Calls Tryz.prog 169 #[.agg #[.int .i64 x,.int .i64 y],.int .i64 no] w fun e w'=>∃r,Cmp x no r∧e= .returned (.int .i64 r)∧Below w.heap.size w w':=by
 have hfd:∀w:World,(Instr.field 171 (.agg #[.int .i64 x,.int .i64 y]) 0).run Tryz.prog w= .ok (.int .i64 x) w:=fun _=>by kernel_rfl
 go_enter Tryz.func169,Tryz.ntmps169
 go_wp2_with fail
 refine(iCompare x no _).mono ?_
 rintro e w1 ⟨r,hr,rfl,rfl⟩
 go_wp2
 go_ret
 exact⟨r,hr,rfl,by repeat(first|exact Below.refl _ _|refine Below.alloc ?_ (by simp;try omega) _)⟩
theorem iSearch(w:World)(g n cap:Nat)(ps:List (Int×Int))(no:Int)(hl:ps.length=n)(h20:n≤1048576)(hg:g<w.heap.size)(h:At w g ps)(asc:Hid (∀j i,i<j→j<ps.length→(el ps i).1<(el ps j).1)):
  Calls Tryz.prog 168 #[.slice (some ⟨g,0,none⟩) n cap,.int .i64 no,.func (.func 169) #[] #[]] w fun e w'=>∃c f,IsPlace ps no c∧StandsAt f ps no c∧e= .returned (.tuple #[.int .i64 (c:Nat),.bool f])∧Below w.heap.size w w':=by
 go_enter Tryz.func168,Tryz.ntmps168
 go_wp2
 go_loopw [9,10] (fun p q wr=>∃(lo hi:Nat),lo≤hi∧hi≤n∧p= .int .i64 lo∧q= .int .i64 hi∧At wr g ps∧Below w.heap.size w wr∧Hid ((∀t,t<lo→(el ps t).1<no)∧∀t,hi≤t→t<n→no≤(el ps t).1)) (fun p q _=>(intOf q).toNat-(intOf p).toNat)
 case atStart=>exact⟨0,n,by omega,by omega,rfl,rfl,h,Below.refl _ _,zh ⟨fun t ht=>by omega,fun t h1 h2=>by omega⟩⟩
 case round=>
  clear h
  obtain⟨lo,hi,hlh,hin,rfl,rfl,h,hb,HI⟩:=hrel
  have sz:=hb.size
  by_cases t:lo<hi
  ·obtain⟨m,hm⟩:∃m,m=(lo+hi)/2:=⟨_,rfl⟩
   obtain⟨e1,e2⟩:=h m (by omega)
   have HA:=zh h
   have HB:=zh hb
   clear h hb
   have LOW:=zh (show(el ps m).1<no→∀t,t<m+1→(el ps t).1<no from fun hx t ht=>by
    by_cases e:t=m
    ·subst e;exact hx
    ·have:=(zu asc) m t (by omega) (by omega)
     omega)
   have HIGH:=zh (show ¬(el ps m).1<no→∀t,m≤t→t<n→no≤(el ps t).1 from fun hx t h1 h2=>by
    by_cases e:t=m
    ·subst e;omega
    ·have:=(zu asc) t m (by omega) (by omega)
     omega)
   generalize (el ps m).1=x at *
   generalize (el ps m).2=y at *
   have hm':(((lo:Int)+(hi:Int))/2)=((m:Nat):Int):=by omega
   have M1:lo≤m:=by omega
   have M2:m<hi:=by omega
   have HM:=zh hm
   clear hm
   go_wp2_with fail
   refine(iCmp x y no _).mono ?_
   rintro e w1 ⟨r,hr,rfl,b1⟩
   have bb:=zh (next (zu HB) b1)
   have aa:=zh ((zu HA).below b1 (by omega))
   by_cases lt:x<no
   ·obtain rfl:r= -1:=by rcases hr with⟨_,e⟩|⟨h1,_⟩|⟨h1,_⟩<;>omega
    have L:=zh ((zu LOW) lt)
    clear hr b1 LOW HIGH
    go_wp2
    go_roundw
    case rel=>exact⟨m+1,hi,by omega,hin,by go_num,rfl,zu aa,zu bb,zh ⟨zu L,(zu HI).2⟩⟩
    case measure=>simp[intOf];omega
   ·have nr:¬r<0:=by rcases hr with⟨h1,_⟩|⟨_,e⟩|⟨_,e⟩<;>omega
    have L:=zh ((zu HIGH) (by omega))
    clear hr b1 LOW HIGH
    go_wp2
    go_roundw
    case rel=>exact⟨lo,m,by omega,by omega,rfl,by go_num,zu aa,zu bb,zh ⟨(zu HI).1,zu L⟩⟩
    case measure=>simp[intOf];omega
  ·obtain rfl:lo=hi:=by omega
   have PL:=zh (show IsPlace ps no lo from⟨by omega,(zu HI).1,fun hx=>(zu HI).2 lo (Nat.le_refl _) (by omega)⟩)
   by_cases lt:lo<n
   ·obtain⟨e1,e2⟩:=h lo (by omega)
    have HA:=zh h
    have HB:=zh hb
    clear h hb
    have FT:=zh (show(el ps lo).1=no→StandsAt true ps no lo from fun z=>⟨fun _=>⟨by omega,z⟩,fun _=>rfl⟩)
    have FN:=zh (show ¬(el ps lo).1=no→StandsAt false ps no lo from fun z=>⟨fun e=>Bool.noConfusion e,fun e=>absurd e.2 z⟩)
    generalize (el ps lo).1=x at *
    generalize (el ps lo).2=y at *
    go_wp2_with fail
    refine(iCmp x y no _).mono ?_
    rintro e w1 ⟨r,hr,rfl,b1⟩
    have bb:=zh (next (zu HB) b1)
    by_cases eq:x=no
    ·obtain rfl:r=0:=by rcases hr with⟨_,e⟩|⟨h1,_⟩|⟨_,e⟩<;>omega
     have FF:=(zu FT) eq
     clear hr b1 FT FN eq
     go_wp2
     go_ret2
     exact⟨lo,true,zu PL,FF,rfl,zu bb⟩
    ·have nr:(r==0)=false:=by rw[beq_eq_false_iff_ne];rcases hr with⟨_,e⟩|⟨h1,_⟩|⟨_,e⟩<;>omega
     have FF:=(zu FN) eq
     clear hr b1 FT FN eq
     go_wp2
     go_ret2
     exact⟨lo,false,zu PL,FF,rfl,zu bb⟩
   ·have HB:=zh hb
    clear h hb
    go_wp2
    go_ret2
    exact⟨lo,false,zu PL,⟨fun e=>Bool.noConfusion e,fun e=>absurd e.1 (by omega)⟩,rfl,zu HB⟩
theorem iPlace(w:World)(g n cap:Nat)(ps:List (Int×Int))(no:Int)(hl:ps.length=n)(h20:n≤1048576)(hg:g<w.heap.size)(h:At w g ps)(asc:Hid (∀j i,i<j→j<ps.length→(el ps i).1<(el ps j).1)):
  Calls Tryz.prog 155 #[.agg #[.slice (some ⟨g,0,none⟩) n cap,.int .i64 8,.int .i64 2],.int .i64 no] w fun e w'=>∃c f,IsPlace ps no c∧StandsAt f ps no c∧e= .returned (.tuple #[.int .i64 (c:Nat),.bool f])∧Below w.heap.size w w':=by
 have b0:Below w.heap.size w (w.alloc (.cells #[.slice (some ⟨g,0,none⟩) n cap,.int .i64 8,.int .i64 2] 162)):=(Below.refl _ _).alloc (Nat.le_refl _) _
 have H:=zh (h.below b0 hg)
 have HB:=zh b0
 clear h b0
 go_enter Tryz.func155,Tryz.ntmps155
 go_wp2_with fail
 refine(iSearch _ g n cap ps no hl h20 (by simp;omega) (zu H) asc).mono ?_
 rintro e w1 ⟨c,f,hc,hf,rfl,b1⟩
 have bb:=zh (next (zu HB) b1)
 have PC:=zh hc
 have PF:=zh hf
 clear hc hf b1
 go_wp2
 go_ret2
 exact⟨c,f,zu PC,zu PF,rfl,zu bb⟩
end InstrIPlace
namespace InstrIKind
open Pairs Chart InstrIOk InstrIPlace
theorem iChart(w:World)(g n cap:Nat):Calls Tryz.prog 125 #[.slice (some ⟨g,0,none⟩) n cap] w fun e w'=>e= .returned (.agg #[.slice (some ⟨g,0,none⟩) n cap,.int .i64 8,.int .i64 2])∧Below w.heap.size w w':=by
 go_enter Tryz.func125,Tryz.ntmps125
 go_wp2
 refine bodyPost_ret (v:= .agg #[.slice (some ⟨g,0,none⟩) n cap,.int .i64 8,.int .i64 2]) (by simp[results,Tryz.results125,go_sem]) rfl ⟨rfl,?_⟩
 repeat(first|exact Below.refl _ _|refine Below.alloc ?_ (by simp;try omega) _)
theorem iKindOf(w:World)(g n cap:Nat)(ps:List (Int×Int))(no:Int)(hl:ps.length=n)(h20:n≤1048576)(hg:g<w.heap.size)(h:At w g ps):
  Calls Tryz.prog 149 #[.agg #[.slice (some ⟨g,0,none⟩) n cap,.int .i64 8,.int .i64 2],.int .i64 no] w fun e w'=>∃r,IsKind 8 2 ps no r∧e= .returned (.int .i64 r)∧Below w.heap.size w w':=by
 obtain⟨ok,OK⟩:=says_of 8 2 ps
 have b0:Below w.heap.size w (w.alloc (.cells #[.slice (some ⟨g,0,none⟩) n cap,.int .i64 8,.int .i64 2] 162)):=(Below.refl _ _).alloc (Nat.le_refl _) _
 have H:=zh (h.below b0 hg)
 have HB:=zh b0
 clear h b0
 cases ok
 ·go_enter Tryz.func149,Tryz.ntmps149
  go_wp2_with fail
  refine(iOk _ g n cap ps false hl h20 (by simp;omega) (zu H) OK).mono ?_
  rintro e w1 ⟨rfl,b1⟩
  have bb:=zh (next (zu HB) b1)
  clear b1
  go_wp2
  go_ret
  exact⟨0,.inr ⟨.inl OK.no,rfl⟩,rfl,zu bb⟩
 ·go_enter Tryz.func149,Tryz.ntmps149
  go_wp2_with fail
  refine(iOk _ g n cap ps true hl h20 (by simp;omega) (zu H) OK).mono ?_
  rintro e w1 ⟨rfl,b1⟩
  have A1:=zh ((zu H).below b1 (by simp;omega))
  have B1:=zh (next (zu HB) b1)
  have s1:=b1.size
  have c0:w1.cell? ⟨w.heap.size,0,none⟩=some (.slice (some ⟨g,0,none⟩) n cap):=(b1.cell (p:=⟨w.heap.size,0,none⟩) (by simp)).trans (by simp)
  have c1:w1.cell? ⟨w.heap.size,1,none⟩=some (.int .i64 8):=(b1.cell (p:=⟨w.heap.size,1,none⟩) (by simp)).trans (by simp)
  have c2:w1.cell? ⟨w.heap.size,2,none⟩=some (.int .i64 2):=(b1.cell (p:=⟨w.heap.size,2,none⟩) (by simp)).trans (by simp)
  simp only[World.size_alloc] at s1
  clear b1
  go_wp2_with fail
  refine(iPlace _ g n cap ps no hl h20 (by omega) (zu A1) (zh OK.yes.asc)).mono ?_
  rintro e w2 ⟨c,f,hc,hf,rfl,b2⟩
  have A2:=zh ((zu A1).below b2 (by omega))
  have B2:=zh (next (zu B1) b2)
  have d0:=(b2.cell (p:=⟨w.heap.size,0,none⟩) (by show w.heap.size<_;omega)).trans c0
  clear b2 c0 c1 c2
  cases f
  ·have K0:=zh (show IsKind 8 2 ps no 0 from .inr ⟨.inr (fun i hi e=>hf.no (by
    have:=hc.1
    rcases Nat.lt_trichotomy i c with l|l|l
    ·have:=hc.2.1 i l;omega
    ·subst l;exact⟨hi,e⟩
    ·have h1:=hc.2.2 (by omega)
     have:=OK.yes.asc i c l hi
     omega)),rfl⟩)
   clear hc hf
   go_wp2
   go_ret
   exact⟨0,zu K0,rfl,zu B2⟩
  ·obtain⟨lt,eq⟩:=hf.yes
   have K0:=zh (show IsKind 8 2 ps no (el ps c).2 from .inl ⟨OK.yes,c,lt,eq,rfl⟩)
   obtain⟨e1,e2⟩:=(zu A2) c lt
   rw[hl] at lt
   clear hc hf eq
   generalize (el ps c).1=x at *
   generalize (el ps c).2=y at *
   have hfd:∀w:World,(Instr.field 171 (.agg #[.int .i64 x,.int .i64 y]) 1).run Tryz.prog w= .ok (.int .i64 y) w:=fun _=>by kernel_rfl
   go_wp2
   go_ret
   exact⟨y,zu K0,rfl,zu B2⟩
theorem iKind(w:World)(g n cap:Nat)(ps:List (Int×Int))(no:Int)(hl:ps.length=n)(h20:n≤1048576)(hg:g<w.heap.size)(h:At w g ps):
  Calls Tryz.prog 137 #[.slice (some ⟨g,0,none⟩) n cap,.int .i64 no] w fun e w'=>∃r,IsKind 8 2 ps no r∧e= .returned (.int .i64 r)∧Below w.heap.size w w':=by
 have H:=zh h
 clear h
 go_enter Tryz.func137,Tryz.ntmps137
 go_wp2_with fail
 refine(iChart _ g n cap).mono ?_
 rintro e w1 ⟨rfl,b1⟩
 have A1:=zh ((zu H).below b1 hg)
 have B1:=zh b1
 have s1:=b1.size
 clear b1
 go_wp2_with fail
 refine(iKindOf _ g n cap ps no hl h20 (by omega) (zu A1)).mono ?_
 rintro e w2 ⟨r,hr,rfl,b2⟩
 have B2:=zh (next (zu B1) b2)
 have K:=zh hr
 clear b2 hr
 go_wp2
 go_ret
 exact⟨r,zu K,rfl,zu B2⟩
theorem iOks(w:World)(g n cap:Nat)(ps:List (Int×Int))(ok:Bool)(hl:ps.length=n)(h20:n≤1048576)(hg:g<w.heap.size)(h:At w g ps)(hok:Says ok 8 2 ps):
  Calls Tryz.prog 109 #[.slice (some ⟨g,0,none⟩) n cap] w fun e w'=>e= .returned (.bool ok)∧Below w.heap.size w w':=by
 have H:=zh h
 clear h
 go_enter Tryz.func109,Tryz.ntmps109
 go_wp2_with fail
 refine(iChart _ g n cap).mono ?_
 rintro e w1 ⟨rfl,b1⟩
 have A1:=zh ((zu H).below b1 hg)
 have B1:=zh b1
 have s1:=b1.size
 clear b1
 go_wp2_with fail
 refine(iOk _ g n cap ps ok hl h20 (by omega) (zu A1) hok).mono ?_
 rintro e w2 ⟨rfl,b2⟩
 have B2:=zh (next (zu B1) b2)
 clear b2
 go_wp2
 go_ret
 exact⟨rfl,zu B2⟩
end InstrIKind
namespace Ints
theorem info3:(Tryz.prog.info? 3).map (fun i=>(i.zero,i.size,i.bytes))=some (some (.int .i64 0),1,8):=by kernel_rfl
def At(w:World)(g:Nat)(xs:List Int):Prop:=∀i,i<xs.length→w.cell? ⟨g,i,none⟩=some (.int .i64 (xs.getD i 0))
def Reads(w:World)(a:Option Addr)(xs:List Int):Prop:=
 xs.length=0∨∃b off,a=some ⟨b,off,none⟩∧b<w.heap.size∧∀i,i<xs.length→w.cell? ⟨b,off+i,none⟩=some (.int .i64 (xs.getD i 0))
def Own(w:World)(base g n cap:Nat)(xs:List Int):Prop:=w.ownsRow base 3 1 (.slice (some ⟨g,0,none⟩) n cap) n (xs.map (Value.int .i64))
theorem Own.len{w:World}{base g n cap:Nat}{xs:List Int}(h:Own w base g n cap xs):xs.length=n:=by
 have:=h.1
 simpa using this
theorem Own.lt{w:World}{base g n cap:Nat}{xs:List Int}(h:Own w base g n cap xs):base≤g∧g<w.heap.size:=World.ownsRow.lt h g rfl
theorem Own.at{w:World}{base g n cap:Nat}{xs:List Int}(h:Own w base g n cap xs):At w g xs:=by
 intro i hi
 have hl:=h.len
 have:=World.ownsRow.cellAt h i (by omega)
 rw[this]
 simp[List.getD,hi]
theorem Own.free{w:World}{base g n cap:Nat}{xs:List Int}(h:Own w base g n cap xs)(i:Nat):w.frozen? ⟨g,i,none⟩=false:=World.ownsRow.frozenAt h i
theorem Own.mono{w:World}{base base' g n cap:Nat}{xs:List Int}(h:Own w base g n cap xs)(hb:base'≤base):Own w base' g n cap xs:=by
 refine⟨h.1,?_⟩
 rcases h.2 with⟨h1,_⟩|⟨g',c,cur,h1,h2,h3⟩
 ·simp at h1
 ·exact Or.inr ⟨g',c,cur,h1,Nat.le_trans hb h2,h3⟩
theorem Own.rebase{w:World}{base base' g n cap:Nat}{xs:List Int}(h:Own w base g n cap xs)(hb:base'≤g):Own w base' g n cap xs:=by
 refine⟨h.1,?_⟩
 rcases h.2 with⟨h1,_⟩|⟨g',c,cur,h1,h2,h3⟩
 ·simp at h1
 ·obtain⟨e,_⟩:g=g'∧cap=c:=by simpa using h1
  subst e
  exact Or.inr ⟨g,c,cur,h1,hb,h3⟩
theorem Own.kept{w w':World}{base g n cap:Nat}{xs:List Int}{row:Option Nat}(h:Own w base g n cap xs)(k:w.grownBy w' row)(hne:some g≠row):Own w' base g n cap xs:=
 World.ownsRow.kept h k (Or.inr hne)
theorem Own.below{w w':World}{base g n cap B:Nat}{xs:List Int}(h:Own w base g n cap xs)(k:Below B w w')(hg:g<B):Own w' base g n cap xs:=by
 refine⟨h.1,?_⟩
 rcases h.2 with⟨h1,_⟩|⟨g',c,cur,h1,h2,h3,h4⟩
 ·simp at h1
 ·obtain⟨e,_⟩:g=g'∧cap=c:=by simpa using h1
  subst e
  exact Or.inr ⟨g,c,cur,h1,h2,by rw[k.block g hg];exact h3,h4⟩
theorem At.below{w w':World}{g B:Nat}{xs:List Int}(h:At w g xs)(k:Below B w w')(hg:g<B):At w' g xs:=fun i hi=>(k.cell (p:=⟨g,i,none⟩) hg).trans (h i hi)
theorem Reads.below{w w':World}{a:Option Addr}{xs:List Int}(h:Reads w a xs)(k:Below w.heap.size w w'):Reads w' a xs:=by
 rcases h with h|⟨b,off,rfl,hb,hc⟩
 ·exact Or.inl h
 ·exact Or.inr ⟨b,off,rfl,Nat.lt_of_lt_of_le hb k.size,fun i hi=>(k.cell (p:=⟨b,off+i,none⟩) hb).trans (hc i hi)⟩
theorem Own.set{w:World}{base g n cap:Nat}{xs:List Int}(h:Own w base g n cap xs)(i:Nat)(x:Int):
  Own (w.setCell ⟨g,i,none⟩ (.int .i64 x)) base g n cap (xs.set i x)∧w.grownBy (w.setCell ⟨g,i,none⟩ (.int .i64 x)) (some g):=by
 have:=World.ownsRow.stored h i (.int .i64 x)
 refine⟨?_,this.2⟩
 unfold Own
 rw[List.map_set]
 exact this.1
end Ints
namespace IRead
open BMem Bks
open Lots (Says says_of NoOk)
theorem beq_of{t:Bool}{r k:Int}(h:Says t (r=k)):(r==k)=t:=by
 cases t
 ·have:=h.no
  simpa using this
 ·have:=h.yes
  simpa using this
theorem enters{P:Program}{f:FuncId}{fn:Func}{c:Code}(hf:P.funcs[f]?=some fn)(hn:(fn.name== "runtime.NumGoroutine")=false)(hb:fn.body=some c)(args:Array Value)(w:World):
  (callFunc f args).run P w= .ok (.enter f args) w:=by
 have h1:fn.name≠ "runtime.NumGoroutine" :=by simpa using hn
 simp[callFunc,hf,h1,hb]
def FirstAt(xs:List Int)(p:Int→Bool)(r:Int):Prop:=(r= -1∧∀x∈xs,p x=false)∨(0≤r∧∃x∈xs,p x=true)
theorem iIndexF(w:World)(g n cap K:Nat)(caps:Array Value)(xs:List Int)(p:Int→Bool)(hl:xs.length=n)(h20:n≤1048576)(hg:g<w.heap.size)(h:Ints.At w g xs)
  (hK:∀(args:Array Value) (u:World),(callFunc K args).run Tryz.prog u= .ok (.enter K args) u)(hf:∀(u:World) (y:Int),Below w.heap.size w u→Calls Tryz.prog K (#[.int .i64 y]++caps) u fun e u'=>e= .returned (.bool (p y))∧Below u.heap.size u u'):
  Calls Tryz.prog 147 #[.slice (some ⟨g,0,none⟩) n cap,.func (.func K) #[] caps] w fun e w'=>∃r,FirstAt xs p r∧e= .returned (.int .i64 r)∧Below w.heap.size w w':=by
 have H:=zh h
 have HF:=zh hf
 have HL:=zh hl
 clear h hf hl
 go_enter Tryz.func147,Tryz.ntmps147
 go_wp2_with fail
 go_loopw [8] (fun i wr=>∃(k:Nat),k≤n∧i= .int .i64 k∧(∀j,j<k→p (xs.getD j 0)=false)∧Below w.heap.size w wr) (fun i _=>n-(intOf i).toNat)
 case atStart=>exact⟨0,by omega,rfl,fun j hj=>by omega,Below.refl _ _⟩
 case round=>
  obtain⟨k,hk,rfl,hn,hb⟩:=hrel
  have HB:=zh hb
  have HN:=zh hn
  by_cases t:k<n
  ·have hc:=(hb.cell (p:=⟨g,k,none⟩) hg).trans ((zu H) k (by rw[zu HL];exact t))
   have hM:xs.getD k 0∈xs:=by
    simp[List.getD,zu HL,t]
   have HM:=zh hM
   clear hb hn hM
   generalize hy:xs.getD k 0=y at *
   have HY:=zh hy
   clear hy
   go_wp2_with fail
   refine((zu HF) _ y (zu HB)).mono ?_
   rintro e w1 ⟨rfl,b1⟩
   have B1:=zh (next (zu HB) b1)
   clear b1 hc
   cases hp:p y
   ·go_wp2
    go_roundw
    case rel=>exact⟨k+1,by omega,by go_num,fun j hj=>by
     by_cases e:j=k
     ·subst e;rw[zu HY];exact hp
     ·exact(zu HN) j (by omega),zu B1⟩
    case measure=>simp[intOf];omega
   ·go_wp2
    go_ret
    exact⟨k,.inr ⟨by omega,y,zu HM,hp⟩,rfl,zu B1⟩
  ·clear hb hn
   have hkn:k=n:=by omega
   have E0:=zh (show ∀x∈xs,p x=false from fun x hx=>by
    obtain⟨j,hj,rfl⟩:=List.getElem_of_mem hx
    have:=(zu HN) j (by rw[zu HL] at hj;omega)
    simpa[List.getD,hj] using this)
   clear hkn
   go_wp2
   go_ret
   exact⟨-1,.inl ⟨rfl,zu E0⟩,rfl,zu HB⟩
theorem iContainsF(w:World)(g n cap K:Nat)(caps:Array Value)(xs:List Int)(p:Int→Bool)(b:Bool)(hl:xs.length=n)(h20:n≤1048576)(hg:g<w.heap.size)(h:Ints.At w g xs)
  (hK:∀(args:Array Value) (u:World),(callFunc K args).run Tryz.prog u= .ok (.enter K args) u)(hf:∀(u:World) (y:Int),Below w.heap.size w u→Calls Tryz.prog K (#[.int .i64 y]++caps) u fun e u'=>e= .returned (.bool (p y))∧Below u.heap.size u u')(hb:Says b (∃x∈xs,p x=true)):
  Calls Tryz.prog 133 #[.slice (some ⟨g,0,none⟩) n cap,.func (.func K) #[] caps] w fun e w'=>e= .returned (.bool b)∧Below w.heap.size w w':=by
 have H:=zh h
 have HF:=zh hf
 have HL:=zh hl
 have T:=zh hb
 clear h hf hl hb
 go_enter Tryz.func133,Tryz.ntmps133
 go_wp2_with fail
 refine(iIndexF _ g n cap K caps xs p (zu HL) h20 hg (zu H) hK (zu HF)).mono ?_
 rintro e w1 ⟨r,hr,rfl,b1⟩
 have B1:=zh b1
 have hd:decide (0≤r)=b:=by
  rcases hr with⟨rfl,hr⟩|⟨h0,hr⟩
  ·rw[(zu T).not (fun⟨x,hx,e⟩=>by rw[hr x hx] at e;cases e)];rfl
  ·rw[(zu T).of hr];exact decide_eq_true h0
 clear b1 hr
 go_wp2
 go_ret
 exact⟨rfl,zu B1⟩
end IRead
namespace IHave
open BMem Bks IRead
open Lots (Says says_of NoOk)
def outB(y:Int):Bool:=decide (y<1∨y>1000)
theorem none_of{xs:List Int}{p:Int→Bool}{q:Int→Prop}{b:Bool}(hq:∀y,p y=false↔q y)(hb:Says b (∀x∈xs,q x)):Says (!b) (∃x∈xs,p x=true):=by
 cases b
 ·refine⟨fun _=>?_,fun _=>rfl⟩
  have:=hb.no
  refine Classical.byContradiction fun hn=>this fun x hx=>(hq x).1 ?_
  cases h:p x
  ·rfl
  ·exact absurd ⟨x,hx,h⟩ hn
 ·refine⟨fun e=>Bool.noConfusion e,fun⟨x,hx,e⟩=>?_⟩
  have:=(hq x).2 (hb.yes x hx)
  rw[this] at e
  cases e
theorem out_no(y:Int):outB y=false↔NoOk y:=by
 unfold outB NoOk
 rw[decide_eq_false_iff_not]
 omega
theorem iOut(w:World)(y:Int):Calls Tryz.prog 153 (#[.int .i64 y]++ #[]) w fun e w'=>e= .returned (.bool (outB y))∧Below w.heap.size w w':=by
 show Calls Tryz.prog 153 #[.int .i64 y] w _
 by_cases a:y<1
 ·have hz:outB y=true:=decide_eq_true (.inl a)
  rw[hz]
  go_enter Tryz.func153,Tryz.ntmps153
  go_wp2
  go_ret
  exact⟨rfl,Below.refl _ _⟩
 ·by_cases b:y>1000
  ·have hz:outB y=true:=decide_eq_true (.inr b)
   rw[hz]
   go_enter Tryz.func153,Tryz.ntmps153
   go_wp2
   go_ret
   exact⟨rfl,Below.refl _ _⟩
  ·have hz:outB y=false:=decide_eq_false (fun h=>h.elim a b)
   rw[hz]
   go_enter Tryz.func153,Tryz.ntmps153
   go_wp2
   go_ret
   exact⟨rfl,Below.refl _ _⟩
theorem iNumbers(w:World)(g n cap:Nat)(xs:List Int)(b:Bool)(hl:xs.length=n)(h20:n≤1048576)(hg:g<w.heap.size)(h:Ints.At w g xs)(hb:Says b (∀x∈xs,NoOk x)):
  Calls Tryz.prog 145 #[.slice (some ⟨g,0,none⟩) n cap] w fun e w'=>e= .returned (.bool b)∧Below w.heap.size w w':=by
 have H:=zh h
 have HL:=zh hl
 have T:=zh (none_of out_no hb)
 clear h hl hb
 go_enter Tryz.func145,Tryz.ntmps145
 go_wp2_with fail
 refine(iContainsF _ g n cap 153 #[] xs outB (!b) (zu HL) h20 hg (zu H) (fun _ _=>enters Tryz.func153 (by kernel_rfl) rfl _ _) (fun u y _=>iOut u y) (zu T)).mono ?_
 rintro e w1 ⟨rfl,b1⟩
 have B1:=zh b1
 clear b1
 go_wp2
 go_ret
 exact⟨by simp,zu B1⟩
theorem iFrom(lo x:Int)(b:Bool)(w:World)(hb:Says b (lo≤x∧x≤1000000000000000)):Calls Tryz.prog 146 #[.int .i64 lo,.int .i64 x] w fun e w'=>e= .returned (.bool b)∧w'=w:=by
 by_cases h1:lo≤x
 ·by_cases h2:x≤1000000000000000
  ·obtain rfl:b=true:=hb.of ⟨h1,h2⟩
   clear hb
   go_enter Tryz.func146,Tryz.ntmps146
   go_wp2
   go_ret
   exact⟨rfl,rfl⟩
  ·obtain rfl:b=false:=hb.not (fun h=>h2 h.2)
   clear hb
   go_enter Tryz.func146,Tryz.ntmps146
   go_wp2
   go_ret
   exact⟨rfl,rfl⟩
 ·obtain rfl:b=false:=hb.not (fun h=>h1 h.1)
  clear hb
  go_enter Tryz.func146,Tryz.ntmps146
  go_wp2
  go_ret
  exact⟨rfl,rfl⟩
def noneB(ps:List (Int×Int))(y:Int):Bool:=kindOf ps y==0
theorem none_no(ps:List (Int×Int))(y:Int):noneB ps y=false↔kindOf ps y≠0:=by
 unfold noneB
 simp
end IHave
namespace Quieter
open Tup5
structure Near(w:World) where
 u:World
 b:Below w.heap.size w u
theorem near_is(w:World):Nonempty (Near w):=⟨⟨w,Below.refl _ _⟩⟩
theorem quiet_near{P:Program}{id:Nat}{Q:Exit→Act→World→Prop}{a:Act}{w:World}{l:List Oper}(hm:P.follows .mixedOrders=true)(hB:Region.lexB .any l.toArray=true)
  (h:wpQuiet P l.toArray (fun w'=>∃n:Near w,w'=n.u) (fun a'=>∀w',(∃n:Near w,w'=n.u)→Q .normal a' w') l a):(Code.region id l.toArray true).wp P Q a w:=
 wp_region_quiet (C:=fun w'=>∃n:Near w,w'=n.u) hm hB ⟨⟨w.drew,Below.drew (Below.refl _ _)⟩,rfl⟩ h
end Quieter
namespace SOk5
open Tup5 Lots Quieter
theorem sIn(x lo hi:Int)(b:Bool)(w:World)(hb:Says b (lo≤x∧x≤hi)):
  Calls Tryz.prog 34 #[.int .i64 x,.int .i64 lo,.int .i64 hi] w fun e w'=>e= .returned (.bool b)∧w'=w:=by
 by_cases h1:lo≤x
 ·by_cases h2:x≤hi
  ·obtain rfl:b=true:=hb.of ⟨h1,h2⟩
   clear hb
   go_enter Tryz.func34,Tryz.ntmps34
   go_wp2
   go_ret
   exact⟨rfl,rfl⟩
  ·obtain rfl:b=false:=hb.not (fun r=>h2 r.2)
   clear hb
   go_enter Tryz.func34,Tryz.ntmps34
   go_wp2
   go_ret
   exact⟨rfl,rfl⟩
 ·obtain rfl:b=false:=hb.not (fun r=>h1 r.1)
  clear hb
  go_enter Tryz.func34,Tryz.ntmps34
  go_wp2
  go_ret
  exact⟨rfl,rfl⟩
theorem sNo(x:Int)(b:Bool)(w:World)(hb:Says b (NoOk x)):
  Calls Tryz.prog 87 #[.int .i64 x] w fun e w'=>e= .returned (.bool b)∧w'=w:=by
 go_enter Tryz.func87,Tryz.ntmps87
 go_wp2_with fail
 refine(sIn x 1 1000 b _ hb).mono ?_
 rintro e w' ⟨rfl,rfl⟩
 go_wp2
 go_ret
 exact⟨rfl,rfl⟩
theorem sAmt(x:Int)(b:Bool)(w:World)(hb:Says b (Amt x)):
  Calls Tryz.prog 88 #[.int .i64 x] w fun e w'=>e= .returned (.bool b)∧w'=w:=by
 go_enter Tryz.func88,Tryz.ntmps88
 go_wp2_with fail
 refine(sIn x (-1000000000000000) 1000000000000000 b _ hb).mono ?_
 rintro e w' ⟨rfl,rfl⟩
 go_wp2
 go_ret
 exact⟨rfl,rfl⟩
theorem sBefore(a i c j:Int)(b:Bool)(w:World)(hb:Says b (a<c∨(a=c∧i<j))):
  Calls Tryz.prog 89 #[.int .i64 a,.int .i64 i,.int .i64 c,.int .i64 j] w fun e w'=>e= .returned (.bool b)∧w'=w:=by
 by_cases h1:a<c
 ·obtain rfl:b=true:=hb.of (.inl h1)
  clear hb
  go_enter Tryz.func89,Tryz.ntmps89
  go_wp2
  go_ret
  exact⟨rfl,rfl⟩
 ·by_cases h2:a=c
  ·subst h2
   by_cases h3:i<j
   ·obtain rfl:b=true:=hb.of (.inr ⟨rfl,h3⟩)
    clear hb
    go_enter Tryz.func89,Tryz.ntmps89
    go_wp2
    go_ret
    exact⟨rfl,rfl⟩
   ·obtain rfl:b=false:=hb.not (fun r=>by omega)
    clear hb
    go_enter Tryz.func89,Tryz.ntmps89
    go_wp2
    go_ret
    exact⟨rfl,rfl⟩
  ·obtain rfl:b=false:=hb.not (fun r=>by omega)
   clear hb
   go_enter Tryz.func89,Tryz.ntmps89
   go_wp2
   go_ret
   exact⟨rfl,rfl⟩
theorem sSome(x lo:Int)(b:Bool)(w:World)(hb:Says b (lo≤x∧x≤1000000000000000)):
  Calls Tryz.prog 92 #[.int .i64 x,.int .i64 lo] w fun e w'=>e= .returned (.bool b)∧w'=w:=by
 go_enter Tryz.func92,Tryz.ntmps92
 go_wp2_with fail
 refine(sIn x lo 1000000000000000 b _ hb).mono ?_
 rintro e w' ⟨rfl,rfl⟩
 go_wp2
 go_ret
 exact⟨rfl,rfl⟩
theorem one_more(w:World)(o:Obj):Below w.heap.size w (w.alloc o):=(Below.refl _ _).alloc (Nat.le_refl _) _
theorem two_more(w:World)(o p:Obj):Below w.heap.size w ((w.alloc o).alloc p):=((Below.refl _ _).alloc (Nat.le_refl _) _).alloc (by simp) _
theorem sRight(x0 x1 x2 x3 x4:Int)(b:Bool)(w:World)(hb:Says b (One (x0,x1,x2,x3,x4))):
  Calls Tryz.prog 90 #[.agg #[.int .i64 x0,.int .i64 x1,.int .i64 x2,.int .i64 x3,.int .i64 x4]] w fun e w'=>e= .returned (.bool b)∧Below w.heap.size w w':=by
 obtain⟨b1,B1⟩:=says_of (NoOk x0)
 obtain⟨b2,B2⟩:=says_of (NoOk x1)
 obtain⟨b3,B3⟩:=says_of (1≤x2∧x2≤1000000000)
 obtain⟨b4,B4⟩:=says_of (1≤x3∧x3≤1000000000000000)
 obtain⟨b5,B5⟩:=says_of (0≤x4∧x4≤1000000000000000)
 have NB:=zh (one_more w (.cells #[.int .i64 x0,.int .i64 x1,.int .i64 x2,.int .i64 x3,.int .i64 x4] 80))
 cases b1
 ·obtain rfl:b=false:=hb.not (fun r=>B1.no r.1)
  clear hb
  go_enter Tryz.func90,Tryz.ntmps90
  go_wp2_with (first|(go_at_call 87;refine(sNo _ false _ B1).mono ?_;rintro e w1 ⟨rfl,rfl⟩))
  go_ret
  first|exact⟨rfl,zu NB⟩|exact⟨by rw[decide_eq_false (show ¬x2<y2 by omega)];rfl,zu NB⟩
 cases b2
 ·obtain rfl:b=false:=hb.not (fun r=>B2.no r.2.1)
  clear hb
  go_enter Tryz.func90,Tryz.ntmps90
  go_wp2_with (first|(go_at_call 87;refine(sNo _ true _ B1).mono ?_;rintro e w1 ⟨rfl,rfl⟩)|(go_at_call 87;refine(sNo _ false _ B2).mono ?_;rintro e w1 ⟨rfl,rfl⟩))
  go_ret
  first|exact⟨rfl,zu NB⟩|exact⟨by rw[decide_eq_false (show ¬x2<y2 by omega)];rfl,zu NB⟩
 cases b3
 ·obtain rfl:b=false:=hb.not (fun r=>B3.no r.2.2.1)
  clear hb
  go_enter Tryz.func90,Tryz.ntmps90
  go_wp2_with (first|(go_at_call 87;refine(sNo _ true _ B1).mono ?_;rintro e w1 ⟨rfl,rfl⟩)|(go_at_call 87;refine(sNo _ true _ B2).mono ?_;rintro e w1 ⟨rfl,rfl⟩)|(go_at_call 34;refine(sIn _ _ _ false _ B3).mono ?_;rintro e w1 ⟨rfl,rfl⟩))
  go_ret
  first|exact⟨rfl,zu NB⟩|exact⟨by rw[decide_eq_false (show ¬x2<y2 by omega)];rfl,zu NB⟩
 cases b4
 ·obtain rfl:b=false:=hb.not (fun r=>B4.no r.2.2.2.1)
  clear hb
  go_enter Tryz.func90,Tryz.ntmps90
  go_wp2_with (first|(go_at_call 87;refine(sNo _ true _ B1).mono ?_;rintro e w1 ⟨rfl,rfl⟩)|(go_at_call 87;refine(sNo _ true _ B2).mono ?_;rintro e w1 ⟨rfl,rfl⟩)|(go_at_call 34;refine(sIn _ _ _ true _ B3).mono ?_;rintro e w1 ⟨rfl,rfl⟩)|(go_at_call 92;refine(sSome _ _ false _ B4).mono ?_;rintro e w1 ⟨rfl,rfl⟩))
  go_ret
  first|exact⟨rfl,zu NB⟩|exact⟨by rw[decide_eq_false (show ¬x2<y2 by omega)];rfl,zu NB⟩
 obtain rfl:b5=b:=by
  cases b5
  ·exact(hb.not (fun r=>B5.no r.2.2.2.2)).symm
  ·exact(hb.of ⟨B1.yes,B2.yes,B3.yes,B4.yes,B5.yes⟩).symm
 clear hb
 go_enter Tryz.func90,Tryz.ntmps90
 go_wp2_with (first|(go_at_call 87;refine(sNo _ true _ B1).mono ?_;rintro e w1 ⟨rfl,rfl⟩)|(go_at_call 87;refine(sNo _ true _ B2).mono ?_;rintro e w1 ⟨rfl,rfl⟩)|(go_at_call 34;refine(sIn _ _ _ true _ B3).mono ?_;rintro e w1 ⟨rfl,rfl⟩)|(go_at_call 92;refine(sSome _ _ true _ B4).mono ?_;rintro e w1 ⟨rfl,rfl⟩)|(go_at_call 92;refine(sSome _ _ _ _ B5).mono ?_;rintro e w1 ⟨rfl,rfl⟩))
 go_ret
 first|exact⟨rfl,zu NB⟩|exact⟨by rw[decide_eq_false (show ¬x2<y2 by omega)];rfl,zu NB⟩
theorem sBef(x0 x1 x2 x3 x4 y0 y1 y2 y3 y4:Int)(b:Bool)(w:World)(hb:Says b (Bef (x0,x1,x2,x3,x4) (y0,y1,y2,y3,y4))):
  Calls Tryz.prog 91 #[.agg #[.int .i64 x0,.int .i64 x1,.int .i64 x2,.int .i64 x3,.int .i64 x4],.agg #[.int .i64 y0,.int .i64 y1,.int .i64 y2,.int .i64 y3,.int .i64 y4]] w fun e w'=>e= .returned (.bool b)∧Below w.heap.size w w':=by
 obtain⟨b1,B1⟩:=says_of (x0<y0∨(x0=y0∧x1<y1))
 have NB:=zh (two_more w (.cells #[.int .i64 x0,.int .i64 x1,.int .i64 x2,.int .i64 x3,.int .i64 x4] 80) (.cells #[.int .i64 y0,.int .i64 y1,.int .i64 y2,.int .i64 y3,.int .i64 y4] 80))
 have BB:b=true↔(x0<y0∨(x0=y0∧(x1<y1∨(x1=y1∧x2<y2)))):=hb
 clear hb
 cases b1
 ·have n1:=B1.no
  by_cases e0:x0=y0
  ·subst e0
   by_cases e1:x1=y1
   ·subst e1
    by_cases l2:x2<y2
    ·skip
     obtain rfl:b=true:=BB.2 (by omega)
     clear BB n1
     go_enter Tryz.func91,Tryz.ntmps91
     go_wp2_with (go_at_call 89;refine(sBefore _ _ _ _ false _ B1).mono ?_;rintro e w1 ⟨rfl,rfl⟩)
     go_ret
     first|exact⟨rfl,zu NB⟩|exact⟨by rw[decide_eq_false (show ¬x2<y2 by omega)];rfl,zu NB⟩
    ·skip
     obtain rfl:b=false:=by
      cases b
      ·rfl
      ·have:=BB.1 rfl
       omega
     clear BB n1
     go_enter Tryz.func91,Tryz.ntmps91
     go_wp2_with (go_at_call 89;refine(sBefore _ _ _ _ false _ B1).mono ?_;rintro e w1 ⟨rfl,rfl⟩)
     go_ret
     first|exact⟨rfl,zu NB⟩|exact⟨by rw[decide_eq_false (show ¬x2<y2 by omega)];rfl,zu NB⟩
   ·skip
    obtain rfl:b=false:=by
     cases b
     ·rfl
     ·have:=BB.1 rfl
      omega
    clear BB n1
    go_enter Tryz.func91,Tryz.ntmps91
    go_wp2_with (go_at_call 89;refine(sBefore _ _ _ _ false _ B1).mono ?_;rintro e w1 ⟨rfl,rfl⟩)
    go_ret
    first|exact⟨rfl,zu NB⟩|exact⟨by rw[decide_eq_false (show ¬x2<y2 by omega)];rfl,zu NB⟩
  ·skip
   obtain rfl:b=false:=by
    cases b
    ·rfl
    ·have:=BB.1 rfl
     omega
   clear BB n1
   go_enter Tryz.func91,Tryz.ntmps91
   go_wp2_with (go_at_call 89;refine(sBefore _ _ _ _ false _ B1).mono ?_;rintro e w1 ⟨rfl,rfl⟩)
   go_ret
   first|exact⟨rfl,zu NB⟩|exact⟨by rw[decide_eq_false (show ¬x2<y2 by omega)];rfl,zu NB⟩
 ·have n1:=B1.yes
  obtain rfl:b=true:=BB.2 (by omega)
  clear BB n1
  go_enter Tryz.func91,Tryz.ntmps91
  go_wp2_with (go_at_call 89;refine(sBefore _ _ _ _ true _ B1).mono ?_;rintro e w1 ⟨rfl,rfl⟩)
  go_ret
  first|exact⟨rfl,zu NB⟩|exact⟨by rw[decide_eq_false (show ¬x2<y2 by omega)];rfl,zu NB⟩
theorem sOk(w:World)(g n cap:Nat)(ps:List T5)(ok:Bool)(hl:ps.length=n)(h20:n≤1048576)(hg:g<w.heap.size)(h:At5 w g ps)(hok:Says ok (Right ps)):
  Calls Tryz.prog 69 #[.slice (some ⟨g,0,none⟩) n cap] w fun e w'=>e= .returned (.bool ok)∧Below w.heap.size w w':=by
 by_cases nn:(120:Int)<(n:Int)
 ·obtain rfl:ok=false:=hok.not (fun r=>by have:=r.1;omega)
  clear hok h
  go_enter Tryz.func69,Tryz.ntmps69
  go_wp2
  go_ret
  exact⟨rfl,Below.refl _ _⟩
 have H:=zh h
 clear h
 go_enter Tryz.func69,Tryz.ntmps69
 go_wp2
 go_loopw [3,4,5,6] (fun q c i _ wr=>∃(k:Nat) (sq sc:Int),k≤n∧i= .int .i64 k∧q= .int .i64 sq∧c= .int .i64 sc∧0≤sq∧sq≤1000000000000000∧0≤sc∧sc≤1000000000000000∧Below w.heap.size w wr∧Hid (∀i,i<k→RowOk ps i∧(run ps i).1≤1000000000000000∧(run ps i).2≤1000000000000000)∧Hid (0<k→(sq,sc)=run ps (k-1))) (fun _ _ i _ _=>n-(intOf i).toNat)
 case atStart=>exact⟨0,0,0,by omega,rfl,rfl,rfl,by omega,by omega,by omega,by omega,Below.refl _ _,zh (fun i hi=>absurd hi (by omega)),zh (fun h0=>absurd h0 (by omega))⟩
 case round=>
  obtain⟨k,sq,sc,hk,rfl,rfl,rfl,sq0,sq1,sc0,sc1,hb,HG,HS⟩:=hrel
  by_cases t:k<n
  ·have hA:=(zu H).below hb hg
   obtain⟨e0,e1,e2,e3,e4⟩:=hA k (by omega)
   have ED:0<k→Holds5 wr g ((k-1)*5) (el5 ps (k-1)):=fun k0=>hA (k-1) (by omega)
   have gs:g<wr.heap.size:=Nat.lt_of_lt_of_le hg hb.size
   have gne:g≠wr.heap.size:=by omega
   clear hA
   have HB:=zh hb
   clear hb
   have ROW:=zh (show RowOk ps k↔One ((el5 ps k).1,(el5 ps k).2.1,(el5 ps k).2.2.1,(el5 ps k).2.2.2.1,(el5 ps k).2.2.2.2)∧(0<k→Bef ((el5 ps (k-1)).1,(el5 ps (k-1)).2.1,(el5 ps (k-1)).2.2.1,(el5 ps (k-1)).2.2.2.1,(el5 ps (k-1)).2.2.2.2) ((el5 ps k).1,(el5 ps k).2.1,(el5 ps k).2.2.1,(el5 ps k).2.2.2.1,(el5 ps k).2.2.2.2)) from Iff.rfl)
   have RUN:=zh (show RowOk ps k→run ps k=(if k=0∨(el5 ps k).1≠(el5 ps (k-1)).1∨(el5 ps k).2.1≠(el5 ps (k-1)).2.1 then((el5 ps k).2.2.2.1,(el5 ps k).2.2.2.2) else(sq+(el5 ps k).2.2.2.1,sc+(el5 ps k).2.2.2.2)) from fun hr=>by
    rw[run_next (by omega) (fun i hi=>by
     by_cases e:i=k
     ·subst e;exact hr
     ·exact((zu HG) i (by omega)).1)]
    by_cases c:k=0∨(el5 ps k).1≠(el5 ps (k-1)).1∨(el5 ps k).2.1≠(el5 ps (k-1)).2.1
    ·rw[if_pos c,if_pos c]
    ·rw[if_neg c,if_neg c,←(zu HS) (by omega)])
   have BAD:=zh (show ¬(RowOk ps k∧(run ps k).1≤1000000000000000∧(run ps k).2≤1000000000000000)→ok=false from fun hr=>hok.not (fun r=>hr ((right_iff ps (by omega)).1 r k (by omega))))
   have GOOD:=zh (show RowOk ps k∧(run ps k).1≤1000000000000000∧(run ps k).2≤1000000000000000→∀i,i<k+1→RowOk ps i∧(run ps i).1≤1000000000000000∧(run ps i).2≤1000000000000000 from fun hr i hi=>by
    by_cases e:i=k
    ·subst e;exact hr
    ·exact(zu HG) i (by omega))
   obtain⟨rq,rc,RQ⟩:∃rq rc,Hid (run ps k=(rq,rc)):=⟨_,_,rfl⟩
   rw[zu RQ] at RUN BAD GOOD
   clear HG HS
   generalize (el5 ps k).1=x0 at *
   generalize (el5 ps k).2.1=x1 at *
   generalize (el5 ps k).2.2.1=x2 at *
   generalize (el5 ps k).2.2.2.1=x3 at *
   generalize (el5 ps k).2.2.2.2=x4 at *
   obtain⟨u0,u1,u2,u3,u4,EU⟩:∃u0 u1 u2 u3 u4,el5 ps (k-1)=(u0,u1,u2,u3,u4):=⟨_,_,_,_,_,rfl⟩
   rw[EU] at ROW RUN ED
   clear EU
   obtain⟨b1,B1⟩:=says_of (One (x0,x1,x2,x3,x4))
   have ONE:=zh (one_more wr (.cells #[.int .i64 x0,.int .i64 x1,.int .i64 x2,.int .i64 x3,.int .i64 x4] 80))
   have SL:wr.heap.size<(wr.alloc (.cells #[.int .i64 x0,.int .i64 x1,.int .i64 x2,.int .i64 x3,.int .i64 x4] 80)).heap.size:=by simp
   obtain⟨f0,f1,f2,f3,f4⟩:Holds5 (wr.alloc (.cells #[.int .i64 x0,.int .i64 x1,.int .i64 x2,.int .i64 x3,.int .i64 x4] 80)) wr.heap.size 0 (x0,x1,x2,x3,x4):=by unfold Holds5;simp
   have ED1:=zh (show 0<k→Holds5 (wr.alloc (.cells #[.int .i64 x0,.int .i64 x1,.int .i64 x2,.int .i64 x3,.int .i64 x4] 80)) g ((k-1)*5) (u0,u1,u2,u3,u4) from fun k0=>(ED k0).below (zu ONE) gs)
   have HB1:=zh (next (zu HB) (zu ONE))
   clear ED ONE
   go_wp2_with fail
   generalize wr.alloc (.cells #[.int .i64 x0,.int .i64 x1,.int .i64 x2,.int .i64 x3,.int .i64 x4] 80)=u at *
   generalize wr.heap.size=yb at *
   have C0:∀n:Near u,n.u.cell? ⟨yb,0,none⟩=some (.int .i64 x0):=fun n=>(n.b.cell (p:=⟨yb,0,none⟩) SL).trans f0
   have C1:∀n:Near u,n.u.cell? ⟨yb,1,none⟩=some (.int .i64 x1):=fun n=>(n.b.cell (p:=⟨yb,1,none⟩) SL).trans f1
   have C2:∀n:Near u,n.u.cell? ⟨yb,2,none⟩=some (.int .i64 x2):=fun n=>(n.b.cell (p:=⟨yb,2,none⟩) SL).trans f2
   have C3:∀n:Near u,n.u.cell? ⟨yb,3,none⟩=some (.int .i64 x3):=fun n=>(n.b.cell (p:=⟨yb,3,none⟩) SL).trans f3
   have C4:∀n:Near u,n.u.cell? ⟨yb,4,none⟩=some (.int .i64 x4):=fun n=>(n.b.cell (p:=⟨yb,4,none⟩) SL).trans f4
   have near:=near_is u
   cases b1
   ·have OKF:=zh ((zu BAD) (fun hr=>B1.no ((zu ROW).1 hr.1).1))
    clear BAD GOOD ROW RUN ED1
    refine quiet_near (by kernel_rfl) (by kernel_rfl) ?_
    repeat(go_big_quiet_step (first
     |(go_at_call 90
       rename_i nn
       refine(sRight x0 x1 x2 x3 x4 false nn.u B1).mono ?_
       rintro e u6 ⟨rfl,b6⟩
       exact⟨rfl,⟨u6,next nn.b b6⟩,rfl⟩)))
    refine wpQuiet_nil ?_
    rintro u9 ⟨⟨_,b9⟩,rfl⟩
    go_wp2
    go_ret
    exact⟨by rw[zu OKF];rfl,next (zu HB1) b9⟩
   have o:=B1.yes
   obtain⟨_,_,_,⟨x3l,x3h⟩,x4l,x4h⟩:NoOk x0∧NoOk x1∧(1≤x2∧x2≤1000000000)∧(1≤x3∧x3≤1000000000000000)∧(0≤x4∧x4≤1000000000000000):=o
   by_cases k0:k=0
   ·subst k0
    have RK:=zh ((zu ROW).2 ⟨B1.yes,fun h0=>absurd h0 (by omega)⟩)
    clear ED1
    refine quiet_near (by kernel_rfl) (by kernel_rfl) ?_
    repeat(go_big_quiet_step (first
     |(go_at_call 90
       rename_i nn
       refine(sRight x0 x1 x2 x3 x4 true nn.u B1).mono ?_
       rintro e u6 ⟨rfl,b6⟩
       exact⟨rfl,⟨u6,next nn.b b6⟩,rfl⟩)))
    refine wpQuiet_nil ?_
    rintro u9 ⟨⟨_,b9⟩,rfl⟩
    have f3:u9.cell? ⟨yb,3,none⟩=some (.int .i64 x3):=(b9.cell (p:=⟨yb,3,none⟩) SL).trans f3
    have f4:u9.cell? ⟨yb,4,none⟩=some (.int .i64 x4):=(b9.cell (p:=⟨yb,4,none⟩) SL).trans f4
    have BB:=zh (next (zu HB1) b9)
    clear b9 C0 C1 C2 C3 C4 near
    obtain⟨b3,B3⟩:=says_of (Amt (x3))
    obtain⟨b4,B4⟩:=says_of (Amt (x4))
    have RE:=zh (show(rq,rc)=(x3,x4) from by rw[(zu RUN) (zu RK),if_pos (.inl rfl)])
    go_wp2_with fail
    go_quiet (fail)
    go_wp2_with fail
    refine(sAmt (x3) b3 _ B3).mono ?_
    rintro e w3 ⟨rfl,rfl⟩
    cases b3
    ·have OKF:=zh ((zu BAD) (fun hr=>B3.no (by have e:=congrArg Prod.fst (zu RE);have:=hr.2.1;unfold Amt;simp only at e;omega)))
     clear BAD GOOD ROW RUN RE
     go_wp2
     go_ret
     exact⟨by rw[zu OKF];rfl,below_drewN (zu BB) _⟩
    go_wp2_with fail
    refine(sAmt (x4) b4 _ B4).mono ?_
    rintro e w4 ⟨rfl,rfl⟩
    cases b4
    ·have OKF:=zh ((zu BAD) (fun hr=>B4.no (by have e:=congrArg Prod.snd (zu RE);have:=hr.2.2;unfold Amt;simp only at e;omega)))
     clear BAD GOOD ROW RUN RE
     go_wp2
     go_ret
     exact⟨by rw[zu OKF];rfl,below_drewN (zu BB) _⟩
    have GO:=zh ((zu GOOD) ⟨zu RK,by have e:=congrArg Prod.fst (zu RE);have y:=B3.yes;unfold Amt at y;simp only at e;omega,by have e:=congrArg Prod.snd (zu RE);have y:=B4.yes;unfold Amt at y;simp only at e;omega⟩)
    have y3:=B3.yes.2
    have y4:=B4.yes.2
    clear BAD GOOD ROW RUN HB
    go_wp2
    go_roundw
    case rel=>exact⟨0+1,x3,x4,by omega,by go_num,rfl,rfl,by omega,by omega,by omega,by omega,below_drewN (zu BB) _,GO,zh (fun _=>by rw[show 0+1-1=0 by omega,zu RQ];exact(zu RE).symm)⟩
    case measure=>simp[intOf];omega
   ·have d:=(zu ED1) (by omega)
    have gu:g<u.heap.size:=by omega
    have D0:∀n:Near u,n.u.cell? ⟨g,(k-1)*5,none⟩=some (.int .i64 u0):=fun n=>(n.b.cell (p:=⟨g,(k-1)*5,none⟩) gu).trans d.1
    have D1:∀n:Near u,n.u.cell? ⟨g,(k-1)*5+1,none⟩=some (.int .i64 u1):=fun n=>(n.b.cell (p:=⟨g,(k-1)*5+1,none⟩) gu).trans d.2.1
    have D2:∀n:Near u,n.u.cell? ⟨g,(k-1)*5+2,none⟩=some (.int .i64 u2):=fun n=>(n.b.cell (p:=⟨g,(k-1)*5+2,none⟩) gu).trans d.2.2.1
    have D3:∀n:Near u,n.u.cell? ⟨g,(k-1)*5+3,none⟩=some (.int .i64 u3):=fun n=>(n.b.cell (p:=⟨g,(k-1)*5+3,none⟩) gu).trans d.2.2.2.1
    have D4:∀n:Near u,n.u.cell? ⟨g,(k-1)*5+4,none⟩=some (.int .i64 u4):=fun n=>(n.b.cell (p:=⟨g,(k-1)*5+4,none⟩) gu).trans d.2.2.2.2
    have HD:=zh d
    clear d ED1
    have kp:0<k:=by omega
    have kz:((k:Int)==0)=false:=by rw[beq_eq_false_iff_ne];omega
    have k1:(0:Int)<(k:Int):=by omega
    have k2:(0:Int)≤(k:Int) -1:=by omega
    have k3:((k:Int) -1).toNat=k-1:=by omega
    have k4:IntKind.i64.wrap ((k:Int) -1)=(k:Int) -1:=by rw[IntKind.wrap_i64];omega
    have k5:(k:Int) -1<(n:Int):=by omega
    obtain⟨b2,B2⟩:=says_of (Bef (u0,u1,u2,u3,u4) (x0,x1,x2,x3,x4))
    cases b2
    ·have OKF:=zh ((zu BAD) (fun hr=>B2.no (((zu ROW).1 hr.1).2 (by omega))))
     clear BAD GOOD ROW RUN
     refine quiet_near (by kernel_rfl) (by kernel_rfl) ?_
     repeat(go_big_quiet_step (first
      |(go_at_call 90
        rename_i nn
        refine(sRight x0 x1 x2 x3 x4 true nn.u B1).mono ?_
        rintro e u6 ⟨rfl,b6⟩
        exact⟨rfl,⟨u6,next nn.b b6⟩,rfl⟩)
      |(go_at_call 91
        rename_i nn
        refine(sBef u0 u1 u2 u3 u4 x0 x1 x2 x3 x4 false nn.u B2).mono ?_
        rintro e u6 ⟨rfl,b6⟩
        exact⟨rfl,⟨u6,next nn.b b6⟩,rfl⟩)))
     refine wpQuiet_nil ?_
     rintro u9 ⟨⟨_,b9⟩,rfl⟩
     go_wp2
     go_ret
     exact⟨by rw[zu OKF];rfl,next (zu HB1) b9⟩
    have RK:=zh ((zu ROW).2 ⟨B1.yes,fun _=>B2.yes⟩)
    refine quiet_near (by kernel_rfl) (by kernel_rfl) ?_
    repeat(go_big_quiet_step (first
     |(go_at_call 90
       rename_i nn
       refine(sRight x0 x1 x2 x3 x4 true nn.u B1).mono ?_
       rintro e u6 ⟨rfl,b6⟩
       exact⟨rfl,⟨u6,next nn.b b6⟩,rfl⟩)
     |(go_at_call 91
       rename_i nn
       refine(sBef u0 u1 u2 u3 u4 x0 x1 x2 x3 x4 true nn.u B2).mono ?_
       rintro e u6 ⟨rfl,b6⟩
       exact⟨rfl,⟨u6,next nn.b b6⟩,rfl⟩)))
    refine wpQuiet_nil ?_
    rintro u9 ⟨⟨_,b9⟩,rfl⟩
    have f0:u9.cell? ⟨yb,0,none⟩=some (.int .i64 x0):=(b9.cell (p:=⟨yb,0,none⟩) SL).trans f0
    have f1:u9.cell? ⟨yb,1,none⟩=some (.int .i64 x1):=(b9.cell (p:=⟨yb,1,none⟩) SL).trans f1
    have f3:u9.cell? ⟨yb,3,none⟩=some (.int .i64 x3):=(b9.cell (p:=⟨yb,3,none⟩) SL).trans f3
    have f4:u9.cell? ⟨yb,4,none⟩=some (.int .i64 x4):=(b9.cell (p:=⟨yb,4,none⟩) SL).trans f4
    have d0:u9.cell? ⟨g,(k-1)*5,none⟩=some (.int .i64 u0):=(b9.cell (p:=⟨g,(k-1)*5,none⟩) gu).trans (zu HD).1
    have d1:u9.cell? ⟨g,(k-1)*5+1,none⟩=some (.int .i64 u1):=(b9.cell (p:=⟨g,(k-1)*5+1,none⟩) gu).trans (zu HD).2.1
    have BB:=zh (next (zu HB1) b9)
    clear b9 C0 C1 C2 C3 C4 D0 D1 D2 D3 D4 near
    by_cases c0:x0=u0
    ·by_cases c1:x1=u1
     ·subst c0 c1
      obtain⟨b3,B3⟩:=says_of (Amt (sq+x3))
      obtain⟨b4,B4⟩:=says_of (Amt (sc+x4))
      have RE:=zh (show(rq,rc)=(sq+x3,sc+x4) from by rw[(zu RUN) (zu RK),if_neg (by omega)])
      go_wp2_with fail
      go_quiet (fail)
      go_wp2_with fail
      refine(sAmt (sq+x3) b3 _ B3).mono ?_
      rintro e w3 ⟨rfl,rfl⟩
      cases b3
      ·have OKF:=zh ((zu BAD) (fun hr=>B3.no (by have e:=congrArg Prod.fst (zu RE);have:=hr.2.1;unfold Amt;simp only at e;omega)))
       clear BAD GOOD ROW RUN RE
       go_wp2
       go_ret
       exact⟨by rw[zu OKF];rfl,below_drewN (zu BB) _⟩
      go_wp2_with fail
      refine(sAmt (sc+x4) b4 _ B4).mono ?_
      rintro e w4 ⟨rfl,rfl⟩
      cases b4
      ·have OKF:=zh ((zu BAD) (fun hr=>B4.no (by have e:=congrArg Prod.snd (zu RE);have:=hr.2.2;unfold Amt;simp only at e;omega)))
       clear BAD GOOD ROW RUN RE
       go_wp2
       go_ret
       exact⟨by rw[zu OKF];rfl,below_drewN (zu BB) _⟩
      have GO:=zh ((zu GOOD) ⟨zu RK,by have e:=congrArg Prod.fst (zu RE);have y:=B3.yes;unfold Amt at y;simp only at e;omega,by have e:=congrArg Prod.snd (zu RE);have y:=B4.yes;unfold Amt at y;simp only at e;omega⟩)
      have y3:=B3.yes.2
      have y4:=B4.yes.2
      clear BAD GOOD ROW RUN HB
      go_wp2
      go_roundw
      case rel=>exact⟨k+1,sq+x3,sc+x4,by omega,by go_num,rfl,rfl,by omega,by omega,by omega,by omega,below_drewN (zu BB) _,GO,zh (fun _=>by rw[show k+1-1=k by omega,zu RQ];exact(zu RE).symm)⟩
      case measure=>simp[intOf];omega
     ·have q1:(x1 !=u1)=true:=by simpa using c1
      obtain⟨b3,B3⟩:=says_of (Amt (x3))
      obtain⟨b4,B4⟩:=says_of (Amt (x4))
      have RE:=zh (show(rq,rc)=(x3,x4) from by rw[(zu RUN) (zu RK),if_pos (.inr (.inr c1))])
      go_wp2_with fail
      go_quiet (fail)
      go_wp2_with fail
      refine(sAmt (x3) b3 _ B3).mono ?_
      rintro e w3 ⟨rfl,rfl⟩
      cases b3
      ·have OKF:=zh ((zu BAD) (fun hr=>B3.no (by have e:=congrArg Prod.fst (zu RE);have:=hr.2.1;unfold Amt;simp only at e;omega)))
       clear BAD GOOD ROW RUN RE
       go_wp2
       go_ret
       exact⟨by rw[zu OKF];rfl,below_drewN (zu BB) _⟩
      go_wp2_with fail
      refine(sAmt (x4) b4 _ B4).mono ?_
      rintro e w4 ⟨rfl,rfl⟩
      cases b4
      ·have OKF:=zh ((zu BAD) (fun hr=>B4.no (by have e:=congrArg Prod.snd (zu RE);have:=hr.2.2;unfold Amt;simp only at e;omega)))
       clear BAD GOOD ROW RUN RE
       go_wp2
       go_ret
       exact⟨by rw[zu OKF];rfl,below_drewN (zu BB) _⟩
      have GO:=zh ((zu GOOD) ⟨zu RK,by have e:=congrArg Prod.fst (zu RE);have y:=B3.yes;unfold Amt at y;simp only at e;omega,by have e:=congrArg Prod.snd (zu RE);have y:=B4.yes;unfold Amt at y;simp only at e;omega⟩)
      have y3:=B3.yes.2
      have y4:=B4.yes.2
      clear BAD GOOD ROW RUN HB
      go_wp2
      go_roundw
      case rel=>exact⟨k+1,x3,x4,by omega,by go_num,rfl,rfl,by omega,by omega,by omega,by omega,below_drewN (zu BB) _,GO,zh (fun _=>by rw[show k+1-1=k by omega,zu RQ];exact(zu RE).symm)⟩
      case measure=>simp[intOf];omega
    ·have q1:(x0 !=u0)=true:=by simpa using c0
     obtain⟨b3,B3⟩:=says_of (Amt (x3))
     obtain⟨b4,B4⟩:=says_of (Amt (x4))
     have RE:=zh (show(rq,rc)=(x3,x4) from by rw[(zu RUN) (zu RK),if_pos (.inr (.inl c0))])
     go_wp2_with fail
     go_quiet (fail)
     go_wp2_with fail
     refine(sAmt (x3) b3 _ B3).mono ?_
     rintro e w3 ⟨rfl,rfl⟩
     cases b3
     ·have OKF:=zh ((zu BAD) (fun hr=>B3.no (by have e:=congrArg Prod.fst (zu RE);have:=hr.2.1;unfold Amt;simp only at e;omega)))
      clear BAD GOOD ROW RUN RE
      go_wp2
      go_ret
      exact⟨by rw[zu OKF];rfl,below_drewN (zu BB) _⟩
     go_wp2_with fail
     refine(sAmt (x4) b4 _ B4).mono ?_
     rintro e w4 ⟨rfl,rfl⟩
     cases b4
     ·have OKF:=zh ((zu BAD) (fun hr=>B4.no (by have e:=congrArg Prod.snd (zu RE);have:=hr.2.2;unfold Amt;simp only at e;omega)))
      clear BAD GOOD ROW RUN RE
      go_wp2
      go_ret
      exact⟨by rw[zu OKF];rfl,below_drewN (zu BB) _⟩
     have GO:=zh ((zu GOOD) ⟨zu RK,by have e:=congrArg Prod.fst (zu RE);have y:=B3.yes;unfold Amt at y;simp only at e;omega,by have e:=congrArg Prod.snd (zu RE);have y:=B4.yes;unfold Amt at y;simp only at e;omega⟩)
     have y3:=B3.yes.2
     have y4:=B4.yes.2
     clear BAD GOOD ROW RUN HB
     go_wp2
     go_roundw
     case rel=>exact⟨k+1,x3,x4,by omega,by go_num,rfl,rfl,by omega,by omega,by omega,by omega,below_drewN (zu BB) _,GO,zh (fun _=>by rw[show k+1-1=k by omega,zu RQ];exact(zu RE).symm)⟩
     case measure=>simp[intOf];omega
  ·obtain rfl:k=n:=by omega
   obtain rfl:ok=true:=hok.of ((right_iff ps (by omega)).2 (by rw[hl];exact zu HG))
   have HB:=zh hb
   clear hb hok
   go_wp2
   go_ret
   exact⟨rfl,zu HB⟩
end SOk5
namespace ITrade
open BMem Bks IRead IHave
open Tup8 (T8 el8 At8 Holds8 Own8 Reads8)
open Lots (Says says_of NoOk)
open SOk5 (one_more)
theorem at_new(w:World)(xs:List Int)(e:TypeId){g:Nat}{cur:Array Value}(hg:g=w.heap.size)(hc:cur=(xs.map (Value.int .i64)).toArray):Ints.At (w.alloc (.cells cur e)) g xs:=by
 subst hg hc
 intro i hi
 unfold World.cell?
 simp only[heap_alloc_new]
 simp[hi]
theorem iOne(w:World)(x0 x1 x2 x3 x4 x5 x6 x7:Int)(b:Bool)(hb:Says b (TOne (x0,x1,x2,x3,x4,x5,x6,x7))):
  Calls Tryz.prog 132 #[.agg #[.int .i64 x0,.int .i64 x1,.int .i64 x2,.int .i64 x3,.int .i64 x4,.int .i64 x5,.int .i64 x6,.int .i64 x7]] w fun e w'=>e= .returned (.bool b)∧Below w.heap.size w w':=by
 have T:=zh hb
 obtain⟨b1,h1⟩:=says_of (∀x∈[x0,x1,x2,x3,x5],NoOk x)
 have H1:=zh h1
 obtain⟨b4,h4⟩:=says_of (1≤x4∧x4≤1000000000000000)
 have H4:=zh h4
 obtain⟨b6,h6⟩:=says_of (0≤x6∧x6≤1000000000000000)
 have H6:=zh h6
 clear hb h1 h4 h6
 go_enter Tryz.func132,Tryz.ntmps132
 go_wp2_with fail
 refine(iNumbers _ (w.heap.size+1) 5 5 [x0,x1,x2,x3,x5] b1 rfl (by omega) (by simp) (at_new _ [x0,x1,x2,x3,x5] _ (by simp) rfl) (zu H1)).mono ?_
 rintro e w1 ⟨rfl,b1'⟩
 have B1:=zh ((((Below.refl w.heap.size w).alloc (Nat.le_refl _) _).alloc (by simp) _).trans (b1'.mono (by simp;omega)))
 have e1:w1.cell? ⟨w.heap.size,1,none⟩=some (.int .i64 x1):=(b1'.cell (p:=⟨w.heap.size,1,none⟩) (by simp;omega)).trans (by simp)
 have e2:w1.cell? ⟨w.heap.size,2,none⟩=some (.int .i64 x2):=(b1'.cell (p:=⟨w.heap.size,2,none⟩) (by simp;omega)).trans (by simp)
 have e4:w1.cell? ⟨w.heap.size,4,none⟩=some (.int .i64 x4):=(b1'.cell (p:=⟨w.heap.size,4,none⟩) (by simp;omega)).trans (by simp)
 have e6:w1.cell? ⟨w.heap.size,6,none⟩=some (.int .i64 x6):=(b1'.cell (p:=⟨w.heap.size,6,none⟩) (by simp;omega)).trans (by simp)
 have e7:w1.cell? ⟨w.heap.size,7,none⟩=some (.int .i64 x7):=(b1'.cell (p:=⟨w.heap.size,7,none⟩) (by simp;omega)).trans (by simp)
 clear b1'
 cases b1
 ·have F:=zh ((zu T).not (fun h=>(zu H1).no (by
   obtain⟨k0,k1,k2,k3,k5,_⟩:=h
   intro x hx
   simp at hx
   rcases hx with rfl|rfl|rfl|rfl|rfl
   ·exact k0
   ·exact k1
   ·exact k2
   ·exact k3
   ·exact k5)))
  clear T H1 H4 H6
  go_wp2
  go_ret
  exact⟨by rw[zu F];rfl,zu B1⟩
 have N:=zh (zu H1).yes
 by_cases c:x1=x2
 ·have F:=zh ((zu T).not (fun h=>h.2.2.2.2.2.1 c))
  have hz:(x1 !=x2)=false:=by simp[c]
  clear T H1 H4 H6 N c
  go_wp2
  go_ret
  exact⟨by rw[zu F];rfl,zu B1⟩
 have hz:(x1 !=x2)=true:=by simp[c]
 have C:=zh c
 clear c
 go_wp2_with fail
 refine(iFrom _ _ b4 _ (zu H4)).mono ?_
 rintro e w2 ⟨rfl,rfl⟩
 cases b4
 ·have F:=zh ((zu T).not (fun h=>(zu H4).no h.2.2.2.2.2.2.1))
  clear T H1 H4 H6 N C
  go_wp2
  go_ret
  exact⟨by rw[zu F];rfl,zu B1⟩
 go_wp2_with fail
 refine(iFrom _ _ b6 _ (zu H6)).mono ?_
 rintro e w2 ⟨rfl,rfl⟩
 cases b6
 ·have F:=zh ((zu T).not (fun h=>(zu H6).no h.2.2.2.2.2.2.2.1))
  clear T H1 H4 H6 N C
  go_wp2
  go_ret
  exact⟨by rw[zu F];rfl,zu B1⟩
 by_cases c1:1≤x7
 ·have hd:decide (x7≤3)=b:=by
   by_cases c2:x7≤3
   ·rw[decide_eq_true c2]
    exact((zu T).of ⟨(zu N) _ (by simp),(zu N) _ (by simp),(zu N) _ (by simp),(zu N) _ (by simp),(zu N) _ (by simp),zu C,(zu H4).yes,(zu H6).yes,c1,c2⟩).symm
   ·rw[decide_eq_false c2]
    exact((zu T).not (fun h=>c2 h.2.2.2.2.2.2.2.2.2)).symm
  clear T H1 H4 H6 N C
  go_wp2
  go_ret
  exact⟨rfl,zu B1⟩
 ·have F:=zh ((zu T).not (fun h=>c1 h.2.2.2.2.2.2.2.2.1))
  have hd:decide (1≤x7)=false:=decide_eq_false c1
  clear T H1 H4 H6 N C c1
  go_wp2
  go_ret
  exact⟨by rw[zu F];rfl,zu B1⟩
def ahead(ps:List T8)(k:Nat):Int:=if k=0 then 0 else(el8 ps (k-1)).1
theorem ahead_next(ps:List T8)(k:Nat):ahead ps (k+1)=(el8 ps k).1:=by simp[ahead]
theorem row_iff(ps:List T8)(k:Nat):TRowOk ps k↔TOne (el8 ps k)∧¬(el8 ps k).1≤ahead ps k:=by
 unfold TRowOk ahead
 by_cases k0:k=0
 ·subst k0
  constructor
  ·rintro⟨h,_⟩
   have:=h.1.1
   refine⟨h,?_⟩
   rw[if_pos rfl]
   omega
  ·rintro⟨h,_⟩
   exact⟨h,fun h=>by omega⟩
 ·rw[if_neg k0]
  constructor
  ·rintro⟨h,k⟩
   have:=k (by omega)
   exact⟨h,by omega⟩
  ·rintro⟨h,k⟩
   exact⟨h,fun _=>by omega⟩
theorem iOk(w:World)(g n cap:Nat)(ps:List T8)(ok:Bool)(hl:ps.length=n)(h20:n≤1048576)(hg:g<w.heap.size)(h:At8 w g ps)(hok:Says ok (TRight ps)):
  Calls Tryz.prog 112 #[.slice (some ⟨g,0,none⟩) n cap] w fun e w'=>e= .returned (.bool ok)∧Below w.heap.size w w':=by
 have HL:=zh hl
 by_cases nn:(30:Int)<(n:Int)
 ·obtain rfl:ok=false:=hok.not (fun r=>by have:=r.1;omega)
  clear hok h hl
  go_enter Tryz.func112,Tryz.ntmps112
  go_wp2
  go_ret
  exact⟨rfl,Below.refl _ _⟩
 have OK:=zh hok
 have H:=zh h
 clear hok h hl
 go_enter Tryz.func112,Tryz.ntmps112
 go_wp2
 go_loopw [3,11] (fun p i wr=>∃(k:Nat) (bf:Int),k≤n∧i= .int .i64 k∧p= .int .i64 bf∧Hid (ahead ps k=bf)∧Below w.heap.size w wr∧Hid (∀i,i<k→TRowOk ps i)) (fun _ i _=>n-(intOf i).toNat)
 case atStart=>exact⟨0,0,by omega,rfl,rfl,zh rfl,Below.refl _ _,zh (fun i hi=>absurd hi (by omega))⟩
 case round=>
  obtain⟨k,bf,hk,rfl,rfl,HP,hb,HG⟩:=hrel
  have HB:=zh hb
  have hs:=hb.size
  by_cases t:k<n
  ·obtain⟨d0,d1,d2,d3,d4,d5,d6,d7⟩:=(((zu H) k (by rw[zu HL];exact t)).below hb hg)
   clear hb
   have ROW:=zh (row_iff ps k)
   rw[zu HP] at ROW
   have AN:=zh (ahead_next ps k)
   have BAD:=zh (show ¬TRowOk ps k→ok=false from fun hr=>(zu OK).not (fun r=>hr (r.2 k (by rw[zu HL];exact t))))
   have GOOD:=zh (show TRowOk ps k→∀i,i<k+1→TRowOk ps i from fun hr i hi=>by
    by_cases e:i=k
    ·subst e;exact hr
    ·exact(zu HG) i (by omega))
   have EL:Hid (el8 ps k=((el8 ps k).1,(el8 ps k).2.1,(el8 ps k).2.2.1,(el8 ps k).2.2.2.1,(el8 ps k).2.2.2.2.1,(el8 ps k).2.2.2.2.2.1,(el8 ps k).2.2.2.2.2.2.1,(el8 ps k).2.2.2.2.2.2.2)):=rfl
   generalize (el8 ps k).1=x0 at *
   generalize (el8 ps k).2.1=x1 at *
   generalize (el8 ps k).2.2.1=x2 at *
   generalize (el8 ps k).2.2.2.1=x3 at *
   generalize (el8 ps k).2.2.2.2.1=x4 at *
   generalize (el8 ps k).2.2.2.2.2.1=x5 at *
   generalize (el8 ps k).2.2.2.2.2.2.1=x6 at *
   generalize (el8 ps k).2.2.2.2.2.2.2=x7 at *
   rw[zu EL] at ROW
   obtain⟨b1,h1⟩:=says_of (TOne (x0,x1,x2,x3,x4,x5,x6,x7))
   have H1:=zh h1
   clear h1 EL
   go_wp2_with fail
   refine(iOne _ x0 x1 x2 x3 x4 x5 x6 x7 b1 (zu H1)).mono ?_
   rintro e w1 ⟨rfl,b1'⟩
   have e0:w1.cell? ⟨wr.heap.size,0,none⟩=some (.int .i64 x0):=(b1'.cell (p:=⟨wr.heap.size,0,none⟩) (by simp)).trans (by simp)
   have B1:=zh ((zu HB).trans ((((Below.refl wr.heap.size wr).alloc (Nat.le_refl _) _).trans (b1'.mono (by simp))).mono hs))
   clear b1' d0 d1 d2 d3 d4 d5 d6 d7
   cases b1
   ·have F:=zh ((zu BAD) (fun hr=>(zu H1).no ((zu ROW).1 hr).1))
    clear BAD GOOD ROW H1
    go_wp2
    go_ret
    exact⟨by rw[zu F];rfl,zu B1⟩
   by_cases c:x0≤bf
   ·have F:=zh ((zu BAD) (fun hr=>by have:=((zu ROW).1 hr).2;omega))
    clear BAD GOOD ROW H1
    go_wp2
    go_ret
    exact⟨by rw[zu F];rfl,zu B1⟩
   ·have G:=zh ((zu GOOD) ((zu ROW).2 ⟨(zu H1).yes,by omega⟩))
    have hc:decide (x0≤bf)=false:=decide_eq_false c
    clear BAD GOOD ROW H1 c
    go_wp2
    go_roundw
    case rel=>exact⟨k+1,x0,by omega,by go_num,rfl,AN,zu B1,G⟩
    case measure=>simp[intOf];omega
  ·clear hb
   have F:=zh ((zu OK).of ⟨by rw[zu HL];omega,fun i hi=>(zu HG) i (by rw[zu HL] at hi;omega)⟩)
   go_wp2
   go_ret
   exact⟨by rw[zu F];rfl,zu HB⟩
theorem sOk(w:World)(g n cap:Nat)(ps:List T8)(ok:Bool)(hl:ps.length=n)(h20:n≤1048576)(hg:g<w.heap.size)(h:At8 w g ps)(hok:Says ok (TRight ps)):
  Calls Tryz.prog 70 #[.slice (some ⟨g,0,none⟩) n cap] w fun e w'=>e= .returned (.bool ok)∧Below w.heap.size w w':=by
 have HL:=zh hl
 by_cases nn:(30:Int)<(n:Int)
 ·obtain rfl:ok=false:=hok.not (fun r=>by have:=r.1;omega)
  clear hok h hl
  go_enter Tryz.func70,Tryz.ntmps70
  go_wp2
  go_ret
  exact⟨rfl,Below.refl _ _⟩
 have OK:=zh hok
 have H:=zh h
 clear hok h hl
 go_enter Tryz.func70,Tryz.ntmps70
 go_wp2
 go_loopw [3] (fun i wr=>∃(k:Nat),k≤n∧i= .int .i64 k∧Below w.heap.size w wr∧Hid (∀i,i<k→TRowOk ps i)) (fun i _=>n-(intOf i).toNat)
 case atStart=>exact⟨0,by omega,rfl,Below.refl _ _,zh (fun i hi=>absurd hi (by omega))⟩
 case round=>
  obtain⟨k,hk,rfl,hb,HG⟩:=hrel
  have HB:=zh hb
  have hs:=hb.size
  by_cases t:k<n
  ·obtain⟨d0,d1,d2,d3,d4,d5,d6,d7⟩:=(((zu H) k (by rw[zu HL];exact t)).below hb hg)
   have PR:k=0∨∃z:Int,Hid ((el8 ps (k-1)).1=z)∧0<k∧wr.cell? ⟨g,(k-1)*8,none⟩=some (.int .i64 z):=by
    by_cases k0:k=0
    ·exact .inl k0
    ·exact .inr ⟨_,zh rfl,by omega,(((zu H) (k-1) (by rw[zu HL];omega)).below hb hg).1⟩
   clear hb
   have ROW:=zh (show TRowOk ps k↔TOne (el8 ps k)∧(0<k→(el8 ps (k-1)).1<(el8 ps k).1) from Iff.rfl)
   have BAD:=zh (show ¬TRowOk ps k→ok=false from fun hr=>(zu OK).not (fun r=>hr (r.2 k (by rw[zu HL];exact t))))
   have GOOD:=zh (show TRowOk ps k→∀i,i<k+1→TRowOk ps i from fun hr i hi=>by
    by_cases e:i=k
    ·subst e;exact hr
    ·exact(zu HG) i (by omega))
   have EL:Hid (el8 ps k=((el8 ps k).1,(el8 ps k).2.1,(el8 ps k).2.2.1,(el8 ps k).2.2.2.1,(el8 ps k).2.2.2.2.1,(el8 ps k).2.2.2.2.2.1,(el8 ps k).2.2.2.2.2.2.1,(el8 ps k).2.2.2.2.2.2.2)):=rfl
   generalize (el8 ps k).1=x0 at *
   generalize (el8 ps k).2.1=x1 at *
   generalize (el8 ps k).2.2.1=x2 at *
   generalize (el8 ps k).2.2.2.1=x3 at *
   generalize (el8 ps k).2.2.2.2.1=x4 at *
   generalize (el8 ps k).2.2.2.2.2.1=x5 at *
   generalize (el8 ps k).2.2.2.2.2.2.1=x6 at *
   generalize (el8 ps k).2.2.2.2.2.2.2=x7 at *
   rw[zu EL] at ROW
   clear EL
   have NB:=zh (fun m=>(zu HB).trans ((below_drewN (one_more wr (.cells #[.int .i64 x0,.int .i64 x1,.int .i64 x2,.int .i64 x3,.int .i64 x4,.int .i64 x5,.int .i64 x6,.int .i64 x7] 82)) m).mono hs))
   obtain⟨b0,B0⟩:=says_of (NoOk x0)
   obtain⟨b1,B1⟩:=says_of (NoOk x1)
   obtain⟨b2,B2⟩:=says_of (NoOk x2)
   obtain⟨b3,B3⟩:=says_of (NoOk x3)
   obtain⟨b4,B4⟩:=says_of (NoOk x5)
   obtain⟨b6,B6⟩:=says_of (1≤x4∧x4≤1000000000000000)
   obtain⟨b7,B7⟩:=says_of (0≤x6∧x6≤1000000000000000)
   obtain⟨b8,B8⟩:=says_of (1≤x7∧x7≤3)
   cases b0
   ·have F:=zh ((zu BAD) (fun hr=>B0.no ((zu ROW).1 hr).1.1))
    clear BAD GOOD ROW PR
    go_wp2_with fail
    go_quiet (first|(go_at_call 87;refine Calls.quiet_of_same (SOk5.sNo _ false _ B0)))
    go_wp2
    go_ret
    exact⟨by rw[zu F];rfl,(zu NB) _⟩
   cases b1
   ·have F:=zh ((zu BAD) (fun hr=>B1.no ((zu ROW).1 hr).1.2.1))
    clear BAD GOOD ROW PR
    go_wp2_with fail
    go_quiet (first|(go_at_call 87;refine Calls.quiet_of_same (SOk5.sNo _ true _ B0))|(go_at_call 87;refine Calls.quiet_of_same (SOk5.sNo _ false _ B1)))
    go_wp2
    go_ret
    exact⟨by rw[zu F];rfl,(zu NB) _⟩
   cases b2
   ·have F:=zh ((zu BAD) (fun hr=>B2.no ((zu ROW).1 hr).1.2.2.1))
    clear BAD GOOD ROW PR
    go_wp2_with fail
    go_quiet (first|(go_at_call 87;refine Calls.quiet_of_same (SOk5.sNo _ true _ B0))|(go_at_call 87;refine Calls.quiet_of_same (SOk5.sNo _ true _ B1))|(go_at_call 87;refine Calls.quiet_of_same (SOk5.sNo _ false _ B2)))
    go_wp2
    go_ret
    exact⟨by rw[zu F];rfl,(zu NB) _⟩
   cases b3
   ·have F:=zh ((zu BAD) (fun hr=>B3.no ((zu ROW).1 hr).1.2.2.2.1))
    clear BAD GOOD ROW PR
    go_wp2_with fail
    go_quiet (first|(go_at_call 87;refine Calls.quiet_of_same (SOk5.sNo _ true _ B0))|(go_at_call 87;refine Calls.quiet_of_same (SOk5.sNo _ true _ B1))|(go_at_call 87;refine Calls.quiet_of_same (SOk5.sNo _ true _ B2))|(go_at_call 87;refine Calls.quiet_of_same (SOk5.sNo _ false _ B3)))
    go_wp2
    go_ret
    exact⟨by rw[zu F];rfl,(zu NB) _⟩
   cases b4
   ·have F:=zh ((zu BAD) (fun hr=>B4.no ((zu ROW).1 hr).1.2.2.2.2.1))
    clear BAD GOOD ROW PR
    go_wp2_with fail
    go_quiet (first|(go_at_call 87;refine Calls.quiet_of_same (SOk5.sNo _ true _ B0))|(go_at_call 87;refine Calls.quiet_of_same (SOk5.sNo _ true _ B1))|(go_at_call 87;refine Calls.quiet_of_same (SOk5.sNo _ true _ B2))|(go_at_call 87;refine Calls.quiet_of_same (SOk5.sNo _ true _ B3))|(go_at_call 87;refine Calls.quiet_of_same (SOk5.sNo _ false _ B4)))
    go_wp2
    go_ret
    exact⟨by rw[zu F];rfl,(zu NB) _⟩
   by_cases c:x1=x2
   ·have F:=zh ((zu BAD) (fun hr=>((zu ROW).1 hr).1.2.2.2.2.2.1 c))
    have hz:(x1==x2)=true:=by simp[c]
    clear BAD GOOD ROW c PR
    go_wp2_with fail
    go_quiet (first|(go_at_call 87;refine Calls.quiet_of_same (SOk5.sNo _ true _ B0))|(go_at_call 87;refine Calls.quiet_of_same (SOk5.sNo _ true _ B1))|(go_at_call 87;refine Calls.quiet_of_same (SOk5.sNo _ true _ B2))|(go_at_call 87;refine Calls.quiet_of_same (SOk5.sNo _ true _ B3))|(go_at_call 87;refine Calls.quiet_of_same (SOk5.sNo _ true _ B4)))
    go_wp2
    go_ret
    exact⟨by rw[zu F];rfl,(zu NB) _⟩
   have hz:(x1==x2)=false:=by simp[c]
   have C:=zh c
   clear c
   cases b6
   ·have F:=zh ((zu BAD) (fun hr=>B6.no ((zu ROW).1 hr).1.2.2.2.2.2.2.1))
    clear BAD GOOD ROW PR
    go_wp2_with fail
    go_quiet (first|(go_at_call 87;refine Calls.quiet_of_same (SOk5.sNo _ true _ B0))|(go_at_call 87;refine Calls.quiet_of_same (SOk5.sNo _ true _ B1))|(go_at_call 87;refine Calls.quiet_of_same (SOk5.sNo _ true _ B2))|(go_at_call 87;refine Calls.quiet_of_same (SOk5.sNo _ true _ B3))|(go_at_call 87;refine Calls.quiet_of_same (SOk5.sNo _ true _ B4))|(go_at_call 92;refine Calls.quiet_of_same (SOk5.sSome _ _ false _ B6)))
    go_wp2
    go_ret
    exact⟨by rw[zu F];rfl,(zu NB) _⟩
   cases b7
   ·have F:=zh ((zu BAD) (fun hr=>B7.no ((zu ROW).1 hr).1.2.2.2.2.2.2.2.1))
    clear BAD GOOD ROW PR
    go_wp2_with fail
    go_quiet (first|(go_at_call 87;refine Calls.quiet_of_same (SOk5.sNo _ true _ B0))|(go_at_call 87;refine Calls.quiet_of_same (SOk5.sNo _ true _ B1))|(go_at_call 87;refine Calls.quiet_of_same (SOk5.sNo _ true _ B2))|(go_at_call 87;refine Calls.quiet_of_same (SOk5.sNo _ true _ B3))|(go_at_call 87;refine Calls.quiet_of_same (SOk5.sNo _ true _ B4))|(go_at_call 92;refine Calls.quiet_of_same (SOk5.sSome _ _ true _ B6))|(go_at_call 92;refine Calls.quiet_of_same (SOk5.sSome _ _ false _ B7)))
    go_wp2
    go_ret
    exact⟨by rw[zu F];rfl,(zu NB) _⟩
   cases b8
   ·have F:=zh ((zu BAD) (fun hr=>B8.no ((zu ROW).1 hr).1.2.2.2.2.2.2.2.2))
    clear BAD GOOD ROW PR
    go_wp2_with fail
    go_quiet (first|(go_at_call 87;refine Calls.quiet_of_same (SOk5.sNo _ true _ B0))|(go_at_call 87;refine Calls.quiet_of_same (SOk5.sNo _ true _ B1))|(go_at_call 87;refine Calls.quiet_of_same (SOk5.sNo _ true _ B2))|(go_at_call 87;refine Calls.quiet_of_same (SOk5.sNo _ true _ B3))|(go_at_call 87;refine Calls.quiet_of_same (SOk5.sNo _ true _ B4))|(go_at_call 92;refine Calls.quiet_of_same (SOk5.sSome _ _ true _ B6))|(go_at_call 92;refine Calls.quiet_of_same (SOk5.sSome _ _ true _ B7))|(go_at_call 34;refine Calls.quiet_of_same (SOk5.sIn _ _ _ false _ B8)))
    go_wp2
    go_ret
    exact⟨by rw[zu F];rfl,(zu NB) _⟩
   have ONE:=zh (show TOne (x0,x1,x2,x3,x4,x5,x6,x7) from⟨B0.yes,B1.yes,B2.yes,B3.yes,B4.yes,zu C,B6.yes,B7.yes,B8.yes⟩)
   rcases PR with rfl|⟨z,Z,k0,pc⟩
   ·have G:=zh ((zu GOOD) ((zu ROW).2 ⟨zu ONE,fun h=>by omega⟩))
    clear BAD GOOD ROW ONE
    go_wp2_with fail
    go_quiet (first|(go_at_call 87;refine Calls.quiet_of_same (SOk5.sNo _ true _ B0))|(go_at_call 87;refine Calls.quiet_of_same (SOk5.sNo _ true _ B1))|(go_at_call 87;refine Calls.quiet_of_same (SOk5.sNo _ true _ B2))|(go_at_call 87;refine Calls.quiet_of_same (SOk5.sNo _ true _ B3))|(go_at_call 87;refine Calls.quiet_of_same (SOk5.sNo _ true _ B4))|(go_at_call 92;refine Calls.quiet_of_same (SOk5.sSome _ _ true _ B6))|(go_at_call 92;refine Calls.quiet_of_same (SOk5.sSome _ _ true _ B7))|(go_at_call 34;refine Calls.quiet_of_same (SOk5.sIn _ _ _ true _ B8)))
    go_wp2
    go_roundw
    case rel=>exact⟨1,by omega,by go_num,(zu NB) _,G⟩
    case measure=>simp[intOf];omega
   ·have k1:(0:Int)<(k:Int):=by omega
    have k2:(0:Int)≤(k:Int) -1:=by omega
    have k3:((k:Int) -1).toNat=k-1:=by omega
    have k4:IntKind.i64.wrap ((k:Int) -1)=(k:Int) -1:=by rw[IntKind.wrap_i64];omega
    have k5:(k:Int) -1<(n:Int):=by omega
    have gne:g≠wr.heap.size:=by omega
    have gs:g<wr.heap.size:=by omega
    by_cases c:z≥x0
    ·have F:=zh ((zu BAD) (fun hr=>by have:=((zu ROW).1 hr).2 k0;rw[zu Z] at this;omega))
     have hc:decide (z≥x0)=true:=decide_eq_true c
     clear BAD GOOD ROW ONE c
     go_wp2_with fail
     go_quiet (first|(go_at_call 87;refine Calls.quiet_of_same (SOk5.sNo _ true _ B0))|(go_at_call 87;refine Calls.quiet_of_same (SOk5.sNo _ true _ B1))|(go_at_call 87;refine Calls.quiet_of_same (SOk5.sNo _ true _ B2))|(go_at_call 87;refine Calls.quiet_of_same (SOk5.sNo _ true _ B3))|(go_at_call 87;refine Calls.quiet_of_same (SOk5.sNo _ true _ B4))|(go_at_call 92;refine Calls.quiet_of_same (SOk5.sSome _ _ true _ B6))|(go_at_call 92;refine Calls.quiet_of_same (SOk5.sSome _ _ true _ B7))|(go_at_call 34;refine Calls.quiet_of_same (SOk5.sIn _ _ _ true _ B8)))
     go_wp2
     go_ret
     exact⟨by rw[zu F];rfl,(zu NB) _⟩
    ·have G:=zh ((zu GOOD) ((zu ROW).2 ⟨zu ONE,fun _=>by rw[zu Z];omega⟩))
     have hc:decide (z≥x0)=false:=decide_eq_false c
     clear BAD GOOD ROW c ONE
     go_wp2_with fail
     go_quiet (first|(go_at_call 87;refine Calls.quiet_of_same (SOk5.sNo _ true _ B0))|(go_at_call 87;refine Calls.quiet_of_same (SOk5.sNo _ true _ B1))|(go_at_call 87;refine Calls.quiet_of_same (SOk5.sNo _ true _ B2))|(go_at_call 87;refine Calls.quiet_of_same (SOk5.sNo _ true _ B3))|(go_at_call 87;refine Calls.quiet_of_same (SOk5.sNo _ true _ B4))|(go_at_call 92;refine Calls.quiet_of_same (SOk5.sSome _ _ true _ B6))|(go_at_call 92;refine Calls.quiet_of_same (SOk5.sSome _ _ true _ B7))|(go_at_call 34;refine Calls.quiet_of_same (SOk5.sIn _ _ _ true _ B8)))
     go_wp2
     go_roundw
     case rel=>exact⟨k+1,by omega,by go_num,(zu NB) _,G⟩
     case measure=>simp[intOf];omega
  ·clear hb
   have F:=zh ((zu OK).of ⟨by rw[zu HL];omega,fun i hi=>(zu HG) i (by rw[zu HL] at hi;omega)⟩)
   go_wp2
   go_ret
   exact⟨by rw[zu F];rfl,zu HB⟩
end ITrade
namespace Cmp
open Bals Triples
def cmpI(x y:Int):Int:=if x<y then-1 else if y<x then 1 else 0
theorem isNaN(x:Int)(w:World):Calls Tryz.prog 152 #[.int .i64 x] w fun e w'=>e= .returned (.bool false)∧w'=w:=by
 go_enter Tryz.func152,Tryz.ntmps152
 go_wp2
 go_ret
 exact⟨rfl,rfl⟩
theorem compare1(x y:Int)(w:World):Calls Tryz.prog 144 #[.int .i64 x,.int .i64 y] w fun e w'=>e= .returned (.int .i64 (cmpI x y))∧w'=w:=by
 unfold cmpI
 by_cases h:x<y
 ·go_enter Tryz.func144,Tryz.ntmps144
  go_wp2_with (go_at_call 152;refine(isNaN _ _).mono ?_;rintro e w1 ⟨rfl,rfl⟩)
  go_ret
  exact⟨by simp[h],rfl⟩
 ·by_cases k:y<x
  ·go_enter Tryz.func144,Tryz.ntmps144
   go_wp2_with (go_at_call 152;refine(isNaN _ _).mono ?_;rintro e w1 ⟨rfl,rfl⟩)
   go_ret
   exact⟨by simp[h,k],rfl⟩
  ·go_enter Tryz.func144,Tryz.ntmps144
   go_wp2_with (go_at_call 152;refine(isNaN _ _).mono ?_;rintro e w1 ⟨rfl,rfl⟩)
   go_ret
   exact⟨by simp[h,k],rfl⟩
def orI(x y:Int):Int:=if x=0 then y else x
theorem orL(g:Nat)(x y:Int)(w:World)(h0:w.cell? ⟨g,0,none⟩=some (.int .i64 x))(h1:w.cell? ⟨g,1,none⟩=some (.int .i64 y)):
  Calls Tryz.prog 143 #[.slice (some ⟨g,0,none⟩) 2 2] w fun e w'=>e= .returned (.int .i64 (orI x y))∧w'=w:=by
 unfold orI
 go_enter Tryz.func143,Tryz.ntmps143
 go_wp2
 go_loop [5,8] (fun _ i=>∃(k:Nat),i= .int .i64 k∧(k=0∨(k=1∧x=0)∨(k=2∧x=0∧y=0))) (fun _ i=>2-(intOf i).toNat)
 case atStart=>exact⟨0,rfl,.inl rfl⟩
 case round=>
  obtain⟨k,rfl,hk⟩:=hrel
  rcases hk with rfl|⟨rfl,rfl⟩|⟨rfl,rfl,rfl⟩
  ·by_cases z:x=0
   ·subst z
    go_wp2
    go_round
    case rel=>exact⟨1,by go_num,.inr (.inl ⟨rfl,by trivial⟩)⟩
    case measure=>simp[intOf]
   ·go_wp2
    go_ret
    exact⟨by simp[z],rfl⟩
  ·by_cases z:y=0
   ·subst z
    go_wp2
    go_round
    case rel=>exact⟨2,by go_num,.inr (.inr ⟨rfl,by trivial,by trivial⟩)⟩
    case measure=>simp[intOf]
   ·go_wp2
    go_ret
    exact⟨by simp,rfl⟩
  ·go_wp2
   go_ret
   exact⟨by simp,rfl⟩
def cmpK(a i b j:Int):Int:=orI (cmpI a b) (cmpI i j)
theorem cmpK_lt(a i b j:Int):cmpK a i b j<0↔(a<b∨(a=b∧i<j)):=by
 unfold cmpK orI cmpI
 repeat(first|split|omega)
theorem cmpK_le(a i b j:Int):cmpK a i b j≤0↔¬(b<a∨(b=a∧j<i)):=by
 unfold cmpK orI cmpI
 repeat(first|split|omega)
theorem grow_below(w:World)(q:Nat)(os:Array Obj):Below w.heap.size w (Go.Sort.grow (w.drewN q) os):=
 ⟨rfl,rfl,rfl,by simp[Go.Sort.grow,World.drewN],fun k hk=>by
  show(w.heap++os)[k]?=w.heap[k]?
  rw[Array.getElem?_append_left hk]⟩
theorem compareG(a i b j:Int)(w:World):Calls Tryz.prog 128 #[.agg #[.int .i64 a,.int .i64 i],.agg #[.int .i64 b,.int .i64 j]] w fun e w'=>e= .returned (.int .i64 (cmpK a i b j))∧∃q os,w'=Go.Sort.grow (w.drewN q) os:=by
 unfold cmpK
 go_enter Tryz.func128,Tryz.ntmps128
 go_wp2_with fail
 have hu:∃os,(w.alloc (.cells #[.int .i64 a,.int .i64 i] 153)).alloc (.cells #[.int .i64 b,.int .i64 j] 153)=Go.Sort.grow w os:=⟨_,by rw[Go.Sort.alloc_eq_grow,Go.Sort.alloc_eq_grow,Go.Sort.grow_grow]⟩
 have c0:((w.alloc (.cells #[.int .i64 a,.int .i64 i] 153)).alloc (.cells #[.int .i64 b,.int .i64 j] 153)).cell? ⟨w.heap.size,0,none⟩=some (.int .i64 a):=by simp
 have c1:((w.alloc (.cells #[.int .i64 a,.int .i64 i] 153)).alloc (.cells #[.int .i64 b,.int .i64 j] 153)).cell? ⟨w.heap.size,1,none⟩=some (.int .i64 i):=by simp
 have c2:((w.alloc (.cells #[.int .i64 a,.int .i64 i] 153)).alloc (.cells #[.int .i64 b,.int .i64 j] 153)).cell? ⟨w.heap.size+1,0,none⟩=some (.int .i64 b):=by simp
 have c3:((w.alloc (.cells #[.int .i64 a,.int .i64 i] 153)).alloc (.cells #[.int .i64 b,.int .i64 j] 153)).cell? ⟨w.heap.size+1,1,none⟩=some (.int .i64 j):=by simp
 have HU:=zh hu
 clear hu
 generalize (w.alloc (.cells #[.int .i64 a,.int .i64 i] 153)).alloc (.cells #[.int .i64 b,.int .i64 j] 153)=u at *
 generalize w.heap.size+1=h1 at *
 generalize w.heap.size=h0 at *
 go_region_held3 (fun w'=>w'.cell? ⟨h0,0,none⟩=some (.int .i64 a)∧w'.cell? ⟨h0,1,none⟩=some (.int .i64 i)∧w'.cell? ⟨h1,0,none⟩=some (.int .i64 b)∧w'.cell? ⟨h1,1,none⟩=some (.int .i64 j)) (go_keep)
  (first|(go_at_call 144;refine(compare1 _ _ _).mono ?_;rintro e w1 ⟨rfl,rfl⟩)|(go_at_call 143;refine(orL u.heap.size (cmpI a b) (cmpI i j) _ ?_ ?_).mono ?_;(simp);(simp);rintro e w1 ⟨rfl,rfl⟩))
 all_goals(go_wp2;go_ret)
 all_goals(obtain⟨os,rfl⟩:=zu HU;exact⟨rfl,1,_,by rw[Go.Sort.alloc_eq_grow];exact Go.Sort.grow_grow (w.drewN 1) _ _⟩)
theorem compareK(a i b j:Int)(w:World):Calls Tryz.prog 128 #[.agg #[.int .i64 a,.int .i64 i],.agg #[.int .i64 b,.int .i64 j]] w fun e w'=>e= .returned (.int .i64 (cmpK a i b j))∧Below w.heap.size w w':=
 (compareG a i b j w).mono fun _ _ ⟨he,q,os,hw⟩=>⟨he,by rw[hw];exact grow_below w q os⟩
theorem keyOk(a i:Int)(b:Bool)(w:World)(h:Says b (NoOk a∧NoOk i)):Calls Tryz.prog 127 #[.agg #[.int .i64 a,.int .i64 i]] w fun e w'=>e= .returned (.bool b)∧Below w.heap.size w w':=by
 have hb:Below w.heap.size w (w.alloc (.cells #[.int .i64 a,.int .i64 i] 153)):=(Below.refl _ _).alloc (Nat.le_refl _) _
 by_cases c1:1≤a
 ·by_cases c2:a≤1000
  ·by_cases c3:1≤i
   ·by_cases c4:i≤1000
    ·obtain rfl:b=true:=h.of ⟨⟨c1,c2⟩,c3,c4⟩
     clear h
     go_enter Tryz.func127,Tryz.ntmps127
     go_wp2
     go_ret
     exact⟨rfl,hb⟩
    ·obtain rfl:b=false:=h.not (fun r=>by unfold NoOk at r;omega)
     clear h
     go_enter Tryz.func127,Tryz.ntmps127
     go_wp2
     go_ret
     exact⟨rfl,hb⟩
   ·obtain rfl:b=false:=h.not (fun r=>by unfold NoOk at r;omega)
    clear h
    go_enter Tryz.func127,Tryz.ntmps127
    go_wp2
    go_ret
    exact⟨rfl,hb⟩
  ·obtain rfl:b=false:=h.not (fun r=>by unfold NoOk at r;omega)
   clear h
   go_enter Tryz.func127,Tryz.ntmps127
   go_wp2
   go_ret
   exact⟨rfl,hb⟩
 ·obtain rfl:b=false:=h.not (fun r=>by unfold NoOk at r;omega)
  clear h
  go_enter Tryz.func127,Tryz.ntmps127
  go_wp2
  go_ret
  exact⟨rfl,hb⟩
theorem iAmt(x:Int)(b:Bool)(w:World)(h:Says b (Amt x)):Calls Tryz.prog 129 #[.int .i64 x] w fun e w'=>e= .returned (.bool b)∧w'=w:=by
 by_cases c1: -1000000000000000≤x
 ·by_cases c2:x≤1000000000000000
  ·obtain rfl:b=true:=h.of ⟨c1,c2⟩
   clear h
   go_enter Tryz.func129,Tryz.ntmps129
   go_wp2
   go_ret
   exact⟨rfl,rfl⟩
  ·obtain rfl:b=false:=h.not (fun r=>by unfold Amt at r;omega)
   clear h
   go_enter Tryz.func129,Tryz.ntmps129
   go_wp2
   go_ret
   exact⟨rfl,rfl⟩
 ·obtain rfl:b=false:=h.not (fun r=>by unfold Amt at r;omega)
  clear h
  go_enter Tryz.func129,Tryz.ntmps129
  go_wp2
  go_ret
  exact⟨rfl,rfl⟩
end Cmp
namespace IOk3
open Bals Triples Cmp
def ahead(ps:List T3)(k:Nat):Int×Int:=if k=0 then(0,0) else((el3 ps (k-1)).1,(el3 ps (k-1)).2.1)
theorem ahead_next(ps:List T3)(k:Nat):ahead ps (k+1)=((el3 ps k).1,(el3 ps k).2.1):=by unfold ahead;rw[if_neg (by omega)];rfl
theorem row_iff(ps:List T3)(k:Nat):RowOk ps k↔(NoOk (el3 ps k).1∧NoOk (el3 ps k).2.1)∧((ahead ps k).1<(el3 ps k).1∨((ahead ps k).1=(el3 ps k).1∧(ahead ps k).2<(el3 ps k).2.1))∧Amt (el3 ps k).2.2∧(el3 ps k).2.2≠0:=by
 unfold RowOk ahead
 by_cases k0:k=0
 ·subst k0
  rw[if_pos rfl]
  constructor
  ·rintro⟨a,b,c,d,_⟩
   exact⟨⟨a,b⟩,by unfold NoOk at a;simp only;omega,c,d⟩
  ·rintro⟨⟨a,b⟩,_,c,d⟩
   exact⟨a,b,c,d,fun h=>by omega⟩
 ·rw[if_neg k0]
  constructor
  ·rintro⟨a,b,c,d,e⟩
   exact⟨⟨a,b⟩,e (by omega),c,d⟩
  ·rintro⟨⟨a,b⟩,e,c,d⟩
   exact⟨a,b,c,d,fun h=>e⟩
theorem iOk(w:World)(g n cap:Nat)(ps:List T3)(ok:Bool)(hl:ps.length=n)(h20:n≤1048576)(hg:g<w.heap.size)(h:At3 w g ps)(hok:Says ok (Right ps)):
  Calls Tryz.prog 110 #[.slice (some ⟨g,0,none⟩) n cap] w fun e w'=>e= .returned (.bool ok)∧Below w.heap.size w w':=by
 by_cases nn:(160:Int)<(n:Int)
 ·obtain rfl:ok=false:=hok.not (fun r=>by have:=r.1;omega)
  clear hok h
  go_enter Tryz.func110,Tryz.ntmps110
  go_wp2
  go_ret
  exact⟨rfl,Below.refl _ _⟩
 have H:=zh h
 clear h
 go_enter Tryz.func110,Tryz.ntmps110
 go_wp2
 go_loopw [5,6,13] (fun _ _ i wr=>∃(k:Nat) (bf:Int×Int),k≤n∧i= .int .i64 k∧Hid (ahead ps k=bf)∧Below w.heap.size w wr∧Pairs.Own 153 wr w.heap.size w.heap.size 1 1 [bf]∧Hid (∀i,i<k→RowOk ps i)) (fun _ _ i _=>n-(intOf i).toNat)
 case atStart=>
  exact⟨0,(0,0),by omega,rfl,zh rfl,(Below.refl _ _).alloc (Nat.le_refl _) _,World.ownsRow_lit w #[.int .i64 0,.int .i64 0] 1 (Nat.le_refl _) (by decide) rfl,zh (fun i hi=>absurd hi (by omega))⟩
 case round=>
  obtain⟨k,⟨p,q⟩,hk,rfl,HP,hb,ho,HG⟩:=hrel
  by_cases t:k<n
  ·have hA:=(zu H).below hb hg
   obtain⟨e1,e2,e3⟩:=hA k (by omega)
   have gs:w.heap.size<wr.heap.size:=ho.lt.2
   clear hA
   have HB:=zh hb
   clear hb
   have HO:=zh ho
   clear ho
   have ROW:=zh (row_iff ps k)
   rw[zu HP] at ROW
   obtain⟨b1,B1⟩:=says_of (NoOk (el3 ps k).1∧NoOk (el3 ps k).2.1)
   obtain⟨b3,B3⟩:=says_of (Amt (el3 ps k).2.2)
   have AN:=zh (ahead_next ps k)
   have BAD:=zh (show ¬RowOk ps k→ok=false from fun hr=>hok.not (fun r=>hr (r.2 k (by omega))))
   have GOOD:=zh (show RowOk ps k→∀i,i<k+1→RowOk ps i from fun hr i hi=>by
    by_cases e:i=k
    ·subst e;exact hr
    ·exact(zu HG) i (by omega))
   generalize (el3 ps k).1=x at *
   generalize (el3 ps k).2.1=y at *
   generalize (el3 ps k).2.2=z at *
   go_wp2_with fail
   refine(keyOk x y b1 _ B1).mono ?_
   rintro e w1 ⟨rfl,n1⟩
   have s1:=n1.size
   have n2:Below wr.heap.size wr ((wr.alloc (.cells #[.int .i64 x,.int .i64 y,.int .i64 z] 78)).alloc (.cells #[.int .i64 x,.int .i64 y] 153)):=((Below.refl _ _).alloc (Nat.le_refl _) _).alloc (by simp) _
   have nb:=next n2 n1
   have f0:w1.cell? ⟨wr.heap.size+1,0,none⟩=some (.int .i64 x):=(n1.cell (p:=⟨wr.heap.size+1,0,none⟩) (by simp)).trans (by simp)
   have f1:w1.cell? ⟨wr.heap.size+1,1,none⟩=some (.int .i64 y):=(n1.cell (p:=⟨wr.heap.size+1,1,none⟩) (by simp)).trans (by simp)
   have f2:w1.cell? ⟨wr.heap.size,2,none⟩=some (.int .i64 z):=(n1.cell (p:=⟨wr.heap.size,2,none⟩) (by simp;omega)).trans (by simp)
   have NB:=zh nb
   have O1:=zh ((zu HO).below nb (zu HO).lt.2)
   simp only[World.size_alloc] at s1
   clear n1 n2 nb e1 e2 e3
   cases b1
   ·have OKF:=zh ((zu BAD) (fun hr=>B1.no ((zu ROW).1 hr).1))
    clear BAD GOOD ROW
    go_wp2
    go_ret
    exact⟨by rw[zu OKF];rfl,next (zu HB) (zu NB)⟩
   obtain⟨o0,o1⟩:=(zu O1).at 0 (by simp)
   have o0:w1.cell? ⟨w.heap.size,0,none⟩=some (.int .i64 p):=o0
   have o1:w1.cell? ⟨w.heap.size,1,none⟩=some (.int .i64 q):=o1
   go_wp2_with fail
   refine(compareK x y p q _).mono ?_
   rintro e w2 ⟨rfl,n2⟩
   have s2:=n2.size
   have f0:=(n2.cell (p:=⟨wr.heap.size+1,0,none⟩) (show wr.heap.size+1<_ by omega)).trans f0
   have f1:=(n2.cell (p:=⟨wr.heap.size+1,1,none⟩) (show wr.heap.size+1<_ by omega)).trans f1
   have f2:=(n2.cell (p:=⟨wr.heap.size,2,none⟩) (show wr.heap.size<_ by omega)).trans f2
   have O2:=zh ((zu O1).below n2 (zu O1).lt.2)
   have NB2:=zh (next (zu NB) n2)
   have CLE:=zh (cmpK_le x y p q)
   generalize cmpK x y p q=c at *
   clear n2 o0 o1
   by_cases c0:c≤0
   ·have OKF:=zh ((zu BAD) (fun hr=>(zu CLE).1 c0 ((zu ROW).1 hr).2.1))
    clear BAD GOOD ROW CLE
    go_wp2
    go_ret
    exact⟨by rw[zu OKF];rfl,next (zu HB) (zu NB2)⟩
   go_wp2_with fail
   refine(iAmt z b3 _ B3).mono ?_
   rintro e w3 ⟨rfl,rfl⟩
   cases b3
   ·have OKF:=zh ((zu BAD) (fun hr=>B3.no ((zu ROW).1 hr).2.2.1))
    clear BAD GOOD ROW CLE
    go_wp2
    go_ret
    exact⟨by rw[zu OKF];rfl,next (zu HB) (zu NB2)⟩
   by_cases z0:z=0
   ·have OKF:=zh ((zu BAD) (fun hr=>((zu ROW).1 hr).2.2.2 z0))
    clear BAD GOOD ROW CLE
    subst z0
    go_wp2
    go_ret
    exact⟨by rw[zu OKF];rfl,next (zu HB) (zu NB2)⟩
   have zb:(z==0)=false:=by simpa using z0
   have GO:=zh ((zu GOOD) ((zu ROW).2 ⟨B1.yes,Classical.byContradiction (fun h=>by have:=(zu CLE).2 h;omega),B3.yes,z0⟩))
   clear BAD GOOD ROW CLE
   have S0:=(zu O2).set0 0 x
   have S1:=S0.1.set1 0 y
   obtain⟨d0,d1⟩:=(zu O2).at 0 (by simp)
   have d0:w3.cell? ⟨w.heap.size,0,none⟩=some (.int .i64 p):=d0
   have d1:w3.cell? ⟨w.heap.size,1,none⟩=some (.int .i64 q):=d1
   have r0:w3.frozen? ⟨w.heap.size,0,none⟩=false:=(zu O2).free 0
   have r1:w3.frozen? ⟨w.heap.size,1,none⟩=false:=(zu O2).free 1
   have HS:=zh S1.1
   have BB:=zh (((next (zu HB) (zu NB2)).setCell (p:=⟨w.heap.size,0,none⟩) (Nat.le_refl _) (.int .i64 x)).setCell (p:=⟨w.heap.size,1,none⟩) (Nat.le_refl _) (.int .i64 y))
   clear S0 S1
   go_wp2
   go_roundw
   case rel=>exact⟨k+1,(x,y),by omega,by go_num,AN,zu BB,zu HS,GO⟩
   case measure=>simp[intOf];omega
  ·obtain rfl:k=n:=by omega
   obtain rfl:ok=true:=hok.of ⟨by omega,by rw[hl];exact zu HG⟩
   have HB:=zh hb
   clear hb hok ho
   go_wp2
   go_ret
   exact⟨rfl,zu HB⟩
end IOk3
namespace CmpL
open Tup5 Lots Takes
def cmpI(x y:Int):Int:=if x<y then-1 else if y<x then 1 else 0
theorem isNaN(x:Int)(w:World):Calls Tryz.prog 152 #[.int .i64 x] w fun e w'=>e= .returned (.bool false)∧w'=w:=by
 go_enter Tryz.func152,Tryz.ntmps152
 go_wp2
 go_ret
 exact⟨rfl,rfl⟩
theorem compare1(x y:Int)(w:World):Calls Tryz.prog 144 #[.int .i64 x,.int .i64 y] w fun e w'=>e= .returned (.int .i64 (cmpI x y))∧w'=w:=by
 unfold cmpI
 by_cases h:x<y
 ·go_enter Tryz.func144,Tryz.ntmps144
  go_wp2_with (go_at_call 152;refine(isNaN _ _).mono ?_;rintro e w1 ⟨rfl,rfl⟩)
  go_ret
  exact⟨by simp[h],rfl⟩
 ·by_cases k:y<x
  ·go_enter Tryz.func144,Tryz.ntmps144
   go_wp2_with (go_at_call 152;refine(isNaN _ _).mono ?_;rintro e w1 ⟨rfl,rfl⟩)
   go_ret
   exact⟨by simp[h,k],rfl⟩
  ·go_enter Tryz.func144,Tryz.ntmps144
   go_wp2_with (go_at_call 152;refine(isNaN _ _).mono ?_;rintro e w1 ⟨rfl,rfl⟩)
   go_ret
   exact⟨by simp[h,k],rfl⟩
def orI(x y:Int):Int:=if x=0 then y else x
theorem orL(g:Nat)(x y:Int)(w:World)(h0:w.cell? ⟨g,0,none⟩=some (.int .i64 x))(h1:w.cell? ⟨g,1,none⟩=some (.int .i64 y)):
  Calls Tryz.prog 143 #[.slice (some ⟨g,0,none⟩) 2 2] w fun e w'=>e= .returned (.int .i64 (orI x y))∧w'=w:=by
 unfold orI
 go_enter Tryz.func143,Tryz.ntmps143
 go_wp2
 go_loop [5,8] (fun _ i=>∃(k:Nat),i= .int .i64 k∧(k=0∨(k=1∧x=0)∨(k=2∧x=0∧y=0))) (fun _ i=>2-(intOf i).toNat)
 case atStart=>exact⟨0,rfl,.inl rfl⟩
 case round=>
  obtain⟨k,rfl,hk⟩:=hrel
  rcases hk with rfl|⟨rfl,rfl⟩|⟨rfl,rfl,rfl⟩
  ·by_cases z:x=0
   ·subst z
    go_wp2
    go_round
    case rel=>exact⟨1,by go_num,.inr (.inl ⟨rfl,by trivial⟩)⟩
    case measure=>simp[intOf]
   ·go_wp2
    go_ret
    exact⟨by simp[z],rfl⟩
  ·by_cases z:y=0
   ·subst z
    go_wp2
    go_round
    case rel=>exact⟨2,by go_num,.inr (.inr ⟨rfl,by trivial,by trivial⟩)⟩
    case measure=>simp[intOf]
   ·go_wp2
    go_ret
    exact⟨by simp,rfl⟩
  ·go_wp2
   go_ret
   exact⟨by simp,rfl⟩
def cmpK(a i b j:Int):Int:=orI (cmpI a b) (cmpI i j)
theorem grow_below(w:World)(q:Nat)(os:Array Obj):Below w.heap.size w (Go.Sort.grow (w.drewN q) os):=
 ⟨rfl,rfl,rfl,by simp[Go.Sort.grow,World.drewN],fun k hk=>by
  show(w.heap++os)[k]?=w.heap[k]?
  rw[Array.getElem?_append_left hk]⟩
theorem compareG(a i b j:Int)(w:World):Calls Tryz.prog 128 #[.agg #[.int .i64 a,.int .i64 i],.agg #[.int .i64 b,.int .i64 j]] w fun e w'=>e= .returned (.int .i64 (cmpK a i b j))∧∃q os,w'=Go.Sort.grow (w.drewN q) os:=by
 unfold cmpK
 go_enter Tryz.func128,Tryz.ntmps128
 go_wp2_with fail
 have hu:∃os,(w.alloc (.cells #[.int .i64 a,.int .i64 i] 153)).alloc (.cells #[.int .i64 b,.int .i64 j] 153)=Go.Sort.grow w os:=⟨_,by rw[Go.Sort.alloc_eq_grow,Go.Sort.alloc_eq_grow,Go.Sort.grow_grow]⟩
 have c0:((w.alloc (.cells #[.int .i64 a,.int .i64 i] 153)).alloc (.cells #[.int .i64 b,.int .i64 j] 153)).cell? ⟨w.heap.size,0,none⟩=some (.int .i64 a):=by simp
 have c1:((w.alloc (.cells #[.int .i64 a,.int .i64 i] 153)).alloc (.cells #[.int .i64 b,.int .i64 j] 153)).cell? ⟨w.heap.size,1,none⟩=some (.int .i64 i):=by simp
 have c2:((w.alloc (.cells #[.int .i64 a,.int .i64 i] 153)).alloc (.cells #[.int .i64 b,.int .i64 j] 153)).cell? ⟨w.heap.size+1,0,none⟩=some (.int .i64 b):=by simp
 have c3:((w.alloc (.cells #[.int .i64 a,.int .i64 i] 153)).alloc (.cells #[.int .i64 b,.int .i64 j] 153)).cell? ⟨w.heap.size+1,1,none⟩=some (.int .i64 j):=by simp
 have HU:=zh hu
 clear hu
 generalize (w.alloc (.cells #[.int .i64 a,.int .i64 i] 153)).alloc (.cells #[.int .i64 b,.int .i64 j] 153)=u at *
 generalize w.heap.size+1=h1 at *
 generalize w.heap.size=h0 at *
 go_region_held3 (fun w'=>w'.cell? ⟨h0,0,none⟩=some (.int .i64 a)∧w'.cell? ⟨h0,1,none⟩=some (.int .i64 i)∧w'.cell? ⟨h1,0,none⟩=some (.int .i64 b)∧w'.cell? ⟨h1,1,none⟩=some (.int .i64 j)) (go_keep)
  (first|(go_at_call 144;refine(compare1 _ _ _).mono ?_;rintro e w1 ⟨rfl,rfl⟩)|(go_at_call 143;refine(orL u.heap.size (cmpI a b) (cmpI i j) _ ?_ ?_).mono ?_;(simp);(simp);rintro e w1 ⟨rfl,rfl⟩))
 all_goals(go_wp2;go_ret)
 all_goals(obtain⟨os,rfl⟩:=zu HU;exact⟨rfl,1,_,by rw[Go.Sort.alloc_eq_grow];exact Go.Sort.grow_grow (w.drewN 1) _ _⟩)
theorem compareK(a i b j:Int)(w:World):Calls Tryz.prog 128 #[.agg #[.int .i64 a,.int .i64 i],.agg #[.int .i64 b,.int .i64 j]] w fun e w'=>e= .returned (.int .i64 (cmpK a i b j))∧Below w.heap.size w w':=
 (compareG a i b j w).mono fun _ _ ⟨he,q,os,hw⟩=>⟨he,by rw[hw];exact grow_below w q os⟩
theorem keyOk(a i:Int)(b:Bool)(w:World)(h:Says b (NoOk a∧NoOk i)):Calls Tryz.prog 127 #[.agg #[.int .i64 a,.int .i64 i]] w fun e w'=>e= .returned (.bool b)∧Below w.heap.size w w':=by
 have hb:Below w.heap.size w (w.alloc (.cells #[.int .i64 a,.int .i64 i] 153)):=(Below.refl _ _).alloc (Nat.le_refl _) _
 by_cases c1:1≤a
 ·by_cases c2:a≤1000
  ·by_cases c3:1≤i
   ·by_cases c4:i≤1000
    ·obtain rfl:b=true:=h.of ⟨⟨c1,c2⟩,c3,c4⟩
     clear h
     go_enter Tryz.func127,Tryz.ntmps127
     go_wp2
     go_ret
     exact⟨rfl,hb⟩
    ·obtain rfl:b=false:=h.not (fun r=>by unfold NoOk at r;omega)
     clear h
     go_enter Tryz.func127,Tryz.ntmps127
     go_wp2
     go_ret
     exact⟨rfl,hb⟩
   ·obtain rfl:b=false:=h.not (fun r=>by unfold NoOk at r;omega)
    clear h
    go_enter Tryz.func127,Tryz.ntmps127
    go_wp2
    go_ret
    exact⟨rfl,hb⟩
  ·obtain rfl:b=false:=h.not (fun r=>by unfold NoOk at r;omega)
   clear h
   go_enter Tryz.func127,Tryz.ntmps127
   go_wp2
   go_ret
   exact⟨rfl,hb⟩
 ·obtain rfl:b=false:=h.not (fun r=>by unfold NoOk at r;omega)
  clear h
  go_enter Tryz.func127,Tryz.ntmps127
  go_wp2
  go_ret
  exact⟨rfl,hb⟩
theorem iAmt(x:Int)(b:Bool)(w:World)(h:Says b (Amt x)):Calls Tryz.prog 129 #[.int .i64 x] w fun e w'=>e= .returned (.bool b)∧w'=w:=by
 by_cases c1: -1000000000000000≤x
 ·by_cases c2:x≤1000000000000000
  ·obtain rfl:b=true:=h.of ⟨c1,c2⟩
   clear h
   go_enter Tryz.func129,Tryz.ntmps129
   go_wp2
   go_ret
   exact⟨rfl,rfl⟩
  ·obtain rfl:b=false:=h.not (fun r=>by unfold Amt at r;omega)
   clear h
   go_enter Tryz.func129,Tryz.ntmps129
   go_wp2
   go_ret
   exact⟨rfl,rfl⟩
 ·obtain rfl:b=false:=h.not (fun r=>by unfold Amt at r;omega)
  clear h
  go_enter Tryz.func129,Tryz.ntmps129
  go_wp2
  go_ret
  exact⟨rfl,rfl⟩
theorem eqKey(a i b j:Int)(w:World):(Op.equalIn 10000 153 (.agg #[.int .i64 a,.int .i64 i]) (.agg #[.int .i64 b,.int .i64 j])).run Tryz.prog w= .ok (a==b&&i==j) w:=by
 have u3:=Tryz.underlying3
 have a3:=Tryz.isAgg3
 have z3:=Tryz.sizeOf3
 have hS:Tryz.prog.underlying 153=some (.struct (Tryz.prog.fieldsOf 153)):=by kernel_rfl
 have hp:Tryz.prog.stoodInHeld 153=false:=by kernel_rfl
 rw[show(10000:Nat)=9999+1 from rfl,run_equalIn_agg w 9999 153 _ _ hS hp]
 simp only[Program.fieldsOf,Tryz.underlying153]
 go_simp
 by_cases h1:a=b<;>by_cases h2:i=j<;>simp[h1,h2]
theorem guardKey:Tryz.prog.eqGuardType Tryz.prog.depth 153=false:=by kernel_rfl
theorem keyL(x0 x1 x2 x3 x4:Int)(w:World):Calls Tryz.prog 118 #[.agg #[.int .i64 x0,.int .i64 x1,.int .i64 x2,.int .i64 x3,.int .i64 x4]] w fun e w'=>e= .returned (.agg #[.int .i64 x0,.int .i64 x1])∧Below w.heap.size w w':=by
 go_enter Tryz.func118,Tryz.ntmps118
 go_wp2
 refine bodyPost_ret (v:= .agg #[.int .i64 x0,.int .i64 x1]) (by simp[results,Tryz.results118,go_sem]) rfl ⟨rfl,by repeat(first|exact Below.refl _ _|refine Below.alloc ?_ (by simp;try omega) _)⟩
theorem at0{w:World}{g:Nat}{x0 x1 x2 x3 x4:Int}(h:Holds5 w g 0 (x0,x1,x2,x3,x4)):w.cell? ⟨g,0,none⟩=some (.int .i64 x0)∧w.cell? ⟨g,1,none⟩=some (.int .i64 x1)∧w.cell? ⟨g,2,none⟩=some (.int .i64 x2)∧w.cell? ⟨g,3,none⟩=some (.int .i64 x3)∧w.cell? ⟨g,4,none⟩=some (.int .i64 x4):=h
def cmpL(p q:T5):Int:=orI (cmpK p.1 p.2.1 q.1 q.2.1) (cmpI p.2.2.1 q.2.2.1)
theorem cmpL_le(p q:T5):cmpL p q≤0↔¬Bef q p:=by
 unfold cmpL cmpK orI cmpI Bef
 repeat(first|split|omega)
theorem compareLot(x0 x1 x2 x3 x4 y0 y1 y2 y3 y4:Int)(w:World):Calls Tryz.prog 131 #[.agg #[.int .i64 x0,.int .i64 x1,.int .i64 x2,.int .i64 x3,.int .i64 x4],.agg #[.int .i64 y0,.int .i64 y1,.int .i64 y2,.int .i64 y3,.int .i64 y4]] w fun e w'=>e= .returned (.int .i64 (cmpL (x0,x1,x2,x3,x4) (y0,y1,y2,y3,y4)))∧Below w.heap.size w w':=by
 unfold cmpL
 have X:=zh (show Holds5 ((w.alloc (.cells #[.int .i64 x0,.int .i64 x1,.int .i64 x2,.int .i64 x3,.int .i64 x4] 80)).alloc (.cells #[.int .i64 y0,.int .i64 y1,.int .i64 y2,.int .i64 y3,.int .i64 y4] 80)) w.heap.size 0 (x0,x1,x2,x3,x4) from by unfold Holds5;simp)
 have Y:=zh (show Holds5 ((w.alloc (.cells #[.int .i64 x0,.int .i64 x1,.int .i64 x2,.int .i64 x3,.int .i64 x4] 80)).alloc (.cells #[.int .i64 y0,.int .i64 y1,.int .i64 y2,.int .i64 y3,.int .i64 y4] 80)) (w.heap.size+1) 0 (y0,y1,y2,y3,y4) from by unfold Holds5;simp)
 have B:=zh (show Below w.heap.size w ((w.alloc (.cells #[.int .i64 x0,.int .i64 x1,.int .i64 x2,.int .i64 x3,.int .i64 x4] 80)).alloc (.cells #[.int .i64 y0,.int .i64 y1,.int .i64 y2,.int .i64 y3,.int .i64 y4] 80)) from((Below.refl _ _).alloc (Nat.le_refl _) _).alloc (by simp) _)
 have hx:w.heap.size<((w.alloc (.cells #[.int .i64 x0,.int .i64 x1,.int .i64 x2,.int .i64 x3,.int .i64 x4] 80)).alloc (.cells #[.int .i64 y0,.int .i64 y1,.int .i64 y2,.int .i64 y3,.int .i64 y4] 80)).heap.size:=by simp;omega
 have hy:w.heap.size+1<((w.alloc (.cells #[.int .i64 x0,.int .i64 x1,.int .i64 x2,.int .i64 x3,.int .i64 x4] 80)).alloc (.cells #[.int .i64 y0,.int .i64 y1,.int .i64 y2,.int .i64 y3,.int .i64 y4] 80)).heap.size:=by simp
 go_enter Tryz.func131,Tryz.ntmps131
 go_wp2_with fail
 generalize (w.alloc (.cells #[.int .i64 x0,.int .i64 x1,.int .i64 x2,.int .i64 x3,.int .i64 x4] 80)).alloc (.cells #[.int .i64 y0,.int .i64 y1,.int .i64 y2,.int .i64 y3,.int .i64 y4] 80)=u at *
 obtain⟨h1,H1⟩:∃h1,Hid (h1=w.heap.size+1):=⟨_,rfl⟩
 obtain⟨h0,H0⟩:∃h0,Hid (h0=w.heap.size):=⟨_,rfl⟩
 rw[←zu H1] at hy Y⊢
 rw[←zu H0] at hx X⊢
 obtain⟨c0,c1,c2,c3,c4⟩:=at0 (zu X)
 obtain⟨e0,e1,e2,e3,e4⟩:=at0 (zu Y)
 have bb:Below u.heap.size u u.drew:=(Below.refl _ _).drew
 go_region_held3 (fun w'=>w'.cell? ⟨h0,0,none⟩=some (.int .i64 x0)∧w'.cell? ⟨h0,1,none⟩=some (.int .i64 x1)∧w'.cell? ⟨h0,2,none⟩=some (.int .i64 x2)∧w'.cell? ⟨h0,3,none⟩=some (.int .i64 x3)∧w'.cell? ⟨h0,4,none⟩=some (.int .i64 x4)∧w'.cell? ⟨h1,0,none⟩=some (.int .i64 y0)∧w'.cell? ⟨h1,1,none⟩=some (.int .i64 y1)∧w'.cell? ⟨h1,2,none⟩=some (.int .i64 y2)∧w'.cell? ⟨h1,3,none⟩=some (.int .i64 y3)∧w'.cell? ⟨h1,4,none⟩=some (.int .i64 y4)) (go_keep)
  (first|(go_at_call 118;refine(keyL _ _ _ _ _ _).mono ?_;rintro e w1 ⟨rfl,n1⟩;replace bb:=next bb n1;obtain⟨c0,c1,c2,c3,c4⟩:=at0 ((zu X).below bb hx);obtain⟨e0,e1,e2,e3,e4⟩:=at0 ((zu Y).below bb hy);clear n1)|(go_at_call 128;refine(compareK _ _ _ _ _).mono ?_;rintro e w1 ⟨rfl,n1⟩;replace bb:=next bb n1;obtain⟨c0,c1,c2,c3,c4⟩:=at0 ((zu X).below bb hx);obtain⟨e0,e1,e2,e3,e4⟩:=at0 ((zu Y).below bb hy);clear n1)|(go_at_call 144;refine(compare1 _ _ _).mono ?_;rintro e w1 ⟨rfl,rfl⟩)|(go_at_call 143;refine(orL _ (cmpK x0 x1 y0 y1) (cmpI x2 y2) _ ?_ ?_).mono ?_;(simp);(simp);rintro e w1 ⟨rfl,rfl⟩))
 all_goals(go_wp2;go_ret)
 all_goals exact⟨rfl,(next (zu B) bb).alloc (next (zu B) bb).size _⟩
theorem lotOk(x0 x1 x2 x3 x4:Int)(b:Bool)(w:World)(hb:Says b (One (x0,x1,x2,x3,x4))):Calls Tryz.prog 130 #[.agg #[.int .i64 x0,.int .i64 x1,.int .i64 x2,.int .i64 x3,.int .i64 x4]] w fun e w'=>e= .returned (.bool b)∧Below w.heap.size w w':=by
 obtain⟨b1,B1⟩:=says_of (NoOk x0∧NoOk x1)
 have X:=zh (show Holds5 (w.alloc (.cells #[.int .i64 x0,.int .i64 x1,.int .i64 x2,.int .i64 x3,.int .i64 x4] 80)) w.heap.size 0 (x0,x1,x2,x3,x4) from by unfold Holds5;simp)
 have B:=zh (show Below w.heap.size w (w.alloc (.cells #[.int .i64 x0,.int .i64 x1,.int .i64 x2,.int .i64 x3,.int .i64 x4] 80)) from(Below.refl _ _).alloc (Nat.le_refl _) _)
 have hx:w.heap.size<(w.alloc (.cells #[.int .i64 x0,.int .i64 x1,.int .i64 x2,.int .i64 x3,.int .i64 x4] 80)).heap.size:=by simp
 go_enter Tryz.func130,Tryz.ntmps130
 go_wp2_with fail
 refine(keyL x0 x1 x2 x3 x4 _).mono ?_
 rintro e w1 ⟨rfl,n1⟩
 have X1:=zh ((zu X).below n1 hx)
 have hx1:w.heap.size<w1.heap.size:=Nat.lt_of_lt_of_le hx n1.size
 have N1:=zh (next (zu B) n1)
 clear X B hx n1
 go_wp2_with fail
 refine(keyOk x0 x1 b1 _ B1).mono ?_
 rintro e w2 ⟨rfl,n2⟩
 obtain⟨c0,c1,c2,c3,c4⟩:=at0 ((zu X1).below n2 hx1)
 have N2:=zh (next (zu N1) n2)
 clear X1 N1 n2
 cases b1
 ·obtain rfl:b=false:=hb.not (fun r=>B1.no ⟨r.1,r.2.1⟩)
  go_wp2
  go_ret
  exact⟨rfl,zu N2⟩
 by_cases t0:1≤x2
 rotate_left
 ·obtain rfl:b=false:=hb.not (fun r=>t0 r.2.2.1.1)
  clear hb
  go_wp2
  go_ret
  exact⟨rfl,zu N2⟩
 by_cases t1:x2≤1000000000
 rotate_left
 ·obtain rfl:b=false:=hb.not (fun r=>t1 r.2.2.1.2)
  clear hb
  go_wp2
  go_ret
  exact⟨rfl,zu N2⟩
 by_cases t2:1≤x3
 rotate_left
 ·obtain rfl:b=false:=hb.not (fun r=>t2 r.2.2.2.1.1)
  clear hb
  go_wp2
  go_ret
  exact⟨rfl,zu N2⟩
 by_cases t3:x3≤1000000000000000
 rotate_left
 ·obtain rfl:b=false:=hb.not (fun r=>t3 r.2.2.2.1.2)
  clear hb
  go_wp2
  go_ret
  exact⟨rfl,zu N2⟩
 by_cases t4:0≤x4
 rotate_left
 ·obtain rfl:b=false:=hb.not (fun r=>t4 r.2.2.2.2.1)
  clear hb
  go_wp2
  go_ret
  exact⟨rfl,zu N2⟩
 by_cases t5:x4≤1000000000000000
 rotate_left
 ·obtain rfl:b=false:=hb.not (fun r=>t5 r.2.2.2.2.2)
  clear hb
  go_wp2
  go_ret
  exact⟨by rw[decide_eq_false (show ¬x4≤1000000000000000 by omega)];rfl,zu N2⟩
 obtain rfl:b=true:=hb.of ⟨B1.yes.1,B1.yes.2,⟨t0,t1⟩,⟨t2,t3⟩,t4,t5⟩
 clear hb
 go_wp2
 go_ret
 exact⟨rfl,zu N2⟩
end CmpL
namespace IOk5
open Tup5 Lots Takes CmpL Quieter
def ahead(ps:List T5)(k:Nat):T5:=if k=0 then(0,0,0,0,0) else el5 ps (k-1)
theorem ahead_next(ps:List T5)(k:Nat):ahead ps (k+1)=el5 ps k:=by unfold ahead;rw[if_neg (by omega)];rfl
theorem row_iff(ps:List T5)(k:Nat):RowOk ps k↔One (el5 ps k)∧Bef (ahead ps k) (el5 ps k):=by
 unfold RowOk ahead
 by_cases k0:k=0
 ·subst k0
  rw[if_pos rfl]
  constructor
  ·rintro⟨a,_⟩
   exact⟨a,by have:=a.1;unfold NoOk at this;unfold Bef;simp only;omega⟩
  ·rintro⟨a,_⟩
   exact⟨a,fun h=>by omega⟩
 ·rw[if_neg k0]
  exact⟨fun h=>⟨h.1,h.2 (by omega)⟩,fun h=>⟨h.1,fun _=>h.2⟩⟩
theorem own_drewN{e:TypeId}{w:World}{base g n cap:Nat}{ps:List T5}(h:Own5 e w base g n cap ps)(m:Nat):Own5 e (w.drewN m) base g n cap ps:=h
theorem holds_drewN{w:World}{g o:Nat}{p:T5}(h:Holds5 w g o p)(m:Nat):Holds5 (w.drewN m) g o p:=h
theorem store5{e:TypeId}{w:World}{base g:Nat}{p:T5}(h:Own5 e w base g 1 1 [p])(x0 x1 x2 x3 x4:Int):
  Own5 e (((((w.setCell ⟨g,0,none⟩ (.int .i64 x0)).setCell ⟨g,1,none⟩ (.int .i64 x1)).setCell ⟨g,2,none⟩ (.int .i64 x2)).setCell ⟨g,3,none⟩ (.int .i64 x3)).setCell ⟨g,4,none⟩ (.int .i64 x4)) base g 1 1 [(x0,x1,x2,x3,x4)]∧
   w.grownBy (((((w.setCell ⟨g,0,none⟩ (.int .i64 x0)).setCell ⟨g,1,none⟩ (.int .i64 x1)).setCell ⟨g,2,none⟩ (.int .i64 x2)).setCell ⟨g,3,none⟩ (.int .i64 x3)).setCell ⟨g,4,none⟩ (.int .i64 x4)) (some g):=by
 have s0:=h.set0 0 x0
 have s1:=s0.1.set1 0 x1
 have s2:=s1.1.set2 0 x2
 have s3:=s2.1.set3 0 x3
 have s4:=s3.1.set4 0 x4
 exact⟨s4.1,grown_trans (grown_trans (grown_trans (grown_trans s0.2 s1.2) s2.2) s3.2) s4.2⟩
theorem iOk(w:World)(g n cap:Nat)(ps:List T5)(ok:Bool)(hl:ps.length=n)(h20:n≤1048576)(hg:g<w.heap.size)(h:At5 w g ps)(hok:Says ok (Right ps)):
  Calls Tryz.prog 111 #[.slice (some ⟨g,0,none⟩) n cap] w fun e w'=>e= .returned (.bool ok)∧Below w.heap.size w w':=by
 by_cases nn:(120:Int)<(n:Int)
 ·obtain rfl:ok=false:=hok.not (fun r=>by have:=r.1;omega)
  clear hok h
  go_enter Tryz.func111,Tryz.ntmps111
  go_wp2
  go_ret
  exact⟨rfl,Below.refl _ _⟩
 have H:=zh h
 clear h
 have O0:=zh (show Own5 80 (w.alloc (.cells #[.int .i64 0,.int .i64 0,.int .i64 0,.int .i64 0,.int .i64 0] 80)) w.heap.size w.heap.size 1 1 [(0,0,0,0,0)] from lit51 80 w w.heap.size 0 0 0 0 0 (Nat.le_refl _))
 go_enter Tryz.func111,Tryz.ntmps111
 go_wp2
 go_loopw [4,5,7,14] (fun q c _ i wr=>∃(k:Nat) (sq sc:Int) (bf:T5),k≤n∧i= .int .i64 k∧q= .int .i64 sq∧c= .int .i64 sc∧0≤sq∧sq≤1000000000000000∧0≤sc∧sc≤1000000000000000∧Hid (ahead ps k=bf)∧Below w.heap.size w wr∧Own5 80 wr w.heap.size w.heap.size 1 1 [bf]∧Hid (∀i,i<k→RowOk ps i∧(run ps i).1≤1000000000000000∧(run ps i).2≤1000000000000000)∧Hid (0<k→(sq,sc)=run ps (k-1))) (fun _ _ _ i _=>n-(intOf i).toNat)
 case atStart=>exact⟨0,0,0,(0,0,0,0,0),by omega,rfl,rfl,rfl,by omega,by omega,by omega,by omega,zh rfl,(Below.refl _ _).alloc (Nat.le_refl _) _,zu O0,zh (fun i hi=>absurd hi (by omega)),zh (fun h0=>absurd h0 (by omega))⟩
 case round=>
  clear O0
  obtain⟨k,sq,sc,⟨z0,z1,z2,z3,z4⟩,hk,rfl,rfl,rfl,sq0,sq1,sc0,sc1,HP,hb,ho,HG,HS⟩:=hrel
  by_cases t:k<n
  ·have hA:=(zu H).below hb hg
   obtain⟨e0,e1,e2,e3,e4⟩:=hA k (by omega)
   have gs:w.heap.size<wr.heap.size:=ho.lt.2
   clear hA
   have HB:=zh hb
   clear hb
   have HO:=zh ho
   clear ho
   have ROW:=zh (show RowOk ps k↔One ((el5 ps k).1,(el5 ps k).2.1,(el5 ps k).2.2.1,(el5 ps k).2.2.2.1,(el5 ps k).2.2.2.2)∧Bef (z0,z1,z2,z3,z4) ((el5 ps k).1,(el5 ps k).2.1,(el5 ps k).2.2.1,(el5 ps k).2.2.2.1,(el5 ps k).2.2.2.2) from by rw[row_iff,zu HP])
   have RUN:=zh (show RowOk ps k→run ps k=(if(el5 ps k).1≠z0∨(el5 ps k).2.1≠z1 then((el5 ps k).2.2.2.1,(el5 ps k).2.2.2.2) else(sq+(el5 ps k).2.2.2.1,sc+(el5 ps k).2.2.2.2)) from fun hr=>by
    rw[run_next (by omega) (fun i hi=>by
     by_cases e:i=k
     ·subst e;exact hr
     ·exact((zu HG) i (by omega)).1)]
    have hz:=zu HP
    unfold ahead at hz
    by_cases k0:k=0
    ·rw[if_pos k0] at hz
     have z00:z0=0:=by have:=congrArg Prod.fst hz;simpa using this.symm
     have one:=hr.1.1
     unfold NoOk at one
     rw[if_pos (.inl k0),if_pos (.inl (by omega))]
    ·rw[if_neg k0] at hz
     have h0:(el5 ps (k-1)).1=z0:=by rw[hz]
     have h1:(el5 ps (k-1)).2.1=z1:=by rw[hz]
     rw[h0,h1]
     by_cases c:(el5 ps k).1≠z0∨(el5 ps k).2.1≠z1
     ·rw[if_pos (.inr c),if_pos c]
     ·rw[if_neg (by omega),if_neg c,←(zu HS) (by omega)])
   have BAD:=zh (show ¬(RowOk ps k∧(run ps k).1≤1000000000000000∧(run ps k).2≤1000000000000000)→ok=false from fun hr=>hok.not (fun r=>hr ((right_iff ps (by omega)).1 r k (by omega))))
   have GOOD:=zh (show RowOk ps k∧(run ps k).1≤1000000000000000∧(run ps k).2≤1000000000000000→∀i,i<k+1→RowOk ps i∧(run ps i).1≤1000000000000000∧(run ps i).2≤1000000000000000 from fun hr i hi=>by
    by_cases e:i=k
    ·subst e;exact hr
    ·exact(zu HG) i (by omega))
   have AN:=zh (ahead_next ps k)
   obtain⟨rq,rc,RQ⟩:∃rq rc,Hid (run ps k=(rq,rc)):=⟨_,_,rfl⟩
   rw[zu RQ] at RUN BAD GOOD
   rw[show el5 ps k=((el5 ps k).1,(el5 ps k).2.1,(el5 ps k).2.2.1,(el5 ps k).2.2.2.1,(el5 ps k).2.2.2.2) from rfl] at AN
   clear HG HS HP
   generalize (el5 ps k).1=x0 at *
   generalize (el5 ps k).2.1=x1 at *
   generalize (el5 ps k).2.2.1=x2 at *
   generalize (el5 ps k).2.2.2.1=x3 at *
   generalize (el5 ps k).2.2.2.2=x4 at *
   obtain⟨b1,B1⟩:=says_of (One (x0,x1,x2,x3,x4))
   have ONE:=zh (show Below wr.heap.size wr (wr.alloc (.cells #[.int .i64 x0,.int .i64 x1,.int .i64 x2,.int .i64 x3,.int .i64 x4] 80)) from(Below.refl _ _).alloc (Nat.le_refl _) _)
   have X:=zh (show Holds5 (wr.alloc (.cells #[.int .i64 x0,.int .i64 x1,.int .i64 x2,.int .i64 x3,.int .i64 x4] 80)) wr.heap.size 0 (x0,x1,x2,x3,x4) from by unfold Holds5;simp)
   have hx:wr.heap.size<(wr.alloc (.cells #[.int .i64 x0,.int .i64 x1,.int .i64 x2,.int .i64 x3,.int .i64 x4] 80)).heap.size:=by simp
   have O1:=zh ((zu HO).alloc (.cells #[.int .i64 x0,.int .i64 x1,.int .i64 x2,.int .i64 x3,.int .i64 x4] 80))
   have BB:=zh (next (zu HB) (zu ONE))
   clear ONE HO
   go_wp2_with fail
   generalize wr.alloc (.cells #[.int .i64 x0,.int .i64 x1,.int .i64 x2,.int .i64 x3,.int .i64 x4] 80)=u at *
   generalize wr.heap.size=yb at *
   refine(lotOk x0 x1 x2 x3 x4 b1 _ B1).mono ?_
   rintro e w1 ⟨rfl,n1⟩
   have X:=zh ((zu X).below n1 hx)
   have O1:=zh ((zu O1).below n1 (zu O1).lt.2)
   have BB:=zh (next (zu BB) n1)
   have hx:=Nat.lt_of_lt_of_le hx n1.size
   clear n1 e0 e1 e2 e3 e4
   cases b1
   ·have OKF:=zh ((zu BAD) (fun hr=>B1.no ((zu ROW).1 hr.1).1))
    clear BAD GOOD ROW RUN
    go_wp2
    go_ret
    exact⟨by rw[zu OKF];rfl,zu BB⟩
   have o:=B1.yes
   obtain⟨_,_,_,⟨x3l,x3h⟩,x4l,x4h⟩:NoOk x0∧NoOk x1∧(1≤x2∧x2≤1000000000)∧(1≤x3∧x3≤1000000000000000)∧(0≤x4∧x4≤1000000000000000):=o
   obtain⟨c0,c1,c2,c3,c4⟩:=at0 (zu X)
   obtain⟨d0,d1,d2,d3,d4⟩:=at0 ((zu O1).at 0 (by simp))
   go_wp2_with fail
   refine(compareLot x0 x1 x2 x3 x4 z0 z1 z2 z3 z4 _).mono ?_
   rintro e w2 ⟨rfl,n2⟩
   have X:=zh ((zu X).below n2 hx)
   have O2:=zh ((zu O1).below n2 (zu O1).lt.2)
   have BB:=zh (next (zu BB) n2)
   have hx:=Nat.lt_of_lt_of_le hx n2.size
   clear n2 c0 c1 c2 c3 c4 d0 d1 d2 d3 d4 O1
   have CLE:=zh (cmpL_le (x0,x1,x2,x3,x4) (z0,z1,z2,z3,z4))
   generalize cmpL (x0,x1,x2,x3,x4) (z0,z1,z2,z3,z4)=c at *
   by_cases c9:c≤0
   ·have OKF:=zh ((zu BAD) (fun hr=>(zu CLE).1 c9 ((zu ROW).1 hr.1).2))
    clear BAD GOOD ROW RUN CLE
    go_wp2
    go_ret
    exact⟨by rw[zu OKF];rfl,zu BB⟩
   have RK:=zh ((zu ROW).2 ⟨B1.yes,Classical.byContradiction (fun h=>by have:=(zu CLE).2 h;omega)⟩)
   clear CLE
   obtain⟨c0,c1,c2,c3,c4⟩:=at0 (zu X)
   obtain⟨d0,d1,d2,d3,d4⟩:=at0 ((zu O2).at 0 (by simp))
   go_wp2_with fail
   have C0:∀n:Near w2,n.u.cell? ⟨yb,0,none⟩=some (.int .i64 x0):=fun n=>(n.b.cell (p:=⟨yb,0,none⟩) hx).trans c0
   have C1:∀n:Near w2,n.u.cell? ⟨yb,1,none⟩=some (.int .i64 x1):=fun n=>(n.b.cell (p:=⟨yb,1,none⟩) hx).trans c1
   have C2:∀n:Near w2,n.u.cell? ⟨yb,2,none⟩=some (.int .i64 x2):=fun n=>(n.b.cell (p:=⟨yb,2,none⟩) hx).trans c2
   have C3:∀n:Near w2,n.u.cell? ⟨yb,3,none⟩=some (.int .i64 x3):=fun n=>(n.b.cell (p:=⟨yb,3,none⟩) hx).trans c3
   have C4:∀n:Near w2,n.u.cell? ⟨yb,4,none⟩=some (.int .i64 x4):=fun n=>(n.b.cell (p:=⟨yb,4,none⟩) hx).trans c4
   have hz:=(zu O2).lt.2
   have D0:∀n:Near w2,n.u.cell? ⟨w.heap.size,0,none⟩=some (.int .i64 z0):=fun n=>(n.b.cell (p:=⟨w.heap.size,0,none⟩) hz).trans d0
   have D1:∀n:Near w2,n.u.cell? ⟨w.heap.size,1,none⟩=some (.int .i64 z1):=fun n=>(n.b.cell (p:=⟨w.heap.size,1,none⟩) hz).trans d1
   have D2:∀n:Near w2,n.u.cell? ⟨w.heap.size,2,none⟩=some (.int .i64 z2):=fun n=>(n.b.cell (p:=⟨w.heap.size,2,none⟩) hz).trans d2
   have D3:∀n:Near w2,n.u.cell? ⟨w.heap.size,3,none⟩=some (.int .i64 z3):=fun n=>(n.b.cell (p:=⟨w.heap.size,3,none⟩) hz).trans d3
   have D4:∀n:Near w2,n.u.cell? ⟨w.heap.size,4,none⟩=some (.int .i64 z4):=fun n=>(n.b.cell (p:=⟨w.heap.size,4,none⟩) hz).trans d4
   have near:=near_is w2
   have EQ:=eqKey x0 x1 z0 z1
   have GU:=guardKey
   by_cases same:x0=z0∧x1=z1
   ·obtain⟨rfl,rfl⟩:=same
    refine quiet_near (by kernel_rfl) (by kernel_rfl) ?_
    repeat(go_big_quiet_step (first
     |(go_at_call 118
       rename_i nn
       refine(keyL _ _ _ _ _ nn.u).mono ?_
       rintro e u6 ⟨rfl,b6⟩
       exact⟨rfl,⟨u6,next nn.b b6⟩,rfl⟩)))
    refine wpQuiet_nil ?_
    rintro u9 ⟨⟨_,b9⟩,rfl⟩
    have X:=zh ((zu X).below b9 hx)
    have O9:=zh ((zu O2).below b9 (zu O2).lt.2)
    have BB:=zh (next (zu BB) b9)
    clear b9 c0 c1 c2 c3 c4 d0 d1 d2 d3 d4 C0 C1 C2 C3 C4 D0 D1 D2 D3 D4 near EQ GU O2
    obtain⟨c0,c1,c2,c3,c4⟩:=at0 (zu X)
    obtain⟨d0,d1,d2,d3,d4⟩:=at0 ((zu O9).at 0 (by simp))
    obtain⟨b3,B3⟩:=says_of (Amt (sq+x3))
    obtain⟨b4,B4⟩:=says_of (Amt (sc+x4))
    have RE:=zh (show(rq,rc)=(sq+x3,sc+x4) from by rw[(zu RUN) (zu RK),if_neg (by omega)])
    have wS:IntKind.i64.wrap (sq+x3)=sq+x3:=by rw[IntKind.wrap_i64];omega
    have wT:IntKind.i64.wrap (sc+x4)=sc+x4:=by rw[IntKind.wrap_i64];omega
    go_wp2_with fail
    go_quiet (fail)
    have BB:=zh (below_drewN (zu BB) nq)
    have O9:=zh (own_drewN (zu O9) nq)
    have X:=zh (holds_drewN (zu X) nq)
    clear c0 c1 c2 c3 c4 d0 d1 d2 d3 d4
    generalize u9.drewN nq=u8 at *
    obtain⟨c0,c1,c2,c3,c4⟩:=at0 (zu X)
    obtain⟨d0,d1,d2,d3,d4⟩:=at0 ((zu O9).at 0 (by simp))
    go_wp2_with fail
    refine(iAmt (sq+x3) b3 _ B3).mono ?_
    rintro e w3 ⟨rfl,rfl⟩
    cases b3
    ·have OKF:=zh ((zu BAD) (fun hr=>B3.no (by have e:=congrArg Prod.fst (zu RE);have:=hr.2.1;unfold Amt;simp only at e;omega)))
     clear BAD GOOD ROW RUN RE
     go_wp2
     go_ret
     exact⟨by rw[zu OKF];rfl,zu BB⟩
    go_wp2_with fail
    refine(iAmt (sc+x4) b4 _ B4).mono ?_
    rintro e w4 ⟨rfl,rfl⟩
    cases b4
    ·have OKF:=zh ((zu BAD) (fun hr=>B4.no (by have e:=congrArg Prod.snd (zu RE);have:=hr.2.2;unfold Amt;simp only at e;omega)))
     clear BAD GOOD ROW RUN RE
     go_wp2
     go_ret
     exact⟨by rw[zu OKF];rfl,zu BB⟩
    have GO:=zh ((zu GOOD) ⟨zu RK,by have e:=congrArg Prod.fst (zu RE);have y:=B3.yes;unfold Amt at y;simp only at e;omega,by have e:=congrArg Prod.snd (zu RE);have y:=B4.yes;unfold Amt at y;simp only at e;omega⟩)
    have y3:=B3.yes.2
    have y4:=B4.yes.2
    have HS2:=zh (show 0<k+1→(sq+x3,sc+x4)=run ps (k+1-1) from fun _=>by rw[show k+1-1=k by omega,zu RQ];exact(zu RE).symm)
    have st:=store5 (zu O9) x0 x1 x2 x3 x4
    have r0:w4.frozen? ⟨w.heap.size,0,none⟩=false:=(zu O9).free 0
    have r1:w4.frozen? ⟨w.heap.size,1,none⟩=false:=(zu O9).free 1
    have r2:w4.frozen? ⟨w.heap.size,2,none⟩=false:=(zu O9).free 2
    have r3:w4.frozen? ⟨w.heap.size,3,none⟩=false:=(zu O9).free 3
    have r4:w4.frozen? ⟨w.heap.size,4,none⟩=false:=(zu O9).free 4
    have SO:=zh st.1
    have SB:=zh ((zu BB).grown st.2 (zu BB).size (fun j hj=>by cases hj;exact Nat.le_refl _))
    clear BAD GOOD ROW RUN HB st RE RQ BB
    go_wp2
    go_roundw
    case rel=>exact⟨k+1,sq+x3,sc+x4,(x0,x1,x2,x3,x4),by omega,by go_num,rfl,rfl,by omega,by omega,by omega,by omega,AN,zu SB,zu SO,GO,HS2⟩
    case measure=>simp[intOf];omega
   ·have ne:(x0==z0&&x1==z1)=false:=by
     rw[Bool.and_eq_false_iff,beq_eq_false_iff_ne,beq_eq_false_iff_ne]
     omega
    refine quiet_near (by kernel_rfl) (by kernel_rfl) ?_
    repeat(go_big_quiet_step (first
     |(go_at_call 118
       rename_i nn
       refine(keyL _ _ _ _ _ nn.u).mono ?_
       rintro e u6 ⟨rfl,b6⟩
       exact⟨rfl,⟨u6,next nn.b b6⟩,rfl⟩)))
    refine wpQuiet_nil ?_
    rintro u9 ⟨⟨_,b9⟩,rfl⟩
    have X:=zh ((zu X).below b9 hx)
    have O9:=zh ((zu O2).below b9 (zu O2).lt.2)
    have BB:=zh (next (zu BB) b9)
    clear b9 c0 c1 c2 c3 c4 d0 d1 d2 d3 d4 C0 C1 C2 C3 C4 D0 D1 D2 D3 D4 near EQ GU O2
    obtain⟨c0,c1,c2,c3,c4⟩:=at0 (zu X)
    obtain⟨d0,d1,d2,d3,d4⟩:=at0 ((zu O9).at 0 (by simp))
    obtain⟨b3,B3⟩:=says_of (Amt (x3))
    obtain⟨b4,B4⟩:=says_of (Amt (x4))
    have RE:=zh (show(rq,rc)=(x3,x4) from by rw[(zu RUN) (zu RK),if_pos (by omega)])
    have wS:IntKind.i64.wrap (x3)=x3:=by rw[IntKind.wrap_i64];omega
    have wT:IntKind.i64.wrap (x4)=x4:=by rw[IntKind.wrap_i64];omega
    go_wp2_with fail
    go_quiet (fail)
    have BB:=zh (below_drewN (zu BB) nq)
    have O9:=zh (own_drewN (zu O9) nq)
    have X:=zh (holds_drewN (zu X) nq)
    clear c0 c1 c2 c3 c4 d0 d1 d2 d3 d4
    generalize u9.drewN nq=u8 at *
    obtain⟨c0,c1,c2,c3,c4⟩:=at0 (zu X)
    obtain⟨d0,d1,d2,d3,d4⟩:=at0 ((zu O9).at 0 (by simp))
    go_wp2_with fail
    refine(iAmt (x3) b3 _ B3).mono ?_
    rintro e w3 ⟨rfl,rfl⟩
    cases b3
    ·have OKF:=zh ((zu BAD) (fun hr=>B3.no (by have e:=congrArg Prod.fst (zu RE);have:=hr.2.1;unfold Amt;simp only at e;omega)))
     clear BAD GOOD ROW RUN RE
     go_wp2
     go_ret
     exact⟨by rw[zu OKF];rfl,zu BB⟩
    go_wp2_with fail
    refine(iAmt (x4) b4 _ B4).mono ?_
    rintro e w4 ⟨rfl,rfl⟩
    cases b4
    ·have OKF:=zh ((zu BAD) (fun hr=>B4.no (by have e:=congrArg Prod.snd (zu RE);have:=hr.2.2;unfold Amt;simp only at e;omega)))
     clear BAD GOOD ROW RUN RE
     go_wp2
     go_ret
     exact⟨by rw[zu OKF];rfl,zu BB⟩
    have GO:=zh ((zu GOOD) ⟨zu RK,by have e:=congrArg Prod.fst (zu RE);have y:=B3.yes;unfold Amt at y;simp only at e;omega,by have e:=congrArg Prod.snd (zu RE);have y:=B4.yes;unfold Amt at y;simp only at e;omega⟩)
    have y3:=B3.yes.2
    have y4:=B4.yes.2
    have HS2:=zh (show 0<k+1→(x3,x4)=run ps (k+1-1) from fun _=>by rw[show k+1-1=k by omega,zu RQ];exact(zu RE).symm)
    have st:=store5 (zu O9) x0 x1 x2 x3 x4
    have r0:w4.frozen? ⟨w.heap.size,0,none⟩=false:=(zu O9).free 0
    have r1:w4.frozen? ⟨w.heap.size,1,none⟩=false:=(zu O9).free 1
    have r2:w4.frozen? ⟨w.heap.size,2,none⟩=false:=(zu O9).free 2
    have r3:w4.frozen? ⟨w.heap.size,3,none⟩=false:=(zu O9).free 3
    have r4:w4.frozen? ⟨w.heap.size,4,none⟩=false:=(zu O9).free 4
    have SO:=zh st.1
    have SB:=zh ((zu BB).grown st.2 (zu BB).size (fun j hj=>by cases hj;exact Nat.le_refl _))
    clear BAD GOOD ROW RUN HB st RE RQ BB
    go_wp2
    go_roundw
    case rel=>exact⟨k+1,x3,x4,(x0,x1,x2,x3,x4),by omega,by go_num,rfl,rfl,by omega,by omega,by omega,by omega,AN,zu SB,zu SO,GO,HS2⟩
    case measure=>simp[intOf];omega
  ·obtain rfl:k=n:=by omega
   obtain rfl:ok=true:=hok.of ((right_iff ps (by omega)).2 (by rw[hl];exact zu HG))
   have HB:=zh hb
   clear hb hok ho
   go_wp2
   go_ret
   exact⟨rfl,zu HB⟩
end IOk5
namespace ILists
open BMem Bks IRead IHave ITrade
open Lots (Says says_of NoOk)
theorem boxed(w:World)(x:Bx)(e:TypeId):Cl (w.alloc (.cells #[.slice (some ⟨x.ga,0,none⟩) x.b.ac.length x.ca,.slice (some ⟨x.gi,0,none⟩) x.b.ic.length x.ci,.slice (some ⟨x.gb,0,none⟩) x.b.bs.length x.cb,.slice (some ⟨x.gl,0,none⟩) x.b.ls.length x.cl,.slice (some ⟨x.gt,0,none⟩) x.b.ts.length x.ct,.int .i64 x.b.lot] e)) w.heap.size x:=⟨by simp,by simp,by simp,by simp,by simp,by simp⟩
end ILists
namespace Tab
open Bals Triples
open Go.Maps (Keyed)
theorem laidOut:laidOutB Tryz.prog=true:=by kernel_rfl
theorem row:(153:TypeId)<Tryz.prog.types.size:=of_decide_eq_true (by kernel_rfl)
theorem cells:Tryz.prog.cellsOf 153=2:=by kernel_rfl
theorem wide:(match Tryz.prog.underlying 153 with|some (.array _ _)|some (.struct _)=>true|_=>false)=true:=by rw[Tryz.underlying153]
theorem deep:Tryz.prog.keyTypeAt (Tryz.prog.types.size+1) 153=true:=by kernel_rfl
theorem law:Keyed Tryz.prog 153:=Keyed.of_law (deep_law_laid laidOut (m:=2) (by omega) row (by kernel_rfl) wide)
theorem formed{c0 c1:Value}:(Value.agg #[c0,c1]).formed Tryz.prog 153=true:=by simp[Value.formed,Tryz.underlying153,cells]
theorem zero(w:World):(zeroValue 3).run Tryz.prog w= .ok (.int .i64 0) w:=by kernel_rfl
def Wf(a i:Int):Prop:=(Lit.int .i64 a).wf=true∧(Lit.int .i64 i).wf=true
theorem wf_no{a i:Int}(ha:NoOk a)(hi:NoOk i):Wf a i:=by
 unfold NoOk at ha hi
 exact⟨WalkArith.wf_i64 (by omega),WalkArith.wf_i64 (by omega)⟩
theorem wf_amt{x:Int}(h:Amt x):(Lit.int .i64 x).wf=true:=by
 unfold Amt at h
 exact WalkArith.wf_i64 (by omega)
def kl(a i:Int):Lit:= .string (keyBytes [.int .i64 a,.int .i64 i])
theorem lits(a i:Int)(h:Wf a i):Tryz.prog.keyLits (Tryz.prog.types.size+1) 153 [.int .i64 a,.int .i64 i]=some [.int .i64 a,.int .i64 i]:=by
 obtain⟨m,hm⟩:∃m,Tryz.prog.types.size=m+1:=Nat.exists_eq_succ_of_ne_zero (Nat.ne_of_gt (Nat.lt_of_le_of_lt (Nat.zero_le _) row))
 rw[hm]
 have c3:Tryz.prog.cellsOf 3=1:=by kernel_rfl
 simp[Program.keyLits,Tryz.underlying153,cells,c3,Tryz.underlying3,h.1,h.2]
theorem key_of{a i:Int}(h:Wf a i):keyOf Tryz.prog 153 (.agg #[.int .i64 a,.int .i64 i])=some (kl a i):=by
 have l:=lits a i h
 unfold keyOf
 rw[Tryz.underlying153]
 have kt:Tryz.prog.keyType 153=true:=deep
 simp only[kt,formed,Bool.and_self,if_true]
 show Option.map _ (Tryz.prog.keyLits (Tryz.prog.types.size+1) 153 [.int .i64 a,.int .i64 i])=_
 rw[l]
 rfl
theorem key_inv{v:Value}{l:Lit}(h:keyOf Tryz.prog 153 v=some l):∃x:Int×Int,v= .agg #[.int .i64 x.1,.int .i64 x.2]∧Wf x.1 x.2∧l=kl x.1 x.2:=by
 obtain⟨xs,L,rfl,h1,rfl⟩:=keyOf_top wide h
 obtain⟨m,hm⟩:∃m,Tryz.prog.types.size=m+1:=Nat.exists_eq_succ_of_ne_zero (Nat.ne_of_gt (Nat.lt_of_le_of_lt (Nat.zero_le _) row))
 rw[hm] at h1
 have c3:Tryz.prog.cellsOf 3=1:=by kernel_rfl
 obtain⟨xs⟩:=xs
 match xs,h1 with
 |[],h1=>simp[Program.keyLits,Tryz.underlying153,cells] at h1
 |[_],h1=>simp[Program.keyLits,Tryz.underlying153,cells] at h1
 |_::_::_::_,h1=>simp[Program.keyLits,Tryz.underlying153,cells] at h1
 |[v0,v1],h1=>
  cases v0<;>cases v1<;>simp[Program.keyLits,Tryz.underlying153,cells,c3,Tryz.underlying3] at h1
  rename_i q0 a q1 i
  by_cases c0:q0= .i64∧(Lit.int .i64 a).wf=true
  ·by_cases c1:q1= .i64∧(Lit.int .i64 i).wf=true
   ·obtain⟨rfl,w0⟩:=c0
    obtain⟨rfl,w1⟩:=c1
    simp[w0,w1] at h1
    subst h1
    exact⟨(a,i),rfl,⟨w0,w1⟩,rfl⟩
   ·simp[c0,c1] at h1
  ·simp[c0] at h1
theorem kl_inj{a i b j:Int}(h:Wf a i)(k:Wf b j)(e:kl a i=kl b j):a=b∧i=j:=by
 have:=law.inj (key_of h) (e▸key_of k)
 simpa using this
theorem kl_key{a i:Int}(h:Wf a i):WideAt.IsKeyLit (kl a i):=law.key (key_of h)
abbrev D0:Type:=DataW Unit
def Tells(D:D0)(f:Int→Int→Int):Prop:=(∀a i,Wf a i→D.atKey (kl a i) (.lit (.int .i64 0))= .lit (.int .i64 (f a i)))∧∀a i,f a i≠0→Wf a i
def Tab(w:World)(B n:Nat)(f:Int→Int→Int):Prop:=∃D:D0,w.ownsMap Tryz.prog 153 (plainElem Tryz.prog 3) B n D∧Tells D f
theorem tab_made(w:World):Tab (w.alloc (.map #[] 0)) w.heap.size 0 (fun _ _=>0):=
 ⟨.map [],World.ownsMap_made _ _ _ _,fun a i h=>rfl,fun a i h=>absurd rfl h⟩
theorem Tab.lt{w:World}{B n:Nat}{f:Int→Int→Int}(h:Tab w B n f):B<w.heap.size:=by
 obtain⟨D,h1,_⟩:=h
 exact h1.lt
theorem Tab.kept{w w':World}{B n:Nat}{f:Int→Int→Int}{row:Option Nat}(h:Tab w B n f)(hg:w.grownBy w' row)(hne:some B≠row):Tab w' B n f:=by
 obtain⟨D,h1,h2⟩:=h
 exact⟨D,h1.kept hg hne,h2⟩
theorem below_grown{b:Nat}{w w':World}(h:Below b w w')(hb:b=w.heap.size):w.grownBy w' none:=by
 subst hb
 exact⟨h.os,h.tape,h.output,h.size,fun k hk _=>h.block k hk⟩
theorem Tab.below{w w':World}{B n:Nat}{f:Int→Int→Int}(h:Tab w B n f)(k:Below w.heap.size w w'):Tab w' B n f:=h.kept (below_grown k rfl) (by simp)
theorem Tab.congr{w:World}{B n:Nat}{f g:Int→Int→Int}(h:Tab w B n f)(e:∀a i,f a i=g a i):Tab w B n g:=by
 have:f=g:=funext fun a=>funext fun i=>e a i
 exact this▸h
theorem tells_put{D:D0}{f:Int→Int→Int}(h:Tells D f)(hD:Maps.IsMap D){a i v:Int}(hw:Wf a i):Tells (D.put (kl a i) (.lit (.int .i64 v))) (upd f a i v):=by
 refine⟨fun b j hb=>?_,fun b j hb=>?_⟩
 ·by_cases e:b=a∧j=i
  ·obtain⟨rfl,rfl⟩:=e
   rw[upd_same,Maps.atKey_put_same hD (kl_key hw)]
  ·rw[upd_other _ _ _ _ _ _ e,Maps.atKey_put_other (fun q=>e (kl_inj hb hw q)),h.1 b j hb]
 ·by_cases e:b=a∧j=i
  ·obtain⟨rfl,rfl⟩:=e
   exact hw
  ·rw[upd_other _ _ _ _ _ _ e] at hb
   exact h.2 b j hb
theorem isMap_of{w:World}{k:TypeId}{R:Value→Option (D0×List MemPlace)}{B n:Nat}{D:D0}(h:w.ownsMap Tryz.prog k R B n D):Maps.IsMap D:=by
 obtain⟨es,clock,_,_,_,rfl⟩:=h
 exact⟨_,rfl⟩
theorem wp_put(w:World){ops:Array Oper}{rest:List Oper}{o:Oper}{s:Act}{Q:Exit→Act→World→Prop}
  (hg:o.guard=none)(m x y:Operand)(t:TypeId)(hop:o.op=Op.mapUpdate t m x y)(ht:Tryz.prog.underlying t=some (.map 153 3))(B n:Nat)(f:Int→Int→Int)(hm:s.eval m= .map (some B))(hown:Tab w B n f)(hn:n≤1048576)
  (a i v:Int)(hx:s.eval x= .agg #[.int .i64 a,.int .i64 i])(hy:s.eval y= .int .i64 v)(hw:Wf a i)(hv:(Lit.int .i64 v).wf=true)
  (hK:∀w',Tab w' B (n+1) (upd f a i v)→w.grownBy w' (some B)→wpList Tryz.prog ops Q rest (s.put o.dst undef) w'):wpList Tryz.prog ops Q (o::rest) s w:=by
 obtain⟨D,h1,h2⟩:=hown
 refine wpList_mapUpdate_own w hg m x y t hop 153 3 law ht _ B n D hm h1 (by unfold maxLen;omega) _ _ (kl a i) hx hy (key_of hw) (.lit (.int .i64 v)) [] (plainElem_int Tryz.underlying3 hv) ?_
 intro w' h3 h4
 exact hK w' ⟨_,h3,tells_put h2 (isMap_of h1) hw⟩ h4
def RTab(w:World)(B r n:Nat)(f:Int→Int→Int)(left:Int→Int→Bool)(cnt:Nat):Prop:=
 ∃(D:D0) (lf:Lit→Bool),w.ranges Tryz.prog 153 (plainElem Tryz.prog 3) B r n D lf cnt∧Tells D f∧∀a i,Wf a i→left a i=lf (kl a i)
theorem RTab.lt{w:World}{B r n:Nat}{f:Int→Int→Int}{left:Int→Int→Bool}{cnt:Nat}(h:RTab w B r n f left cnt):B<w.heap.size∧r<w.heap.size∧r≠B∧w.rangeLeft B r=cnt:=by
 obtain⟨D,lf,h1,_⟩:=h
 exact⟨h1.owns.lt,h1.lt,h1.ne,h1.left_eq⟩
theorem RTab.kept{w w':World}{B r n:Nat}{f:Int→Int→Int}{left:Int→Int→Bool}{cnt:Nat}{row:Option Nat}(h:RTab w B r n f left cnt)(hg:w.grownBy w' row)(hb:some B≠row)(hr:some r≠row):RTab w' B r n f left cnt:=by
 obtain⟨D,lf,h1,h2⟩:=h
 exact⟨D,lf,h1.kept hg hb hr,h2⟩
theorem wp_range(w:World){ops:Array Oper}{rest:List Oper}{o:Oper}{s:Act}{Q:Exit→Act→World→Prop}
  (hg:o.guard=none)(m:Operand)(t:TypeId)(hop:o.op=Op.range t m)(ht:Tryz.prog.underlying t=some (.map 153 3))(B n:Nat)(f:Int→Int→Int)(hm:s.eval m= .map (some B))(hown:Tab w B n f)
  (hK:∀w' left cnt,RTab w' B w.heap.size n f left cnt→cnt≤n→(∀a i,f a i≠0→left a i=true)→w.grownBy w' none→w'.heap.size=w.heap.size+1→wpList Tryz.prog ops Q rest (s.put o.dst (.pointer (some ⟨w.heap.size,0,none⟩))) w'):wpList Tryz.prog ops Q (o::rest) s w:=by
 obtain⟨D,h1,h2⟩:=hown
 refine wpList_range_own w hg m t hop 153 3 law ht _ B n D hm h1 ?_
 intro w' h3 h4 h5
 refine hK w' (fun a i=>Maps.has D (kl a i)) (Maps.size D) ⟨D,Maps.has D,h3,h2,fun a i _=>rfl⟩ ?_ ?_ h4 h5
 ·obtain⟨es,clock,_,_,hs,rfl⟩:=h1
  rw[Maps.size_eq,length_sorted]
  simpa using hs
 ·intro a i hf
  refine Classical.byContradiction fun nh=>?_
  have nh:Maps.has D (kl a i)=false:=by simpa using nh
  have e:=h2.1 a i (h2.2 a i hf)
  rw[Maps.atKey_of_not_has nh] at e
  have:(0:Int)=f a i:=by simpa using e
  exact hf this.symm
theorem wp_next(w:World){ops:Array Oper}{rest:List Oper}{o:Oper}{s:Act}{Q:Exit→Act→World→Prop}
  (hg:o.guard=none)(it:Operand)(hop:o.op=Op.next it false)(B r n:Nat)(f:Int→Int→Int)(left:Int→Int→Bool)(cnt:Nat)(hit:s.eval it= .pointer (some ⟨r,0,none⟩))(h:RTab w B r n f left cnt)
  (hDone:cnt=0→(∀a i,Wf a i→left a i=false)→wpList Tryz.prog ops Q rest (s.put o.dst (.tuple #[.bool false])) w)
  (hMore:∀(a i:Int) (w':World) (left':Int→Int→Bool) (cnt':Nat),Wf a i→(Lit.int .i64 (f a i)).wf=true→left a i=true→(∀b j,Wf b j→left' b j=(left b j&& !decide (b=a∧j=i)))→RTab w' B r n f left' cnt'→cnt'<cnt→w.grownBy w' (some r)→w'.heap.size=w.heap.size→
   (Instr.entry (.pointer (some ⟨r,0,none⟩))).run Tryz.prog w'= .ok (.tuple #[.agg #[.int .i64 a,.int .i64 i],.int .i64 (f a i)]) w'→wpList Tryz.prog ops Q rest (s.put o.dst (.tuple #[.bool true,.agg #[.int .i64 a,.int .i64 i],.int .i64 (f a i)])) w'):
  wpList Tryz.prog ops Q (o::rest) s w:=by
 obtain⟨D,lf,h1,h2,h3⟩:=h
 refine wpList_next_ranges (α:=Int×Int) (β:=Int) w hg it hop 153 law (plainElem Tryz.prog 3) (fun x=> .agg #[.int .i64 x.1,.int .i64 x.2]) (Value.int .i64) (fun key l hk=>by obtain⟨x,e,_⟩:=key_inv hk;exact⟨x,e⟩) (fun v y hv=>by obtain⟨c,rfl,_⟩:=plainElem_int_inv Tryz.underlying3 hv;exact⟨c,rfl⟩) B r n D lf cnt hit h1 ?_ ?_
 ·intro h4 h5
  exact hDone h4 (fun a i hw=>by rw[h3 a i hw,h5])
 ·intro x c l y w' cnt' hkey hlk hv hat hrg hlt hgr hsz hen
  obtain⟨⟨a,i⟩,e,hw,rfl⟩:=key_inv hkey
  obtain⟨c',ec,rfl,hwc⟩:=plainElem_int_inv Tryz.underlying3 hv
  cases ec
  obtain⟨x1,x2⟩:=x
  obtain⟨rfl,rfl⟩:x1=a∧x2=i:=by simpa using e
  have ef:f x1 x2=c:=by
   have:=h2.1 x1 x2 hw
   rw[hat] at this
   simpa using this.symm
  subst ef
  refine hMore x1 x2 w' (fun b j=>lf (kl b j)&& !(kl b j).sameKey (kl x1 x2)) cnt' hw hwc (by rw[h3 x1 x2 hw];exact hlk) (fun b j hb=>?_) ⟨D,_,hrg,h2,fun b j _=>rfl⟩ hlt hgr hsz hen
  rw[h3 b j hb]
  congr 2
  by_cases q:b=x1∧j=x2
  ·obtain⟨rfl,rfl⟩:=q
   rw[WideAt.sameKey_self (kl_key hb)]
   simp
  ·rw[Maps.sameKey_ne (fun e=>q (kl_inj hb hw e))]
   simp[q]
end Tab
namespace SOk3
open Bals Triples
theorem sIn(x lo hi:Int)(b:Bool)(w:World)(hb:Says b (lo≤x∧x≤hi)):
  Calls Tryz.prog 34 #[.int .i64 x,.int .i64 lo,.int .i64 hi] w fun e w'=>e= .returned (.bool b)∧w'=w:=by
 by_cases h1:lo≤x
 ·by_cases h2:x≤hi
  ·obtain rfl:b=true:=hb.of ⟨h1,h2⟩
   clear hb
   go_enter Tryz.func34,Tryz.ntmps34
   go_wp2
   go_ret
   exact⟨rfl,rfl⟩
  ·obtain rfl:b=false:=hb.not (fun r=>h2 r.2)
   clear hb
   go_enter Tryz.func34,Tryz.ntmps34
   go_wp2
   go_ret
   exact⟨rfl,rfl⟩
 ·obtain rfl:b=false:=hb.not (fun r=>h1 r.1)
  clear hb
  go_enter Tryz.func34,Tryz.ntmps34
  go_wp2
  go_ret
  exact⟨rfl,rfl⟩
theorem sNo(x:Int)(b:Bool)(w:World)(hb:Says b (NoOk x)):
  Calls Tryz.prog 87 #[.int .i64 x] w fun e w'=>e= .returned (.bool b)∧w'=w:=by
 go_enter Tryz.func87,Tryz.ntmps87
 go_wp2_with fail
 refine(sIn x 1 1000 b _ hb).mono ?_
 rintro e w' ⟨rfl,rfl⟩
 go_wp2
 go_ret
 exact⟨rfl,rfl⟩
theorem sAmt(x:Int)(b:Bool)(w:World)(hb:Says b (Amt x)):
  Calls Tryz.prog 88 #[.int .i64 x] w fun e w'=>e= .returned (.bool b)∧w'=w:=by
 go_enter Tryz.func88,Tryz.ntmps88
 go_wp2_with fail
 refine(sIn x (-1000000000000000) 1000000000000000 b _ hb).mono ?_
 rintro e w' ⟨rfl,rfl⟩
 go_wp2
 go_ret
 exact⟨rfl,rfl⟩
theorem sBefore(a i c j:Int)(b:Bool)(w:World)(hb:Says b (a<c∨(a=c∧i<j))):
  Calls Tryz.prog 89 #[.int .i64 a,.int .i64 i,.int .i64 c,.int .i64 j] w fun e w'=>e= .returned (.bool b)∧w'=w:=by
 by_cases h1:a<c
 ·obtain rfl:b=true:=hb.of (.inl h1)
  clear hb
  go_enter Tryz.func89,Tryz.ntmps89
  go_wp2
  go_ret
  exact⟨rfl,rfl⟩
 ·by_cases h2:a=c
  ·subst h2
   by_cases h3:i<j
   ·obtain rfl:b=true:=hb.of (.inr ⟨rfl,h3⟩)
    clear hb
    go_enter Tryz.func89,Tryz.ntmps89
    go_wp2
    go_ret
    exact⟨rfl,rfl⟩
   ·obtain rfl:b=false:=hb.not (fun r=>by omega)
    clear hb
    go_enter Tryz.func89,Tryz.ntmps89
    go_wp2
    go_ret
    exact⟨rfl,rfl⟩
  ·obtain rfl:b=false:=hb.not (fun r=>by omega)
   clear hb
   go_enter Tryz.func89,Tryz.ntmps89
   go_wp2
   go_ret
   exact⟨rfl,rfl⟩
theorem one_more(w:World)(o:Obj):Below w.heap.size w (w.alloc o):=(Below.refl _ _).alloc (Nat.le_refl _) _
theorem sOk(w:World)(g n cap:Nat)(ps:List T3)(ok:Bool)(hl:ps.length=n)(h20:n≤1048576)(hg:g<w.heap.size)(h:At3 w g ps)(hok:Says ok (Right ps)):
  Calls Tryz.prog 68 #[.slice (some ⟨g,0,none⟩) n cap] w fun e w'=>e= .returned (.bool ok)∧Below w.heap.size w w':=by
 by_cases nn:(160:Int)<(n:Int)
 ·obtain rfl:ok=false:=hok.not (fun r=>by have:=r.1;omega)
  clear hok h
  go_enter Tryz.func68,Tryz.ntmps68
  go_wp2
  go_ret
  exact⟨rfl,Below.refl _ _⟩
 have H:=zh h
 clear h
 go_enter Tryz.func68,Tryz.ntmps68
 go_wp2
 go_loopw [3,4] (fun i _ wr=>∃(k:Nat),k≤n∧i= .int .i64 k∧Below w.heap.size w wr∧Hid (∀i,i<k→RowOk ps i)) (fun i _ _=>n-(intOf i).toNat)
 case atStart=>exact⟨0,by omega,rfl,Below.refl _ _,zh (fun i hi=>absurd hi (by omega))⟩
 case round=>
  obtain⟨k,hk,rfl,hb,HG⟩:=hrel
  by_cases t:k<n
  ·have hA:=(zu H).below hb hg
   obtain⟨e1,e2,e3⟩:=hA k (by omega)
   have e4:0<k→wr.cell? ⟨g,(k-1)*3,none⟩=some (.int .i64 (el3 ps (k-1)).1):=fun k0=>(hA (k-1) (by omega)).1
   have e5:0<k→wr.cell? ⟨g,(k-1)*3+1,none⟩=some (.int .i64 (el3 ps (k-1)).2.1):=fun k0=>(hA (k-1) (by omega)).2.1
   have gs:g<wr.heap.size:=Nat.lt_of_lt_of_le hg hb.size
   have gne:g≠wr.heap.size:=by omega
   clear hA
   have HB:=zh hb
   clear hb
   obtain⟨b1,B1⟩:=says_of (NoOk (el3 ps k).1)
   obtain⟨b2,B2⟩:=says_of (NoOk (el3 ps k).2.1)
   obtain⟨b3,B3⟩:=says_of (Amt (el3 ps k).2.2)
   obtain⟨b4,B4⟩:=says_of ((el3 ps (k-1)).1<(el3 ps k).1∨((el3 ps (k-1)).1=(el3 ps k).1∧(el3 ps (k-1)).2.1<(el3 ps k).2.1))
   have ROW:=zh (show RowOk ps k↔(b1=true)∧(b2=true)∧(b3=true)∧(el3 ps k).2.2≠0∧(0<k→b4=true) from by unfold Says at B1 B2 B3 B4;rw[B1,B2,B3,B4];exact Iff.rfl)
   have BAD:=zh (show ¬RowOk ps k→ok=false from fun hr=>hok.not (fun r=>hr (r.2 k (by omega))))
   have GOOD:=zh (show RowOk ps k→∀i,i<k+1→RowOk ps i from fun hr i hi=>by
    by_cases e:i=k
    ·subst e;exact hr
    ·exact(zu HG) i (by omega))
   generalize (el3 ps k).1=x at *
   generalize (el3 ps k).2.1=y at *
   generalize (el3 ps k).2.2=z at *
   generalize (el3 ps (k-1)).1=u at *
   generalize (el3 ps (k-1)).2.1=v at *
   have NB:=zh (fun m=>next (zu HB) (below_drewN (one_more wr (.cells #[.int .i64 x,.int .i64 y,.int .i64 z] 78)) m))
   cases b1
   ·clear e4 e5 B4
    have OKF:=zh ((zu BAD) (fun hr=>by have:=(zu ROW).1 hr;cases this.1))
    clear BAD GOOD ROW
    go_wp2_with fail
    go_quiet (first|(go_at_call 87;refine Calls.quiet_of_same (sNo _ false _ B1)))
    go_wp2
    go_ret
    exact⟨by rw[zu OKF];rfl,(zu NB) _⟩
   ·cases b2
    ·clear e4 e5 B4
     have OKF:=zh ((zu BAD) (fun hr=>by have:=(zu ROW).1 hr;cases this.2.1))
     clear BAD GOOD ROW
     go_wp2_with fail
     go_quiet (first|(go_at_call 87;refine Calls.quiet_of_same (sNo _ true _ B1))|(go_at_call 87;refine Calls.quiet_of_same (sNo _ false _ B2)))
     go_wp2
     go_ret
     exact⟨by rw[zu OKF];rfl,(zu NB) _⟩
    ·cases b3
     ·clear e4 e5 B4
      have OKF:=zh ((zu BAD) (fun hr=>by have:=(zu ROW).1 hr;cases this.2.2.1))
      clear BAD GOOD ROW
      go_wp2_with fail
      go_quiet (first|(go_at_call 87;refine Calls.quiet_of_same (sNo _ true _ B1))|(go_at_call 87;refine Calls.quiet_of_same (sNo _ true _ B2))|(go_at_call 88;refine Calls.quiet_of_same (sAmt _ false _ B3)))
      go_wp2
      go_ret
      exact⟨by rw[zu OKF];rfl,(zu NB) _⟩
     ·by_cases z0:z=0
      ·subst z0
       clear e4 e5 B4
       have OKF:=zh ((zu BAD) (fun hr=>by have:=(zu ROW).1 hr;exact this.2.2.2.1 rfl))
       clear BAD GOOD ROW
       go_wp2_with fail
       go_quiet (first|(go_at_call 87;refine Calls.quiet_of_same (sNo _ true _ B1))|(go_at_call 87;refine Calls.quiet_of_same (sNo _ true _ B2))|(go_at_call 88;refine Calls.quiet_of_same (sAmt _ true _ B3)))
       go_wp2
       go_ret
       exact⟨by rw[zu OKF];rfl,(zu NB) _⟩
      ·have zb:(z==0)=false:=by simpa using z0
       by_cases k0:0<k
       ·have e4:=e4 k0
        have e5:=e5 k0
        have k1:(0:Int)<(k:Int):=by omega
        have k2:(0:Int)≤(k:Int) -1:=by omega
        have k3:((k:Int) -1).toNat=k-1:=by omega
        have k4:IntKind.i64.wrap ((k:Int) -1)=(k:Int) -1:=by rw[IntKind.wrap_i64];omega
        have k5:(k:Int) -1<(n:Int):=by omega
        cases b4
        ·have OKF:=zh ((zu BAD) (fun hr=>by have:=(zu ROW).1 hr;cases this.2.2.2.2 k0))
         clear BAD GOOD ROW
         go_wp2_with fail
         go_quiet (first|(go_at_call 87;refine Calls.quiet_of_same (sNo _ true _ B1))|(go_at_call 87;refine Calls.quiet_of_same (sNo _ true _ B2))|(go_at_call 88;refine Calls.quiet_of_same (sAmt _ true _ B3))|(go_at_call 89;refine Calls.quiet_of_same (sBefore _ _ _ _ false _ B4)))
         go_wp2
         go_ret
         exact⟨by rw[zu OKF];rfl,(zu NB) _⟩
        ·have GO:=zh ((zu GOOD) ((zu ROW).2 ⟨rfl,rfl,rfl,z0,fun _=>rfl⟩))
         clear BAD GOOD ROW
         go_wp2_with fail
         go_quiet (first|(go_at_call 87;refine Calls.quiet_of_same (sNo _ true _ B1))|(go_at_call 87;refine Calls.quiet_of_same (sNo _ true _ B2))|(go_at_call 88;refine Calls.quiet_of_same (sAmt _ true _ B3))|(go_at_call 89;refine Calls.quiet_of_same (sBefore _ _ _ _ true _ B4)))
         go_wp2
         go_roundw
         case rel=>exact⟨k+1,by omega,by go_num,(zu NB) _,GO⟩
         case measure=>simp[intOf];omega
       ·obtain rfl:k=0:=by omega
        clear e4 e5 B4
        have GO:=zh ((zu GOOD) ((zu ROW).2 ⟨rfl,rfl,rfl,z0,fun h0=>absurd h0 k0⟩))
        clear BAD GOOD ROW
        go_wp2_with fail
        go_quiet (first|(go_at_call 87;refine Calls.quiet_of_same (sNo _ true _ B1))|(go_at_call 87;refine Calls.quiet_of_same (sNo _ true _ B2))|(go_at_call 88;refine Calls.quiet_of_same (sAmt _ true _ B3)))
        go_wp2
        go_roundw
        case rel=>exact⟨1,by omega,by go_num,(zu NB) _,GO⟩
        case measure=>simp[intOf];omega
  ·obtain rfl:k=n:=by omega
   obtain rfl:ok=true:=hok.of ⟨by omega,by rw[hl];exact zu HG⟩
   have HB:=zh hb
   clear hb hok
   go_wp2
   go_ret
   exact⟨rfl,zu HB⟩
end SOk3
namespace Look
open Bals Triples Cmp SOk3 IOk3 Tab
theorem drop_next{ps:List T3}{k:Nat}(h:k<ps.length):ps.drop k=el3 ps k::ps.drop (k+1):=by
 rw[List.drop_eq_getElem_cons h]
 simp[el3,List.getD,h]
theorem val_hit{ps:List T3}{k:Nat}{a i:Int}(h:k<ps.length)(e:(el3 ps k).1=a∧(el3 ps k).2.1=i):val (ps.drop k) a i=(el3 ps k).2.2:=by
 rw[drop_next h]
 unfold val
 rw[if_pos e]
theorem val_miss{ps:List T3}{k:Nat}{a i:Int}(h:k<ps.length)(e:¬((el3 ps k).1=a∧(el3 ps k).2.1=i)):val (ps.drop k) a i=val (ps.drop (k+1)) a i:=by
 rw[drop_next h,val,if_neg e]
theorem sOf(w:World)(g n cap:Nat)(ps:List T3)(a i:Int)(hl:ps.length=n)(h20:n≤1048576)(h:At3 w g ps):
  Calls Tryz.prog 96 #[.slice (some ⟨g,0,none⟩) n cap,.int .i64 a,.int .i64 i] w fun e w'=>e= .returned (.int .i64 (val ps a i))∧w'=w:=by
 go_enter Tryz.func96,Tryz.ntmps96
 go_wp2
 go_loop [7] (fun j=>∃(k:Nat),k≤n∧j= .int .i64 k∧Hid (val ps a i=val (ps.drop k) a i)) (fun j=>n-(intOf j).toNat)
 case atStart=>exact⟨0,by omega,rfl,zh rfl⟩
 case round=>
  obtain⟨k,hk,rfl,HV⟩:=hrel
  by_cases t:k<n
  ·obtain⟨e1,e2,e3⟩:=h k (by omega)
   have HIT:=zh (val_hit (ps:=ps) (k:=k) (a:=a) (i:=i) (by omega))
   have MISS:=zh (val_miss (ps:=ps) (k:=k) (a:=a) (i:=i) (by omega))
   clear h
   generalize (el3 ps k).1=x at *
   generalize (el3 ps k).2.1=y at *
   generalize (el3 ps k).2.2=z at *
   by_cases c1:x=a
   ·by_cases c2:y=i
    ·have V:=zh ((zu HV).trans ((zu HIT) ⟨c1,c2⟩))
     clear HIT MISS HV
     subst c1 c2
     go_wp2
     go_ret
     exact⟨by rw[zu V];rfl,rfl⟩
    ·have V:=zh ((zu HV).trans ((zu MISS) (fun r=>c2 r.2)))
     clear HIT MISS HV
     have c2b:(y==i)=false:=by simpa using c2
     subst c1
     go_wp2
     go_round
     case rel=>exact⟨k+1,by omega,by go_num,V⟩
     case measure=>simp[intOf];omega
   ·have V:=zh ((zu HV).trans ((zu MISS) (fun r=>c1 r.1)))
    clear HIT MISS HV
    have c1b:(x==a)=false:=by simpa using c1
    go_wp2
    go_round
    case rel=>exact⟨k+1,by omega,by go_num,V⟩
    case measure=>simp[intOf];omega
  ·obtain rfl:k=n:=by omega
   have V:=zh ((zu HV).trans (show val (ps.drop k) a i=0 by rw[List.drop_of_length_le (by omega)];rfl))
   clear HV h
   go_wp2
   go_ret
   exact⟨by rw[zu V];rfl,rfl⟩
theorem val_more(p:T3):∀(l:List T3),(∀q∈l,Bef q p)→∀a i,val (l++[p]) a i=upd (val l) p.1 p.2.1 p.2.2 a i
 |[],_,a,i=>by
  unfold upd
  simp only[List.nil_append,val]
  by_cases e:p.1=a∧p.2.1=i
  ·rw[if_pos e,if_pos ⟨e.1.symm,e.2.symm⟩]
  ·rw[if_neg e,if_neg (fun r=>e ⟨r.1.symm,r.2.symm⟩)]
 |q::r,h,a,i=>by
  have ih:=val_more p r (fun x hx=>h x (List.mem_cons_of_mem _ hx)) a i
  have b:=h q List.mem_cons_self
  unfold upd at ih⊢
  simp only[List.cons_append,val,ih]
  by_cases e:q.1=a∧q.2.1=i
  ·rw[if_pos e,if_pos e,if_neg (fun r=>by unfold Bef at b;omega)]
  ·rw[if_neg e,if_neg e]
theorem val_take{ps:List T3}(h:Right ps){k:Nat}(hk:k<ps.length):∀a i,val (ps.take (k+1)) a i=upd (val (ps.take k)) (el3 ps k).1 (el3 ps k).2.1 (el3 ps k).2.2 a i:=by
 rw[take_next hk]
 refine val_more _ _ (fun q hq=>?_)
 obtain⟨j,hj,rfl⟩:=mem_getD hq
 have hj':j<k:=by simp at hj;omega
 have:=h.asc k j hj' hk
 simpa[el3,List.getD,hj',show j<ps.length by omega] using this
theorem sTold(x:Int)(b c:Bool)(r:Int)(w:World)(h:(b=true∧Amt x∧r=x∧c=true)∨(¬(b=true∧Amt x)∧r=0∧c=false)):
  Calls Tryz.prog 107 #[.int .i64 x,.bool b] w fun e w'=>e= .returned (.tuple #[.int .i64 r,.bool c])∧w'=w:=by
 obtain⟨d,D⟩:=says_of (Amt x)
 cases b
 ·rcases h with⟨h1,_⟩|⟨_,rfl,rfl⟩
  ·cases h1
  ·go_enter Tryz.func107,Tryz.ntmps107
   go_wp2
   go_ret2
   exact⟨rfl,rfl⟩
 ·cases d
  ·rcases h with⟨_,h1,_⟩|⟨_,rfl,rfl⟩
   ·exact absurd h1 D.no
   ·go_enter Tryz.func107,Tryz.ntmps107
    go_wp2_with fail
    refine(sAmt x false _ D).mono ?_
    rintro e w1 ⟨rfl,rfl⟩
    go_wp2
    go_ret2
    exact⟨rfl,rfl⟩
  ·rcases h with⟨_,h1,rfl,rfl⟩|⟨h1,_⟩
   ·clear h1
    go_enter Tryz.func107,Tryz.ntmps107
    go_wp2_with fail
    refine(sAmt r true _ D).mono ?_
    rintro e w1 ⟨rfl,rfl⟩
    go_wp2
    go_ret2
    exact⟨rfl,rfl⟩
   ·exact absurd ⟨rfl,D.yes⟩ h1
theorem iOnly(x:Int)(c:Bool)(r:Int)(w:World)(h:(Amt x∧r=x∧c=true)∨(¬Amt x∧r=0∧c=false)):
  Calls Tryz.prog 138 #[.int .i64 x] w fun e w'=>e= .returned (.tuple #[.int .i64 r,.bool c])∧w'=w:=by
 obtain⟨d,D⟩:=says_of (Amt x)
 cases d
 ·rcases h with⟨h1,_⟩|⟨_,rfl,rfl⟩
  ·exact absurd h1 D.no
  ·go_enter Tryz.func138,Tryz.ntmps138
   go_wp2_with fail
   refine(iAmt x false _ D).mono ?_
   rintro e w1 ⟨rfl,rfl⟩
   go_wp2
   go_ret2
   exact⟨rfl,rfl⟩
 ·rcases h with⟨h1,rfl,rfl⟩|⟨h1,_⟩
  ·clear h1
   go_enter Tryz.func138,Tryz.ntmps138
   go_wp2_with fail
   refine(iAmt r true _ D).mono ?_
   rintro e w1 ⟨rfl,rfl⟩
   go_wp2
   go_ret2
   exact⟨rfl,rfl⟩
  ·exact absurd D.yes h1
theorem sum_near{ps:List T3}(i:Int)(hl:ps.length≤160)(h:∀j,j<ps.length→Amt (el3 ps j).2.2)(k:Nat)(hk:k≤ps.length): -200000000000000000≤sumI (ps.take k) i∧sumI (ps.take k) i≤200000000000000000:=by
 have:=sumI_bound i h k hk
 omega
theorem sSum(w:World)(g n cap:Nat)(ps:List T3)(i r:Int)(c:Bool)(hl:ps.length=n)(h20:n≤1048576)(hg:g<w.heap.size)(h:At3 w g ps)(hs:IsSum ps i r c):
  Calls Tryz.prog 93 #[.slice (some ⟨g,0,none⟩) n cap,.int .i64 i] w fun e w'=>e= .returned (.tuple #[.int .i64 r,.bool c])∧Below w.heap.size w w':=by
 obtain⟨ok,OK⟩:=says_of (Right ps)
 have H:=zh h
 have HS:=zh hs
 clear h hs
 go_enter Tryz.func93,Tryz.ntmps93
 go_wp2
 go_loopw [6,7] (fun s j wr=>∃(k:Nat),k≤n∧j= .int .i64 k∧s= .int .i64 (sumI (ps.take k) i)∧Below w.heap.size w wr∧(ok=false→k=0)) (fun _ j _=>n-(intOf j).toNat)
 case atStart=>exact⟨0,by omega,rfl,rfl,Below.refl _ _,fun _=>rfl⟩
 case round=>
  obtain⟨k,hk,rfl,rfl,hb,hf⟩:=hrel
  have A:=zh ((zu H).below hb hg)
  have HB:=zh hb
  have sz:=hb.size
  clear hb
  cases ok
  ·obtain rfl:k=0:=hf rfl
   by_cases t:0<n
   ·go_wp2_with fail
    refine(sOk _ g n cap ps false hl h20 (by omega) (zu A) OK).mono ?_
    rintro e w1 ⟨rfl,b1⟩
    have A1:=zh ((zu A).below b1 (by omega))
    have B1:=zh (next (zu HB) b1)
    have s1:=b1.size
    clear b1
    have z0:sumI [] i=0:=rfl
    rw[z0]
    go_wp2_with fail
    refine(sOk _ g n cap ps false hl h20 (by omega) (zu A1) OK).mono ?_
    rintro e w2 ⟨rfl,b2⟩
    have B2:=zh (next (zu B1) b2)
    clear b2
    go_wp2_with fail
    refine(sTold 0 false c r _ (by
     rcases zu HS with⟨h1,_⟩|⟨_,h2,h3⟩
     ·exact absurd h1 OK.no
     ·exact .inr ⟨fun q=>(by have:=q.1;cases this),h2,h3⟩)).mono ?_
    rintro e w3 ⟨rfl,rfl⟩
    go_wp2
    go_ret2
    exact⟨rfl,zu B2⟩
   ·exact absurd (show Right ps from⟨by omega,fun i hi=>by omega⟩) OK.no
  ·have RB:=zh (fun k hk=>sum_near (ps:=ps) i OK.yes.1 (fun j hj=>(OK.yes.2 j hj).2.2.1) k hk)
   by_cases t:k<n
   ·go_wp2_with fail
    refine(sOk _ g n cap ps true hl h20 (by omega) (zu A) OK).mono ?_
    rintro e w1 ⟨rfl,b1⟩
    obtain⟨e1,e2,e3⟩:=((zu A).below b1 (by omega)) k (by omega)
    have B1:=zh (next (zu HB) b1)
    clear b1
    have SN:=zh (sumI_next (ps:=ps) (k:=k) (by omega) i)
    have R1:=zh ((zu RB) (k+1) (by omega))
    rw[zu SN] at R1
    generalize (el3 ps k).1=x at *
    generalize (el3 ps k).2.1=y at *
    generalize (el3 ps k).2.2=z at *
    generalize sumI (ps.take k) i=S at *
    by_cases c1:y=i
    ·rw[if_pos c1] at SN R1
     have R2:=zu R1
     have wr1:IntKind.i64.wrap (S+z)=S+z:=by rw[IntKind.wrap_i64];omega
     clear R2
     subst c1
     go_wp2
     go_roundw
     case rel=>exact⟨k+1,by omega,by go_num,by rw[zu SN],zu B1,fun q=>by cases q⟩
     case measure=>simp[intOf];omega
    ·rw[if_neg c1] at SN R1
     have c1b:(y==i)=false:=by simpa using c1
     have SN:=zh ((zu SN).trans (Int.add_zero S))
     go_wp2
     go_roundw
     case rel=>exact⟨k+1,by omega,by go_num,by rw[zu SN],zu B1,fun q=>by cases q⟩
     case measure=>simp[intOf];omega
   ·obtain rfl:k=n:=by omega
    have e0:sumI (ps.take k) i=sumI ps i:=by rw[List.take_of_length_le (by omega)]
    rw[e0]
    clear e0
    go_wp2_with fail
    refine(sOk _ g k cap ps true hl h20 (by omega) (zu A) OK).mono ?_
    rintro e w2 ⟨rfl,b2⟩
    have B2:=zh (next (zu HB) b2)
    clear b2
    go_wp2_with fail
    refine(sTold (sumI ps i) true c r _ (by
     rcases zu HS with⟨h1,h2,h3,h4⟩|⟨h1,h2,h3⟩
     ·exact .inl ⟨rfl,h2,h3,h4⟩
     ·exact .inr ⟨fun q=>h1 ⟨OK.yes,q.2⟩,h2,h3⟩)).mono ?_
    rintro e w3 ⟨rfl,rfl⟩
    go_wp2
    go_ret2
    exact⟨rfl,zu B2⟩
theorem iSum(w:World)(g n cap:Nat)(ps:List T3)(i r:Int)(c:Bool)(hl:ps.length=n)(h20:n≤1048576)(hg:g<w.heap.size)(h:At3 w g ps)(hs:IsSum ps i r c):
  Calls Tryz.prog 116 #[.slice (some ⟨g,0,none⟩) n cap,.int .i64 i] w fun e w'=>e= .returned (.tuple #[.int .i64 r,.bool c])∧Below w.heap.size w w':=by
 obtain⟨ok,OK⟩:=says_of (Right ps)
 have H:=zh h
 have HS:=zh hs
 clear h hs
 go_enter Tryz.func116,Tryz.ntmps116
 go_wp2_with fail
 refine(iOk _ g n cap ps ok hl h20 hg (zu H) OK).mono ?_
 rintro e w1 ⟨rfl,b1⟩
 have B1:=zh b1
 clear b1
 cases ok
 ·obtain⟨rfl,rfl⟩:r=0∧c=false:=by
   rcases zu HS with⟨h1,_⟩|⟨_,h2,h3⟩
   ·exact absurd h1 OK.no
   ·exact⟨h2,h3⟩
  go_wp2
  go_ret2
  exact⟨rfl,zu B1⟩
 have RB:=zh (fun k hk=>sum_near (ps:=ps) i OK.yes.1 (fun j hj=>(OK.yes.2 j hj).2.2.1) k hk)
 go_wp2
 go_loopw [6,8,14] (fun s _ j wr=>∃(k:Nat),k≤n∧j= .int .i64 k∧s= .int .i64 (sumI (ps.take k) i)∧Below w.heap.size w wr) (fun _ _ j _=>n-(intOf j).toNat)
 case atStart=>exact⟨0,by omega,rfl,rfl,zu B1⟩
 case round=>
  obtain⟨k,hk,rfl,rfl,hb⟩:=hrel
  have A:=zh ((zu H).below hb hg)
  have HB:=zh hb
  clear hb
  by_cases t:k<n
  ·obtain⟨e1,e2,e3⟩:=(zu A) k (by omega)
   have SN:=zh (sumI_next (ps:=ps) (k:=k) (by omega) i)
   have R1:=zh ((zu RB) (k+1) (by omega))
   rw[zu SN] at R1
   generalize (el3 ps k).1=x at *
   generalize (el3 ps k).2.1=y at *
   generalize (el3 ps k).2.2=z at *
   generalize sumI (ps.take k) i=S at *
   have NB:=zh ((zu HB).alloc (zu HB).size (.cells #[.int .i64 x,.int .i64 y,.int .i64 z] 78))
   by_cases c1:y=i
   ·rw[if_pos c1] at SN R1
    have R2:=zu R1
    have wr1:IntKind.i64.wrap (S+z)=S+z:=by rw[IntKind.wrap_i64];omega
    clear R2
    subst c1
    go_wp2
    go_roundw
    case rel=>exact⟨k+1,by omega,by go_num,by rw[zu SN],zu NB⟩
    case measure=>simp[intOf];omega
   ·rw[if_neg c1] at SN R1
    have c1b:(y==i)=false:=by simpa using c1
    have SN:=zh ((zu SN).trans (Int.add_zero S))
    go_wp2
    go_roundw
    case rel=>exact⟨k+1,by omega,by go_num,by rw[zu SN],zu NB⟩
    case measure=>simp[intOf];omega
  ·obtain rfl:k=n:=by omega
   have e0:sumI (ps.take k) i=sumI ps i:=by rw[List.take_of_length_le (by omega)]
   rw[e0]
   clear e0
   go_wp2_with fail
   refine(iOnly (sumI ps i) c r _ (by
    rcases zu HS with⟨h1,h2,h3,h4⟩|⟨h1,h2,h3⟩
    ·exact .inl ⟨h2,h3,h4⟩
    ·exact .inr ⟨fun q=>h1 ⟨OK.yes,q⟩,h2,h3⟩)).mono ?_
   rintro e w3 ⟨rfl,rfl⟩
   go_wp2
   go_ret2
   exact⟨rfl,zu HB⟩
theorem sum_is(ps:List T3)(i:Int):∃r c,IsSum ps i r c:=by
 by_cases h:Right ps∧Amt (sumI ps i)
 ·exact⟨_,_,.inl ⟨h.1,h.2,rfl,rfl⟩⟩
 ·exact⟨_,_,.inr ⟨h,rfl,rfl⟩⟩
end Look
namespace IBalsFit
open BMem Bks IRead IHave ITrade ILists
open Lots (Says says_of NoOk)
open Bals (T3 el3 val sumI)
open Triples (At3 Holds3)
theorem all_one{p:Int→Prop}{y:Int}{b:Bool}(h:Says b (p y)):Says b (∀z∈[y],p z):=by
 constructor
 ·intro e z hz
  simp at hz
  subst hz
  exact h.1 e
 ·intro e
  exact h.2 (e y (by simp))
structure St(w W:World)(x:Bx):Prop where
 r:Rd W x
 c:Cl W w.heap.size x
 b:Below w.heap.size w W
 s:w.heap.size<W.heap.size
theorem St.step{w W W':World}{x:Bx}(h:St w W x)(k:Below W.heap.size W W'):St w W' x:=
 ⟨h.r.below k,h.c.below k h.s,h.b.trans (k.mono (Nat.le_of_lt h.s)),Nat.lt_of_lt_of_le h.s k.size⟩
theorem St.start{w:World}{x:Bx}(h:Rd w x)(e:TypeId):St w (w.alloc (.cells #[.slice (some ⟨x.ga,0,none⟩) x.b.ac.length x.ca,.slice (some ⟨x.gi,0,none⟩) x.b.ic.length x.ci,.slice (some ⟨x.gb,0,none⟩) x.b.bs.length x.cb,.slice (some ⟨x.gl,0,none⟩) x.b.ls.length x.cl,.slice (some ⟨x.gt,0,none⟩) x.b.ts.length x.ct,.int .i64 x.b.lot] e)) x:=
 ⟨h.alloc _,boxed w x e,(Below.refl w.heap.size w).alloc (Nat.le_refl _) _,by simp⟩
theorem one_more(w:World)(o:Obj):Below w.heap.size w (w.alloc o):=(Below.refl _ _).alloc (Nat.le_refl _) _
end IBalsFit
namespace AccountSOk
open Pairs Chart
def Tells(b:Bool)(x lo hi:Int):Prop:=b=true↔lo≤x∧x≤hi
theorem tells_of(x lo hi:Int):∃b,Tells b x lo hi:=bool_of _
theorem sIn(x lo hi:Int)(b:Bool)(w:World)(hb:Tells b x lo hi):
  Calls Tryz.prog 34 #[.int .i64 x,.int .i64 lo,.int .i64 hi] w fun e w'=>e= .returned (.bool b)∧w'=w:=by
 cases b
 ·have H:=zh (show lo≤x→¬x≤hi from fun h1 h2=>Bool.noConfusion ((zu hb).2 ⟨h1,h2⟩))
  clear hb
  by_cases h1:lo≤x
  ·have h2:=(zu H) h1
   clear H
   go_enter Tryz.func34,Tryz.ntmps34
   go_wp2
   go_ret
   exact⟨rfl,rfl⟩
  ·clear H
   go_enter Tryz.func34,Tryz.ntmps34
   go_wp2
   go_ret
   exact⟨rfl,rfl⟩
 ·obtain⟨h1,h2⟩:=(zu hb).1 rfl
  clear hb
  go_enter Tryz.func34,Tryz.ntmps34
  go_wp2
  go_ret
  exact⟨rfl,rfl⟩
theorem sNo(x:Int)(b:Bool)(w:World)(hb:Tells b x 1 1000):
  Calls Tryz.prog 87 #[.int .i64 x] w fun e w'=>e= .returned (.bool b)∧w'=w:=by
 go_enter Tryz.func87,Tryz.ntmps87
 go_wp2_with fail
 refine(sIn x 1 1000 b _ hb).mono ?_
 rintro e w' ⟨rfl,rfl⟩
 go_wp2
 go_ret
 exact⟨rfl,rfl⟩
theorem drewN_more{w wr:World}(h:∃q,wr=w.drewN q)(m:Nat):∃q,wr.drewN m=w.drewN q:=by
 obtain⟨q,rfl⟩:=h
 exact⟨q+m,World.drewN_drewN ..⟩
theorem sOk(w:World)(g n cap:Nat)(ps:List (Int×Int))(ok:Bool)(hl:ps.length=n)(h20:n≤1048576)(h:At w g ps)(hok:Says ok 20 4 ps):
  Calls Tryz.prog 66 #[.slice (some ⟨g,0,none⟩) n cap] w fun e w'=>e= .returned (.bool ok)∧∃q,w'=w.drewN q:=by
 by_cases nn:(20:Int)<(n:Int)
 ·obtain rfl:ok=false:=hok.not (fun r=>by have:=r.1;omega)
  clear hok h
  go_enter Tryz.func66,Tryz.ntmps66
  go_wp2
  go_ret
  exact⟨rfl,0,rfl⟩
 go_enter Tryz.func66,Tryz.ntmps66
 go_wp2
 go_loopw [3] (fun i wr=>∃(k:Nat),k≤n∧i= .int .i64 k∧At wr g ps∧Hid (∃q,wr=w.drewN q)∧Hid (∀i,i<k→RowOk 4 ps i)) (fun i _=>n-(intOf i).toNat)
 case atStart=>exact⟨0,by omega,rfl,h,zh ⟨0,rfl⟩,zh (fun i hi=>absurd hi (by omega))⟩
 case round=>
  clear h
  obtain⟨k,hk,rfl,h,HQ,HG⟩:=hrel
  by_cases t:k<n
  ·obtain⟨e1,e2⟩:=h k (by omega)
   have e3:0<k→wr.cell? ⟨g,(k-1)*2,none⟩=some (.int .i64 (el ps (k-1)).1):=fun k0=>(h (k-1) (by omega)).1
   obtain⟨b1,B1⟩:=tells_of (el ps k).1 1 1000
   obtain⟨b2,B2⟩:=tells_of (el ps k).2 1 4
   have ROW:=zh (show RowOk 4 ps k↔(b1=true)∧(b2=true)∧(0<k→(el ps (k-1)).1<(el ps k).1) from by unfold Tells at B1 B2;rw[B1,B2];exact Iff.rfl)
   have HA:=zh h
   clear h
   have BAD:=zh (show ¬RowOk 4 ps k→ok=false from fun hr=>hok.not (fun r=>hr (r.2 k (by omega))))
   have GOOD:=zh (show RowOk 4 ps k→∀i,i<k+1→RowOk 4 ps i from fun hr i hi=>by
    by_cases e:i=k
    ·subst e;exact hr
    ·exact(zu HG) i (by omega))
   generalize (el ps k).1=x at *
   generalize (el ps k).2=y at *
   cases b1
   ·have OKF:=zh ((zu BAD) (fun hr=>by have:=((zu ROW).1 hr).1;cases this))
    clear BAD GOOD ROW e3
    go_wp2_with fail
    go_quiet (first|(go_at_call 87;refine Calls.quiet_of_same (sNo _ false _ B1)))
    go_wp2
    go_ret
    exact⟨by rw[zu OKF];rfl,drewN_more (zu HQ) _⟩
   ·cases b2
    ·have OKF:=zh ((zu BAD) (fun hr=>by have:=((zu ROW).1 hr).2.1;cases this))
     clear BAD GOOD ROW e3
     go_wp2_with fail
     go_quiet (first|(go_at_call 87;refine Calls.quiet_of_same (sNo _ true _ B1))|(go_at_call 34;refine Calls.quiet_of_same (sIn _ _ _ false _ B2)))
     go_wp2
     go_ret
     exact⟨by rw[zu OKF];rfl,drewN_more (zu HQ) _⟩
    ·by_cases k0:0<k
     ·have e3:=e3 k0
      have k1:(0:Int)<(k:Int):=by omega
      have k2:(0:Int)≤(k:Int) -1:=by omega
      have k3:((k:Int) -1).toNat=k-1:=by omega
      by_cases lt:(el ps (k-1)).1<x
      ·have GO:=zh ((zu GOOD) ((zu ROW).2 ⟨rfl,rfl,fun _=>lt⟩))
       clear BAD GOOD ROW
       have ge:¬x≤(el ps (k-1)).1:=by omega
       generalize (el ps (k-1)).1=z at *
       go_wp2_with fail
       go_quiet (first|(go_at_call 87;refine Calls.quiet_of_same (sNo _ true _ B1))|(go_at_call 34;refine Calls.quiet_of_same (sIn _ _ _ true _ B2)))
       go_wp2
       go_roundw
       case rel=>exact⟨k+1,by omega,by go_num,zu HA,zh (drewN_more (zu HQ) _),GO⟩
       case measure=>simp[intOf];omega
      ·have OKF:=zh ((zu BAD) (fun hr=>lt (((zu ROW).1 hr).2.2 k0)))
       clear BAD GOOD ROW
       have ge:x≤(el ps (k-1)).1:=by omega
       generalize (el ps (k-1)).1=z at *
       go_wp2_with fail
       go_quiet (first|(go_at_call 87;refine Calls.quiet_of_same (sNo _ true _ B1))|(go_at_call 34;refine Calls.quiet_of_same (sIn _ _ _ true _ B2)))
       go_wp2
       go_ret
       exact⟨by rw[zu OKF];rfl,drewN_more (zu HQ) _⟩
     ·obtain rfl:k=0:=by omega
      have GO:=zh ((zu GOOD) ((zu ROW).2 ⟨rfl,rfl,fun h0=>absurd h0 k0⟩))
      clear BAD GOOD ROW e3
      go_wp2_with fail
      go_quiet (first|(go_at_call 87;refine Calls.quiet_of_same (sNo _ true _ B1))|(go_at_call 34;refine Calls.quiet_of_same (sIn _ _ _ true _ B2)))
      go_wp2
      go_roundw
      case rel=>exact⟨1,by omega,by go_num,zu HA,zh (drewN_more (zu HQ) _),GO⟩
      case measure=>simp[intOf];omega
  ·obtain rfl:k=n:=by omega
   obtain rfl:ok=true:=hok.of ⟨by omega,by rw[hl];exact zu HG⟩
   clear h hok
   go_wp2
   go_ret
   exact⟨rfl,zu HQ⟩
theorem sKind(w:World)(g n cap:Nat)(ps:List (Int×Int))(no:Int)(hl:ps.length=n)(h20:n≤1048576)(h:At w g ps):
  Calls Tryz.prog 73 #[.slice (some ⟨g,0,none⟩) n cap,.int .i64 no] w fun e w'=>∃r,IsKind 20 4 ps no r∧e= .returned (.int .i64 r)∧∃q,w'=w.drewN q:=by
 obtain⟨ok,OK⟩:=says_of 20 4 ps
 go_enter Tryz.func73,Tryz.ntmps73
 go_wp2
 go_loopw [5] (fun i wr=>∃(k:Nat),k≤n∧i= .int .i64 k∧At wr g ps∧Hid (∃q,wr=w.drewN q)∧Hid (∀i,i<k→(el ps i).1≠no)) (fun i _=>n-(intOf i).toNat)
 case atStart=>exact⟨0,by omega,rfl,h,zh ⟨0,rfl⟩,zh (fun i hi=>absurd hi (by omega))⟩
 case round=>
  clear h
  obtain⟨k,hk,rfl,h,HQ,HG⟩:=hrel
  by_cases t:k<n
  ·obtain⟨e1,e2⟩:=h k (by omega)
   have HA:=zh h
   clear h
   have GO:=zh (show(el ps k).1≠no→∀i,i<k+1→(el ps i).1≠no from fun hn i hi=>by
    by_cases e:i=k
    ·subst e;exact hn
    ·exact(zu HG) i (by omega))
   have YES:=zh (show ok=true→(el ps k).1=no→IsKind 20 4 ps no (el ps k).2 from fun ho he=> .inl ⟨OK.1 ho,k,by omega,he,rfl⟩)
   generalize (el ps k).1=x at *
   generalize (el ps k).2=y at *
   cases ok
   ·go_wp2_with fail
    refine(sOk _ _ _ _ ps false hl h20 (zu HA) OK).mono ?_
    rintro e w2 ⟨rfl,nq,rfl⟩
    go_wp2
    go_ret
    exact⟨0,.inr ⟨.inl OK.no,rfl⟩,rfl,drewN_more (zu HQ) _⟩
   ·go_wp2_with fail
    refine(sOk _ _ _ _ ps true hl h20 (zu HA) OK).mono ?_
    rintro e w2 ⟨rfl,nq,rfl⟩
    by_cases eq:x=no
    ·have Y:=zh ((zu YES) (by trivial) eq)
     clear YES GO
     subst eq
     go_wp2
     go_ret
     exact⟨y,zu Y,rfl,drewN_more (zu HQ) _⟩
    ·have eqb:(x==no)=false:=by simpa using eq
     have G:=zh ((zu GO) eq)
     clear YES GO
     go_wp2
     go_roundw
     case rel=>exact⟨k+1,by omega,by go_num,zu HA,zh (drewN_more (zu HQ) _),G⟩
     case measure=>simp[intOf];omega
  ·obtain rfl:k=n:=by omega
   have K0:=zh (show IsKind 20 4 ps no 0 from .inr ⟨.inr (fun i hi=>(zu HG) i (by omega)),rfl⟩)
   clear h
   go_wp2
   go_ret
   exact⟨0,zu K0,rfl,zu HQ⟩
end AccountSOk
namespace InstrSOk
open Pairs Chart
def Tells(b:Bool)(x lo hi:Int):Prop:=b=true↔lo≤x∧x≤hi
theorem tells_of(x lo hi:Int):∃b,Tells b x lo hi:=bool_of _
theorem sIn(x lo hi:Int)(b:Bool)(w:World)(hb:Tells b x lo hi):
  Calls Tryz.prog 34 #[.int .i64 x,.int .i64 lo,.int .i64 hi] w fun e w'=>e= .returned (.bool b)∧w'=w:=by
 cases b
 ·have H:=zh (show lo≤x→¬x≤hi from fun h1 h2=>Bool.noConfusion ((zu hb).2 ⟨h1,h2⟩))
  clear hb
  by_cases h1:lo≤x
  ·have h2:=(zu H) h1
   clear H
   go_enter Tryz.func34,Tryz.ntmps34
   go_wp2
   go_ret
   exact⟨rfl,rfl⟩
  ·clear H
   go_enter Tryz.func34,Tryz.ntmps34
   go_wp2
   go_ret
   exact⟨rfl,rfl⟩
 ·obtain⟨h1,h2⟩:=(zu hb).1 rfl
  clear hb
  go_enter Tryz.func34,Tryz.ntmps34
  go_wp2
  go_ret
  exact⟨rfl,rfl⟩
theorem sNo(x:Int)(b:Bool)(w:World)(hb:Tells b x 1 1000):
  Calls Tryz.prog 87 #[.int .i64 x] w fun e w'=>e= .returned (.bool b)∧w'=w:=by
 go_enter Tryz.func87,Tryz.ntmps87
 go_wp2_with fail
 refine(sIn x 1 1000 b _ hb).mono ?_
 rintro e w' ⟨rfl,rfl⟩
 go_wp2
 go_ret
 exact⟨rfl,rfl⟩
theorem drewN_more{w wr:World}(h:∃q,wr=w.drewN q)(m:Nat):∃q,wr.drewN m=w.drewN q:=by
 obtain⟨q,rfl⟩:=h
 exact⟨q+m,World.drewN_drewN ..⟩
theorem sOk(w:World)(g n cap:Nat)(ps:List (Int×Int))(ok:Bool)(hl:ps.length=n)(h20:n≤1048576)(h:At w g ps)(hok:Says ok 8 2 ps):
  Calls Tryz.prog 67 #[.slice (some ⟨g,0,none⟩) n cap] w fun e w'=>e= .returned (.bool ok)∧∃q,w'=w.drewN q:=by
 by_cases nn:(8:Int)<(n:Int)
 ·obtain rfl:ok=false:=hok.not (fun r=>by have:=r.1;omega)
  clear hok h
  go_enter Tryz.func67,Tryz.ntmps67
  go_wp2
  go_ret
  exact⟨rfl,0,rfl⟩
 go_enter Tryz.func67,Tryz.ntmps67
 go_wp2
 go_loopw [3] (fun i wr=>∃(k:Nat),k≤n∧i= .int .i64 k∧At wr g ps∧Hid (∃q,wr=w.drewN q)∧Hid (∀i,i<k→RowOk 2 ps i)) (fun i _=>n-(intOf i).toNat)
 case atStart=>exact⟨0,by omega,rfl,h,zh ⟨0,rfl⟩,zh (fun i hi=>absurd hi (by omega))⟩
 case round=>
  clear h
  obtain⟨k,hk,rfl,h,HQ,HG⟩:=hrel
  by_cases t:k<n
  ·obtain⟨e1,e2⟩:=h k (by omega)
   have e3:0<k→wr.cell? ⟨g,(k-1)*2,none⟩=some (.int .i64 (el ps (k-1)).1):=fun k0=>(h (k-1) (by omega)).1
   obtain⟨b1,B1⟩:=tells_of (el ps k).1 1 1000
   obtain⟨b2,B2⟩:=tells_of (el ps k).2 1 2
   have ROW:=zh (show RowOk 2 ps k↔(b1=true)∧(b2=true)∧(0<k→(el ps (k-1)).1<(el ps k).1) from by unfold Tells at B1 B2;rw[B1,B2];exact Iff.rfl)
   have HA:=zh h
   clear h
   have BAD:=zh (show ¬RowOk 2 ps k→ok=false from fun hr=>hok.not (fun r=>hr (r.2 k (by omega))))
   have GOOD:=zh (show RowOk 2 ps k→∀i,i<k+1→RowOk 2 ps i from fun hr i hi=>by
    by_cases e:i=k
    ·subst e;exact hr
    ·exact(zu HG) i (by omega))
   generalize (el ps k).1=x at *
   generalize (el ps k).2=y at *
   cases b1
   ·have OKF:=zh ((zu BAD) (fun hr=>by have:=((zu ROW).1 hr).1;cases this))
    clear BAD GOOD ROW e3
    go_wp2_with fail
    go_quiet (first|(go_at_call 87;refine Calls.quiet_of_same (sNo _ false _ B1)))
    go_wp2
    go_ret
    exact⟨by rw[zu OKF];rfl,drewN_more (zu HQ) _⟩
   ·cases b2
    ·have OKF:=zh ((zu BAD) (fun hr=>by have:=((zu ROW).1 hr).2.1;cases this))
     clear BAD GOOD ROW e3
     go_wp2_with fail
     go_quiet (first|(go_at_call 87;refine Calls.quiet_of_same (sNo _ true _ B1))|(go_at_call 34;refine Calls.quiet_of_same (sIn _ _ _ false _ B2)))
     go_wp2
     go_ret
     exact⟨by rw[zu OKF];rfl,drewN_more (zu HQ) _⟩
    ·by_cases k0:0<k
     ·have e3:=e3 k0
      have k1:(0:Int)<(k:Int):=by omega
      have k2:(0:Int)≤(k:Int) -1:=by omega
      have k3:((k:Int) -1).toNat=k-1:=by omega
      by_cases lt:(el ps (k-1)).1<x
      ·have GO:=zh ((zu GOOD) ((zu ROW).2 ⟨rfl,rfl,fun _=>lt⟩))
       clear BAD GOOD ROW
       have ge:¬x≤(el ps (k-1)).1:=by omega
       generalize (el ps (k-1)).1=z at *
       go_wp2_with fail
       go_quiet (first|(go_at_call 87;refine Calls.quiet_of_same (sNo _ true _ B1))|(go_at_call 34;refine Calls.quiet_of_same (sIn _ _ _ true _ B2)))
       go_wp2
       go_roundw
       case rel=>exact⟨k+1,by omega,by go_num,zu HA,zh (drewN_more (zu HQ) _),GO⟩
       case measure=>simp[intOf];omega
      ·have OKF:=zh ((zu BAD) (fun hr=>lt (((zu ROW).1 hr).2.2 k0)))
       clear BAD GOOD ROW
       have ge:x≤(el ps (k-1)).1:=by omega
       generalize (el ps (k-1)).1=z at *
       go_wp2_with fail
       go_quiet (first|(go_at_call 87;refine Calls.quiet_of_same (sNo _ true _ B1))|(go_at_call 34;refine Calls.quiet_of_same (sIn _ _ _ true _ B2)))
       go_wp2
       go_ret
       exact⟨by rw[zu OKF];rfl,drewN_more (zu HQ) _⟩
     ·obtain rfl:k=0:=by omega
      have GO:=zh ((zu GOOD) ((zu ROW).2 ⟨rfl,rfl,fun h0=>absurd h0 k0⟩))
      clear BAD GOOD ROW e3
      go_wp2_with fail
      go_quiet (first|(go_at_call 87;refine Calls.quiet_of_same (sNo _ true _ B1))|(go_at_call 34;refine Calls.quiet_of_same (sIn _ _ _ true _ B2)))
      go_wp2
      go_roundw
      case rel=>exact⟨1,by omega,by go_num,zu HA,zh (drewN_more (zu HQ) _),GO⟩
      case measure=>simp[intOf];omega
  ·obtain rfl:k=n:=by omega
   obtain rfl:ok=true:=hok.of ⟨by omega,by rw[hl];exact zu HG⟩
   clear h hok
   go_wp2
   go_ret
   exact⟨rfl,zu HQ⟩
theorem sKind(w:World)(g n cap:Nat)(ps:List (Int×Int))(no:Int)(hl:ps.length=n)(h20:n≤1048576)(h:At w g ps):
  Calls Tryz.prog 74 #[.slice (some ⟨g,0,none⟩) n cap,.int .i64 no] w fun e w'=>∃r,IsKind 8 2 ps no r∧e= .returned (.int .i64 r)∧∃q,w'=w.drewN q:=by
 obtain⟨ok,OK⟩:=says_of 8 2 ps
 go_enter Tryz.func74,Tryz.ntmps74
 go_wp2
 go_loopw [5] (fun i wr=>∃(k:Nat),k≤n∧i= .int .i64 k∧At wr g ps∧Hid (∃q,wr=w.drewN q)∧Hid (∀i,i<k→(el ps i).1≠no)) (fun i _=>n-(intOf i).toNat)
 case atStart=>exact⟨0,by omega,rfl,h,zh ⟨0,rfl⟩,zh (fun i hi=>absurd hi (by omega))⟩
 case round=>
  clear h
  obtain⟨k,hk,rfl,h,HQ,HG⟩:=hrel
  by_cases t:k<n
  ·obtain⟨e1,e2⟩:=h k (by omega)
   have HA:=zh h
   clear h
   have GO:=zh (show(el ps k).1≠no→∀i,i<k+1→(el ps i).1≠no from fun hn i hi=>by
    by_cases e:i=k
    ·subst e;exact hn
    ·exact(zu HG) i (by omega))
   have YES:=zh (show ok=true→(el ps k).1=no→IsKind 8 2 ps no (el ps k).2 from fun ho he=> .inl ⟨OK.1 ho,k,by omega,he,rfl⟩)
   generalize (el ps k).1=x at *
   generalize (el ps k).2=y at *
   cases ok
   ·go_wp2_with fail
    refine(sOk _ _ _ _ ps false hl h20 (zu HA) OK).mono ?_
    rintro e w2 ⟨rfl,nq,rfl⟩
    go_wp2
    go_ret
    exact⟨0,.inr ⟨.inl OK.no,rfl⟩,rfl,drewN_more (zu HQ) _⟩
   ·go_wp2_with fail
    refine(sOk _ _ _ _ ps true hl h20 (zu HA) OK).mono ?_
    rintro e w2 ⟨rfl,nq,rfl⟩
    by_cases eq:x=no
    ·have Y:=zh ((zu YES) (by trivial) eq)
     clear YES GO
     subst eq
     go_wp2
     go_ret
     exact⟨y,zu Y,rfl,drewN_more (zu HQ) _⟩
    ·have eqb:(x==no)=false:=by simpa using eq
     have G:=zh ((zu GO) eq)
     clear YES GO
     go_wp2
     go_roundw
     case rel=>exact⟨k+1,by omega,by go_num,zu HA,zh (drewN_more (zu HQ) _),G⟩
     case measure=>simp[intOf];omega
  ·obtain rfl:k=n:=by omega
   have K0:=zh (show IsKind 8 2 ps no 0 from .inr ⟨.inr (fun i hi=>(zu HG) i (by omega)),rfl⟩)
   clear h
   go_wp2
   go_ret
   exact⟨0,zu K0,rfl,zu HQ⟩
end InstrSOk
namespace AccountHelp
open Pairs
theorem eq1(w:World)(x y:Int):Calls Tryz.prog 82 #[.agg #[.int .i64 x,.int .i64 y],.agg #[.int .i64 x,.int .i64 y]] w fun e w'=>e= .returned (.bool true)∧w'=(w.alloc (.cells #[.int .i64 x,.int .i64 y] 75)).alloc (.cells #[.int .i64 x,.int .i64 y] 75):=by
 go_enter Tryz.func82,Tryz.ntmps82
 go_wp2
 go_ret
 exact⟨rfl,rfl⟩
theorem two_more(w:World)(o p:Obj):Below w.heap.size w ((w.alloc o).alloc p).drew:=(((Below.refl _ _).alloc (Nat.le_refl _) _).alloc (by simp) _).drew
theorem eqS(w:World)(g1 g2 n c1 c2:Nat)(ps:List (Int×Int))(hl:ps.length=n)(h20:n≤1048576)(l1:g1<w.heap.size)(l2:g2<w.heap.size)(h1:At w g1 ps)(h2:At w g2 ps):
  Calls Tryz.prog 46 #[.slice (some ⟨g1,0,none⟩) n c1,.slice (some ⟨g2,0,none⟩) n c2] w fun e w'=>e= .returned (.bool true)∧Below w.heap.size w w':=by
 go_enter Tryz.func46,Tryz.ntmps46
 go_wp2
 go_loopw [5] (fun i wr=>∃(k:Nat),k≤n∧i= .int .i64 k∧At wr g1 ps∧At wr g2 ps∧Below w.heap.size w wr) (fun i _=>n-(intOf i).toNat)
 case atStart=>exact⟨0,by omega,rfl,h1,h2,Below.refl _ _⟩
 case round=>
  clear h1 h2
  obtain⟨k,hk,rfl,h1,h2,hb⟩:=hrel
  by_cases t:k<n
  ·obtain⟨e1,f1⟩:=h1 k (by omega)
   obtain⟨e2,f2⟩:=h2 k (by omega)
   have s:=hb.size
   have H1:=zh h1
   have H2:=zh h2
   have HB:=zh hb
   clear h1 h2 hb
   generalize (ps.getD k (0,0)).1=x at *
   generalize (ps.getD k (0,0)).2=y at *
   go_wp2_with fail
   go_region_held3 (fun w'=>w'.cell? ⟨g1,k*2,none⟩=some (.int .i64 x)∧w'.cell? ⟨g2,k*2,none⟩=some (.int .i64 x)∧w'.cell? ⟨g1,k*2+1,none⟩=some (.int .i64 y)∧w'.cell? ⟨g2,k*2+1,none⟩=some (.int .i64 y)) (go_keep)
    (first|(go_at_call 82;refine(eq1 _ _ _).mono ?_;rintro e w2 ⟨rfl,rfl⟩))
   all_goals(go_wp2;go_roundw)
   all_goals first
    |(have b2:=two_more wr (.cells #[.int .i64 x,.int .i64 y] 75) (.cells #[.int .i64 x,.int .i64 y] 75)
      exact⟨k+1,by omega,by go_num,(zu H1).below b2 (by omega),(zu H2).below b2 (by omega),next (zu HB) b2⟩)
    |(simp[intOf];omega)
  ·have HB:=zh hb
   clear h1 h2 hb
   go_wp2
   go_ret
   exact⟨rfl,zu HB⟩
end AccountHelp
namespace AccountMark
open Pairs
def marks(s:Int)(n:Nat):List (Int×Int):=(List.range n).map fun(i:Nat)=>(s+2*(i:Int),s+2*(i:Int)+1)
theorem marks_len(s:Int)(n:Nat):(marks s n).length=n:=by simp[marks]
theorem marks_getD(s:Int)(n i:Nat)(h:i<n):(marks s n).getD i (0,0)=(s+2*(i:Int),s+2*(i:Int)+1):=by simp[marks,List.getD,h]
def marked(s:Int)(ps:List (Int×Int))(n j:Nat):List (Int×Int):=(marks s n).take j++ps.drop j
theorem marked_zero(s:Int)(ps:List (Int×Int))(n:Nat):marked s ps n 0=ps:=by simp[marked]
theorem marked_all(s:Int)(ps:List (Int×Int))(n:Nat)(h:ps.length=n):marked s ps n n=marks s n:=by
 unfold marked
 rw[List.take_of_length_le (by rw[marks_len];exact Nat.le_refl _),List.drop_of_length_le (by omega),List.append_nil]
theorem marked_step(s:Int)(ps:List (Int×Int))(n j:Nat)(h:ps.length=n)(hj:j<n):((marked s ps n j).modify j fun p=>(s+2*(j:Int),p.2)).modify j (fun p=>(p.1,s+2*(j:Int)+1))=marked s ps n (j+1):=by
 unfold marked
 have l:=marks_len s n
 have g:=marks_getD s n j hj
 have l1:((marks s n).take j).length=j:=by simp;omega
 have l2:((marks s n).take (j+1)).length=j+1:=by simp;omega
 apply List.ext_getElem?
 intro i
 rw[List.getElem?_modify,List.getElem?_modify]
 by_cases e:j=i
 ·subst e
  rw[List.getElem?_append_right (by omega),List.getElem?_append_left (by omega),List.getElem?_take,if_pos (by omega),l1]
  have hg:(marks s n)[j]?=some (s+2*(j:Int),s+2*(j:Int)+1):=by
   rw[←g];simp[List.getD,l,hj]
  rw[hg]
  simp[List.getElem?_drop,h,hj]
 ·by_cases q:i<j
  ·rw[List.getElem?_append_left (by omega),List.getElem?_append_left (by omega),List.getElem?_take,List.getElem?_take,if_pos q,if_pos (by omega)]
   simp[e]
  ·rw[List.getElem?_append_right (by omega),List.getElem?_append_right (by omega),l1,l2]
   simp only[List.getElem?_drop]
   rw[show j+(i-j)=i by omega,show j+1+(i-(j+1))=i by omega]
   simp[e]
theorem markS(w:World)(base g n cap:Nat)(s:Int)(ps:List (Int×Int))(h20:n≤1048576)(s0:0≤s)(s1:s≤100000000)(ho:Own 75 w base g n cap ps):
  Calls Tryz.prog 53 #[.slice (some ⟨g,0,none⟩) n cap,.int .i64 s] w fun e w'=>e= .returned (.int .i64 (s+2*(n:Int)))∧Own 75 w' base g n cap (marks s n)∧w.grownBy w' (some g):=by
 have hl:=ho.len
 have ho':Own 75 w base g n cap (marked s ps n 0):=by rw[marked_zero];exact ho
 clear ho
 go_enter Tryz.func53,Tryz.ntmps53
 go_wp2
 go_loopw [1,5] (fun m i wr=>∃(k:Nat),k≤n∧i= .int .i64 k∧m= .int .i64 (s+2*(k:Int))∧Own 75 wr base g n cap (marked s ps n k)∧w.grownBy wr (some g)) (fun _ i _=>n-(intOf i).toNat)
 case atStart=>exact⟨0,by omega,rfl,by go_num,ho',World.grownBy.refl _ _⟩
 case round=>
  clear ho'
  obtain⟨k,hk,rfl,rfl,hown,hg⟩:=hrel
  by_cases t:k<n
  ·obtain⟨o1,q1⟩:=hown.set0 k (s+2*(k:Int))
   obtain⟨o2,q2⟩:=o1.set1 k (s+2*(k:Int)+1)
   obtain⟨hd0,hd1⟩:=hown.at k (by rw[Own.len hown];exact t)
   have hf0:=hown.free (k*2)
   have hf1:=hown.free (k*2+1)
   rw[marked_step s ps n k hl t] at o2
   have HO:=zh o2
   have HG:=zh (grown_trans (grown_trans hg q1) q2)
   clear hown hg o1 q1 o2 q2
   generalize ((marked s ps n k).getD k (0,0)).1=z0 at hd0
   generalize ((marked s ps n k).getD k (0,0)).2=z1 at hd1
   go_wp2
   go_roundw
   case rel=>exact⟨k+1,by omega,by go_num,by go_num,zu HO,zu HG⟩
   case measure=>simp[intOf];omega
  ·obtain rfl:k=n:=by omega
   rw[marked_all s ps k hl] at hown
   have HO:=zh hown
   have HG:=zh hg
   clear hown hg
   go_wp2
   go_ret
   exact⟨rfl,zu HO,zu HG⟩
theorem heldS(w:World)(g n cap:Nat)(s:Int)(h20:n≤1048576)(s0:0≤s)(s1:s≤100000000)(h:At w g (marks s n)):
  Calls Tryz.prog 58 #[.slice (some ⟨g,0,none⟩) n cap,.int .i64 s] w fun e w'=>e= .returned (.int .i64 (s+2*(n:Int)))∧w'=w:=by
 go_enter Tryz.func58,Tryz.ntmps58
 go_wp2
 go_loop [1,5] (fun m i=>∃(k:Nat),k≤n∧i= .int .i64 k∧m= .int .i64 (s+2*(k:Int))) (fun _ i=>n-(intOf i).toNat)
 case atStart=>exact⟨0,by omega,rfl,by go_num⟩
 case round=>
  obtain⟨k,hk,rfl,rfl⟩:=hrel
  by_cases t:k<n
  ·obtain⟨e0,e1⟩:=h k (by rw[marks_len];exact t)
   rw[marks_getD s n k t] at e0 e1
   clear h
   go_wp2
   go_round
   case rel=>exact⟨k+1,by omega,by go_num,by go_num⟩
   case measure=>simp[intOf];omega
  ·obtain rfl:k=n:=by omega
   clear h
   go_wp2
   go_ret
   exact⟨rfl,rfl⟩
end AccountMark
namespace InstrHelp
open Pairs
theorem eq1(w:World)(x y:Int):Calls Tryz.prog 83 #[.agg #[.int .i64 x,.int .i64 y],.agg #[.int .i64 x,.int .i64 y]] w fun e w'=>e= .returned (.bool true)∧w'=(w.alloc (.cells #[.int .i64 x,.int .i64 y] 76)).alloc (.cells #[.int .i64 x,.int .i64 y] 76):=by
 go_enter Tryz.func83,Tryz.ntmps83
 go_wp2
 go_ret
 exact⟨rfl,rfl⟩
theorem two_more(w:World)(o p:Obj):Below w.heap.size w ((w.alloc o).alloc p).drew:=(((Below.refl _ _).alloc (Nat.le_refl _) _).alloc (by simp) _).drew
theorem eqS(w:World)(g1 g2 n c1 c2:Nat)(ps:List (Int×Int))(hl:ps.length=n)(h20:n≤1048576)(l1:g1<w.heap.size)(l2:g2<w.heap.size)(h1:At w g1 ps)(h2:At w g2 ps):
  Calls Tryz.prog 47 #[.slice (some ⟨g1,0,none⟩) n c1,.slice (some ⟨g2,0,none⟩) n c2] w fun e w'=>e= .returned (.bool true)∧Below w.heap.size w w':=by
 go_enter Tryz.func47,Tryz.ntmps47
 go_wp2
 go_loopw [5] (fun i wr=>∃(k:Nat),k≤n∧i= .int .i64 k∧At wr g1 ps∧At wr g2 ps∧Below w.heap.size w wr) (fun i _=>n-(intOf i).toNat)
 case atStart=>exact⟨0,by omega,rfl,h1,h2,Below.refl _ _⟩
 case round=>
  clear h1 h2
  obtain⟨k,hk,rfl,h1,h2,hb⟩:=hrel
  by_cases t:k<n
  ·obtain⟨e1,f1⟩:=h1 k (by omega)
   obtain⟨e2,f2⟩:=h2 k (by omega)
   have s:=hb.size
   have H1:=zh h1
   have H2:=zh h2
   have HB:=zh hb
   clear h1 h2 hb
   generalize (ps.getD k (0,0)).1=x at *
   generalize (ps.getD k (0,0)).2=y at *
   go_wp2_with fail
   go_region_held3 (fun w'=>w'.cell? ⟨g1,k*2,none⟩=some (.int .i64 x)∧w'.cell? ⟨g2,k*2,none⟩=some (.int .i64 x)∧w'.cell? ⟨g1,k*2+1,none⟩=some (.int .i64 y)∧w'.cell? ⟨g2,k*2+1,none⟩=some (.int .i64 y)) (go_keep)
    (first|(go_at_call 83;refine(eq1 _ _ _).mono ?_;rintro e w2 ⟨rfl,rfl⟩))
   all_goals(go_wp2;go_roundw)
   all_goals first
    |(have b2:=two_more wr (.cells #[.int .i64 x,.int .i64 y] 76) (.cells #[.int .i64 x,.int .i64 y] 76)
      exact⟨k+1,by omega,by go_num,(zu H1).below b2 (by omega),(zu H2).below b2 (by omega),next (zu HB) b2⟩)
    |(simp[intOf];omega)
  ·have HB:=zh hb
   clear h1 h2 hb
   go_wp2
   go_ret
   exact⟨rfl,zu HB⟩
end InstrHelp
namespace InstrMark
open Pairs
def marks(s:Int)(n:Nat):List (Int×Int):=(List.range n).map fun(i:Nat)=>(s+2*(i:Int),s+2*(i:Int)+1)
theorem marks_len(s:Int)(n:Nat):(marks s n).length=n:=by simp[marks]
theorem marks_getD(s:Int)(n i:Nat)(h:i<n):(marks s n).getD i (0,0)=(s+2*(i:Int),s+2*(i:Int)+1):=by simp[marks,List.getD,h]
def marked(s:Int)(ps:List (Int×Int))(n j:Nat):List (Int×Int):=(marks s n).take j++ps.drop j
theorem marked_zero(s:Int)(ps:List (Int×Int))(n:Nat):marked s ps n 0=ps:=by simp[marked]
theorem marked_all(s:Int)(ps:List (Int×Int))(n:Nat)(h:ps.length=n):marked s ps n n=marks s n:=by
 unfold marked
 rw[List.take_of_length_le (by rw[marks_len];exact Nat.le_refl _),List.drop_of_length_le (by omega),List.append_nil]
theorem marked_step(s:Int)(ps:List (Int×Int))(n j:Nat)(h:ps.length=n)(hj:j<n):((marked s ps n j).modify j fun p=>(s+2*(j:Int),p.2)).modify j (fun p=>(p.1,s+2*(j:Int)+1))=marked s ps n (j+1):=by
 unfold marked
 have l:=marks_len s n
 have g:=marks_getD s n j hj
 have l1:((marks s n).take j).length=j:=by simp;omega
 have l2:((marks s n).take (j+1)).length=j+1:=by simp;omega
 apply List.ext_getElem?
 intro i
 rw[List.getElem?_modify,List.getElem?_modify]
 by_cases e:j=i
 ·subst e
  rw[List.getElem?_append_right (by omega),List.getElem?_append_left (by omega),List.getElem?_take,if_pos (by omega),l1]
  have hg:(marks s n)[j]?=some (s+2*(j:Int),s+2*(j:Int)+1):=by
   rw[←g];simp[List.getD,l,hj]
  rw[hg]
  simp[List.getElem?_drop,h,hj]
 ·by_cases q:i<j
  ·rw[List.getElem?_append_left (by omega),List.getElem?_append_left (by omega),List.getElem?_take,List.getElem?_take,if_pos q,if_pos (by omega)]
   simp[e]
  ·rw[List.getElem?_append_right (by omega),List.getElem?_append_right (by omega),l1,l2]
   simp only[List.getElem?_drop]
   rw[show j+(i-j)=i by omega,show j+1+(i-(j+1))=i by omega]
   simp[e]
theorem markS(w:World)(base g n cap:Nat)(s:Int)(ps:List (Int×Int))(h20:n≤1048576)(s0:0≤s)(s1:s≤100000000)(ho:Own 76 w base g n cap ps):
  Calls Tryz.prog 54 #[.slice (some ⟨g,0,none⟩) n cap,.int .i64 s] w fun e w'=>e= .returned (.int .i64 (s+2*(n:Int)))∧Own 76 w' base g n cap (marks s n)∧w.grownBy w' (some g):=by
 have hl:=ho.len
 have ho':Own 76 w base g n cap (marked s ps n 0):=by rw[marked_zero];exact ho
 clear ho
 go_enter Tryz.func54,Tryz.ntmps54
 go_wp2
 go_loopw [1,5] (fun m i wr=>∃(k:Nat),k≤n∧i= .int .i64 k∧m= .int .i64 (s+2*(k:Int))∧Own 76 wr base g n cap (marked s ps n k)∧w.grownBy wr (some g)) (fun _ i _=>n-(intOf i).toNat)
 case atStart=>exact⟨0,by omega,rfl,by go_num,ho',World.grownBy.refl _ _⟩
 case round=>
  clear ho'
  obtain⟨k,hk,rfl,rfl,hown,hg⟩:=hrel
  by_cases t:k<n
  ·obtain⟨o1,q1⟩:=hown.set0 k (s+2*(k:Int))
   obtain⟨o2,q2⟩:=o1.set1 k (s+2*(k:Int)+1)
   obtain⟨hd0,hd1⟩:=hown.at k (by rw[Own.len hown];exact t)
   have hf0:=hown.free (k*2)
   have hf1:=hown.free (k*2+1)
   rw[marked_step s ps n k hl t] at o2
   have HO:=zh o2
   have HG:=zh (grown_trans (grown_trans hg q1) q2)
   clear hown hg o1 q1 o2 q2
   generalize ((marked s ps n k).getD k (0,0)).1=z0 at hd0
   generalize ((marked s ps n k).getD k (0,0)).2=z1 at hd1
   go_wp2
   go_roundw
   case rel=>exact⟨k+1,by omega,by go_num,by go_num,zu HO,zu HG⟩
   case measure=>simp[intOf];omega
  ·obtain rfl:k=n:=by omega
   rw[marked_all s ps k hl] at hown
   have HO:=zh hown
   have HG:=zh hg
   clear hown hg
   go_wp2
   go_ret
   exact⟨rfl,zu HO,zu HG⟩
theorem heldS(w:World)(g n cap:Nat)(s:Int)(h20:n≤1048576)(s0:0≤s)(s1:s≤100000000)(h:At w g (marks s n)):
  Calls Tryz.prog 59 #[.slice (some ⟨g,0,none⟩) n cap,.int .i64 s] w fun e w'=>e= .returned (.int .i64 (s+2*(n:Int)))∧w'=w:=by
 go_enter Tryz.func59,Tryz.ntmps59
 go_wp2
 go_loop [1,5] (fun m i=>∃(k:Nat),k≤n∧i= .int .i64 k∧m= .int .i64 (s+2*(k:Int))) (fun _ i=>n-(intOf i).toNat)
 case atStart=>exact⟨0,by omega,rfl,by go_num⟩
 case round=>
  obtain⟨k,hk,rfl,rfl⟩:=hrel
  by_cases t:k<n
  ·obtain⟨e0,e1⟩:=h k (by rw[marks_len];exact t)
   rw[marks_getD s n k t] at e0 e1
   clear h
   go_wp2
   go_round
   case rel=>exact⟨k+1,by omega,by go_num,by go_num⟩
   case measure=>simp[intOf];omega
  ·obtain rfl:k=n:=by omega
   clear h
   go_wp2
   go_ret
   exact⟨rfl,rfl⟩
end InstrMark
namespace BalHelp
open Bals Triples
theorem eq1(w:World)(x y z:Int):Calls Tryz.prog 84 #[.agg #[.int .i64 x,.int .i64 y,.int .i64 z],.agg #[.int .i64 x,.int .i64 y,.int .i64 z]] w fun e w'=>e= .returned (.bool true)∧w'=(w.alloc (.cells #[.int .i64 x,.int .i64 y,.int .i64 z] 78)).alloc (.cells #[.int .i64 x,.int .i64 y,.int .i64 z] 78):=by
 go_enter Tryz.func84,Tryz.ntmps84
 go_wp2
 go_ret
 exact⟨rfl,rfl⟩
theorem two_more(w:World)(o p:Obj):Below w.heap.size w ((w.alloc o).alloc p).drew:=(((Below.refl _ _).alloc (Nat.le_refl _) _).alloc (by simp) _).drew
theorem eqS(w:World)(g1 g2 n c1 c2:Nat)(ps:List T3)(hl:ps.length=n)(h20:n≤1048576)(l1:g1<w.heap.size)(l2:g2<w.heap.size)(h1:At3 w g1 ps)(h2:At3 w g2 ps):
  Calls Tryz.prog 48 #[.slice (some ⟨g1,0,none⟩) n c1,.slice (some ⟨g2,0,none⟩) n c2] w fun e w'=>e= .returned (.bool true)∧Below w.heap.size w w':=by
 go_enter Tryz.func48,Tryz.ntmps48
 go_wp2
 go_loopw [5] (fun i wr=>∃(k:Nat),k≤n∧i= .int .i64 k∧At3 wr g1 ps∧At3 wr g2 ps∧Below w.heap.size w wr) (fun i _=>n-(intOf i).toNat)
 case atStart=>exact⟨0,by omega,rfl,h1,h2,Below.refl _ _⟩
 case round=>
  clear h1 h2
  obtain⟨k,hk,rfl,h1,h2,hb⟩:=hrel
  by_cases t:k<n
  ·obtain⟨e1,f1,i1⟩:=h1 k (by omega)
   obtain⟨e2,f2,i2⟩:=h2 k (by omega)
   have s:=hb.size
   have H1:=zh h1
   have H2:=zh h2
   have HB:=zh hb
   clear h1 h2 hb
   generalize (el3 ps k).1=x at *
   generalize (el3 ps k).2.1=y at *
   generalize (el3 ps k).2.2=z at *
   go_wp2_with fail
   go_region_held3 (fun w'=>w'.cell? ⟨g1,k*3,none⟩=some (.int .i64 x)∧w'.cell? ⟨g2,k*3,none⟩=some (.int .i64 x)∧w'.cell? ⟨g1,k*3+1,none⟩=some (.int .i64 y)∧w'.cell? ⟨g2,k*3+1,none⟩=some (.int .i64 y)∧w'.cell? ⟨g1,k*3+2,none⟩=some (.int .i64 z)∧w'.cell? ⟨g2,k*3+2,none⟩=some (.int .i64 z)) (go_keep)
    (first|(go_at_call 84;refine(eq1 _ _ _ _).mono ?_;rintro e w2 ⟨rfl,rfl⟩))
   all_goals(go_wp2;go_roundw)
   all_goals first
    |(have b2:=two_more wr (.cells #[.int .i64 x,.int .i64 y,.int .i64 z] 78) (.cells #[.int .i64 x,.int .i64 y,.int .i64 z] 78)
      exact⟨k+1,by omega,by go_num,(zu H1).below b2 (by omega),(zu H2).below b2 (by omega),next (zu HB) b2⟩)
    |(simp[intOf];omega)
  ·have HB:=zh hb
   clear h1 h2 hb
   go_wp2
   go_ret
   exact⟨rfl,zu HB⟩
def marks(s:Int)(n:Nat):List T3:=(List.range n).map fun(i:Nat)=>(s+3*(i:Int),s+3*(i:Int)+1,s+3*(i:Int)+2)
theorem marks_len(s:Int)(n:Nat):(marks s n).length=n:=by simp[marks]
theorem marks_getD(s:Int)(n i:Nat)(h:i<n):el3 (marks s n) i=(s+3*(i:Int),s+3*(i:Int)+1,s+3*(i:Int)+2):=by simp[marks,List.getD,h]
def marked(s:Int)(ps:List T3)(n j:Nat):List T3:=(marks s n).take j++ps.drop j
theorem marked_zero(s:Int)(ps:List T3)(n:Nat):marked s ps n 0=ps:=by simp[marked]
theorem marked_all(s:Int)(ps:List T3)(n:Nat)(h:ps.length=n):marked s ps n n=marks s n:=by
 unfold marked
 rw[List.take_of_length_le (by rw[marks_len];exact Nat.le_refl _),List.drop_of_length_le (by omega),List.append_nil]
theorem marked_step(s:Int)(ps:List T3)(n j:Nat)(h:ps.length=n)(hj:j<n):(((marked s ps n j).modify j fun p=>(s+3*(j:Int),p.2)).modify j (fun p=>(p.1,s+3*(j:Int)+1,p.2.2))).modify j (fun p=>(p.1,p.2.1,s+3*(j:Int)+1+1))=marked s ps n (j+1):=by
 unfold marked
 have l:=marks_len s n
 have g:=marks_getD s n j hj
 have l1:((marks s n).take j).length=j:=by simp;omega
 have l2:((marks s n).take (j+1)).length=j+1:=by simp;omega
 apply List.ext_getElem?
 intro i
 rw[List.getElem?_modify,List.getElem?_modify,List.getElem?_modify]
 by_cases e:j=i
 ·subst e
  rw[List.getElem?_append_right (by omega),List.getElem?_append_left (by omega),List.getElem?_take,if_pos (by omega),l1]
  have hg:(marks s n)[j]?=some (s+3*(j:Int),s+3*(j:Int)+1,s+3*(j:Int)+2):=by
   rw[←g];simp[List.getD,l,hj]
  rw[hg]
  simp[List.getElem?_drop,h,hj]
  omega
 ·by_cases d:i<j
  ·rw[List.getElem?_append_left (by omega),List.getElem?_append_left (by omega),List.getElem?_take,List.getElem?_take,if_pos d,if_pos (by omega)]
   simp[e]
  ·rw[List.getElem?_append_right (by omega),List.getElem?_append_right (by omega),l1,l2]
   simp only[List.getElem?_drop]
   rw[show j+(i-j)=i by omega,show j+1+(i-(j+1))=i by omega]
   simp[e]
theorem markS(w:World)(base g n cap:Nat)(s:Int)(ps:List T3)(h20:n≤1048576)(s0:0≤s)(s1:s≤100000000)(ho:Own3 78 w base g n cap ps):
  Calls Tryz.prog 55 #[.slice (some ⟨g,0,none⟩) n cap,.int .i64 s] w fun e w'=>e= .returned (.int .i64 (s+3*(n:Int)))∧Own3 78 w' base g n cap (marks s n)∧w.grownBy w' (some g):=by
 have hl:=ho.len
 have ho':Own3 78 w base g n cap (marked s ps n 0):=by rw[marked_zero];exact ho
 clear ho
 go_enter Tryz.func55,Tryz.ntmps55
 go_wp2
 go_loopw [1,5] (fun m i wr=>∃(k:Nat),k≤n∧i= .int .i64 k∧m= .int .i64 (s+3*(k:Int))∧Own3 78 wr base g n cap (marked s ps n k)∧w.grownBy wr (some g)) (fun _ i _=>n-(intOf i).toNat)
 case atStart=>exact⟨0,by omega,rfl,by go_num,ho',World.grownBy.refl _ _⟩
 case round=>
  clear ho'
  obtain⟨k,hk,rfl,rfl,hown,hg⟩:=hrel
  by_cases t:k<n
  ·obtain⟨o1,q1⟩:=hown.set0 k (s+3*(k:Int))
   obtain⟨o2,q2⟩:=o1.set1 k (s+3*(k:Int)+1)
   obtain⟨o3,q3⟩:=o2.set2 k (s+3*(k:Int)+1+1)
   obtain⟨hd0,hd1,hd2⟩:=hown.at k (by rw[Own3.len hown];exact t)
   have hf0:=hown.free (k*3)
   have hf1:=hown.free (k*3+1)
   have hf2:=hown.free (k*3+2)
   rw[marked_step s ps n k hl t] at o3
   have HO:=zh o3
   have HG:=zh (grown_trans (grown_trans (grown_trans hg q1) q2) q3)
   clear hown hg o1 q1 o2 q2 o3 q3
   generalize (el3 (marked s ps n k) k).1=z0 at hd0
   generalize (el3 (marked s ps n k) k).2.1=z1 at hd1
   generalize (el3 (marked s ps n k) k).2.2=z2 at hd2
   have r1:IntKind.i64.wrap (s+3*(k:Int)+1)=s+3*(k:Int)+1:=by rw[IntKind.wrap_i64];omega
   have r2:IntKind.i64.wrap (s+3*(k:Int)+1+1)=s+3*(k:Int)+1+1:=by rw[IntKind.wrap_i64];omega
   have r3:IntKind.i64.wrap (s+3*(k:Int)+1+1+1)=s+3*(k:Int)+1+1+1:=by rw[IntKind.wrap_i64];omega
   go_wp2
   go_roundw
   case rel=>exact⟨k+1,by omega,by go_num,by go_num,zu HO,zu HG⟩
   case measure=>simp[intOf];omega
  ·obtain rfl:k=n:=by omega
   rw[marked_all s ps k hl] at hown
   have HO:=zh hown
   have HG:=zh hg
   clear hown hg
   go_wp2
   go_ret
   exact⟨rfl,zu HO,zu HG⟩
end BalHelp
end Go.Proofs.YtagmnociflkhcaaGreatDoor
