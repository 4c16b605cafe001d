/- Lemmas. -/
import Derived.Test.YtcjgepkdpkhljaaGreatQG3
import Derived.Test.YtcjgepkdpkhljaaGreatQG4
open Go.ChangeShapes Go.WideShapes Go.ChangeAt Go.RowKit
set_option linter.unusedVariables false
set_option linter.unusedSimpArgs false
set_option maxRecDepth 100000
set_option maxHeartbeats 32000000
namespace Go.Proofs.YtcjgepkdpkhljaaGreat
namespace Triples
open Bals
theorem zh{p:Prop}(h:p):Hid p:=h
theorem zu{p:Prop}(h:Hid p):p:=h
def flat3(ps:List T3):List Value:=ps.flatMap fun p=>[.int .i64 p.1,.int .i64 p.2.1,.int .i64 p.2.2]
theorem flat3_cons(p:T3)(ps:List T3):flat3 (p::ps)= .int .i64 p.1:: .int .i64 p.2.1:: .int .i64 p.2.2::flat3 ps:=rfl
theorem flat3_append(ps qs:List T3):flat3 (ps++qs)=flat3 ps++flat3 qs:=by simp[flat3,List.flatMap_append]
theorem flat3_len(ps:List T3):(flat3 ps).length=ps.length*3:=by
 induction ps with
 |nil=>rfl
 |cons p ps ih=>rw[flat3_cons];simp[ih];omega
theorem flat3_get(ps:List T3):∀i,i<ps.length→(flat3 ps)[i*3]?=some (.int .i64 (el3 ps i).1)∧(flat3 ps)[i*3+1]?=some (.int .i64 (el3 ps i).2.1)∧(flat3 ps)[i*3+2]?=some (.int .i64 (el3 ps i).2.2):=by
 induction ps with
 |nil=>intro i h;simp at h
 |cons p ps ih=>
  intro i h
  cases i with
  |zero=>rw[flat3_cons];simp
  |succ i=>
   have:=ih i (by simpa using h)
   rw[flat3_cons,show(i+1)*3=i*3+3 by omega,show i*3+3+1=(i*3+1)+3 by omega,show i*3+3+2=(i*3+2)+3 by omega]
   simpa using this
theorem flat3_one(u:Value)(ps:List T3)(h:u∈flat3 ps):u.oneCell'=true:=by
 induction ps with
 |nil=>simp[flat3] at h
 |cons p ps ih=>
  rw[flat3_cons] at h
  simp only[List.mem_cons] at h
  rcases h with rfl|rfl|rfl|h
  ·rfl
  ·rfl
  ·rfl
  ·exact ih h
def Holds3(w:World)(g o:Nat)(p:T3):Prop:=w.cell? ⟨g,o,none⟩=some (.int .i64 p.1)∧w.cell? ⟨g,o+1,none⟩=some (.int .i64 p.2.1)∧w.cell? ⟨g,o+2,none⟩=some (.int .i64 p.2.2)
def At3(w:World)(g:Nat)(ps:List T3):Prop:=∀i,i<ps.length→Holds3 w g (i*3) (el3 ps i)
def Own3(e:TypeId)(w:World)(base g n cap:Nat)(ps:List T3):Prop:=w.ownsRow base e 3 (.slice (some ⟨g,0,none⟩) n cap) n (flat3 ps)
section
variable {e:TypeId} {w w':World} {base base' g n cap:Nat} {ps:List T3}
theorem Holds3.below{B o:Nat}{p:T3}(h:Holds3 w g o p)(k:Below B w w')(hg:g<B):Holds3 w' g o p:=
 ⟨(k.cell (p:=⟨g,o,none⟩) hg).trans h.1,(k.cell (p:=⟨g,o+1,none⟩) hg).trans h.2.1,(k.cell (p:=⟨g,o+2,none⟩) hg).trans h.2.2⟩
theorem Own3.len(h:Own3 e w base g n cap ps):ps.length=n:=by
 have:=h.1
 rw[flat3_len] at this
 omega
theorem Own3.lt(h:Own3 e w base g n cap ps):base≤g∧g<w.heap.size:=World.ownsRow.lt h g rfl
theorem Own3.at(h:Own3 e w base g n cap ps):At3 w g ps:=by
 intro i hi
 have hl:=h.len
 obtain⟨f0,f1,f2⟩:=flat3_get ps i hi
 exact⟨(World.ownsRow.cellAt h (i*3) (by omega)).trans f0,(World.ownsRow.cellAt h (i*3+1) (by omega)).trans f1,(World.ownsRow.cellAt h (i*3+2) (by omega)).trans f2⟩
theorem Own3.rebase(h:Own3 e w base g n cap ps)(hb:base'≤g):Own3 e w base' g n cap ps:=by
 refine⟨h.1,?_⟩
 rcases h.2 with⟨h1,_⟩|⟨g',c,cur,h1,h2,h3⟩
 ·simp at h1
 ·obtain⟨e,_⟩:g=g'∧cap=c:=by simpa using h1
  subst e
  exact Or.inr ⟨g,c,cur,h1,hb,h3⟩
theorem Own3.kept{row:Option Nat}(h:Own3 e w base g n cap ps)(k:w.grownBy w' row)(hne:some g≠row):Own3 e w' base g n cap ps:=
 World.ownsRow.kept h k (Or.inr hne)
theorem Own3.below{B:Nat}(h:Own3 e w base g n cap ps)(k:Below B w w')(hg:g<B):Own3 e w' base g n cap ps:=by
 refine⟨h.1,?_⟩
 rcases h.2 with⟨h1,_⟩|⟨g',c,cur,h1,h2,h3,h4⟩
 ·simp at h1
 ·obtain⟨e,_⟩:g=g'∧cap=c:=by simpa using h1
  subst e
  exact Or.inr ⟨g,c,cur,h1,h2,by rw[k.block g hg];exact h3,h4⟩
theorem Own3.alloc(h:Own3 e w base g n cap ps)(o:Obj):Own3 e (w.alloc o) base g n cap ps:=World.ownsRow.alloc h o
theorem At3.below{B:Nat}(h:At3 w g ps)(k:Below B w w')(hg:g<B):At3 w' g ps:=fun i hi=>(h i hi).below k hg
end
theorem next{a b c:World}(h:Below a.heap.size a b)(k:Below b.heap.size b c):Below a.heap.size a c:=h.trans (k.mono h.size)
theorem own3_of_row{e:TypeId}{w:World}{base n n':Nat}{v:Value}{vs:List Value}{ps:List T3}(h:w.ownsRow base e 3 v n vs)(hn:n=n')(hv:vs=flat3 ps)(hs:¬v= .slice none 0 0):
  ∃g c,v= .slice (some ⟨g,0,none⟩) n' c∧Own3 e w base g n' c ps:=by
 subst hn hv
 have h':=h
 rcases h.2 with⟨h1,_⟩|⟨g,c,cur,rfl,_⟩
 ·exact absurd h1 hs
 ·exact⟨g,c,rfl,h'⟩
theorem lit30(e:TypeId)(w:World)(base:Nat)(hb:base≤w.heap.size):Own3 e (w.alloc (.cells #[] e)) base w.heap.size 0 0 []:=World.ownsRow_lit w #[] 0 hb (by decide) rfl
theorem lit31(e:TypeId)(w:World)(base:Nat)(x y z:Int)(hb:base≤w.heap.size):Own3 e (w.alloc (.cells #[.int .i64 x,.int .i64 y,.int .i64 z] e)) base w.heap.size 1 1 [(x,y,z)]:=World.ownsRow_lit w #[.int .i64 x,.int .i64 y,.int .i64 z] 1 hb (by decide) rfl
theorem At3.cells{w:World}{g:Nat}{ps:List T3}(h:At3 w g ps):∀(j:Nat) (u:Value),(flat3 ps)[j]?=some u→w.cell? ((⟨g,0,none⟩:Addr).add j)=some u:=by
 intro j u hj
 have hl:j<ps.length*3:=by
  have:=(List.getElem?_eq_some_iff.1 hj).1
  rw[flat3_len] at this
  exact this
 rw[Addr.add_lit,Nat.zero_add]
 obtain⟨c0,c1,c2⟩:=h (j/3) (by omega)
 obtain⟨f0,f1,f2⟩:=flat3_get ps (j/3) (by omega)
 rcases(show j%3=0∨j%3=1∨j%3=2 by omega) with e|e|e
 ·rw[show j/3*3=j by omega] at c0 f0
  rw[c0,←hj,f0]
 ·rw[show j/3*3+1=j by omega] at c1 f1
  rw[c1,←hj,f1]
 ·rw[show j/3*3+2=j by omega] at c2 f2
  rw[c2,←hj,f2]
theorem below_drewN{B:Nat}{a w:World}(h:Below B a w)(m:Nat):Below B a (w.drewN m):=⟨h.os,h.tape,h.output,h.size,h.block⟩
theorem drewN_more{w wr:World}(h:∃q,wr=w.drewN q)(m:Nat):∃q,wr.drewN m=w.drewN q:=by
 obtain⟨q,rfl⟩:=h
 exact⟨q+m,World.drewN_drewN ..⟩
end Triples
namespace Bks
open Go Go.RowKit
open Bals (T3 el3 val sumI)
open Tup5 (T5 el5)
open Tup8 (T8 el8)
open Lots (qtyOf NoOk Says says_of mergeL ownL restL One)
open Takes (sumQ takeL takeC)
def kindOf:List (Int×Int)→Int→Int
 |[],_=>0
 |p::r,no=>if p.1=no then p.2 else kindOf r no
theorem kind_mem:∀(ps:List (Int×Int)) (no:Int),kindOf ps no≠0→(no,kindOf ps no)∈ps
 |[],no,h=>absurd rfl h
 |p::r,no,h=>by
  unfold kindOf at h⊢
  by_cases e:p.1=no
  ·rw[if_pos e];obtain⟨a,b⟩:=p;obtain rfl:a=no:=e;exact List.mem_cons_self
  ·rw[if_neg e] at h⊢;exact List.mem_cons_of_mem _ (kind_mem r no h)
theorem kind_none:∀(ps:List (Int×Int)) (no:Int),(∀p∈ps,p.1≠no)→kindOf ps no=0
 |[],_,_=>rfl
 |p::r,no,h=>by
  unfold kindOf
  rw[if_neg (h p List.mem_cons_self),kind_none r no (fun q hq=>h q (List.mem_cons_of_mem _ hq))]
theorem el_mem{ps:List (Int×Int)}{i:Nat}(h:i<ps.length):Chart.el ps i∈ps:=by
 unfold Chart.el
 simp[List.getD,h]
theorem mem_el{ps:List (Int×Int)}{p:Int×Int}(h:p∈ps):∃i,i<ps.length∧Chart.el ps i=p:=by
 obtain⟨i,hi,rfl⟩:=List.getElem_of_mem h
 exact⟨i,hi,by simp[Chart.el,List.getD,hi]⟩
theorem kind_of_mem{ps:List (Int×Int)}(h:∀p∈ps,∀q∈ps,p.1=q.1→p=q):∀p∈ps,kindOf ps p.1=p.2:=by
 induction ps with
 |nil=>intro p hp;simp at hp
 |cons q r ih=>
  intro p hp
  unfold kindOf
  by_cases e:q.1=p.1
  ·rw[if_pos e,h q List.mem_cons_self p hp e]
  ·rw[if_neg e]
   rcases List.mem_cons.1 hp with rfl|hp
   ·exact absurd rfl e
   ·exact ih (fun a ha b hb=>h a (List.mem_cons_of_mem _ ha) b (List.mem_cons_of_mem _ hb)) p hp
theorem right_one{most:Nat}{last:Int}{ps:List (Int×Int)}(h:Chart.Right most last ps):∀p∈ps,∀q∈ps,p.1=q.1→p=q:=by
 intro p hp q hq e
 obtain⟨i,hi,rfl⟩:=mem_el hp
 obtain⟨j,hj,rfl⟩:=mem_el hq
 rw[h.one i j hi hj e]
theorem kind_is{most:Nat}{last:Int}{ps:List (Int×Int)}{no r:Int}(h:Chart.Right most last ps)(k:Chart.IsKind most last ps no r):r=kindOf ps no:=by
 rcases k with⟨_,i,hi,e,rfl⟩|⟨k,rfl⟩
 ·rw[←e];exact(kind_of_mem (right_one h) _ (el_mem hi)).symm
 ·rcases k with k|k
  ·exact absurd h k
  ·refine(kind_none ps no fun p hp=>?_).symm
   obtain⟨i,hi,rfl⟩:=mem_el hp
   exact k i hi
theorem kind_in{most:Nat}{last:Int}{ps:List (Int×Int)}(h:Chart.Right most last ps)(no:Int):kindOf ps no=0∨(1≤kindOf ps no∧kindOf ps no≤last∧1≤no∧no≤1000):=by
 by_cases z:kindOf ps no=0
 ·exact .inl z
 ·obtain⟨i,hi,e⟩:=mem_el (kind_mem ps no z)
  obtain⟨h1,h2,_⟩:=h.2 i hi
  rw[e] at h1 h2
  exact .inr ⟨h2.1,h2.2,h1.1,h1.2⟩
def TOne(t:T8):Prop:=NoOk t.1∧NoOk t.2.1∧NoOk t.2.2.1∧NoOk t.2.2.2.1∧NoOk t.2.2.2.2.2.1∧t.2.1≠t.2.2.1∧(1≤t.2.2.2.2.1∧t.2.2.2.2.1≤1000000000000000)∧(0≤t.2.2.2.2.2.2.1∧t.2.2.2.2.2.2.1≤1000000000000000)∧(1≤t.2.2.2.2.2.2.2∧t.2.2.2.2.2.2.2≤3)
def TRowOk(ps:List T8)(i:Nat):Prop:=TOne (el8 ps i)∧(0<i→(el8 ps (i-1)).1<(el8 ps i).1)
def TRight(ps:List T8):Prop:=ps.length≤30∧∀i,i<ps.length→TRowOk ps i
structure Bk where
 ac:List (Int×Int)
 ic:List (Int×Int)
 bs:List T3
 ls:List T5
 ts:List T8
 lot:Int
def Lists(b:Bk):Prop:=Chart.Right 20 4 b.ac∧Chart.Right 8 2 b.ic∧Bals.Right b.bs∧Lots.Right b.ls∧TRight b.ts∧(0≤b.lot∧b.lot≤1000000000)
def BalFit(b:Bk)(p:T3):Prop:=kindOf b.ac p.1≠0∧kindOf b.ic p.2.1≠0∧¬(kindOf b.ac p.1=1∧p.2.2<0)
def BalsFit(b:Bk):Prop:=(∀k,k<b.bs.length→BalFit b (el3 b.bs k))∧∀i,sumI b.bs i=0
def LotFit(b:Bk)(l:T5):Prop:=kindOf b.ac l.1=1∧kindOf b.ic l.2.1=2∧l.2.2.1≤b.lot
def LotsFit(b:Bk):Prop:=(∀k,k<b.ls.length→LotFit b (el5 b.ls k))∧∀a i,kindOf b.ac a=1→kindOf b.ic i=2→qtyOf b.ls a i=val b.bs a i
def TradeFit(b:Bk)(t:T8):Prop:=kindOf b.ac t.2.1=1∧kindOf b.ac t.2.2.1=1∧kindOf b.ic t.2.2.2.1=2∧kindOf b.ic t.2.2.2.2.2.1=1
def TradesFit(b:Bk):Prop:=∀k,k<b.ts.length→TradeFit b (el8 b.ts k)
def Ok(b:Bk):Prop:=Lists b∧BalsFit b∧LotsFit b∧TradesFit b
theorem bals_spec{b:Bk}(h:∀k,k<b.bs.length→BalFit b (el3 b.bs k)∧sumI b.bs (el3 b.bs k).2.1=0):BalsFit b:=
 ⟨fun k hk=>(h k hk).1,Bals.even_of fun k hk=>(h k hk).2⟩
theorem sum_zero{bs:List T3}{i r:Int}{c:Bool}(hr:Bals.Right bs)(h:Bals.IsSum bs i r c):(c=true∧r=0)↔sumI bs i=0:=by
 rcases h with⟨_,h1,h2,h3⟩|⟨h1,h2,h3⟩
 ·rw[←h2,h3];simp
 ·constructor
  ·rintro⟨e,_⟩;rw[h3] at e;cases e
  ·intro e
   refine absurd ⟨hr,?_⟩ h1
   rw[e];unfold Bals.Amt;omega
theorem lots_spec{b:Bk}(hA:Chart.Right 20 4 b.ac)(hI:Chart.Right 8 2 b.ic)(h:∀k,k<b.ls.length→LotFit b (el5 b.ls k)):LotsFit b↔∀j,j<b.ac.length→∀k,k<b.ic.length→(Chart.el b.ac j).2=1→(Chart.el b.ic k).2=2→sumQ (ownL b.ls (Chart.el b.ac j).1 (Chart.el b.ic k).1)=val b.bs (Chart.el b.ac j).1 (Chart.el b.ic k).1:=by
 constructor
 ·rintro⟨_,hf⟩ j hj k hk e1 e2
  rw[(Takes.own_sums _ _ b.ls).1]
  exact hf _ _ (by rw[kind_of_mem (right_one hA) _ (el_mem hj)];exact e1) (by rw[kind_of_mem (right_one hI) _ (el_mem hk)];exact e2)
 ·intro hf
  refine⟨h,fun a i ha hi=>?_⟩
  obtain⟨j,hj,ej⟩:=mem_el (kind_mem b.ac a (by omega))
  obtain⟨k,hk,ek⟩:=mem_el (kind_mem b.ic i (by omega))
  have:=hf j hj k hk (by rw[ej];exact ha) (by rw[ek];exact hi)
  rw[(Takes.own_sums _ _ b.ls).1,ej,ek] at this
  exact this
def IsAcc(b:Bk)(no kind:Int)(b':Bk)(c:Int):Prop:=
 (kindOf b.ac no≠0∧b'=b∧c=2)∨
 (kindOf b.ac no=0∧∃qs ok,Chart.IsPut 20 4 b.ac (no,kind) qs ok∧((ok=false∧b'=b∧c=7)∨(ok=true∧b'={b with ac:=qs}∧c=0)))
def IsIns(b:Bk)(no kind:Int)(b':Bk)(c:Int):Prop:=
 (kindOf b.ic no≠0∧b'=b∧c=2)∨
 (kindOf b.ic no=0∧∃qs ok,Chart.IsPut 8 2 b.ic (no,kind) qs ok∧((ok=false∧b'=b∧c=7)∨(ok=true∧b'={b with ic:=qs}∧c=0)))
def shortL:List (Int×Int)→List Int
 |[]=>[]
 |p::r=>(if p.2=1 then[] else[p.1])++shortL r
theorem short_append:∀(ps qs:List (Int×Int)),shortL (ps++qs)=shortL ps++shortL qs
 |[],qs=>rfl
 |p::r,qs=>by simp[shortL,short_append r qs]
theorem short_len:∀(ps:List (Int×Int)),(shortL ps).length≤ps.length
 |[]=>Nat.le_refl _
 |p::r=>by
  have:=short_len r
  unfold shortL
  split<;>simp<;>omega
theorem chart_take{ps:List (Int×Int)}{k:Nat}(h:k<ps.length):ps.take (k+1)=ps.take k++[Chart.el ps k]:=by
 rw[List.take_succ_eq_append_getElem h]
 simp[Chart.el,List.getD,h]
theorem short_next{ps:List (Int×Int)}{k:Nat}(h:k<ps.length):shortL (ps.take (k+1))=shortL (ps.take k)++(if(Chart.el ps k).2=1 then[] else[(Chart.el ps k).1]):=by
 rw[chart_take h,short_append]
 simp[shortL]
def IsPosted(b:Bk)(legs:List T3)(b':Bk)(c:Int):Prop:=
 ∃qs pc,Bals.IsPost b.bs legs (shortL b.ac) qs pc∧((pc=0∧b'={b with bs:=qs}∧c=0)∨(pc=3∧b'=b∧c=5)∨(pc=4∧b'=b∧c=8)∨(pc=5∧b'=b∧c=7))
theorem post_code{ps ls qs:List T3}{xs:List Int}{c:Int}(h:Bals.IsPost ps ls xs qs c)(hp:Bals.Right ps)(hf:Bals.Formed ls)(he:Bals.Even ls)(hx:xs.length≤20):c=0∨c=3∨c=4∨c=5:=by
 rcases h with⟨h,_⟩|⟨_,h,_⟩|⟨_,_,_,_,h⟩|⟨f,_,_,_,_,_,h⟩|⟨f,us,_,_,_,_,_,_,_,h⟩|⟨f,_,_,_,_,_,_,h⟩
 ·exact absurd ⟨hp,hf,hx⟩ h
 ·exact absurd he h
 ·exact .inr (.inr (.inl h))
 ·exact .inr (.inl h)
 ·exact .inr (.inr (.inr h))
 ·exact .inl h
def opened(b:Bk)(a i q cost:Int):T5:=(a,i,b.lot+1,q,cost)
def CanOpen(b:Bk)(a i q cost:Int):Prop:=b.lot≠1000000000∧Lots.Right b.ls∧One (opened b a i q cost)∧Lots.Right (mergeL (b.ls.length+1) b.ls [opened b a i q cost])
def IsOpen(b:Bk)(a i q cost:Int)(b':Bk)(c:Int):Prop:=
 (CanOpen b a i q cost∧b'={b with ls:=mergeL (b.ls.length+1) b.ls [opened b a i q cost],lot:=b.lot+1}∧c=0)∨(¬CanOpen b a i q cost∧b'=b∧c=7)
def CanTake(b:Bk)(a i q way:Int):Prop:=Lots.Right b.ls∧(1≤q∧q≤1000000000000000)∧(1≤way∧way≤3)∧¬sumQ (ownL b.ls a i)<q
def takenL(b:Bk)(a i q way:Int):List T5:=mergeL ((restL b.ls a i).length+(takeL way (ownL b.ls a i) q).length) (restL b.ls a i) (takeL way (ownL b.ls a i) q)
def IsTake(b:Bk)(a i q way:Int)(b':Bk)(cost c:Int):Prop:=
 (CanTake b a i q way∧b'={b with ls:=takenL b a i q way}∧cost=takeC way (ownL b.ls a i) q∧c=0)∨(¬CanTake b a i q way∧b'=b∧cost=0∧c=5)
def pairL(a c i q:Int):List T3:=[(a,i,-q),(c,i,q)]
theorem pair_formed{a c i q:Int}(ha:NoOk a)(hc:NoOk c)(hi:NoOk i)(q1:1≤q)(q2:q≤1000000000000000):Bals.Formed (pairL a c i q):=by
 refine⟨by simp[pairL],fun k hk=>?_⟩
 have:k=0∨k=1:=by simp[pairL] at hk;omega
 rcases this with rfl|rfl
 ·exact⟨ha,hi,by unfold Bals.Amt;simp[pairL];omega⟩
 ·exact⟨hc,hi,by unfold Bals.Amt;simp[pairL];omega⟩
theorem pair_even(a c i q:Int):Bals.Even (pairL a c i q):=by
 intro j
 show(if i=j then-q else 0)+((if i=j then q else 0)+0)=0
 split<;>omega
def IsIssue(b:Bk)(x y i q cost:Int)(b':Bk)(c:Int):Prop:=
 ((kindOf b.ac x=0∨kindOf b.ac y=0∨kindOf b.ic i=0)∧b'=b∧c=3)∨
 (¬(kindOf b.ac x=0∨kindOf b.ac y=0∨kindOf b.ic i=0)∧(kindOf b.ac x≠2∨kindOf b.ac y≠1∨(cost≠0∧kindOf b.ic i=1))∧b'=b∧c=4)∨
 (¬(kindOf b.ac x=0∨kindOf b.ac y=0∨kindOf b.ic i=0)∧¬(kindOf b.ac x≠2∨kindOf b.ac y≠1∨(cost≠0∧kindOf b.ic i=1))∧∃b1 c1,IsPosted b (pairL x y i q) b1 c1∧
  ((c1≠0∧b'=b∧c=c1)∨(c1=0∧kindOf b.ic i=1∧b'=b1∧c=0)∨
   (c1=0∧kindOf b.ic i≠1∧∃b2 c2,IsOpen b1 y i q cost b2 c2∧((c2≠0∧b'=b∧c=c2)∨(c2=0∧b'=b2∧c=0)))))
def IsMove(b:Bk)(x y i q way:Int)(b':Bk)(cost c:Int):Prop:=
 ((kindOf b.ac x=0∨kindOf b.ac y=0∨kindOf b.ic i=0)∧b'=b∧cost=0∧c=3)∨
 (¬(kindOf b.ac x=0∨kindOf b.ac y=0∨kindOf b.ic i=0)∧(kindOf b.ac x≠1∨kindOf b.ac y≠1∨x=y)∧b'=b∧cost=0∧c=4)∨
 (¬(kindOf b.ac x=0∨kindOf b.ac y=0∨kindOf b.ic i=0)∧¬(kindOf b.ac x≠1∨kindOf b.ac y≠1∨x=y)∧∃b1 c1,IsPosted b (pairL x y i q) b1 c1∧
  ((c1≠0∧b'=b∧cost=0∧c=c1)∨(c1=0∧kindOf b.ic i=1∧b'=b1∧cost=0∧c=0)∨
   (c1=0∧kindOf b.ic i≠1∧∃b2 k2 c2,IsTake b1 x i q way b2 k2 c2∧((c2≠0∧b'=b∧cost=0∧c=c2)∨
    (c2=0∧∃b3 c3,IsOpen b2 y i q k2 b3 c3∧((c3≠0∧b'=b∧cost=0∧c=c3)∨(c3=0∧b'=b3∧cost=k2∧c=0)))))))
end Bks
namespace BMem
open Bks (Bk)
theorem zh{p:Prop}(h:p):Hid p:=h
theorem zu{p:Prop}(h:Hid p):p:=h
structure Bx where
 ga:Nat
 ca:Nat
 gi:Nat
 ci:Nat
 gb:Nat
 cb:Nat
 gl:Nat
 cl:Nat
 gt:Nat
 ct:Nat
 b:Bk
structure Rd(w:World)(x:Bx):Prop where
 la:x.ga<w.heap.size
 ra:Pairs.At w x.ga x.b.ac
 na:x.b.ac.length≤1048576
 li:x.gi<w.heap.size
 ri:Pairs.At w x.gi x.b.ic
 ni:x.b.ic.length≤1048576
 lb:x.gb<w.heap.size
 rb:Triples.At3 w x.gb x.b.bs
 nb:x.b.bs.length≤1048576
 ll:x.gl<w.heap.size
 rl:Tup5.At5 w x.gl x.b.ls
 nl:x.b.ls.length≤1048576
 hc:x.b.ls.length≤x.cl
 hm:x.cl≤9223372036854775807
 lt:x.gt<w.heap.size
 rt:Tup8.At8 w x.gt x.b.ts
 nt:x.b.ts.length≤1048576
theorem Rd.below{w w':World}{x:Bx}(h:Rd w x)(k:Below w.heap.size w w'):Rd w' x:=
 ⟨Nat.lt_of_lt_of_le h.la k.size,h.ra.below k h.la,h.na,Nat.lt_of_lt_of_le h.li k.size,h.ri.below k h.li,h.ni,Nat.lt_of_lt_of_le h.lb k.size,h.rb.below k h.lb,h.nb,Nat.lt_of_lt_of_le h.ll k.size,h.rl.below k h.ll,h.nl,h.hc,h.hm,Nat.lt_of_lt_of_le h.lt k.size,h.rt.below k h.lt,h.nt⟩
theorem Rd.alloc{w:World}{x:Bx}(h:Rd w x)(o:Obj):Rd (w.alloc o) x:=h.below ((Below.refl _ _).alloc (Nat.le_refl _) o)
structure Ow(w:World)(base:Nat)(x:Bx):Prop where
 oa:Pairs.Own 112 w base x.ga x.b.ac.length x.ca x.b.ac
 oi:Pairs.Own 113 w base x.gi x.b.ic.length x.ci x.b.ic
 ob:Triples.Own3 184 w base x.gb x.b.bs.length x.cb x.b.bs
 ol:Tup5.Own5 188 w base x.gl x.b.ls.length x.cl x.b.ls
 ot:Tup8.Own8 82 w base x.gt x.b.ts.length x.ct x.b.ts
def Small(b:Bk):Prop:=b.ac.length≤1048576∧b.ic.length≤1048576∧b.bs.length≤1048576∧b.ls.length≤1048576∧b.ts.length≤1048576
theorem own_cap{e:TypeId}{w:World}{base g n cap:Nat}{ps:List Tup5.T5}(h:Tup5.Own5 e w base g n cap ps):n≤cap∧cap≤9223372036854775807:=by
 rcases h.2 with⟨h1,_⟩|⟨g',c,cur,h1,h2,h3,h4,h5,_⟩
 ·simp at h1
 ·obtain⟨_,e⟩:g=g'∧cap=c:=by simpa using h1
  subst e
  exact⟨h4,by unfold maxLen at h5;omega⟩
theorem Ow.rd{w:World}{base:Nat}{x:Bx}(h:Ow w base x)(s:Small x.b):Rd w x:=
 ⟨h.oa.lt.2,h.oa.at,s.1,h.oi.lt.2,h.oi.at,s.2.1,h.ob.lt.2,h.ob.at,s.2.2.1,h.ol.lt.2,h.ol.at,s.2.2.2.1,(own_cap h.ol).1,(own_cap h.ol).2,h.ot.lt.2,h.ot.at,s.2.2.2.2⟩
theorem Ow.below{w w':World}{base B:Nat}{x:Bx}(h:Ow w base x)(k:Below B w w')(hB:w.heap.size≤B):Ow w' base x:=
 ⟨h.oa.below k (by have:=h.oa.lt;omega),h.oi.below k (by have:=h.oi.lt;omega),h.ob.below k (by have:=h.ob.lt;omega),h.ol.below k (by have:=h.ol.lt;omega),h.ot.below k (by have:=h.ot.lt;omega)⟩
theorem Ow.rebase{w:World}{base base':Nat}{x:Bx}(h:Ow w base x)(hb:base'≤base):Ow w base' x:=
 ⟨h.oa.rebase (by have:=h.oa.lt;omega),h.oi.rebase (by have:=h.oi.lt;omega),h.ob.rebase (by have:=h.ob.lt;omega),h.ol.rebase (by have:=h.ol.lt;omega),h.ot.rebase (by have:=h.ot.lt;omega)⟩
theorem Ow.kept{w w':World}{base:Nat}{row:Option Nat}{x:Bx}(h:Ow w base x)(k:w.grownBy w' row)(hne:∀g,row=some g→g<base):Ow w' base x:=
 ⟨h.oa.kept k (fun e=>by have:=h.oa.lt;have:=hne _ e.symm;omega),h.oi.kept k (fun e=>by have:=h.oi.lt;have:=hne _ e.symm;omega),h.ob.kept k (fun e=>by have:=h.ob.lt;have:=hne _ e.symm;omega),h.ol.kept k (fun e=>by have:=h.ol.lt;have:=hne _ e.symm;omega),h.ot.kept k (fun e=>by have:=h.ot.lt;have:=hne _ e.symm;omega)⟩
structure Cl(w:World)(g:Nat)(x:Bx):Prop where
 c0:w.cell? ⟨g,0,none⟩=some (.slice (some ⟨x.ga,0,none⟩) x.b.ac.length x.ca)
 c1:w.cell? ⟨g,1,none⟩=some (.slice (some ⟨x.gi,0,none⟩) x.b.ic.length x.ci)
 c2:w.cell? ⟨g,2,none⟩=some (.slice (some ⟨x.gb,0,none⟩) x.b.bs.length x.cb)
 c3:w.cell? ⟨g,3,none⟩=some (.slice (some ⟨x.gl,0,none⟩) x.b.ls.length x.cl)
 c4:w.cell? ⟨g,4,none⟩=some (.slice (some ⟨x.gt,0,none⟩) x.b.ts.length x.ct)
 c5:w.cell? ⟨g,5,none⟩=some (.int .i64 x.b.lot)
theorem Cl.below{w w':World}{B g:Nat}{x:Bx}(h:Cl w g x)(k:Below B w w')(hg:g<B):Cl w' g x:=
 ⟨(k.cell (p:=⟨g,0,none⟩) hg).trans h.c0,(k.cell (p:=⟨g,1,none⟩) hg).trans h.c1,(k.cell (p:=⟨g,2,none⟩) hg).trans h.c2,(k.cell (p:=⟨g,3,none⟩) hg).trans h.c3,(k.cell (p:=⟨g,4,none⟩) hg).trans h.c4,(k.cell (p:=⟨g,5,none⟩) hg).trans h.c5⟩
def Box(w:World)(base g:Nat)(v0 v1 v2 v3 v4 v5:Value):Prop:=w.ownsRow base 44 6 (.slice (some ⟨g,0,none⟩) 1 1) 1 [v0,v1,v2,v3,v4,v5]
theorem Box.made{w:World}{base g:Nat}(v0 v1 v2 v3 v4 v5:Value)(hb:base≤w.heap.size)(hg:g=w.heap.size):Box (w.alloc (.cells #[v0,v1,v2,v3,v4,v5] 44)) base g v0 v1 v2 v3 v4 v5:=by
 subst hg
 exact⟨rfl,.inr ⟨w.heap.size,1,#[v0,v1,v2,v3,v4,v5],rfl,hb,heap_alloc_new w _,Nat.le_refl _,by unfold maxLen;omega,rfl,rfl⟩⟩
section
variable {w w':World} {base base' g:Nat} {v0 v1 v2 v3 v4 v5:Value}
theorem Box.lt(h:Box w base g v0 v1 v2 v3 v4 v5):base≤g∧g<w.heap.size:=World.ownsRow.lt h g rfl
theorem Box.free(h:Box w base g v0 v1 v2 v3 v4 v5)(i:Nat):w.frozen? ⟨g,i,none⟩=false:=World.ownsRow.frozenAt h i
theorem Box.c0(h:Box w base g v0 v1 v2 v3 v4 v5):w.cell? ⟨g,0,none⟩=some v0:=(World.ownsRow.cellAt h 0 (by omega)).trans rfl
theorem Box.c1(h:Box w base g v0 v1 v2 v3 v4 v5):w.cell? ⟨g,1,none⟩=some v1:=(World.ownsRow.cellAt h 1 (by omega)).trans rfl
theorem Box.c2(h:Box w base g v0 v1 v2 v3 v4 v5):w.cell? ⟨g,2,none⟩=some v2:=(World.ownsRow.cellAt h 2 (by omega)).trans rfl
theorem Box.c3(h:Box w base g v0 v1 v2 v3 v4 v5):w.cell? ⟨g,3,none⟩=some v3:=(World.ownsRow.cellAt h 3 (by omega)).trans rfl
theorem Box.c4(h:Box w base g v0 v1 v2 v3 v4 v5):w.cell? ⟨g,4,none⟩=some v4:=(World.ownsRow.cellAt h 4 (by omega)).trans rfl
theorem Box.c5(h:Box w base g v0 v1 v2 v3 v4 v5):w.cell? ⟨g,5,none⟩=some v5:=(World.ownsRow.cellAt h 5 (by omega)).trans rfl
theorem Box.set0(h:Box w base g v0 v1 v2 v3 v4 v5)(u:Value):Box (w.setCell ⟨g,0,none⟩ u) base g u v1 v2 v3 v4 v5∧w.grownBy (w.setCell ⟨g,0,none⟩ u) (some g):=World.ownsRow.stored h 0 u
theorem Box.set1(h:Box w base g v0 v1 v2 v3 v4 v5)(u:Value):Box (w.setCell ⟨g,1,none⟩ u) base g v0 u v2 v3 v4 v5∧w.grownBy (w.setCell ⟨g,1,none⟩ u) (some g):=World.ownsRow.stored h 1 u
theorem Box.set2(h:Box w base g v0 v1 v2 v3 v4 v5)(u:Value):Box (w.setCell ⟨g,2,none⟩ u) base g v0 v1 u v3 v4 v5∧w.grownBy (w.setCell ⟨g,2,none⟩ u) (some g):=World.ownsRow.stored h 2 u
theorem Box.set3(h:Box w base g v0 v1 v2 v3 v4 v5)(u:Value):Box (w.setCell ⟨g,3,none⟩ u) base g v0 v1 v2 u v4 v5∧w.grownBy (w.setCell ⟨g,3,none⟩ u) (some g):=World.ownsRow.stored h 3 u
theorem Box.set4(h:Box w base g v0 v1 v2 v3 v4 v5)(u:Value):Box (w.setCell ⟨g,4,none⟩ u) base g v0 v1 v2 v3 u v5∧w.grownBy (w.setCell ⟨g,4,none⟩ u) (some g):=World.ownsRow.stored h 4 u
theorem Box.set5(h:Box w base g v0 v1 v2 v3 v4 v5)(u:Value):Box (w.setCell ⟨g,5,none⟩ u) base g v0 v1 v2 v3 v4 u∧w.grownBy (w.setCell ⟨g,5,none⟩ u) (some g):=World.ownsRow.stored h 5 u
theorem Box.kept{row:Option Nat}(h:Box w base g v0 v1 v2 v3 v4 v5)(k:w.grownBy w' row)(hne:some g≠row):Box w' base g v0 v1 v2 v3 v4 v5:=World.ownsRow.kept h k (Or.inr hne)
theorem Box.below{B:Nat}(h:Box w base g v0 v1 v2 v3 v4 v5)(k:Below B w w')(hg:g<B):Box w' base g v0 v1 v2 v3 v4 v5:=by
 refine⟨h.1,?_⟩
 rcases h.2 with⟨h1,_⟩|⟨g',c,cur,h1,h2,h3,h4⟩
 ·simp at h1
 ·have e:g=g':=by simp at h1;exact h1.1
  subst e
  exact .inr ⟨g,c,cur,h1,h2,(k.block g hg).trans h3,h4⟩
end
theorem Box.all{w:World}{base g:Nat}{v0 v1 v2 v3 v4 v5:Value}(h:Box w base g v0 v1 v2 v3 v4 v5):w.cell? ⟨g,0,none⟩=some v0∧w.cell? ⟨g,1,none⟩=some v1∧w.cell? ⟨g,2,none⟩=some v2∧w.cell? ⟨g,3,none⟩=some v3∧w.cell? ⟨g,4,none⟩=some v4∧w.cell? ⟨g,5,none⟩=some v5∧w.frozen? ⟨g,0,none⟩=false∧w.frozen? ⟨g,1,none⟩=false∧w.frozen? ⟨g,2,none⟩=false∧w.frozen? ⟨g,3,none⟩=false∧w.frozen? ⟨g,4,none⟩=false∧w.frozen? ⟨g,5,none⟩=false:=⟨h.c0,h.c1,h.c2,h.c3,h.c4,h.c5,h.free 0,h.free 1,h.free 2,h.free 3,h.free 4,h.free 5⟩
end BMem
namespace AccountSOk
open Pairs Chart
def Tells(b:Bool)(x lo hi:Int):Prop:=b=true↔lo≤x∧x≤hi
theorem tells_of(x lo hi:Int):∃b,Tells b x lo hi:=bool_of _
theorem sIn(x lo hi:Int)(b:Bool)(w:World)(hb:Tells b x lo hi):
  Calls Tryz.prog 38 #[.int .i64 x,.int .i64 lo,.int .i64 hi] w fun e w'=>e= .returned (.bool b)∧w'=w:=by
 cases b
 ·have H:=zh (show lo≤x→¬x≤hi from fun h1 h2=>Bool.noConfusion ((zu hb).2 ⟨h1,h2⟩))
  clear hb
  by_cases h1:lo≤x
  ·have h2:=(zu H) h1
   clear H
   go_enter Tryz.func38,Tryz.ntmps38
   go_wp2
   go_ret
   exact⟨rfl,rfl⟩
  ·clear H
   go_enter Tryz.func38,Tryz.ntmps38
   go_wp2
   go_ret
   exact⟨rfl,rfl⟩
 ·obtain⟨h1,h2⟩:=(zu hb).1 rfl
  clear hb
  go_enter Tryz.func38,Tryz.ntmps38
  go_wp2
  go_ret
  exact⟨rfl,rfl⟩
theorem sNo(x:Int)(b:Bool)(w:World)(hb:Tells b x 1 1000):
  Calls Tryz.prog 74 #[.int .i64 x] w fun e w'=>e= .returned (.bool b)∧w'=w:=by
 go_enter Tryz.func74,Tryz.ntmps74
 go_wp2_with fail
 refine(sIn x 1 1000 b _ hb).mono ?_
 rintro e w' ⟨rfl,rfl⟩
 go_wp2
 go_ret
 exact⟨rfl,rfl⟩
theorem drewN_more{w wr:World}(h:∃q,wr=w.drewN q)(m:Nat):∃q,wr.drewN m=w.drewN q:=by
 obtain⟨q,rfl⟩:=h
 exact⟨q+m,World.drewN_drewN ..⟩
theorem sOk(w:World)(g n cap:Nat)(ps:List (Int×Int))(ok:Bool)(hl:ps.length=n)(h20:n≤1048576)(h:At w g ps)(hok:Says ok 20 4 ps):
  Calls Tryz.prog 65 #[.slice (some ⟨g,0,none⟩) n cap] w fun e w'=>e= .returned (.bool ok)∧∃q,w'=w.drewN q:=by
 by_cases nn:(20:Int)<(n:Int)
 ·obtain rfl:ok=false:=hok.not (fun r=>by have:=r.1;omega)
  clear hok h
  go_enter Tryz.func65,Tryz.ntmps65
  go_wp2
  go_ret
  exact⟨rfl,0,rfl⟩
 go_enter Tryz.func65,Tryz.ntmps65
 go_wp2
 go_loopw [3] (fun i wr=>∃(k:Nat),k≤n∧i= .int .i64 k∧At wr g ps∧Hid (∃q,wr=w.drewN q)∧Hid (∀i,i<k→RowOk 4 ps i)) (fun i _=>n-(intOf i).toNat)
 case atStart=>exact⟨0,by omega,rfl,h,zh ⟨0,rfl⟩,zh (fun i hi=>absurd hi (by omega))⟩
 case round=>
  clear h
  obtain⟨k,hk,rfl,h,HQ,HG⟩:=hrel
  by_cases t:k<n
  ·obtain⟨e1,e2⟩:=h k (by omega)
   have e3:0<k→wr.cell? ⟨g,(k-1)*2,none⟩=some (.int .i64 (el ps (k-1)).1):=fun k0=>(h (k-1) (by omega)).1
   obtain⟨b1,B1⟩:=tells_of (el ps k).1 1 1000
   obtain⟨b2,B2⟩:=tells_of (el ps k).2 1 4
   have ROW:=zh (show RowOk 4 ps k↔(b1=true)∧(b2=true)∧(0<k→(el ps (k-1)).1<(el ps k).1) from by unfold Tells at B1 B2;rw[B1,B2];exact Iff.rfl)
   have HA:=zh h
   clear h
   have BAD:=zh (show ¬RowOk 4 ps k→ok=false from fun hr=>hok.not (fun r=>hr (r.2 k (by omega))))
   have GOOD:=zh (show RowOk 4 ps k→∀i,i<k+1→RowOk 4 ps i from fun hr i hi=>by
    by_cases e:i=k
    ·subst e;exact hr
    ·exact(zu HG) i (by omega))
   generalize (el ps k).1=x at *
   generalize (el ps k).2=y at *
   cases b1
   ·have OKF:=zh ((zu BAD) (fun hr=>by have:=((zu ROW).1 hr).1;cases this))
    clear BAD GOOD ROW e3
    go_wp2_with fail
    go_quiet (first|(go_at_call 74;refine Calls.quiet_of_same (sNo _ false _ B1)))
    go_wp2
    go_ret
    exact⟨by rw[zu OKF];rfl,drewN_more (zu HQ) _⟩
   ·cases b2
    ·have OKF:=zh ((zu BAD) (fun hr=>by have:=((zu ROW).1 hr).2.1;cases this))
     clear BAD GOOD ROW e3
     go_wp2_with fail
     go_quiet (first|(go_at_call 74;refine Calls.quiet_of_same (sNo _ true _ B1))|(go_at_call 38;refine Calls.quiet_of_same (sIn _ _ _ false _ B2)))
     go_wp2
     go_ret
     exact⟨by rw[zu OKF];rfl,drewN_more (zu HQ) _⟩
    ·by_cases k0:0<k
     ·have e3:=e3 k0
      have k1:(0:Int)<(k:Int):=by omega
      have k2:(0:Int)≤(k:Int) -1:=by omega
      have k3:((k:Int) -1).toNat=k-1:=by omega
      by_cases lt:(el ps (k-1)).1<x
      ·have GO:=zh ((zu GOOD) ((zu ROW).2 ⟨rfl,rfl,fun _=>lt⟩))
       clear BAD GOOD ROW
       have ge:¬x≤(el ps (k-1)).1:=by omega
       generalize (el ps (k-1)).1=z at *
       go_wp2_with fail
       go_quiet (first|(go_at_call 74;refine Calls.quiet_of_same (sNo _ true _ B1))|(go_at_call 38;refine Calls.quiet_of_same (sIn _ _ _ true _ B2)))
       go_wp2
       go_roundw
       case rel=>exact⟨k+1,by omega,by go_num,zu HA,zh (drewN_more (zu HQ) _),GO⟩
       case measure=>simp[intOf];omega
      ·have OKF:=zh ((zu BAD) (fun hr=>lt (((zu ROW).1 hr).2.2 k0)))
       clear BAD GOOD ROW
       have ge:x≤(el ps (k-1)).1:=by omega
       generalize (el ps (k-1)).1=z at *
       go_wp2_with fail
       go_quiet (first|(go_at_call 74;refine Calls.quiet_of_same (sNo _ true _ B1))|(go_at_call 38;refine Calls.quiet_of_same (sIn _ _ _ true _ B2)))
       go_wp2
       go_ret
       exact⟨by rw[zu OKF];rfl,drewN_more (zu HQ) _⟩
     ·obtain rfl:k=0:=by omega
      have GO:=zh ((zu GOOD) ((zu ROW).2 ⟨rfl,rfl,fun h0=>absurd h0 k0⟩))
      clear BAD GOOD ROW e3
      go_wp2_with fail
      go_quiet (first|(go_at_call 74;refine Calls.quiet_of_same (sNo _ true _ B1))|(go_at_call 38;refine Calls.quiet_of_same (sIn _ _ _ true _ B2)))
      go_wp2
      go_roundw
      case rel=>exact⟨1,by omega,by go_num,zu HA,zh (drewN_more (zu HQ) _),GO⟩
      case measure=>simp[intOf];omega
  ·obtain rfl:k=n:=by omega
   obtain rfl:ok=true:=hok.of ⟨by omega,by rw[hl];exact zu HG⟩
   clear h hok
   go_wp2
   go_ret
   exact⟨rfl,zu HQ⟩
theorem sKind(w:World)(g n cap:Nat)(ps:List (Int×Int))(no:Int)(hl:ps.length=n)(h20:n≤1048576)(h:At w g ps):
  Calls Tryz.prog 72 #[.slice (some ⟨g,0,none⟩) n cap,.int .i64 no] w fun e w'=>∃r,IsKind 20 4 ps no r∧e= .returned (.int .i64 r)∧∃q,w'=w.drewN q:=by
 obtain⟨ok,OK⟩:=says_of 20 4 ps
 go_enter Tryz.func72,Tryz.ntmps72
 go_wp2
 go_loopw [5] (fun i wr=>∃(k:Nat),k≤n∧i= .int .i64 k∧At wr g ps∧Hid (∃q,wr=w.drewN q)∧Hid (∀i,i<k→(el ps i).1≠no)) (fun i _=>n-(intOf i).toNat)
 case atStart=>exact⟨0,by omega,rfl,h,zh ⟨0,rfl⟩,zh (fun i hi=>absurd hi (by omega))⟩
 case round=>
  clear h
  obtain⟨k,hk,rfl,h,HQ,HG⟩:=hrel
  by_cases t:k<n
  ·obtain⟨e1,e2⟩:=h k (by omega)
   have HA:=zh h
   clear h
   have GO:=zh (show(el ps k).1≠no→∀i,i<k+1→(el ps i).1≠no from fun hn i hi=>by
    by_cases e:i=k
    ·subst e;exact hn
    ·exact(zu HG) i (by omega))
   have YES:=zh (show ok=true→(el ps k).1=no→IsKind 20 4 ps no (el ps k).2 from fun ho he=> .inl ⟨OK.1 ho,k,by omega,he,rfl⟩)
   generalize (el ps k).1=x at *
   generalize (el ps k).2=y at *
   cases ok
   ·go_wp2_with fail
    refine(sOk _ _ _ _ ps false hl h20 (zu HA) OK).mono ?_
    rintro e w2 ⟨rfl,nq,rfl⟩
    go_wp2
    go_ret
    exact⟨0,.inr ⟨.inl OK.no,rfl⟩,rfl,drewN_more (zu HQ) _⟩
   ·go_wp2_with fail
    refine(sOk _ _ _ _ ps true hl h20 (zu HA) OK).mono ?_
    rintro e w2 ⟨rfl,nq,rfl⟩
    by_cases eq:x=no
    ·have Y:=zh ((zu YES) (by trivial) eq)
     clear YES GO
     subst eq
     go_wp2
     go_ret
     exact⟨y,zu Y,rfl,drewN_more (zu HQ) _⟩
    ·have eqb:(x==no)=false:=by simpa using eq
     have G:=zh ((zu GO) eq)
     clear YES GO
     go_wp2
     go_roundw
     case rel=>exact⟨k+1,by omega,by go_num,zu HA,zh (drewN_more (zu HQ) _),G⟩
     case measure=>simp[intOf];omega
  ·obtain rfl:k=n:=by omega
   have K0:=zh (show IsKind 20 4 ps no 0 from .inr ⟨.inr (fun i hi=>(zu HG) i (by omega)),rfl⟩)
   clear h
   go_wp2
   go_ret
   exact⟨0,zu K0,rfl,zu HQ⟩
end AccountSOk
namespace InstrSOk
open Pairs Chart
def Tells(b:Bool)(x lo hi:Int):Prop:=b=true↔lo≤x∧x≤hi
theorem tells_of(x lo hi:Int):∃b,Tells b x lo hi:=bool_of _
theorem sIn(x lo hi:Int)(b:Bool)(w:World)(hb:Tells b x lo hi):
  Calls Tryz.prog 38 #[.int .i64 x,.int .i64 lo,.int .i64 hi] w fun e w'=>e= .returned (.bool b)∧w'=w:=by
 cases b
 ·have H:=zh (show lo≤x→¬x≤hi from fun h1 h2=>Bool.noConfusion ((zu hb).2 ⟨h1,h2⟩))
  clear hb
  by_cases h1:lo≤x
  ·have h2:=(zu H) h1
   clear H
   go_enter Tryz.func38,Tryz.ntmps38
   go_wp2
   go_ret
   exact⟨rfl,rfl⟩
  ·clear H
   go_enter Tryz.func38,Tryz.ntmps38
   go_wp2
   go_ret
   exact⟨rfl,rfl⟩
 ·obtain⟨h1,h2⟩:=(zu hb).1 rfl
  clear hb
  go_enter Tryz.func38,Tryz.ntmps38
  go_wp2
  go_ret
  exact⟨rfl,rfl⟩
theorem sNo(x:Int)(b:Bool)(w:World)(hb:Tells b x 1 1000):
  Calls Tryz.prog 74 #[.int .i64 x] w fun e w'=>e= .returned (.bool b)∧w'=w:=by
 go_enter Tryz.func74,Tryz.ntmps74
 go_wp2_with fail
 refine(sIn x 1 1000 b _ hb).mono ?_
 rintro e w' ⟨rfl,rfl⟩
 go_wp2
 go_ret
 exact⟨rfl,rfl⟩
theorem drewN_more{w wr:World}(h:∃q,wr=w.drewN q)(m:Nat):∃q,wr.drewN m=w.drewN q:=by
 obtain⟨q,rfl⟩:=h
 exact⟨q+m,World.drewN_drewN ..⟩
theorem sOk(w:World)(g n cap:Nat)(ps:List (Int×Int))(ok:Bool)(hl:ps.length=n)(h20:n≤1048576)(h:At w g ps)(hok:Says ok 8 2 ps):
  Calls Tryz.prog 66 #[.slice (some ⟨g,0,none⟩) n cap] w fun e w'=>e= .returned (.bool ok)∧∃q,w'=w.drewN q:=by
 by_cases nn:(8:Int)<(n:Int)
 ·obtain rfl:ok=false:=hok.not (fun r=>by have:=r.1;omega)
  clear hok h
  go_enter Tryz.func66,Tryz.ntmps66
  go_wp2
  go_ret
  exact⟨rfl,0,rfl⟩
 go_enter Tryz.func66,Tryz.ntmps66
 go_wp2
 go_loopw [3] (fun i wr=>∃(k:Nat),k≤n∧i= .int .i64 k∧At wr g ps∧Hid (∃q,wr=w.drewN q)∧Hid (∀i,i<k→RowOk 2 ps i)) (fun i _=>n-(intOf i).toNat)
 case atStart=>exact⟨0,by omega,rfl,h,zh ⟨0,rfl⟩,zh (fun i hi=>absurd hi (by omega))⟩
 case round=>
  clear h
  obtain⟨k,hk,rfl,h,HQ,HG⟩:=hrel
  by_cases t:k<n
  ·obtain⟨e1,e2⟩:=h k (by omega)
   have e3:0<k→wr.cell? ⟨g,(k-1)*2,none⟩=some (.int .i64 (el ps (k-1)).1):=fun k0=>(h (k-1) (by omega)).1
   obtain⟨b1,B1⟩:=tells_of (el ps k).1 1 1000
   obtain⟨b2,B2⟩:=tells_of (el ps k).2 1 2
   have ROW:=zh (show RowOk 2 ps k↔(b1=true)∧(b2=true)∧(0<k→(el ps (k-1)).1<(el ps k).1) from by unfold Tells at B1 B2;rw[B1,B2];exact Iff.rfl)
   have HA:=zh h
   clear h
   have BAD:=zh (show ¬RowOk 2 ps k→ok=false from fun hr=>hok.not (fun r=>hr (r.2 k (by omega))))
   have GOOD:=zh (show RowOk 2 ps k→∀i,i<k+1→RowOk 2 ps i from fun hr i hi=>by
    by_cases e:i=k
    ·subst e;exact hr
    ·exact(zu HG) i (by omega))
   generalize (el ps k).1=x at *
   generalize (el ps k).2=y at *
   cases b1
   ·have OKF:=zh ((zu BAD) (fun hr=>by have:=((zu ROW).1 hr).1;cases this))
    clear BAD GOOD ROW e3
    go_wp2_with fail
    go_quiet (first|(go_at_call 74;refine Calls.quiet_of_same (sNo _ false _ B1)))
    go_wp2
    go_ret
    exact⟨by rw[zu OKF];rfl,drewN_more (zu HQ) _⟩
   ·cases b2
    ·have OKF:=zh ((zu BAD) (fun hr=>by have:=((zu ROW).1 hr).2.1;cases this))
     clear BAD GOOD ROW e3
     go_wp2_with fail
     go_quiet (first|(go_at_call 74;refine Calls.quiet_of_same (sNo _ true _ B1))|(go_at_call 38;refine Calls.quiet_of_same (sIn _ _ _ false _ B2)))
     go_wp2
     go_ret
     exact⟨by rw[zu OKF];rfl,drewN_more (zu HQ) _⟩
    ·by_cases k0:0<k
     ·have e3:=e3 k0
      have k1:(0:Int)<(k:Int):=by omega
      have k2:(0:Int)≤(k:Int) -1:=by omega
      have k3:((k:Int) -1).toNat=k-1:=by omega
      by_cases lt:(el ps (k-1)).1<x
      ·have GO:=zh ((zu GOOD) ((zu ROW).2 ⟨rfl,rfl,fun _=>lt⟩))
       clear BAD GOOD ROW
       have ge:¬x≤(el ps (k-1)).1:=by omega
       generalize (el ps (k-1)).1=z at *
       go_wp2_with fail
       go_quiet (first|(go_at_call 74;refine Calls.quiet_of_same (sNo _ true _ B1))|(go_at_call 38;refine Calls.quiet_of_same (sIn _ _ _ true _ B2)))
       go_wp2
       go_roundw
       case rel=>exact⟨k+1,by omega,by go_num,zu HA,zh (drewN_more (zu HQ) _),GO⟩
       case measure=>simp[intOf];omega
      ·have OKF:=zh ((zu BAD) (fun hr=>lt (((zu ROW).1 hr).2.2 k0)))
       clear BAD GOOD ROW
       have ge:x≤(el ps (k-1)).1:=by omega
       generalize (el ps (k-1)).1=z at *
       go_wp2_with fail
       go_quiet (first|(go_at_call 74;refine Calls.quiet_of_same (sNo _ true _ B1))|(go_at_call 38;refine Calls.quiet_of_same (sIn _ _ _ true _ B2)))
       go_wp2
       go_ret
       exact⟨by rw[zu OKF];rfl,drewN_more (zu HQ) _⟩
     ·obtain rfl:k=0:=by omega
      have GO:=zh ((zu GOOD) ((zu ROW).2 ⟨rfl,rfl,fun h0=>absurd h0 k0⟩))
      clear BAD GOOD ROW e3
      go_wp2_with fail
      go_quiet (first|(go_at_call 74;refine Calls.quiet_of_same (sNo _ true _ B1))|(go_at_call 38;refine Calls.quiet_of_same (sIn _ _ _ true _ B2)))
      go_wp2
      go_roundw
      case rel=>exact⟨1,by omega,by go_num,zu HA,zh (drewN_more (zu HQ) _),GO⟩
      case measure=>simp[intOf];omega
  ·obtain rfl:k=n:=by omega
   obtain rfl:ok=true:=hok.of ⟨by omega,by rw[hl];exact zu HG⟩
   clear h hok
   go_wp2
   go_ret
   exact⟨rfl,zu HQ⟩
theorem sKind(w:World)(g n cap:Nat)(ps:List (Int×Int))(no:Int)(hl:ps.length=n)(h20:n≤1048576)(h:At w g ps):
  Calls Tryz.prog 73 #[.slice (some ⟨g,0,none⟩) n cap,.int .i64 no] w fun e w'=>∃r,IsKind 8 2 ps no r∧e= .returned (.int .i64 r)∧∃q,w'=w.drewN q:=by
 obtain⟨ok,OK⟩:=says_of 8 2 ps
 go_enter Tryz.func73,Tryz.ntmps73
 go_wp2
 go_loopw [5] (fun i wr=>∃(k:Nat),k≤n∧i= .int .i64 k∧At wr g ps∧Hid (∃q,wr=w.drewN q)∧Hid (∀i,i<k→(el ps i).1≠no)) (fun i _=>n-(intOf i).toNat)
 case atStart=>exact⟨0,by omega,rfl,h,zh ⟨0,rfl⟩,zh (fun i hi=>absurd hi (by omega))⟩
 case round=>
  clear h
  obtain⟨k,hk,rfl,h,HQ,HG⟩:=hrel
  by_cases t:k<n
  ·obtain⟨e1,e2⟩:=h k (by omega)
   have HA:=zh h
   clear h
   have GO:=zh (show(el ps k).1≠no→∀i,i<k+1→(el ps i).1≠no from fun hn i hi=>by
    by_cases e:i=k
    ·subst e;exact hn
    ·exact(zu HG) i (by omega))
   have YES:=zh (show ok=true→(el ps k).1=no→IsKind 8 2 ps no (el ps k).2 from fun ho he=> .inl ⟨OK.1 ho,k,by omega,he,rfl⟩)
   generalize (el ps k).1=x at *
   generalize (el ps k).2=y at *
   cases ok
   ·go_wp2_with fail
    refine(sOk _ _ _ _ ps false hl h20 (zu HA) OK).mono ?_
    rintro e w2 ⟨rfl,nq,rfl⟩
    go_wp2
    go_ret
    exact⟨0,.inr ⟨.inl OK.no,rfl⟩,rfl,drewN_more (zu HQ) _⟩
   ·go_wp2_with fail
    refine(sOk _ _ _ _ ps true hl h20 (zu HA) OK).mono ?_
    rintro e w2 ⟨rfl,nq,rfl⟩
    by_cases eq:x=no
    ·have Y:=zh ((zu YES) (by trivial) eq)
     clear YES GO
     subst eq
     go_wp2
     go_ret
     exact⟨y,zu Y,rfl,drewN_more (zu HQ) _⟩
    ·have eqb:(x==no)=false:=by simpa using eq
     have G:=zh ((zu GO) eq)
     clear YES GO
     go_wp2
     go_roundw
     case rel=>exact⟨k+1,by omega,by go_num,zu HA,zh (drewN_more (zu HQ) _),G⟩
     case measure=>simp[intOf];omega
  ·obtain rfl:k=n:=by omega
   have K0:=zh (show IsKind 8 2 ps no 0 from .inr ⟨.inr (fun i hi=>(zu HG) i (by omega)),rfl⟩)
   clear h
   go_wp2
   go_ret
   exact⟨0,zu K0,rfl,zu HQ⟩
end InstrSOk
namespace Trd
open Bks Tup8
open Bals (T3)
open Lots (NoOk)
def IsAt(ps:List T8)(no:Int)(k:Nat):Prop:=k<ps.length∧(el8 ps k).1=no∧∀j,j<k→(el8 ps j).1≠no
def NoneAt(ps:List T8)(no:Int):Prop:=∀j,j<ps.length→(el8 ps j).1≠no
theorem IsAt.same{ps:List T8}{no:Int}{k l:Nat}(h:IsAt ps no k)(g:IsAt ps no l):k=l:=by
 rcases Nat.lt_trichotomy k l with a|a|a
 ·exact absurd h.2.1 (g.2.2 k a)
 ·exact a
 ·exact absurd g.2.1 (h.2.2 l a)
theorem IsAt.not{ps:List T8}{no:Int}{k:Nat}(h:IsAt ps no k)(g:NoneAt ps no):False:=g k h.1 h.2.1
theorem asc{ps:List T8}(h:TRight ps):∀j i,i<j→j<ps.length→(el8 ps i).1<(el8 ps j).1:=by
 intro j
 induction j with
 |zero=>intro i hi;omega
 |succ j ih=>
  intro i hi hj
  have s:=(h.2 (j+1) hj).2 (by omega)
  rw[Nat.add_sub_cancel] at s
  by_cases e:i=j
  ·subst e;exact s
  ·have:=ih i (by omega) (by omega)
   omega
def insT(t:T8):List T8→List T8
 |[]=>[t]
 |p::r=>if t.1<p.1 then t::p::r else p::insT t r
def inState(p:T8)(s:Int):T8:=(p.1,p.2.1,p.2.2.1,p.2.2.2.1,p.2.2.2.2.1,p.2.2.2.2.2.1,p.2.2.2.2.2.2.1,s)
def setState(ps:List T8)(k:Nat)(s:Int):List T8:=ps.modify k (fun p=>inState p s)
theorem set_len(ps:List T8)(k:Nat)(s:Int):(setState ps k s).length=ps.length:=by simp[setState]
def NoneT(b:Bk)(x y p m:Int):Prop:=kindOf b.ac x=0∨kindOf b.ac y=0∨kindOf b.ic p=0∨kindOf b.ic m=0
def KindT(b:Bk)(x y p m:Int):Prop:=kindOf b.ac x≠1∨kindOf b.ac y≠1∨x=y∨kindOf b.ic p≠2∨kindOf b.ic m≠1
def IsTrade(b:Bk)(no x y p q m pr:Int)(b':Bk)(c:Int):Prop:=
 ((∃k,IsAt b.ts no k)∧b'=b∧c=2)∨
 (NoneAt b.ts no∧NoneT b x y p m∧b'=b∧c=3)∨
 (NoneAt b.ts no∧¬NoneT b x y p m∧KindT b x y p m∧b'=b∧c=4)∨
 (NoneAt b.ts no∧¬NoneT b x y p m∧¬KindT b x y p m∧b.ts.length=30∧b'=b∧c=7)∨
 (NoneAt b.ts no∧¬NoneT b x y p m∧¬KindT b x y p m∧b.ts.length≠30∧b'={b with ts:=insT (no,x,y,p,q,m,pr,1) b.ts}∧c=0)
def IsCancel(b:Bk)(no:Int)(b':Bk)(c:Int):Prop:=
 (NoneAt b.ts no∧b'=b∧c=3)∨
 (∃k,IsAt b.ts no k∧(((el8 b.ts k).2.2.2.2.2.2.2≠1∧b'=b∧c=6)∨((el8 b.ts k).2.2.2.2.2.2.2=1∧b'={b with ts:=setState b.ts k 3}∧c=0)))
def legsT(t:T8):List T3:=pairL t.2.1 t.2.2.1 t.2.2.2.2.2.1 t.2.2.2.2.2.2.1++pairL t.2.2.1 t.2.1 t.2.2.2.1 t.2.2.2.2.1
def IsSettle(b:Bk)(no way:Int)(b':Bk)(gain c:Int):Prop:=
 (NoneAt b.ts no∧b'=b∧gain=0∧c=3)∨
 (∃k,IsAt b.ts no k∧(((el8 b.ts k).2.2.2.2.2.2.2≠1∧b'=b∧gain=0∧c=6)∨
  ((el8 b.ts k).2.2.2.2.2.2.2=1∧∃b1 c1,IsPosted b (legsT (el8 b.ts k)) b1 c1∧((c1≠0∧b'=b∧gain=0∧c=c1)∨
   (c1=0∧∃b2 k2 c2,IsTake b1 (el8 b.ts k).2.2.1 (el8 b.ts k).2.2.2.1 (el8 b.ts k).2.2.2.2.1 way b2 k2 c2∧((c2≠0∧b'=b∧gain=0∧c=c2)∨
    (c2=0∧∃b3 c3,IsOpen b2 (el8 b.ts k).2.1 (el8 b.ts k).2.2.2.1 (el8 b.ts k).2.2.2.2.1 (el8 b.ts k).2.2.2.2.2.2.1 b3 c3∧((c3≠0∧b'=b∧gain=0∧c=c3)∨
     (c3=0∧b'={b3 with ts:=setState b3.ts k 2}∧gain=IntKind.i64.wrap ((el8 b.ts k).2.2.2.2.2.2.1-k2)∧c=0)))))))))
def openT(lo hi:Int):List T8→List Int
 |[]=>[]
 |p::r=>(if p.2.2.2.2.2.2.2=1∧lo≤p.1∧p.1≤hi then[p.1] else[])++openT lo hi r
theorem openT_append(lo hi:Int):∀ps qs:List T8,openT lo hi (ps++qs)=openT lo hi ps++openT lo hi qs
 |[],qs=>rfl
 |p::r,qs=>by simp[openT,openT_append lo hi r qs]
theorem trade_take{ps:List T8}{k:Nat}(h:k<ps.length):ps.take (k+1)=ps.take k++[el8 ps k]:=by
 rw[List.take_succ_eq_append_getElem h]
 simp[el8,List.getD,h]
theorem openT_next{ps:List T8}{k:Nat}(lo hi:Int)(h:k<ps.length):openT lo hi (ps.take (k+1))=openT lo hi (ps.take k)++(if(el8 ps k).2.2.2.2.2.2.2=1∧lo≤(el8 ps k).1∧(el8 ps k).1≤hi then[(el8 ps k).1] else[]):=by
 rw[trade_take h,openT_append]
 simp[openT]
theorem ins_none(t:T8):∀l:List T8,(∀p∈l,¬t.1<p.1)→insT t l=l++[t]
 |[],_=>rfl
 |p::r,h=>by
  unfold insT
  rw[if_neg (h p (by simp)),ins_none t r (fun q hq=>h q (by simp[hq]))]
  rfl
theorem ins_some(t:T8):∀l r:List T8,(∃p∈l,t.1<p.1)→insT t (l++r)=insT t l++r
 |[],r,h=>by obtain⟨p,hp,_⟩:=h;simp at hp
 |q::l,r,h=>by
  show insT t (q::(l++r))=_
  unfold insT
  by_cases g:t.1<q.1
  ·rw[if_pos g,if_pos g];rfl
  ·rw[if_neg g,if_neg g]
   obtain⟨p,hp,hl⟩:=h
   rcases List.mem_cons.1 hp with e|e
   ·subst e;exact absurd hl g
   ·rw[ins_some t l r ⟨p,e,hl⟩];rfl
theorem ins_here(t p:T8):∀l:List T8,(∀q∈l,¬t.1<q.1)→t.1<p.1→insT t (l++[p])=l++[t]++[p]
 |[],_,g=>by
  show insT t [p]=_
  unfold insT
  rw[if_pos g];rfl
 |q::l,h,g=>by
  show insT t (q::(l++[p]))=_
  unfold insT
  rw[if_neg (h q (by simp)),ins_here t p l (fun q hq=>h q (by simp[hq])) g]
  rfl
def FoundAt(ps:List T8)(no r:Int):Prop:=(∃k:Nat,IsAt ps no k∧r=k)∨(NoneAt ps no∧r= -1)
def OpenAt(ps:List T8)(no r c:Int):Prop:=(NoneAt ps no∧r= -1∧c=3)∨(∃k:Nat,IsAt ps no k∧r=k∧(((el8 ps k).2.2.2.2.2.2.2≠1∧c=6)∨((el8 ps k).2.2.2.2.2.2.2=1∧c=0)))
end Trd
namespace Quota
open Ints Weigh MulC
def Q(t:Int)(xs:List Int)(i:Nat):Int:=t*xs.getD i 0/S xs xs.length
def R(t:Int)(xs:List Int)(i:Nat):Int:=t*xs.getD i 0%S xs xs.length
def Tot(t:Int):Prop:=0≤t∧t≤1000000000000000
theorem Q_le(t:Int)(xs:List Int)(i:Nat)(ht:Tot t)(hg:Weigh.Good xs)(hi:i<xs.length):0≤Q t xs i∧Q t xs i≤t:=by
 obtain⟨_,hw,hs,_⟩:=hg
 have h1:=S_one xs i xs.length hi hw
 have h0:=(hw i hi).1
 unfold Q
 generalize xs.getD i 0=x at *
 generalize S xs xs.length=s at *
 refine⟨Int.ediv_nonneg (Int.mul_nonneg ht.1 h0) (by omega),?_⟩
 have:t*x≤t*s:=Int.mul_le_mul_of_nonneg_left h1 ht.1
 have:=Int.ediv_le_ediv (by omega:0<s) this
 rwa [Int.mul_ediv_cancel _ (by omega)] at this
theorem R_lt(t:Int)(xs:List Int)(i:Nat)(hg:Weigh.Good xs):0≤R t xs i∧R t xs i<S xs xs.length:=by
 have:=hg.2.2.1
 exact⟨Int.emod_nonneg _ (by omega),Int.emod_lt_of_pos _ (by omega)⟩
theorem tells(t:Int)(xs:List Int)(i:Nat)(ht:Tot t)(hg:Weigh.Good xs)(hi:i<xs.length):Tells t (xs.getD i 0) (S xs xs.length) (Q t xs i) (R t xs i) true:=by
 refine Or.inl ⟨?_,rfl,rfl,rfl⟩
 have:=Q_le t xs i ht hg hi
 have:=ht.2
 show Q t xs i≤_
 omega
def QTells(t:Int)(xs:List Int)(i q r:Int)(ok:Bool):Prop:=
 (Weigh.Good xs∧Tot t∧(0≤i∧i<xs.length)∧q=Q t xs i.toNat∧r=R t xs i.toNat∧ok=true)∨(¬(Weigh.Good xs∧Tot t∧0≤i∧i<xs.length)∧q=0∧r=0∧ok=false)
theorem QTells.bad{t i q r:Int}{xs:List Int}{ok:Bool}(h:QTells t xs i q r ok)(hb:¬(Weigh.Good xs∧Tot t∧0≤i∧i<xs.length)):q=0∧r=0∧ok=false:=by
 rcases h with h|h
 ·exact absurd ⟨h.1,h.2.1,h.2.2.1⟩ hb
 ·exact h.2
theorem QTells.fine{t q r:Int}{i:Nat}{xs:List Int}{ok:Bool}(h:QTells t xs i q r ok)(hg:Weigh.Good xs)(ht:Tot t)(hi:i<xs.length):q=Q t xs i∧r=R t xs i∧ok=true:=by
 rcases h with h|h
 ·simpa using h.2.2.2
 ·exact absurd ⟨hg,ht,by omega,by omega⟩ h.1
theorem sQuota(w:World)(t i q r:Int)(ok:Bool)(g n cap:Nat)(xs:List Int)(hl:xs.length=n)(h20:n≤1048576)(h:At w g xs)(hq:Hid (QTells t xs i q r ok)):
  Calls Tryz.prog 105 #[.int .i64 t,.slice (some ⟨g,0,none⟩) n cap,.int .i64 i] w fun e w'=>e= .returned (.tuple #[.int .i64 q,.int .i64 r,.bool ok])∧∃m,w'=w.drewN m:=by
 by_cases hg:Weigh.Good xs
 ·have c1:=sWeights w g n cap xs true hl h20 h (zh ⟨fun _=>hg,fun _=>rfl⟩)
  have HG:=zh hg
  have n1:1≤n:=by have:=hg.1.1;omega
  have n40:n≤40:=by have:=hg.1.2;omega
  clear hg
  by_cases ht:Tot t
  ·have HT:=zh ht
   clear ht
   by_cases hi:0≤i∧i≤(n:Int) -1
   ·obtain⟨k,rfl⟩:=Int.eq_ofNat_of_zero_le hi.1
    have hk:(k:Int)<(n:Int):=by omega
    have e1:=h k (by omega)
    obtain⟨x0,x1⟩:=(zu HG).2.1 k (by omega)
    have s1:=(zu HG).2.2
    obtain⟨t0,t1⟩:=zu HT
    have F:=zh ((zu hq).fine (zu HG) (zu HT) (by omega))
    have c2:=fun W=>sMD t (xs.getD k 0) (S xs xs.length) (Q t xs k) (R t xs k) true W t0 t1 x0 x1 s1.1 s1.2 (zh (tells t xs k (zu HT) (zu HG) (by omega)))
    have c3:=fun m=>sAll (w.drewN m) g n cap xs hl n40 (fun i hi=>(zu HG).2.1 i (by omega)) h
    rw[hl] at c2 s1
    have HI:=zh hi
    clear hq h hi
    generalize xs.getD k 0=x at *
    generalize Q t xs k=qq at *
    generalize R t xs k=rr at *
    generalize S xs n=s at *
    go_enter Tryz.func105,Tryz.ntmps105
    go_wp2_with fail
    refine c1.mono ?_
    rintro e w' ⟨rfl,rfl⟩
    go_wp2_with fail
    refine(sSome t 0 true _ (zh ⟨fun _=>zu HT,fun _=>rfl⟩)).mono ?_
    rintro e w' ⟨rfl,rfl⟩
    go_wp2_with fail
    refine(sIn k 0 (n-1) true _ (zh ⟨fun _=>zu HI,fun _=>rfl⟩)).mono ?_
    rintro e w' ⟨rfl,rfl⟩
    go_wp2_with fail
    go_quiet (first|(go_at_call 113;exact Calls.quiet_of_same (c3 _))|(go_at_call 87;exact Calls.quiet_of_same (c2 _)))
    go_wp2
    go_ret3
    obtain⟨a1,a2,a3⟩:=zu F
    exact⟨by rw[a1,a2,a3];rfl,_,rfl⟩
   ·have F:=zh ((zu hq).bad (fun k=>hi ⟨k.2.2.1,by have:=k.2.2.2;omega⟩))
    have HI:=zh hi
    clear hi hq h
    go_enter Tryz.func105,Tryz.ntmps105
    go_wp2_with fail
    refine c1.mono ?_
    rintro e w' ⟨rfl,rfl⟩
    go_wp2_with fail
    refine(sSome t 0 true _ (zh ⟨fun _=>zu HT,fun _=>rfl⟩)).mono ?_
    rintro e w' ⟨rfl,rfl⟩
    go_wp2_with fail
    refine(sIn i 0 (n-1) false _ (zh ⟨fun h=>Bool.noConfusion h,fun h=>absurd h (zu HI)⟩)).mono ?_
    rintro e w' ⟨rfl,rfl⟩
    go_wp2
    go_ret3
    obtain⟨a1,a2,a3⟩:=zu F
    exact⟨by rw[a1,a2,a3];rfl,0,rfl⟩
  ·have F:=zh ((zu hq).bad (fun k=>ht k.2.1))
   have HT:=zh ht
   clear ht hq h
   go_enter Tryz.func105,Tryz.ntmps105
   go_wp2_with fail
   refine c1.mono ?_
   rintro e w' ⟨rfl,rfl⟩
   go_wp2_with fail
   refine(sSome t 0 false _ (zh ⟨fun h=>Bool.noConfusion h,fun h=>absurd h (zu HT)⟩)).mono ?_
   rintro e w' ⟨rfl,rfl⟩
   go_wp2
   go_ret3
   obtain⟨a1,a2,a3⟩:=zu F
   exact⟨by rw[a1,a2,a3];rfl,0,rfl⟩
 ·have F:=zh ((zu hq).bad (fun k=>hg k.1))
  have c1:=sWeights w g n cap xs false hl h20 h (zh ⟨fun k=>Bool.noConfusion k,fun k=>absurd k hg⟩)
  clear hg hq h
  go_enter Tryz.func105,Tryz.ntmps105
  go_wp2_with fail
  refine c1.mono ?_
  rintro e w' ⟨rfl,rfl⟩
  go_wp2
  go_ret3
  obtain⟨a1,a2,a3⟩:=zu F
  exact⟨by rw[a1,a2,a3];rfl,0,rfl⟩
end Quota
end Go.Proofs.YtcjgepkdpkhljaaGreat
