/- Lemmas. -/
import Derived.Test.YtlbgfdpcgpijhaaGreatQC1
import Derived.Test.YtlbgfdpcgpijhaaGreatQC3
import Derived.Maps.AppendAt
import Derived.Handy
open Go.ChangeShapes Go.WideShapes Go.ChangeAt Go.RowKit
set_option linter.unusedVariables false
set_option linter.unusedSimpArgs false
set_option maxRecDepth 100000
set_option maxHeartbeats 32000000
namespace Go.Proofs.YtlbgfdpcgpijhaaGreat
namespace Triples
open Bals
theorem zh{p:Prop}(h:p):Hid p:=h
theorem zu{p:Prop}(h:Hid p):p:=h
def flat3(ps:List T3):List Value:=ps.flatMap fun p=>[.int .i64 p.1,.int .i64 p.2.1,.int .i64 p.2.2]
theorem flat3_cons(p:T3)(ps:List T3):flat3 (p::ps)= .int .i64 p.1:: .int .i64 p.2.1:: .int .i64 p.2.2::flat3 ps:=rfl
theorem flat3_append(ps qs:List T3):flat3 (ps++qs)=flat3 ps++flat3 qs:=by simp[flat3,List.flatMap_append]
theorem flat3_len(ps:List T3):(flat3 ps).length=ps.length*3:=by
 induction ps with
 |nil=>rfl
 |cons p ps ih=>rw[flat3_cons];simp[ih];omega
theorem flat3_get(ps:List T3):∀i,i<ps.length→(flat3 ps)[i*3]?=some (.int .i64 (el3 ps i).1)∧(flat3 ps)[i*3+1]?=some (.int .i64 (el3 ps i).2.1)∧(flat3 ps)[i*3+2]?=some (.int .i64 (el3 ps i).2.2):=by
 induction ps with
 |nil=>intro i h;simp at h
 |cons p ps ih=>
  intro i h
  cases i with
  |zero=>rw[flat3_cons];simp
  |succ i=>
   have:=ih i (by simpa using h)
   rw[flat3_cons,show(i+1)*3=i*3+3 by omega,show i*3+3+1=(i*3+1)+3 by omega,show i*3+3+2=(i*3+2)+3 by omega]
   simpa using this
theorem flat3_one(u:Value)(ps:List T3)(h:u∈flat3 ps):u.oneCell'=true:=by
 induction ps with
 |nil=>simp[flat3] at h
 |cons p ps ih=>
  rw[flat3_cons] at h
  simp only[List.mem_cons] at h
  rcases h with rfl|rfl|rfl|h
  ·rfl
  ·rfl
  ·rfl
  ·exact ih h
theorem flat3_set(ps:List T3):∀(i:Nat) (x:Int),(flat3 ps).set (i*3) (.int .i64 x)=flat3 (ps.modify i fun p=>(x,p.2))∧(flat3 ps).set (i*3+1) (.int .i64 x)=flat3 (ps.modify i fun p=>(p.1,x,p.2.2))∧
  (flat3 ps).set (i*3+2) (.int .i64 x)=flat3 (ps.modify i fun p=>(p.1,p.2.1,x)):=by
 induction ps with
 |nil=>intro i x;simp[flat3]
 |cons p ps ih=>
  intro i x
  cases i with
  |zero=>simp[flat3_cons]
  |succ i=>
   obtain⟨a,b,c⟩:=ih i x
   refine⟨?_,?_,?_⟩
   ·rw[flat3_cons,show(i+1)*3=i*3+1+1+1 by omega,List.set_cons_succ,List.set_cons_succ,List.set_cons_succ,a,List.modify_succ_cons,flat3_cons]
   ·rw[flat3_cons,show(i+1)*3+1=i*3+1+1+1+1 by omega,List.set_cons_succ,List.set_cons_succ,List.set_cons_succ,b,List.modify_succ_cons,flat3_cons]
   ·rw[flat3_cons,show(i+1)*3+2=i*3+2+1+1+1 by omega,List.set_cons_succ,List.set_cons_succ,List.set_cons_succ,c,List.modify_succ_cons,flat3_cons]
def Holds3(w:World)(g o:Nat)(p:T3):Prop:=w.cell? ⟨g,o,none⟩=some (.int .i64 p.1)∧w.cell? ⟨g,o+1,none⟩=some (.int .i64 p.2.1)∧w.cell? ⟨g,o+2,none⟩=some (.int .i64 p.2.2)
def At3(w:World)(g:Nat)(ps:List T3):Prop:=∀i,i<ps.length→Holds3 w g (i*3) (el3 ps i)
def Reads3(w:World)(a:Option Addr)(ps:List T3):Prop:=ps.length=0∨∃b off,a=some ⟨b,off,none⟩∧b<w.heap.size∧∀i,i<ps.length→Holds3 w b (off+i*3) (el3 ps i)
def Own3(e:TypeId)(w:World)(base g n cap:Nat)(ps:List T3):Prop:=w.ownsRow base e 3 (.slice (some ⟨g,0,none⟩) n cap) n (flat3 ps)
section
variable {e:TypeId} {w w':World} {base base' g n cap:Nat} {ps:List T3}
theorem Holds3.below{B o:Nat}{p:T3}(h:Holds3 w g o p)(k:Below B w w')(hg:g<B):Holds3 w' g o p:=
 ⟨(k.cell (p:=⟨g,o,none⟩) hg).trans h.1,(k.cell (p:=⟨g,o+1,none⟩) hg).trans h.2.1,(k.cell (p:=⟨g,o+2,none⟩) hg).trans h.2.2⟩
theorem Own3.len(h:Own3 e w base g n cap ps):ps.length=n:=by
 have:=h.1
 rw[flat3_len] at this
 omega
theorem Own3.lt(h:Own3 e w base g n cap ps):base≤g∧g<w.heap.size:=World.ownsRow.lt h g rfl
theorem Own3.at(h:Own3 e w base g n cap ps):At3 w g ps:=by
 intro i hi
 have hl:=h.len
 obtain⟨f0,f1,f2⟩:=flat3_get ps i hi
 exact⟨(World.ownsRow.cellAt h (i*3) (by omega)).trans f0,(World.ownsRow.cellAt h (i*3+1) (by omega)).trans f1,(World.ownsRow.cellAt h (i*3+2) (by omega)).trans f2⟩
theorem Own3.free(h:Own3 e w base g n cap ps)(i:Nat):w.frozen? ⟨g,i,none⟩=false:=World.ownsRow.frozenAt h i
theorem Own3.rebase(h:Own3 e w base g n cap ps)(hb:base'≤g):Own3 e w base' g n cap ps:=by
 refine⟨h.1,?_⟩
 rcases h.2 with⟨h1,_⟩|⟨g',c,cur,h1,h2,h3⟩
 ·simp at h1
 ·obtain⟨e,_⟩:g=g'∧cap=c:=by simpa using h1
  subst e
  exact Or.inr ⟨g,c,cur,h1,hb,h3⟩
theorem Own3.kept{row:Option Nat}(h:Own3 e w base g n cap ps)(k:w.grownBy w' row)(hne:some g≠row):Own3 e w' base g n cap ps:=
 World.ownsRow.kept h k (Or.inr hne)
theorem Own3.below{B:Nat}(h:Own3 e w base g n cap ps)(k:Below B w w')(hg:g<B):Own3 e w' base g n cap ps:=by
 refine⟨h.1,?_⟩
 rcases h.2 with⟨h1,_⟩|⟨g',c,cur,h1,h2,h3,h4⟩
 ·simp at h1
 ·obtain⟨e,_⟩:g=g'∧cap=c:=by simpa using h1
  subst e
  exact Or.inr ⟨g,c,cur,h1,h2,by rw[k.block g hg];exact h3,h4⟩
theorem Own3.alloc(h:Own3 e w base g n cap ps)(o:Obj):Own3 e (w.alloc o) base g n cap ps:=World.ownsRow.alloc h o
theorem At3.below{B:Nat}(h:At3 w g ps)(k:Below B w w')(hg:g<B):At3 w' g ps:=fun i hi=>(h i hi).below k hg
theorem Reads3.below{a:Option Addr}(h:Reads3 w a ps)(k:Below w.heap.size w w'):Reads3 w' a ps:=by
 rcases h with h|⟨b,off,rfl,hb,hc⟩
 ·exact Or.inl h
 ·exact Or.inr ⟨b,off,rfl,Nat.lt_of_lt_of_le hb k.size,fun i hi=>(hc i hi).below k hb⟩
theorem Own3.set0(h:Own3 e w base g n cap ps)(i:Nat)(x:Int):
  Own3 e (w.setCell ⟨g,i*3,none⟩ (.int .i64 x)) base g n cap (ps.modify i fun p=>(x,p.2))∧w.grownBy (w.setCell ⟨g,i*3,none⟩ (.int .i64 x)) (some g):=by
 have:=World.ownsRow.stored h (i*3) (.int .i64 x)
 refine⟨?_,this.2⟩
 unfold Own3
 rw[←(flat3_set ps i x).1]
 exact this.1
theorem Own3.set1(h:Own3 e w base g n cap ps)(i:Nat)(x:Int):
  Own3 e (w.setCell ⟨g,i*3+1,none⟩ (.int .i64 x)) base g n cap (ps.modify i fun p=>(p.1,x,p.2.2))∧w.grownBy (w.setCell ⟨g,i*3+1,none⟩ (.int .i64 x)) (some g):=by
 have:=World.ownsRow.stored h (i*3+1) (.int .i64 x)
 refine⟨?_,this.2⟩
 unfold Own3
 rw[←(flat3_set ps i x).2.1]
 exact this.1
theorem Own3.set2(h:Own3 e w base g n cap ps)(i:Nat)(x:Int):
  Own3 e (w.setCell ⟨g,i*3+2,none⟩ (.int .i64 x)) base g n cap (ps.modify i fun p=>(p.1,p.2.1,x))∧w.grownBy (w.setCell ⟨g,i*3+2,none⟩ (.int .i64 x)) (some g):=by
 have:=World.ownsRow.stored h (i*3+2) (.int .i64 x)
 refine⟨?_,this.2⟩
 unfold Own3
 rw[←(flat3_set ps i x).2.2]
 exact this.1
end
theorem grownBy_below{w w':World}(h:w.grownBy w' none):Below w.heap.size w w':=⟨h.os,h.tape,h.output,h.size,fun k hk=>h.block k hk (by simp)⟩
theorem next{a b c:World}(h:Below a.heap.size a b)(k:Below b.heap.size b c):Below a.heap.size a c:=h.trans (k.mono h.size)
theorem own3_of_row{e:TypeId}{w:World}{base n n':Nat}{v:Value}{vs:List Value}{ps:List T3}(h:w.ownsRow base e 3 v n vs)(hn:n=n')(hv:vs=flat3 ps)(hs:¬v= .slice none 0 0):
  ∃g c,v= .slice (some ⟨g,0,none⟩) n' c∧Own3 e w base g n' c ps:=by
 subst hn hv
 have h':=h
 rcases h.2 with⟨h1,_⟩|⟨g,c,cur,rfl,_⟩
 ·exact absurd h1 hs
 ·exact⟨g,c,rfl,h'⟩
theorem lit30(e:TypeId)(w:World)(base:Nat)(hb:base≤w.heap.size):Own3 e (w.alloc (.cells #[] e)) base w.heap.size 0 0 []:=World.ownsRow_lit w #[] 0 hb (by decide) rfl
theorem At3.cells{w:World}{g:Nat}{ps:List T3}(h:At3 w g ps):∀(j:Nat) (u:Value),(flat3 ps)[j]?=some u→w.cell? ((⟨g,0,none⟩:Addr).add j)=some u:=by
 intro j u hj
 have hl:j<ps.length*3:=by
  have:=(List.getElem?_eq_some_iff.1 hj).1
  rw[flat3_len] at this
  exact this
 rw[Addr.add_lit,Nat.zero_add]
 obtain⟨c0,c1,c2⟩:=h (j/3) (by omega)
 obtain⟨f0,f1,f2⟩:=flat3_get ps (j/3) (by omega)
 rcases(show j%3=0∨j%3=1∨j%3=2 by omega) with e|e|e
 ·rw[show j/3*3=j by omega] at c0 f0
  rw[c0,←hj,f0]
 ·rw[show j/3*3+1=j by omega] at c1 f1
  rw[c1,←hj,f1]
 ·rw[show j/3*3+2=j by omega] at c2 f2
  rw[c2,←hj,f2]
theorem grown_trans{a b c:World}{row:Option Nat}(h:a.grownBy b row)(k:b.grownBy c row):a.grownBy c row:=
 ⟨k.os.trans h.os,k.tape.trans h.tape,k.output.trans h.output,Nat.le_trans h.size k.size,fun j hj hne=>(k.block j (Nat.lt_of_lt_of_le hj h.size) hne).trans (h.block j hj hne)⟩
theorem below_drewN{B:Nat}{a w:World}(h:Below B a w)(m:Nat):Below B a (w.drewN m):=⟨h.os,h.tape,h.output,h.size,h.block⟩
end Triples
namespace Bks
open Go Go.RowKit
open Bals (T3 el3 val sumI)
open Tup5 (T5 el5)
open Tup8 (T8 el8)
open Lots (qtyOf NoOk Says says_of ownL restL One)
open Takes (sumQ)
def kindOf:List (Int×Int)→Int→Int
 |[],_=>0
 |p::r,no=>if p.1=no then p.2 else kindOf r no
theorem kind_mem:∀(ps:List (Int×Int)) (no:Int),kindOf ps no≠0→(no,kindOf ps no)∈ps
 |[],no,h=>absurd rfl h
 |p::r,no,h=>by
  unfold kindOf at h⊢
  by_cases e:p.1=no
  ·rw[if_pos e];obtain⟨a,b⟩:=p;obtain rfl:a=no:=e;exact List.mem_cons_self
  ·rw[if_neg e] at h⊢;exact List.mem_cons_of_mem _ (kind_mem r no h)
theorem kind_none:∀(ps:List (Int×Int)) (no:Int),(∀p∈ps,p.1≠no)→kindOf ps no=0
 |[],_,_=>rfl
 |p::r,no,h=>by
  unfold kindOf
  rw[if_neg (h p List.mem_cons_self),kind_none r no (fun q hq=>h q (List.mem_cons_of_mem _ hq))]
theorem el_mem{ps:List (Int×Int)}{i:Nat}(h:i<ps.length):Chart.el ps i∈ps:=by
 unfold Chart.el
 simp[List.getD,h]
theorem mem_el{ps:List (Int×Int)}{p:Int×Int}(h:p∈ps):∃i,i<ps.length∧Chart.el ps i=p:=by
 obtain⟨i,hi,rfl⟩:=List.getElem_of_mem h
 exact⟨i,hi,by simp[Chart.el,List.getD,hi]⟩
theorem kind_of_mem{ps:List (Int×Int)}(h:∀p∈ps,∀q∈ps,p.1=q.1→p=q):∀p∈ps,kindOf ps p.1=p.2:=by
 induction ps with
 |nil=>intro p hp;simp at hp
 |cons q r ih=>
  intro p hp
  unfold kindOf
  by_cases e:q.1=p.1
  ·rw[if_pos e,h q List.mem_cons_self p hp e]
  ·rw[if_neg e]
   rcases List.mem_cons.1 hp with rfl|hp
   ·exact absurd rfl e
   ·exact ih (fun a ha b hb=>h a (List.mem_cons_of_mem _ ha) b (List.mem_cons_of_mem _ hb)) p hp
theorem right_one{most:Nat}{last:Int}{ps:List (Int×Int)}(h:Chart.Right most last ps):∀p∈ps,∀q∈ps,p.1=q.1→p=q:=by
 intro p hp q hq e
 obtain⟨i,hi,rfl⟩:=mem_el hp
 obtain⟨j,hj,rfl⟩:=mem_el hq
 rw[h.one i j hi hj e]
theorem kind_is{most:Nat}{last:Int}{ps:List (Int×Int)}{no r:Int}(h:Chart.Right most last ps)(k:Chart.IsKind most last ps no r):r=kindOf ps no:=by
 rcases k with⟨_,i,hi,e,rfl⟩|⟨k,rfl⟩
 ·rw[←e];exact(kind_of_mem (right_one h) _ (el_mem hi)).symm
 ·rcases k with k|k
  ·exact absurd h k
  ·refine(kind_none ps no fun p hp=>?_).symm
   obtain⟨i,hi,rfl⟩:=mem_el hp
   exact k i hi
def TOne(t:T8):Prop:=NoOk t.1∧NoOk t.2.1∧NoOk t.2.2.1∧NoOk t.2.2.2.1∧NoOk t.2.2.2.2.2.1∧t.2.1≠t.2.2.1∧(1≤t.2.2.2.2.1∧t.2.2.2.2.1≤1000000000000000)∧(0≤t.2.2.2.2.2.2.1∧t.2.2.2.2.2.2.1≤1000000000000000)∧(1≤t.2.2.2.2.2.2.2∧t.2.2.2.2.2.2.2≤3)
def TRowOk(ps:List T8)(i:Nat):Prop:=TOne (el8 ps i)∧(0<i→(el8 ps (i-1)).1<(el8 ps i).1)
def TRight(ps:List T8):Prop:=ps.length≤30∧∀i,i<ps.length→TRowOk ps i
structure Bk where
 ac:List (Int×Int)
 ic:List (Int×Int)
 bs:List T3
 ls:List T5
 ts:List T8
 lot:Int
def Lists(b:Bk):Prop:=Chart.Right 20 4 b.ac∧Chart.Right 8 2 b.ic∧Bals.Right b.bs∧Lots.Right b.ls∧TRight b.ts∧(0≤b.lot∧b.lot≤1000000000)
def BalFit(b:Bk)(p:T3):Prop:=kindOf b.ac p.1≠0∧kindOf b.ic p.2.1≠0∧¬(kindOf b.ac p.1=1∧p.2.2<0)
def BalsFit(b:Bk):Prop:=(∀k,k<b.bs.length→BalFit b (el3 b.bs k))∧∀i,sumI b.bs i=0
def LotFit(b:Bk)(l:T5):Prop:=kindOf b.ac l.1=1∧kindOf b.ic l.2.1=2∧l.2.2.1≤b.lot
def LotsFit(b:Bk):Prop:=(∀k,k<b.ls.length→LotFit b (el5 b.ls k))∧∀a i,kindOf b.ac a=1→kindOf b.ic i=2→qtyOf b.ls a i=val b.bs a i
def TradeFit(b:Bk)(t:T8):Prop:=kindOf b.ac t.2.1=1∧kindOf b.ac t.2.2.1=1∧kindOf b.ic t.2.2.2.1=2∧kindOf b.ic t.2.2.2.2.2.1=1
def TradesFit(b:Bk):Prop:=∀k,k<b.ts.length→TradeFit b (el8 b.ts k)
def Ok(b:Bk):Prop:=Lists b∧BalsFit b∧LotsFit b∧TradesFit b
theorem bals_spec{b:Bk}(h:∀k,k<b.bs.length→BalFit b (el3 b.bs k)∧sumI b.bs (el3 b.bs k).2.1=0):BalsFit b:=
 ⟨fun k hk=>(h k hk).1,Bals.even_of fun k hk=>(h k hk).2⟩
theorem bals_impl{b:Bk}(h:∀k,k<b.bs.length→BalFit b (el3 b.bs k))(hs:∀k,k<b.ic.length→sumI b.bs (Chart.el b.ic k).1=0):BalsFit b:=by
 refine⟨h,Bals.even_of fun k hk=>?_⟩
 obtain⟨i,hi,e⟩:=mem_el (kind_mem b.ic _ (h k hk).2.1)
 have:=hs i hi
 rw[e] at this
 exact this
theorem sum_zero{bs:List T3}{i r:Int}{c:Bool}(hr:Bals.Right bs)(h:Bals.IsSum bs i r c):(c=true∧r=0)↔sumI bs i=0:=by
 rcases h with⟨_,h1,h2,h3⟩|⟨h1,h2,h3⟩
 ·rw[←h2,h3];simp
 ·constructor
  ·rintro⟨e,_⟩;rw[h3] at e;cases e
  ·intro e
   refine absurd ⟨hr,?_⟩ h1
   rw[e];unfold Bals.Amt;omega
def leftT(b:Bk)(a i:Int):Int:=(if kindOf b.ac a=1∧kindOf b.ic i=2 then val b.bs a i else 0) -qtyOf b.ls a i
theorem lots_impl{b:Bk}(h:∀k,k<b.ls.length→LotFit b (el5 b.ls k)):(∀a i,leftT b a i=0)↔LotsFit b:=by
 constructor
 ·intro hz
  refine⟨h,fun a i ha hi=>?_⟩
  have:=hz a i
  unfold leftT at this
  rw[if_pos ⟨ha,hi⟩] at this
  omega
 ·intro hf a i
  unfold leftT
  by_cases e:kindOf b.ac a=1∧kindOf b.ic i=2
  ·rw[if_pos e,hf.2 a i e.1 e.2];omega
  ·rw[if_neg e]
   have:qtyOf b.ls a i=0:=by
    refine(Lots.qty_none a i b.ls fun p hp hk=>e ?_).1
    obtain⟨k,hk1,hk2,rfl⟩:=Lots.mem_take (ps:=b.ls) (k:=b.ls.length) (p:=p) (by rw[List.take_length];exact hp)
    obtain⟨f1,f2,_⟩:=h k hk2
    rw[hk.1] at f1
    rw[hk.2] at f2
    exact⟨f1,f2⟩
   omega
theorem lots_spec{b:Bk}(hA:Chart.Right 20 4 b.ac)(hI:Chart.Right 8 2 b.ic)(h:∀k,k<b.ls.length→LotFit b (el5 b.ls k)):LotsFit b↔∀j,j<b.ac.length→∀k,k<b.ic.length→(Chart.el b.ac j).2=1→(Chart.el b.ic k).2=2→sumQ (ownL b.ls (Chart.el b.ac j).1 (Chart.el b.ic k).1)=val b.bs (Chart.el b.ac j).1 (Chart.el b.ic k).1:=by
 constructor
 ·rintro⟨_,hf⟩ j hj k hk e1 e2
  rw[(Takes.own_sums _ _ b.ls).1]
  exact hf _ _ (by rw[kind_of_mem (right_one hA) _ (el_mem hj)];exact e1) (by rw[kind_of_mem (right_one hI) _ (el_mem hk)];exact e2)
 ·intro hf
  refine⟨h,fun a i ha hi=>?_⟩
  obtain⟨j,hj,ej⟩:=mem_el (kind_mem b.ac a (by omega))
  obtain⟨k,hk,ek⟩:=mem_el (kind_mem b.ic i (by omega))
  have:=hf j hj k hk (by rw[ej];exact ha) (by rw[ek];exact hi)
  rw[(Takes.own_sums _ _ b.ls).1,ej,ek] at this
  exact this
end Bks
namespace BMem
open Bks (Bk)
theorem zh{p:Prop}(h:p):Hid p:=h
theorem zu{p:Prop}(h:Hid p):p:=h
theorem next{a b c:World}(h:Below a.heap.size a b)(k:Below b.heap.size b c):Below a.heap.size a c:=h.trans (k.mono h.size)
structure Bx where
 ga:Nat
 ca:Nat
 gi:Nat
 ci:Nat
 gb:Nat
 cb:Nat
 gl:Nat
 cl:Nat
 gt:Nat
 ct:Nat
 b:Bk
structure Rd(w:World)(x:Bx):Prop where
 la:x.ga<w.heap.size
 ra:Pairs.At w x.ga x.b.ac
 na:x.b.ac.length≤1048576
 li:x.gi<w.heap.size
 ri:Pairs.At w x.gi x.b.ic
 ni:x.b.ic.length≤1048576
 lb:x.gb<w.heap.size
 rb:Triples.At3 w x.gb x.b.bs
 nb:x.b.bs.length≤1048576
 ll:x.gl<w.heap.size
 rl:Tup5.At5 w x.gl x.b.ls
 nl:x.b.ls.length≤1048576
 hc:x.b.ls.length≤x.cl
 hm:x.cl≤9223372036854775807
 lt:x.gt<w.heap.size
 rt:Tup8.At8 w x.gt x.b.ts
 nt:x.b.ts.length≤1048576
theorem Rd.below{w w':World}{x:Bx}(h:Rd w x)(k:Below w.heap.size w w'):Rd w' x:=
 ⟨Nat.lt_of_lt_of_le h.la k.size,h.ra.below k h.la,h.na,Nat.lt_of_lt_of_le h.li k.size,h.ri.below k h.li,h.ni,Nat.lt_of_lt_of_le h.lb k.size,h.rb.below k h.lb,h.nb,Nat.lt_of_lt_of_le h.ll k.size,h.rl.below k h.ll,h.nl,h.hc,h.hm,Nat.lt_of_lt_of_le h.lt k.size,h.rt.below k h.lt,h.nt⟩
theorem Rd.alloc{w:World}{x:Bx}(h:Rd w x)(o:Obj):Rd (w.alloc o) x:=h.below ((Below.refl _ _).alloc (Nat.le_refl _) o)
structure Ow(w:World)(base:Nat)(x:Bx):Prop where
 oa:Pairs.Own 108 w base x.ga x.b.ac.length x.ca x.b.ac
 oi:Pairs.Own 109 w base x.gi x.b.ic.length x.ci x.b.ic
 ob:Triples.Own3 111 w base x.gb x.b.bs.length x.cb x.b.bs
 ol:Tup5.Own5 113 w base x.gl x.b.ls.length x.cl x.b.ls
 ot:Tup8.Own8 115 w base x.gt x.b.ts.length x.ct x.b.ts
def Small(b:Bk):Prop:=b.ac.length≤1048576∧b.ic.length≤1048576∧b.bs.length≤1048576∧b.ls.length≤1048576∧b.ts.length≤1048576
theorem own_cap{e:TypeId}{w:World}{base g n cap:Nat}{ps:List Tup5.T5}(h:Tup5.Own5 e w base g n cap ps):n≤cap∧cap≤9223372036854775807:=by
 rcases h.2 with⟨h1,_⟩|⟨g',c,cur,h1,h2,h3,h4,h5,_⟩
 ·simp at h1
 ·obtain⟨_,e⟩:g=g'∧cap=c:=by simpa using h1
  subst e
  exact⟨h4,by unfold maxLen at h5;omega⟩
theorem Ow.rd{w:World}{base:Nat}{x:Bx}(h:Ow w base x)(s:Small x.b):Rd w x:=
 ⟨h.oa.lt.2,h.oa.at,s.1,h.oi.lt.2,h.oi.at,s.2.1,h.ob.lt.2,h.ob.at,s.2.2.1,h.ol.lt.2,h.ol.at,s.2.2.2.1,(own_cap h.ol).1,(own_cap h.ol).2,h.ot.lt.2,h.ot.at,s.2.2.2.2⟩
theorem Ow.rebase{w:World}{base base':Nat}{x:Bx}(h:Ow w base x)(hb:base'≤base):Ow w base' x:=
 ⟨h.oa.rebase (by have:=h.oa.lt;omega),h.oi.rebase (by have:=h.oi.lt;omega),h.ob.rebase (by have:=h.ob.lt;omega),h.ol.rebase (by have:=h.ol.lt;omega),h.ot.rebase (by have:=h.ot.lt;omega)⟩
theorem Ow.kept{w w':World}{base:Nat}{row:Option Nat}{x:Bx}(h:Ow w base x)(k:w.grownBy w' row)(hne:∀g,row=some g→g<base):Ow w' base x:=
 ⟨h.oa.kept k (fun e=>by have:=h.oa.lt;have:=hne _ e.symm;omega),h.oi.kept k (fun e=>by have:=h.oi.lt;have:=hne _ e.symm;omega),h.ob.kept k (fun e=>by have:=h.ob.lt;have:=hne _ e.symm;omega),h.ol.kept k (fun e=>by have:=h.ol.lt;have:=hne _ e.symm;omega),h.ot.kept k (fun e=>by have:=h.ot.lt;have:=hne _ e.symm;omega)⟩
structure Cl(w:World)(g:Nat)(x:Bx):Prop where
 c0:w.cell? ⟨g,0,none⟩=some (.slice (some ⟨x.ga,0,none⟩) x.b.ac.length x.ca)
 c1:w.cell? ⟨g,1,none⟩=some (.slice (some ⟨x.gi,0,none⟩) x.b.ic.length x.ci)
 c2:w.cell? ⟨g,2,none⟩=some (.slice (some ⟨x.gb,0,none⟩) x.b.bs.length x.cb)
 c3:w.cell? ⟨g,3,none⟩=some (.slice (some ⟨x.gl,0,none⟩) x.b.ls.length x.cl)
 c4:w.cell? ⟨g,4,none⟩=some (.slice (some ⟨x.gt,0,none⟩) x.b.ts.length x.ct)
 c5:w.cell? ⟨g,5,none⟩=some (.int .i64 x.b.lot)
theorem Cl.below{w w':World}{B g:Nat}{x:Bx}(h:Cl w g x)(k:Below B w w')(hg:g<B):Cl w' g x:=
 ⟨(k.cell (p:=⟨g,0,none⟩) hg).trans h.c0,(k.cell (p:=⟨g,1,none⟩) hg).trans h.c1,(k.cell (p:=⟨g,2,none⟩) hg).trans h.c2,(k.cell (p:=⟨g,3,none⟩) hg).trans h.c3,(k.cell (p:=⟨g,4,none⟩) hg).trans h.c4,(k.cell (p:=⟨g,5,none⟩) hg).trans h.c5⟩
def Box(w:World)(base g:Nat)(v0 v1 v2 v3 v4 v5:Value):Prop:=w.ownsRow base 45 6 (.slice (some ⟨g,0,none⟩) 1 1) 1 [v0,v1,v2,v3,v4,v5]
theorem Box.made{w:World}{base g:Nat}(v0 v1 v2 v3 v4 v5:Value)(hb:base≤w.heap.size)(hg:g=w.heap.size):Box (w.alloc (.cells #[v0,v1,v2,v3,v4,v5] 45)) base g v0 v1 v2 v3 v4 v5:=by
 subst hg
 exact⟨rfl,.inr ⟨w.heap.size,1,#[v0,v1,v2,v3,v4,v5],rfl,hb,heap_alloc_new w _,Nat.le_refl _,by unfold maxLen;omega,rfl,rfl⟩⟩
section
variable {w w':World} {base base' g:Nat} {v0 v1 v2 v3 v4 v5:Value}
theorem Box.lt(h:Box w base g v0 v1 v2 v3 v4 v5):base≤g∧g<w.heap.size:=World.ownsRow.lt h g rfl
theorem Box.free(h:Box w base g v0 v1 v2 v3 v4 v5)(i:Nat):w.frozen? ⟨g,i,none⟩=false:=World.ownsRow.frozenAt h i
theorem Box.c0(h:Box w base g v0 v1 v2 v3 v4 v5):w.cell? ⟨g,0,none⟩=some v0:=(World.ownsRow.cellAt h 0 (by omega)).trans rfl
theorem Box.c1(h:Box w base g v0 v1 v2 v3 v4 v5):w.cell? ⟨g,1,none⟩=some v1:=(World.ownsRow.cellAt h 1 (by omega)).trans rfl
theorem Box.c2(h:Box w base g v0 v1 v2 v3 v4 v5):w.cell? ⟨g,2,none⟩=some v2:=(World.ownsRow.cellAt h 2 (by omega)).trans rfl
theorem Box.c3(h:Box w base g v0 v1 v2 v3 v4 v5):w.cell? ⟨g,3,none⟩=some v3:=(World.ownsRow.cellAt h 3 (by omega)).trans rfl
theorem Box.c4(h:Box w base g v0 v1 v2 v3 v4 v5):w.cell? ⟨g,4,none⟩=some v4:=(World.ownsRow.cellAt h 4 (by omega)).trans rfl
theorem Box.c5(h:Box w base g v0 v1 v2 v3 v4 v5):w.cell? ⟨g,5,none⟩=some v5:=(World.ownsRow.cellAt h 5 (by omega)).trans rfl
theorem Box.set0(h:Box w base g v0 v1 v2 v3 v4 v5)(u:Value):Box (w.setCell ⟨g,0,none⟩ u) base g u v1 v2 v3 v4 v5∧w.grownBy (w.setCell ⟨g,0,none⟩ u) (some g):=World.ownsRow.stored h 0 u
theorem Box.set1(h:Box w base g v0 v1 v2 v3 v4 v5)(u:Value):Box (w.setCell ⟨g,1,none⟩ u) base g v0 u v2 v3 v4 v5∧w.grownBy (w.setCell ⟨g,1,none⟩ u) (some g):=World.ownsRow.stored h 1 u
theorem Box.set2(h:Box w base g v0 v1 v2 v3 v4 v5)(u:Value):Box (w.setCell ⟨g,2,none⟩ u) base g v0 v1 u v3 v4 v5∧w.grownBy (w.setCell ⟨g,2,none⟩ u) (some g):=World.ownsRow.stored h 2 u
theorem Box.set3(h:Box w base g v0 v1 v2 v3 v4 v5)(u:Value):Box (w.setCell ⟨g,3,none⟩ u) base g v0 v1 v2 u v4 v5∧w.grownBy (w.setCell ⟨g,3,none⟩ u) (some g):=World.ownsRow.stored h 3 u
theorem Box.set4(h:Box w base g v0 v1 v2 v3 v4 v5)(u:Value):Box (w.setCell ⟨g,4,none⟩ u) base g v0 v1 v2 v3 u v5∧w.grownBy (w.setCell ⟨g,4,none⟩ u) (some g):=World.ownsRow.stored h 4 u
theorem Box.set5(h:Box w base g v0 v1 v2 v3 v4 v5)(u:Value):Box (w.setCell ⟨g,5,none⟩ u) base g v0 v1 v2 v3 v4 u∧w.grownBy (w.setCell ⟨g,5,none⟩ u) (some g):=World.ownsRow.stored h 5 u
theorem Box.kept{row:Option Nat}(h:Box w base g v0 v1 v2 v3 v4 v5)(k:w.grownBy w' row)(hne:some g≠row):Box w' base g v0 v1 v2 v3 v4 v5:=World.ownsRow.kept h k (Or.inr hne)
theorem Box.below{B:Nat}(h:Box w base g v0 v1 v2 v3 v4 v5)(k:Below B w w')(hg:g<B):Box w' base g v0 v1 v2 v3 v4 v5:=by
 refine⟨h.1,?_⟩
 rcases h.2 with⟨h1,_⟩|⟨g',c,cur,h1,h2,h3,h4⟩
 ·simp at h1
 ·have e:g=g':=by simp at h1;exact h1.1
  subst e
  exact .inr ⟨g,c,cur,h1,h2,(k.block g hg).trans h3,h4⟩
end
theorem Box.all{w:World}{base g:Nat}{v0 v1 v2 v3 v4 v5:Value}(h:Box w base g v0 v1 v2 v3 v4 v5):w.cell? ⟨g,0,none⟩=some v0∧w.cell? ⟨g,1,none⟩=some v1∧w.cell? ⟨g,2,none⟩=some v2∧w.cell? ⟨g,3,none⟩=some v3∧w.cell? ⟨g,4,none⟩=some v4∧w.cell? ⟨g,5,none⟩=some v5∧w.frozen? ⟨g,0,none⟩=false∧w.frozen? ⟨g,1,none⟩=false∧w.frozen? ⟨g,2,none⟩=false∧w.frozen? ⟨g,3,none⟩=false∧w.frozen? ⟨g,4,none⟩=false∧w.frozen? ⟨g,5,none⟩=false:=⟨h.c0,h.c1,h.c2,h.c3,h.c4,h.c5,h.free 0,h.free 1,h.free 2,h.free 3,h.free 4,h.free 5⟩
end BMem
namespace BalHelp
open Bals Triples
theorem info2:(Tryz.prog.info? 111).map (fun i=>(i.zero,i.size,i.bytes))=some (some (.agg #[.int .i64 0,.int .i64 0,.int .i64 0]),3,24):=by kernel_rfl
theorem to1(w:World)(x y z:Int):Calls Tryz.prog 143 #[.agg #[.int .i64 x,.int .i64 y,.int .i64 z]] w fun e w'=>e= .returned (.agg #[.int .i64 x,.int .i64 y,.int .i64 z])∧Below w.heap.size w w':=by
 go_enter Tryz.func143,Tryz.ntmps143
 go_wp2
 refine bodyPost_ret (v:= .agg #[.int .i64 x,.int .i64 y,.int .i64 z]) (by simp[results,Tryz.results143,go_sem]) rfl ⟨rfl,?_⟩
 exact(((Below.refl _ _).alloc (Nat.le_refl _) _).alloc (by simp) _).alloc (by simp;omega) _
theorem made_triples(n:Nat):(madeCells (Value.agg #[.int .i64 0,.int .i64 0,.int .i64 0]).cells (n*3)).toList=flat3 (List.replicate n (0,0,0)):=by
 apply List.ext_getElem?
 intro j
 by_cases hj:j<n*3
 ·have hs:(Value.agg #[Value.int .i64 0,Value.int .i64 0,Value.int .i64 0]).cells= #[Value.int .i64 0,Value.int .i64 0,Value.int .i64 0]:=rfl
  rw[hs]
  obtain⟨f0,f1,f2⟩:=flat3_get (List.replicate n (0,0,0)) (j/3) (by simp;omega)
  have hg:(List.replicate n ((0:Int),(0:Int),(0:Int))).getD (j/3) (0,0,0)=(0,0,0):=by simp[List.getD,show j/3<n by omega]
  unfold el3 at f0 f1 f2
  rw[hg] at f0 f1 f2
  rcases(show j%3=0∨j%3=1∨j%3=2 by omega) with e|e|e
  ·rw[show j/3*3=j by omega] at f0
   rw[f0]
   simp[madeCells,hj,e]
  ·rw[show j/3*3+1=j by omega] at f1
   rw[f1]
   simp[madeCells,hj,e]
  ·rw[show j/3*3+2=j by omega] at f2
   rw[f2]
   simp[madeCells,hj,e]
 ·rw[List.getElem?_eq_none (by simp[madeCells];omega),List.getElem?_eq_none (by rw[flat3_len];simp;omega)]
def part(ps:List T3)(n k:Nat):List T3:=ps.take k++List.replicate (n-k) (0,0,0)
theorem part_zero(ps:List T3)(n:Nat):part ps n 0=List.replicate n (0,0,0):=by simp[part]
theorem part_all(ps:List T3)(n:Nat)(h:ps.length=n):part ps n n=ps:=by
 unfold part
 rw[←h];simp
theorem part_step(ps:List T3)(n k:Nat)(h:ps.length=n)(hk:k<n):(((part ps n k).modify k fun p=>((el3 ps k).1,p.2)).modify k (fun p=>(p.1,(el3 ps k).2.1,p.2.2))).modify k (fun p=>(p.1,p.2.1,(el3 ps k).2.2))=part ps n (k+1):=by
 subst h
 unfold part
 apply List.ext_getElem?
 intro j
 have l1:(ps.take k).length=k:=by simp;omega
 have l2:(ps.take (k+1)).length=k+1:=by simp;omega
 rw[List.getElem?_modify,List.getElem?_modify,List.getElem?_modify]
 by_cases e:k=j
 ·subst e
  rw[List.getElem?_append_right (by omega),List.getElem?_append_left (by omega),List.getElem?_take,if_pos (by omega),l1]
  simp[List.getD,hk,show 0<ps.length-k by omega]
 ·by_cases l:j<k
  ·rw[List.getElem?_append_left (by omega),List.getElem?_append_left (by omega),List.getElem?_take,List.getElem?_take,if_pos l,if_pos (by omega)]
   simp[e]
  ·rw[List.getElem?_append_right (by omega),List.getElem?_append_right (by omega),l1,l2]
   simp only[List.getElem?_replicate]
   by_cases m:j<ps.length
   ·rw[if_pos (by omega),if_pos (by omega)];simp[e]
   ·rw[if_neg (by omega),if_neg (by omega)];simp[e]
theorem toS(w:World)(a:Option Addr)(len cap:Nat)(ps:List T3)(hl:ps.length=len)(h20:len≤1048576)(hr:Reads3 w a ps):
  Calls Tryz.prog 80 #[.slice a len cap] w fun e w'=>e= .returned (.slice (some ⟨w.heap.size,0,none⟩) len len)∧Own3 111 w' w.heap.size w.heap.size len len ps∧Below w.heap.size w w':=by
 obtain⟨i0,hi,hz0,hz1,hz2⟩:=info_parts info2
 go_enter Tryz.func80,Tryz.ntmps80
 go_wp2_with (at_make;refine wpList_make_full _ rfl _ _ 41 rfl w.heap.size 111 i0 (.agg #[.int .i64 0,.int .i64 0,.int .i64 0]) 3 Tryz.underlying41 hi hz0 hz1 .i64 .i64 _ _ len rfl rfl rfl rfl (by rw[hz2];omega) (by unfold maxLen;omega) (Nat.le_refl _) ?_;intro w1 hown hgrow)
 rw[made_triples,←part_zero ps] at hown
 have hb:=grownBy_below hgrow
 have hown:Own3 111 w1 w.heap.size w.heap.size len len (part ps len 0):=hown
 clear hgrow
 go_loopw [4] (fun i wr=>∃(k:Nat),k≤len∧i= .int .i64 k∧Own3 111 wr w.heap.size w.heap.size len len (part ps len k)∧Below w.heap.size w wr) (fun i _=>len-(intOf i).toNat)
 case atStart=>exact⟨0,by omega,rfl,hown,hb⟩
 case round=>
  clear hown hb
  obtain⟨k,hk,rfl,hown,hb⟩:=hrel
  by_cases t:k<len
  ·rcases hr with hz|⟨b,off,rfl,hlt,hcell⟩
   ·omega
   have hc0:=(hb.cell (p:=⟨b,off+k*3,none⟩) hlt).trans (hcell k (by omega)).1
   have hc1:=(hb.cell (p:=⟨b,off+k*3+1,none⟩) hlt).trans (hcell k (by omega)).2.1
   have hc2:=(hb.cell (p:=⟨b,off+k*3+2,none⟩) hlt).trans (hcell k (by omega)).2.2
   clear hcell
   have HO:=zh hown
   have HB:=zh hb
   clear hown hb
   have PS:=zh (part_step ps len k hl t)
   generalize (el3 ps k).1=x at *
   generalize (el3 ps k).2.1=y at *
   generalize (el3 ps k).2.2=z at *
   go_wp2_with fail
   refine(to1 _ x y z).mono ?_
   rintro e w2 ⟨rfl,b2⟩
   have o2:=(zu HO).below b2 (zu HO).lt.2
   have hb2:=(zu HB).trans (b2.mono (zu HB).size)
   clear HO HB b2 hc0 hc1 hc2
   have hs:=o2.set0 k x
   have hs2:=hs.1.set1 k y
   have hs3:=hs2.1.set2 k z
   have hd:=o2.at k (by rw[o2.len];exact t)
   have hd0:=hd.1
   have hd1:=hd.2.1
   have hd2:=hd.2.2
   have hf0:=o2.free (k*3)
   have hf1:=o2.free (k*3+1)
   have hf2:=o2.free (k*3+2)
   have HS:=zh hs3.1
   have HB:=zh (((hb2.setCell (p:=⟨w.heap.size,k*3,none⟩) (Nat.le_refl _) (.int .i64 x)).setCell (p:=⟨w.heap.size,k*3+1,none⟩) (Nat.le_refl _) (.int .i64 y)).setCell (p:=⟨w.heap.size,k*3+2,none⟩) (Nat.le_refl _) (.int .i64 z))
   clear hs hs2 hs3 hd o2 hb2
   go_wp2
   go_roundw
   case rel=>
    have o:=zu HS
    rw[zu PS] at o
    exact⟨k+1,by omega,by go_num,o,zu HB⟩
   case measure=>simp[intOf];omega
  ·obtain rfl:k=len:=by omega
   rw[part_all ps k hl] at hown
   have HO:=zh hown
   have HB:=zh hb
   clear hown hb hr
   go_wp2
   go_ret
   exact⟨rfl,zu HO,zu HB⟩
theorem eq1(w:World)(x y z:Int):Calls Tryz.prog 165 #[.agg #[.int .i64 x,.int .i64 y,.int .i64 z],.agg #[.int .i64 x,.int .i64 y,.int .i64 z]] w fun e w'=>e= .returned (.bool true)∧w'=(w.alloc (.cells #[.int .i64 x,.int .i64 y,.int .i64 z] 111)).alloc (.cells #[.int .i64 x,.int .i64 y,.int .i64 z] 111):=by
 go_enter Tryz.func165,Tryz.ntmps165
 go_wp2
 go_ret
 exact⟨rfl,rfl⟩
theorem two_more(w:World)(o p:Obj):Below w.heap.size w ((w.alloc o).alloc p).drew:=(((Below.refl _ _).alloc (Nat.le_refl _) _).alloc (by simp) _).drew
theorem eqS(w:World)(g1 g2 n c1 c2:Nat)(ps:List T3)(hl:ps.length=n)(h20:n≤1048576)(l1:g1<w.heap.size)(l2:g2<w.heap.size)(h1:At3 w g1 ps)(h2:At3 w g2 ps):
  Calls Tryz.prog 99 #[.slice (some ⟨g1,0,none⟩) n c1,.slice (some ⟨g2,0,none⟩) n c2] w fun e w'=>e= .returned (.bool true)∧Below w.heap.size w w':=by
 go_enter Tryz.func99,Tryz.ntmps99
 go_wp2
 go_loopw [5] (fun i wr=>∃(k:Nat),k≤n∧i= .int .i64 k∧At3 wr g1 ps∧At3 wr g2 ps∧Below w.heap.size w wr) (fun i _=>n-(intOf i).toNat)
 case atStart=>exact⟨0,by omega,rfl,h1,h2,Below.refl _ _⟩
 case round=>
  clear h1 h2
  obtain⟨k,hk,rfl,h1,h2,hb⟩:=hrel
  by_cases t:k<n
  ·obtain⟨e1,f1,i1⟩:=h1 k (by omega)
   obtain⟨e2,f2,i2⟩:=h2 k (by omega)
   have s:=hb.size
   have H1:=zh h1
   have H2:=zh h2
   have HB:=zh hb
   clear h1 h2 hb
   generalize (el3 ps k).1=x at *
   generalize (el3 ps k).2.1=y at *
   generalize (el3 ps k).2.2=z at *
   go_wp2_with fail
   go_region_held3 (fun w'=>w'.cell? ⟨g1,k*3,none⟩=some (.int .i64 x)∧w'.cell? ⟨g2,k*3,none⟩=some (.int .i64 x)∧w'.cell? ⟨g1,k*3+1,none⟩=some (.int .i64 y)∧w'.cell? ⟨g2,k*3+1,none⟩=some (.int .i64 y)∧w'.cell? ⟨g1,k*3+2,none⟩=some (.int .i64 z)∧w'.cell? ⟨g2,k*3+2,none⟩=some (.int .i64 z)) (go_keep)
    (first|(go_at_call 165;refine(eq1 _ _ _ _).mono ?_;rintro e w2 ⟨rfl,rfl⟩))
   all_goals(go_wp2;go_roundw)
   all_goals first
    |(have b2:=two_more wr (.cells #[.int .i64 x,.int .i64 y,.int .i64 z] 111) (.cells #[.int .i64 x,.int .i64 y,.int .i64 z] 111)
      exact⟨k+1,by omega,by go_num,(zu H1).below b2 (by omega),(zu H2).below b2 (by omega),next (zu HB) b2⟩)
    |(simp[intOf];omega)
  ·have HB:=zh hb
   clear h1 h2 hb
   go_wp2
   go_ret
   exact⟨rfl,zu HB⟩
def marks(s:Int)(n:Nat):List T3:=(List.range n).map fun(i:Nat)=>(s+3*(i:Int),s+3*(i:Int)+1,s+3*(i:Int)+2)
theorem marks_len(s:Int)(n:Nat):(marks s n).length=n:=by simp[marks]
theorem marks_getD(s:Int)(n i:Nat)(h:i<n):el3 (marks s n) i=(s+3*(i:Int),s+3*(i:Int)+1,s+3*(i:Int)+2):=by simp[marks,List.getD,h]
def marked(s:Int)(ps:List T3)(n j:Nat):List T3:=(marks s n).take j++ps.drop j
theorem marked_zero(s:Int)(ps:List T3)(n:Nat):marked s ps n 0=ps:=by simp[marked]
theorem marked_all(s:Int)(ps:List T3)(n:Nat)(h:ps.length=n):marked s ps n n=marks s n:=by
 unfold marked
 rw[List.take_of_length_le (by rw[marks_len];exact Nat.le_refl _),List.drop_of_length_le (by omega),List.append_nil]
theorem marked_step(s:Int)(ps:List T3)(n j:Nat)(h:ps.length=n)(hj:j<n):(((marked s ps n j).modify j fun p=>(s+3*(j:Int),p.2)).modify j (fun p=>(p.1,s+3*(j:Int)+1,p.2.2))).modify j (fun p=>(p.1,p.2.1,s+3*(j:Int)+1+1))=marked s ps n (j+1):=by
 unfold marked
 have l:=marks_len s n
 have g:=marks_getD s n j hj
 have l1:((marks s n).take j).length=j:=by simp;omega
 have l2:((marks s n).take (j+1)).length=j+1:=by simp;omega
 apply List.ext_getElem?
 intro i
 rw[List.getElem?_modify,List.getElem?_modify,List.getElem?_modify]
 by_cases e:j=i
 ·subst e
  rw[List.getElem?_append_right (by omega),List.getElem?_append_left (by omega),List.getElem?_take,if_pos (by omega),l1]
  have hg:(marks s n)[j]?=some (s+3*(j:Int),s+3*(j:Int)+1,s+3*(j:Int)+2):=by
   rw[←g];simp[List.getD,l,hj]
  rw[hg]
  simp[List.getElem?_drop,h,hj]
  omega
 ·by_cases d:i<j
  ·rw[List.getElem?_append_left (by omega),List.getElem?_append_left (by omega),List.getElem?_take,List.getElem?_take,if_pos d,if_pos (by omega)]
   simp[e]
  ·rw[List.getElem?_append_right (by omega),List.getElem?_append_right (by omega),l1,l2]
   simp only[List.getElem?_drop]
   rw[show j+(i-j)=i by omega,show j+1+(i-(j+1))=i by omega]
   simp[e]
theorem markS(w:World)(base g n cap:Nat)(s:Int)(ps:List T3)(h20:n≤1048576)(s0:0≤s)(s1:s≤100000000)(ho:Own3 111 w base g n cap ps):
  Calls Tryz.prog 105 #[.slice (some ⟨g,0,none⟩) n cap,.int .i64 s] w fun e w'=>e= .returned (.int .i64 (s+3*(n:Int)))∧Own3 111 w' base g n cap (marks s n)∧w.grownBy w' (some g):=by
 have hl:=ho.len
 have ho':Own3 111 w base g n cap (marked s ps n 0):=by rw[marked_zero];exact ho
 clear ho
 go_enter Tryz.func105,Tryz.ntmps105
 go_wp2
 go_loopw [1,5] (fun m i wr=>∃(k:Nat),k≤n∧i= .int .i64 k∧m= .int .i64 (s+3*(k:Int))∧Own3 111 wr base g n cap (marked s ps n k)∧w.grownBy wr (some g)) (fun _ i _=>n-(intOf i).toNat)
 case atStart=>exact⟨0,by omega,rfl,by go_num,ho',World.grownBy.refl _ _⟩
 case round=>
  clear ho'
  obtain⟨k,hk,rfl,rfl,hown,hg⟩:=hrel
  by_cases t:k<n
  ·obtain⟨o1,q1⟩:=hown.set0 k (s+3*(k:Int))
   obtain⟨o2,q2⟩:=o1.set1 k (s+3*(k:Int)+1)
   obtain⟨o3,q3⟩:=o2.set2 k (s+3*(k:Int)+1+1)
   obtain⟨hd0,hd1,hd2⟩:=hown.at k (by rw[Own3.len hown];exact t)
   have hf0:=hown.free (k*3)
   have hf1:=hown.free (k*3+1)
   have hf2:=hown.free (k*3+2)
   rw[marked_step s ps n k hl t] at o3
   have HO:=zh o3
   have HG:=zh (grown_trans (grown_trans (grown_trans hg q1) q2) q3)
   clear hown hg o1 q1 o2 q2 o3 q3
   generalize (el3 (marked s ps n k) k).1=z0 at hd0
   generalize (el3 (marked s ps n k) k).2.1=z1 at hd1
   generalize (el3 (marked s ps n k) k).2.2=z2 at hd2
   have r1:IntKind.i64.wrap (s+3*(k:Int)+1)=s+3*(k:Int)+1:=by rw[IntKind.wrap_i64];omega
   have r2:IntKind.i64.wrap (s+3*(k:Int)+1+1)=s+3*(k:Int)+1+1:=by rw[IntKind.wrap_i64];omega
   have r3:IntKind.i64.wrap (s+3*(k:Int)+1+1+1)=s+3*(k:Int)+1+1+1:=by rw[IntKind.wrap_i64];omega
   go_wp2
   go_roundw
   case rel=>exact⟨k+1,by omega,by go_num,by go_num,zu HO,zu HG⟩
   case measure=>simp[intOf];omega
  ·obtain rfl:k=n:=by omega
   rw[marked_all s ps k hl] at hown
   have HO:=zh hown
   have HG:=zh hg
   clear hown hg
   go_wp2
   go_ret
   exact⟨rfl,zu HO,zu HG⟩
theorem sz_yes(a:Option Addr)(len cap:Nat)(l:Int)(w:World)(h:(len:Int)≤l)(hl:l≤1048576):
  Calls Tryz.prog 63 #[.slice a len cap,.int .i64 l] w fun e w'=>e= .returned (.int .i64 (l-(len:Int)))∧w'=w:=by
 have h1:(0:Int)≤l-(len:Int):=by omega
 have h2:wrap64 (l-(len:Int))=l-(len:Int):=by rw[wrap64];omega
 go_enter Tryz.func63,Tryz.ntmps63
 go_wp2
 go_ret
 exact⟨rfl,rfl⟩
theorem sz_no(a:Option Addr)(len cap:Nat)(l:Int)(w:World)(h:¬(len:Int)≤l)(hl:l≤1048576)(h0:0≤l)(hm:len≤9223372036854775807):
  Calls Tryz.prog 63 #[.slice a len cap,.int .i64 l] w fun e w'=>e= .returned (.int .i64 (-1))∧w'=w:=by
 have h1:l-(len:Int)<0:=by omega
 have h2:wrap64 (l-(len:Int))=l-(len:Int):=by rw[wrap64];omega
 go_enter Tryz.func63,Tryz.ntmps63
 go_wp2
 go_ret
 exact⟨rfl,rfl⟩
end BalHelp
namespace BalHeld
open Triples
open BalHelp (marks marks_len marks_getD)
theorem heldS(w:World)(g n cap:Nat)(s:Int)(h20:n≤1048576)(s0:0≤s)(s1:s≤100000000)(h:At3 w g (marks s n)):
  Calls Tryz.prog 111 #[.slice (some ⟨g,0,none⟩) n cap,.int .i64 s] w fun e w'=>e= .returned (.int .i64 (s+3*(n:Int)))∧w'=w:=by
 go_enter Tryz.func111,Tryz.ntmps111
 go_wp2
 go_loop [1,5] (fun m i=>∃(k:Nat),k≤n∧i= .int .i64 k∧m= .int .i64 (s+3*(k:Int))) (fun _ i=>n-(intOf i).toNat)
 case atStart=>exact⟨0,by omega,rfl,by go_num⟩
 case round=>
  obtain⟨k,hk,rfl,rfl⟩:=hrel
  by_cases t:k<n
  ·obtain⟨e0,e1,e2⟩:=h k (by rw[marks_len];exact t)
   rw[marks_getD s n k t] at e0 e1 e2
   have e2:w.cell? ⟨g,k*3+2,none⟩=some (.int .i64 (s+3*(k:Int)+1+1)):=by rw[e2];simp;omega
   clear h
   go_wp2
   go_round
   case rel=>exact⟨k+1,by omega,by go_num,by go_num⟩
   case measure=>simp[intOf];omega
  ·obtain rfl:k=n:=by omega
   clear h
   go_wp2
   go_ret
   exact⟨rfl,rfl⟩
end BalHeld
namespace SPut11
open SBytes
open ByteH (Own At)
theorem own_of_row{w:World}{base n n':Nat}{v:Value}{vs:List Value}{xs:List Int}(h:w.ownsRow base 5 1 v n vs)(hn:n=n')(e:vs=xs.map (Value.int .u8))(hv:¬v= .slice none 0 0):
  ∃g c,v= .slice (some ⟨g,0,none⟩) n' c∧Own w base g n' c xs:=by
 subst hn e
 have h':=h
 rcases h.2 with⟨h1,_⟩|⟨g,c,cur,rfl,_⟩
 ·exact absurd h1 hv
 ·exact⟨g,c,rfl,h'⟩
theorem own_alloc{w:World}{base g n cap:Nat}{xs:List Int}(h:Own w base g n cap xs)(o:Obj):Own (w.alloc o) base g n cap xs:=World.ownsRow.alloc h o
theorem lit0(w:World)(base:Nat){g:Nat}(hb:base≤w.heap.size)(hg:g=w.heap.size):Own (w.alloc (.cells #[] 5)) base g 0 0 []:=by
 subst hg
 exact World.ownsRow_lit w #[] 0 hb (by decide) rfl
def AtO(w:World)(g o:Nat)(xs:List Int):Prop:=∀i,i<xs.length→w.cell? ⟨g,o+i,none⟩=some (.int .u8 (xs.getD i 0))
theorem AtO.of{w:World}{g:Nat}{xs:List Int}(h:At w g xs):AtO w g 0 xs:=fun i hi=>by rw[Nat.zero_add];exact h i hi
theorem wp_catB(u:World){ops:Array Oper}{rest:List Oper}{o:Oper}{a:Act}{Q:Exit→Act→World→Prop}(hgd:o.guard=none)(s x:Operand)
  (ho:o.op= .call {callee:= .builtin .append,args:= #[s,x],argTypes:= #[196,196]})(base g n cap m:Nat)(xs ys:List Int)(vb off c:Nat)
  (hs:a.eval s= .slice (some ⟨g,0,none⟩) n cap)(hx:a.eval x= .slice (some ⟨vb,off,none⟩) m c)(hown:Own u base g n cap xs)(hl:ys.length=m)(hv:AtO u vb off ys)(hn:n+m≤9223372036854)(hb:base≤u.heap.size)
  (h:∀g' c' w',Own w' base g' (n+m) c' (xs++ys)→u.grownBy w' (some g)→(g'=g∨g'=u.heap.size)→wpList Tryz.prog ops Q rest (a.put o.dst (.slice (some ⟨g',0,none⟩) (n+m) c')) w'):wpList Tryz.prog ops Q (o::rest) a u:=by
 obtain⟨i0,hi,hz0,hz1,hz2⟩:=info_parts ByteH.info8
 refine wpList_append_own_at u hgd s x 196 ho base 5 i0 (.int .u8 0) 1 1 Tryz.underlying196 hi hz0 hz1 hz2 rfl (by decide) _ n _ hs hown ⟨vb,off,none⟩ m c (ys.map (Value.int .u8)) hx (by simp[hl]) (fun j v hj=>by
  have hj':j<ys.length:=by
   have:=(List.getElem?_eq_some_iff.1 hj).1
   simpa using this
  have:=hv j hj'
  rw[Addr.add_lit,this]
  rw[←hj]
  simp[List.getD,hj']) (by intro u hu;obtain⟨y,_,rfl⟩:=List.mem_map.1 hu;simp[Value.oneCell']) (by unfold maxLen;omega) (by omega) hb ?_
 intro v' w' own' gr' nil' loc'
 obtain⟨g',c',rfl,o'⟩:=own_of_row (n':=n+m) (xs:=xs++ys) own' rfl (by simp) (by rw[nil'];simp)
 exact h g' c' w' o' gr' (by simpa[Value.ownBlock] using loc')
theorem lit_one(w:World)(y:Int):AtO (w.alloc (.cells #[.int .u8 y] 5)) w.heap.size 0 [y]:=by
 intro i hi
 have:i=0:=by simpa using hi
 subst this
 simp
def numF(x:Nat):List Int:=if 127<x then((x%128+128:Nat):Int)::numF (x/128) else[(x:Int)]
termination_by x
theorem numF_more{x:Nat}(h:127<x):numF x=((x%128+128:Nat):Int)::numF (x/128):=by rw[numF,if_pos h]
theorem numF_last{x:Nat}(h:¬127<x):numF x=[(x:Int)]:=by rw[numF,if_neg h]
theorem numF_len(n:Nat):∀x:Nat,x<128^(n+1)→(numF x).length≤n+1:=by
 induction n with
 |zero=>intro x h;rw[numF_last (by omega)];simp
 |succ n ih=>
  intro x h
  by_cases t:127<x
  ·rw[numF_more t]
   have:=ih (x/128) (by rw[Nat.pow_succ] at h;omega)
   simp
   omega
  ·rw[numF_last t];simp
theorem numF_in(n:Nat):∀x:Nat,x<128^(n+1)→∀y∈numF x,0≤y∧y≤255:=by
 induction n with
 |zero=>
  intro x h y hy
  rw[numF_last (by omega)] at hy
  simp at hy
  omega
 |succ n ih=>
  intro x h y hy
  by_cases t:127<x
  ·rw[numF_more t] at hy
   rcases List.mem_cons.1 hy with rfl|hy
   ·omega
   ·exact ih (x/128) (by rw[Nat.pow_succ] at h;omega) y hy
  ·rw[numF_last t] at hy
   simp at hy
   omega
def numB(x:Int):List Int:=if x<0 then[] else numF x.toNat
theorem numF_nine{x:Nat}(h:x≤9223372036854775807):(numF x).length≤9:=numF_len 8 x (by omega)
theorem numB_nine{x:Int}(h:x≤9223372036854775807):(numB x).length≤9:=by
 unfold numB
 split
 ·simp
 ·exact numF_nine (by omega)
theorem one_more(w:World)(o:Obj):Below w.heap.size w (w.alloc o):=(Below.refl _ _).alloc (Nat.le_refl _) _
theorem sPutNum(w:World)(x0:Int)(hx:x0≤9223372036854775807):
  Calls Tryz.prog 176 #[.int .i64 x0] w fun e w'=>∃g c,e= .returned (.slice (some ⟨g,0,none⟩) (numB x0).length c)∧Own w' w.heap.size g (numB x0).length c (numB x0)∧Below w.heap.size w w':=by
 have O0:=zh (lit0 w w.heap.size (Nat.le_refl _) rfl)
 have B0:=zh (one_more w (.cells #[] 5))
 by_cases h0:x0<0
 ·have e:numB x0=[]:=if_pos h0
  rw[e]
  clear e hx
  go_enter Tryz.func176,Tryz.ntmps176
  go_wp2
  go_ret
  exact⟨w.heap.size,0,rfl,zu O0,zu B0⟩
 have e:numB x0=numF x0.toNat:=if_neg h0
 rw[e]
 have L:=zh (numF_nine (x:=x0.toNat) (by omega))
 clear e
 obtain⟨r,hr⟩:∃r,Hid (numF x0.toNat=r):=⟨_,rfl⟩
 rw[zu hr] at L⊢
 have h1:0≤x0:=by omega
 have S0:=zh (show([]:List Int)++numF x0.toNat=r from zu hr)
 clear hr h0
 go_enter Tryz.func176,Tryz.ntmps176
 go_wp2
 go_loopw [0,3] (fun a l wr=>∃(x:Int) (p:List Int) (g c:Nat),a= .int .i64 x∧l= .slice (some ⟨g,0,none⟩) p.length c∧0≤x∧x≤9223372036854775807∧Hid (p++numF x.toNat=r)∧Hid (Own wr w.heap.size g p.length c p)∧Hid (Below w.heap.size w wr)) (fun a _ _=>(intOf a).toNat)
 case atStart=>exact⟨x0,[],w.heap.size,0,rfl,rfl,h1,hx,S0,O0,B0⟩
 case round=>
  clear O0 B0 S0 hx h1
  obtain⟨x,p,g,c,rfl,rfl,x1,x2,HR,HO,HB⟩:=hrel
  have bs:=(zu HB).size
  have pl:p.length≤9:=by have a:=zu L;rw[←zu HR] at a;simp at a;omega
  have og:=(zu HO).lt
  have HX:=zh (And.intro x1 x2)
  by_cases t:127<x
  ·have N:=zh (show(p++[x%128+128])++numF (x/128).toNat=r from by
    rw[←zu HR,numF_more (x:=x.toNat) (by omega),List.append_assoc]
    have e1:((x.toNat%128+128:Nat):Int)=x%128+128:=by omega
    have e2:x.toNat/128=(x/128).toNat:=by omega
    rw[e1,e2];rfl)
   have E:=zh (show wrap64 (x.tdiv 128)=x/128 from by rw[Int.tdiv_eq_ediv_of_nonneg x1,wrap64];omega)
   clear HR x1 x2
   go_wp2_with (first|(at_builtin;refine wp_catB _ rfl _ _ rfl w.heap.size g p.length c 1 p [x%128+128] wr.heap.size 0 1 rfl rfl (own_alloc (zu HO) _) rfl (lit_one _ _) (by omega) (by simp;omega) ?_)|go_in)
   intro g5 c5 w5 o5 gr5 loc5
   have O5:=zh o5
   have B5:=zh (((zu HB).alloc (by omega) (.cells #[.int .u8 (x%128+128)] 5)).grown gr5 (by simp;omega) (fun j hj=>by cases hj;exact og.1))
   clear o5 gr5 loc5
   go_wp2
   go_roundw
   case rel=>
    have xx:=zu HX
    exact⟨x/128,p++[x%128+128],g5,c5,congrArg (Value.int .i64) (zu E),by rw[show(p++[x%128+128]).length=p.length+1 by simp],by omega,by omega,N,zh (by rw[show(p++[x%128+128]).length=p.length+1 by simp];exact zu O5),B5⟩
   case measure=>
    have xx:=zu HX
    have e:=zu E
    simp[intOf,e]
    omega
  ·have N:=zh (show p++[x]=r from by
    rw[←zu HR,numF_last (x:=x.toNat) (by omega)]
    have e1:((x.toNat:Nat):Int)=x:=by omega
    rw[e1])
   clear HR
   go_wp2_with (first|(at_builtin;refine wp_catB _ rfl _ _ rfl w.heap.size g p.length c 1 p [x] wr.heap.size 0 1 rfl rfl (own_alloc (zu HO) _) rfl (lit_one _ _) (by omega) (by simp;omega) ?_)|go_in)
   intro g5 c5 w5 o5 gr5 loc5
   have O5:=zh o5
   have B5:=zh (((zu HB).alloc (by omega) (.cells #[.int .u8 x] 5)).grown gr5 (by simp;omega) (fun j hj=>by cases hj;exact og.1))
   clear o5 gr5 loc5
   go_wp2
   go_ret
   have e:=zu N
   have e1:r.length=p.length+1:=by rw[←e];simp
   exact⟨g5,c5,by rw[e1];rfl,by rw[e1,←e];exact zu O5,zu B5⟩
end SPut11
namespace SPuts11
open SBytes SPut11
open ByteH (Own At)
def numsB(xs:List Int):List Int:=if ∀i,i<xs.length→0≤xs.getD i 0 then xs.flatMap numB else[]
theorem flat_next{xs:List Int}{k:Nat}(h:k<xs.length):(xs.take (k+1)).flatMap numB=(xs.take k).flatMap numB++numB (xs.getD k 0):=by
 rw[List.take_succ_eq_append_getElem h,List.flatMap_append]
 simp[List.getD,h]
theorem flat_len(xs:List Int)(h:∀i,i<xs.length→xs.getD i 0≤9223372036854775807)(k:Nat)(hk:k≤xs.length):((xs.take k).flatMap numB).length≤9*k:=by
 induction k with
 |zero=>simp
 |succ k ih=>
  rw[flat_next (by omega),List.length_append]
  have a:=ih (by omega)
  have b:=numB_nine (h k (by omega))
  omega
theorem numB_pos{x:Int}(h:0≤x):numB x=numF x.toNat:=if_neg (by omega)
theorem sPutNums(w:World)(gl cl:Nat)(xs:List Int)(h20:xs.length≤1048576)(hg:gl<w.heap.size)(hr:Ints.At w gl xs)(hi:∀i,i<xs.length→xs.getD i 0≤9223372036854775807):
  Calls Tryz.prog 213 #[.slice (some ⟨gl,0,none⟩) xs.length cl] w fun e w'=>∃g c,e= .returned (.slice (some ⟨g,0,none⟩) (numsB xs).length c)∧Own w' w.heap.size g (numsB xs).length c (numsB xs)∧Below w.heap.size w w':=by
 have O0:=zh (lit0 w w.heap.size (Nat.le_refl _) rfl)
 have B0:=zh (one_more w (.cells #[] 5))
 have R:=zh hr
 have HI:=zh hi
 have HG:=zh hg
 obtain⟨r,hq⟩:∃r,Hid (numsB xs=r):=⟨_,rfl⟩
 rw[zu hq]
 clear hr hi hg
 go_enter Tryz.func213,Tryz.ntmps213
 go_wp2
 go_loopw [3,4] (fun l a wr=>∃(k g c n:Nat),a= .int .i64 k∧k≤xs.length∧l= .slice (some ⟨g,0,none⟩) n c∧n≤9*k∧Hid (n=((xs.take k).flatMap numB).length)∧Hid (∀i,i<k→0≤xs.getD i 0)∧Hid (Own wr w.heap.size g n c ((xs.take k).flatMap numB))∧Hid (Below w.heap.size w wr)) (fun _ a _=>xs.length-(intOf a).toNat)
 case atStart=>exact⟨0,w.heap.size,0,0,rfl,by omega,rfl,by omega,zh (by simp),zh (fun i h=>absurd h (by omega)),zh (by simpa using zu O0),B0⟩
 case round=>
  clear O0 B0
  obtain⟨k,g,c,n,rfl,hk,rfl,nk,HN,HP,HO,HB⟩:=hrel
  have bs:=(zu HB).size
  have og:=(zu HO).lt
  by_cases t:k<xs.length
  ·have d:=(((zu R).below (zu HB) (zu HG)) k t)
   have NX:=zh (flat_next t)
   have HX:=zh ((zu HI) k t)
   have SG:=zh (show 0≤xs.getD k 0→∀i,i<k+1→0≤xs.getD i 0 from fun h i hi=>by
    by_cases e:i=k
    ·subst e;exact h
    ·exact(zu HP) i (by omega))
   have BAD:=zh (show xs.getD k 0<0→r=[] from fun h=>by rw[←zu hq];exact if_neg (fun a=>by have:=a k t;omega))
   clear HP
   generalize xs.getD k 0=y at *
   have kx:(k:Int)<xs.length:=by omega
   by_cases y0:y<0
   ·have e:=(zu BAD) y0
    subst e
    have O5:=zh (lit0 wr w.heap.size bs rfl)
    have B5:=zh ((zu HB).alloc bs (.cells #[] 5))
    clear BAD SG NX HX hq HI R
    go_wp2
    go_ret
    exact⟨_,0,rfl,zu O5,zu B5⟩
   ·have S1:=zh ((zu SG) (by omega))
    have nine:=numB_nine (zu HX)
    have xl:=zu HX
    clear BAD SG
    go_wp2_with fail
    refine(sPutNum _ y xl).mono ?_
    rintro e u ⟨g1,c1,rfl,o1,b1⟩
    have O1:=zh o1
    have B1:=zh ((zu HB).trans (b1.mono bs))
    have HO1:=zh ((zu HO).below b1 og.2)
    have us:=b1.size
    clear o1 b1
    go_wp2_with (first|(at_builtin;refine wp_catB _ rfl _ _ rfl w.heap.size g n c (numB y).length _ (numB y) g1 0 c1 rfl rfl (zu HO1) rfl (AtO.of (zu O1).at) (by omega) (by omega) ?_)|go_in)
    intro g5 c5 w5 o5 gr5 loc5
    have O5:=zh o5
    have B5:=zh ((zu B1).grown gr5 (by omega) (fun j hj=>by cases hj;exact og.1))
    clear o5 gr5 loc5
    go_wp2
    go_roundw
    case rel=>exact⟨k+1,g5,c5,n+(numB y).length,by go_num,by omega,rfl,by omega,zh (by rw[zu NX,List.length_append,←zu HN]),S1,zh (by rw[zu NX];exact zu O5),B5⟩
    case measure=>simp[intOf];omega
  ·have e:k=xs.length:=by omega
   subst e
   have E:=zh (show xs.flatMap numB=r from by rw[←zu hq];exact(if_pos (zu HP)).symm)
   have N:=zu HN
   have O:=zu HO
   rw[List.take_length] at N O
   rw[zu E] at N O
   have O5:=zh O
   have N5:=zh N
   clear N O HN HO HP
   go_wp2
   go_ret
   have e:=zu N5
   subst e
   exact⟨g,c,rfl,zu O5,zu HB⟩
theorem own_of_rowI{w:World}{base n n':Nat}{v:Value}{vs:List Value}{xs:List Int}(h:w.ownsRow base 3 1 v n vs)(hn:n=n')(e:vs=xs.map (Value.int .i64))(hv:¬v= .slice none 0 0):
  ∃g c,v= .slice (some ⟨g,0,none⟩) n' c∧Ints.Own w base g n' c xs:=by
 subst hn e
 have h':=h
 rcases h.2 with⟨h1,_⟩|⟨g,c,cur,rfl,_⟩
 ·exact absurd h1 hv
 ·exact⟨g,c,rfl,h'⟩
theorem own_allocI{w:World}{base g n cap:Nat}{xs:List Int}(h:Ints.Own w base g n cap xs)(o:Obj):Ints.Own (w.alloc o) base g n cap xs:=World.ownsRow.alloc h o
end SPuts11
namespace AccountSOk
open Pairs Chart
def Tells(b:Bool)(x lo hi:Int):Prop:=b=true↔lo≤x∧x≤hi
theorem tells_of(x lo hi:Int):∃b,Tells b x lo hi:=bool_of _
theorem sIn(x lo hi:Int)(b:Bool)(w:World)(hb:Tells b x lo hi):
  Calls Tryz.prog 29 #[.int .i64 x,.int .i64 lo,.int .i64 hi] w fun e w'=>e= .returned (.bool b)∧w'=w:=by
 cases b
 ·have H:=zh (show lo≤x→¬x≤hi from fun h1 h2=>Bool.noConfusion ((zu hb).2 ⟨h1,h2⟩))
  clear hb
  by_cases h1:lo≤x
  ·have h2:=(zu H) h1
   clear H
   go_enter Tryz.func29,Tryz.ntmps29
   go_wp2
   go_ret
   exact⟨rfl,rfl⟩
  ·clear H
   go_enter Tryz.func29,Tryz.ntmps29
   go_wp2
   go_ret
   exact⟨rfl,rfl⟩
 ·obtain⟨h1,h2⟩:=(zu hb).1 rfl
  clear hb
  go_enter Tryz.func29,Tryz.ntmps29
  go_wp2
  go_ret
  exact⟨rfl,rfl⟩
theorem sNo(x:Int)(b:Bool)(w:World)(hb:Tells b x 1 1000):
  Calls Tryz.prog 130 #[.int .i64 x] w fun e w'=>e= .returned (.bool b)∧w'=w:=by
 go_enter Tryz.func130,Tryz.ntmps130
 go_wp2_with fail
 refine(sIn x 1 1000 b _ hb).mono ?_
 rintro e w' ⟨rfl,rfl⟩
 go_wp2
 go_ret
 exact⟨rfl,rfl⟩
theorem drewN_more{w wr:World}(h:∃q,wr=w.drewN q)(m:Nat):∃q,wr.drewN m=w.drewN q:=by
 obtain⟨q,rfl⟩:=h
 exact⟨q+m,World.drewN_drewN ..⟩
theorem sOk(w:World)(g n cap:Nat)(ps:List (Int×Int))(ok:Bool)(hl:ps.length=n)(h20:n≤1048576)(h:At w g ps)(hok:Says ok 20 4 ps):
  Calls Tryz.prog 68 #[.slice (some ⟨g,0,none⟩) n cap] w fun e w'=>e= .returned (.bool ok)∧∃q,w'=w.drewN q:=by
 by_cases nn:(20:Int)<(n:Int)
 ·obtain rfl:ok=false:=hok.not (fun r=>by have:=r.1;omega)
  clear hok h
  go_enter Tryz.func68,Tryz.ntmps68
  go_wp2
  go_ret
  exact⟨rfl,0,rfl⟩
 go_enter Tryz.func68,Tryz.ntmps68
 go_wp2
 go_loopw [3] (fun i wr=>∃(k:Nat),k≤n∧i= .int .i64 k∧At wr g ps∧Hid (∃q,wr=w.drewN q)∧Hid (∀i,i<k→RowOk 4 ps i)) (fun i _=>n-(intOf i).toNat)
 case atStart=>exact⟨0,by omega,rfl,h,zh ⟨0,rfl⟩,zh (fun i hi=>absurd hi (by omega))⟩
 case round=>
  clear h
  obtain⟨k,hk,rfl,h,HQ,HG⟩:=hrel
  by_cases t:k<n
  ·obtain⟨e1,e2⟩:=h k (by omega)
   have e3:0<k→wr.cell? ⟨g,(k-1)*2,none⟩=some (.int .i64 (el ps (k-1)).1):=fun k0=>(h (k-1) (by omega)).1
   obtain⟨b1,B1⟩:=tells_of (el ps k).1 1 1000
   obtain⟨b2,B2⟩:=tells_of (el ps k).2 1 4
   have ROW:=zh (show RowOk 4 ps k↔(b1=true)∧(b2=true)∧(0<k→(el ps (k-1)).1<(el ps k).1) from by unfold Tells at B1 B2;rw[B1,B2];exact Iff.rfl)
   have HA:=zh h
   clear h
   have BAD:=zh (show ¬RowOk 4 ps k→ok=false from fun hr=>hok.not (fun r=>hr (r.2 k (by omega))))
   have GOOD:=zh (show RowOk 4 ps k→∀i,i<k+1→RowOk 4 ps i from fun hr i hi=>by
    by_cases e:i=k
    ·subst e;exact hr
    ·exact(zu HG) i (by omega))
   generalize (el ps k).1=x at *
   generalize (el ps k).2=y at *
   cases b1
   ·have OKF:=zh ((zu BAD) (fun hr=>by have:=((zu ROW).1 hr).1;cases this))
    clear BAD GOOD ROW e3
    go_wp2_with fail
    go_quiet (first|(go_at_call 130;refine Calls.quiet_of_same (sNo _ false _ B1)))
    go_wp2
    go_ret
    exact⟨by rw[zu OKF];rfl,drewN_more (zu HQ) _⟩
   ·cases b2
    ·have OKF:=zh ((zu BAD) (fun hr=>by have:=((zu ROW).1 hr).2.1;cases this))
     clear BAD GOOD ROW e3
     go_wp2_with fail
     go_quiet (first|(go_at_call 130;refine Calls.quiet_of_same (sNo _ true _ B1))|(go_at_call 29;refine Calls.quiet_of_same (sIn _ _ _ false _ B2)))
     go_wp2
     go_ret
     exact⟨by rw[zu OKF];rfl,drewN_more (zu HQ) _⟩
    ·by_cases k0:0<k
     ·have e3:=e3 k0
      have k1:(0:Int)<(k:Int):=by omega
      have k2:(0:Int)≤(k:Int) -1:=by omega
      have k3:((k:Int) -1).toNat=k-1:=by omega
      by_cases lt:(el ps (k-1)).1<x
      ·have GO:=zh ((zu GOOD) ((zu ROW).2 ⟨rfl,rfl,fun _=>lt⟩))
       clear BAD GOOD ROW
       have ge:¬x≤(el ps (k-1)).1:=by omega
       generalize (el ps (k-1)).1=z at *
       go_wp2_with fail
       go_quiet (first|(go_at_call 130;refine Calls.quiet_of_same (sNo _ true _ B1))|(go_at_call 29;refine Calls.quiet_of_same (sIn _ _ _ true _ B2)))
       go_wp2
       go_roundw
       case rel=>exact⟨k+1,by omega,by go_num,zu HA,zh (drewN_more (zu HQ) _),GO⟩
       case measure=>simp[intOf];omega
      ·have OKF:=zh ((zu BAD) (fun hr=>lt (((zu ROW).1 hr).2.2 k0)))
       clear BAD GOOD ROW
       have ge:x≤(el ps (k-1)).1:=by omega
       generalize (el ps (k-1)).1=z at *
       go_wp2_with fail
       go_quiet (first|(go_at_call 130;refine Calls.quiet_of_same (sNo _ true _ B1))|(go_at_call 29;refine Calls.quiet_of_same (sIn _ _ _ true _ B2)))
       go_wp2
       go_ret
       exact⟨by rw[zu OKF];rfl,drewN_more (zu HQ) _⟩
     ·obtain rfl:k=0:=by omega
      have GO:=zh ((zu GOOD) ((zu ROW).2 ⟨rfl,rfl,fun h0=>absurd h0 k0⟩))
      clear BAD GOOD ROW e3
      go_wp2_with fail
      go_quiet (first|(go_at_call 130;refine Calls.quiet_of_same (sNo _ true _ B1))|(go_at_call 29;refine Calls.quiet_of_same (sIn _ _ _ true _ B2)))
      go_wp2
      go_roundw
      case rel=>exact⟨1,by omega,by go_num,zu HA,zh (drewN_more (zu HQ) _),GO⟩
      case measure=>simp[intOf];omega
  ·obtain rfl:k=n:=by omega
   obtain rfl:ok=true:=hok.of ⟨by omega,by rw[hl];exact zu HG⟩
   clear h hok
   go_wp2
   go_ret
   exact⟨rfl,zu HQ⟩
theorem sKind(w:World)(g n cap:Nat)(ps:List (Int×Int))(no:Int)(hl:ps.length=n)(h20:n≤1048576)(h:At w g ps):
  Calls Tryz.prog 75 #[.slice (some ⟨g,0,none⟩) n cap,.int .i64 no] w fun e w'=>∃r,IsKind 20 4 ps no r∧e= .returned (.int .i64 r)∧∃q,w'=w.drewN q:=by
 obtain⟨ok,OK⟩:=says_of 20 4 ps
 go_enter Tryz.func75,Tryz.ntmps75
 go_wp2
 go_loopw [5] (fun i wr=>∃(k:Nat),k≤n∧i= .int .i64 k∧At wr g ps∧Hid (∃q,wr=w.drewN q)∧Hid (∀i,i<k→(el ps i).1≠no)) (fun i _=>n-(intOf i).toNat)
 case atStart=>exact⟨0,by omega,rfl,h,zh ⟨0,rfl⟩,zh (fun i hi=>absurd hi (by omega))⟩
 case round=>
  clear h
  obtain⟨k,hk,rfl,h,HQ,HG⟩:=hrel
  by_cases t:k<n
  ·obtain⟨e1,e2⟩:=h k (by omega)
   have HA:=zh h
   clear h
   have GO:=zh (show(el ps k).1≠no→∀i,i<k+1→(el ps i).1≠no from fun hn i hi=>by
    by_cases e:i=k
    ·subst e;exact hn
    ·exact(zu HG) i (by omega))
   have YES:=zh (show ok=true→(el ps k).1=no→IsKind 20 4 ps no (el ps k).2 from fun ho he=> .inl ⟨OK.1 ho,k,by omega,he,rfl⟩)
   generalize (el ps k).1=x at *
   generalize (el ps k).2=y at *
   cases ok
   ·go_wp2_with fail
    refine(sOk _ _ _ _ ps false hl h20 (zu HA) OK).mono ?_
    rintro e w2 ⟨rfl,nq,rfl⟩
    go_wp2
    go_ret
    exact⟨0,.inr ⟨.inl OK.no,rfl⟩,rfl,drewN_more (zu HQ) _⟩
   ·go_wp2_with fail
    refine(sOk _ _ _ _ ps true hl h20 (zu HA) OK).mono ?_
    rintro e w2 ⟨rfl,nq,rfl⟩
    by_cases eq:x=no
    ·have Y:=zh ((zu YES) (by trivial) eq)
     clear YES GO
     subst eq
     go_wp2
     go_ret
     exact⟨y,zu Y,rfl,drewN_more (zu HQ) _⟩
    ·have eqb:(x==no)=false:=by simpa using eq
     have G:=zh ((zu GO) eq)
     clear YES GO
     go_wp2
     go_roundw
     case rel=>exact⟨k+1,by omega,by go_num,zu HA,zh (drewN_more (zu HQ) _),G⟩
     case measure=>simp[intOf];omega
  ·obtain rfl:k=n:=by omega
   have K0:=zh (show IsKind 20 4 ps no 0 from .inr ⟨.inr (fun i hi=>(zu HG) i (by omega)),rfl⟩)
   clear h
   go_wp2
   go_ret
   exact⟨0,zu K0,rfl,zu HQ⟩
end AccountSOk
namespace InstrSOk
open Pairs Chart
def Tells(b:Bool)(x lo hi:Int):Prop:=b=true↔lo≤x∧x≤hi
theorem tells_of(x lo hi:Int):∃b,Tells b x lo hi:=bool_of _
theorem sIn(x lo hi:Int)(b:Bool)(w:World)(hb:Tells b x lo hi):
  Calls Tryz.prog 29 #[.int .i64 x,.int .i64 lo,.int .i64 hi] w fun e w'=>e= .returned (.bool b)∧w'=w:=by
 cases b
 ·have H:=zh (show lo≤x→¬x≤hi from fun h1 h2=>Bool.noConfusion ((zu hb).2 ⟨h1,h2⟩))
  clear hb
  by_cases h1:lo≤x
  ·have h2:=(zu H) h1
   clear H
   go_enter Tryz.func29,Tryz.ntmps29
   go_wp2
   go_ret
   exact⟨rfl,rfl⟩
  ·clear H
   go_enter Tryz.func29,Tryz.ntmps29
   go_wp2
   go_ret
   exact⟨rfl,rfl⟩
 ·obtain⟨h1,h2⟩:=(zu hb).1 rfl
  clear hb
  go_enter Tryz.func29,Tryz.ntmps29
  go_wp2
  go_ret
  exact⟨rfl,rfl⟩
theorem sNo(x:Int)(b:Bool)(w:World)(hb:Tells b x 1 1000):
  Calls Tryz.prog 130 #[.int .i64 x] w fun e w'=>e= .returned (.bool b)∧w'=w:=by
 go_enter Tryz.func130,Tryz.ntmps130
 go_wp2_with fail
 refine(sIn x 1 1000 b _ hb).mono ?_
 rintro e w' ⟨rfl,rfl⟩
 go_wp2
 go_ret
 exact⟨rfl,rfl⟩
theorem drewN_more{w wr:World}(h:∃q,wr=w.drewN q)(m:Nat):∃q,wr.drewN m=w.drewN q:=by
 obtain⟨q,rfl⟩:=h
 exact⟨q+m,World.drewN_drewN ..⟩
theorem sOk(w:World)(g n cap:Nat)(ps:List (Int×Int))(ok:Bool)(hl:ps.length=n)(h20:n≤1048576)(h:At w g ps)(hok:Says ok 8 2 ps):
  Calls Tryz.prog 69 #[.slice (some ⟨g,0,none⟩) n cap] w fun e w'=>e= .returned (.bool ok)∧∃q,w'=w.drewN q:=by
 by_cases nn:(8:Int)<(n:Int)
 ·obtain rfl:ok=false:=hok.not (fun r=>by have:=r.1;omega)
  clear hok h
  go_enter Tryz.func69,Tryz.ntmps69
  go_wp2
  go_ret
  exact⟨rfl,0,rfl⟩
 go_enter Tryz.func69,Tryz.ntmps69
 go_wp2
 go_loopw [3] (fun i wr=>∃(k:Nat),k≤n∧i= .int .i64 k∧At wr g ps∧Hid (∃q,wr=w.drewN q)∧Hid (∀i,i<k→RowOk 2 ps i)) (fun i _=>n-(intOf i).toNat)
 case atStart=>exact⟨0,by omega,rfl,h,zh ⟨0,rfl⟩,zh (fun i hi=>absurd hi (by omega))⟩
 case round=>
  clear h
  obtain⟨k,hk,rfl,h,HQ,HG⟩:=hrel
  by_cases t:k<n
  ·obtain⟨e1,e2⟩:=h k (by omega)
   have e3:0<k→wr.cell? ⟨g,(k-1)*2,none⟩=some (.int .i64 (el ps (k-1)).1):=fun k0=>(h (k-1) (by omega)).1
   obtain⟨b1,B1⟩:=tells_of (el ps k).1 1 1000
   obtain⟨b2,B2⟩:=tells_of (el ps k).2 1 2
   have ROW:=zh (show RowOk 2 ps k↔(b1=true)∧(b2=true)∧(0<k→(el ps (k-1)).1<(el ps k).1) from by unfold Tells at B1 B2;rw[B1,B2];exact Iff.rfl)
   have HA:=zh h
   clear h
   have BAD:=zh (show ¬RowOk 2 ps k→ok=false from fun hr=>hok.not (fun r=>hr (r.2 k (by omega))))
   have GOOD:=zh (show RowOk 2 ps k→∀i,i<k+1→RowOk 2 ps i from fun hr i hi=>by
    by_cases e:i=k
    ·subst e;exact hr
    ·exact(zu HG) i (by omega))
   generalize (el ps k).1=x at *
   generalize (el ps k).2=y at *
   cases b1
   ·have OKF:=zh ((zu BAD) (fun hr=>by have:=((zu ROW).1 hr).1;cases this))
    clear BAD GOOD ROW e3
    go_wp2_with fail
    go_quiet (first|(go_at_call 130;refine Calls.quiet_of_same (sNo _ false _ B1)))
    go_wp2
    go_ret
    exact⟨by rw[zu OKF];rfl,drewN_more (zu HQ) _⟩
   ·cases b2
    ·have OKF:=zh ((zu BAD) (fun hr=>by have:=((zu ROW).1 hr).2.1;cases this))
     clear BAD GOOD ROW e3
     go_wp2_with fail
     go_quiet (first|(go_at_call 130;refine Calls.quiet_of_same (sNo _ true _ B1))|(go_at_call 29;refine Calls.quiet_of_same (sIn _ _ _ false _ B2)))
     go_wp2
     go_ret
     exact⟨by rw[zu OKF];rfl,drewN_more (zu HQ) _⟩
    ·by_cases k0:0<k
     ·have e3:=e3 k0
      have k1:(0:Int)<(k:Int):=by omega
      have k2:(0:Int)≤(k:Int) -1:=by omega
      have k3:((k:Int) -1).toNat=k-1:=by omega
      by_cases lt:(el ps (k-1)).1<x
      ·have GO:=zh ((zu GOOD) ((zu ROW).2 ⟨rfl,rfl,fun _=>lt⟩))
       clear BAD GOOD ROW
       have ge:¬x≤(el ps (k-1)).1:=by omega
       generalize (el ps (k-1)).1=z at *
       go_wp2_with fail
       go_quiet (first|(go_at_call 130;refine Calls.quiet_of_same (sNo _ true _ B1))|(go_at_call 29;refine Calls.quiet_of_same (sIn _ _ _ true _ B2)))
       go_wp2
       go_roundw
       case rel=>exact⟨k+1,by omega,by go_num,zu HA,zh (drewN_more (zu HQ) _),GO⟩
       case measure=>simp[intOf];omega
      ·have OKF:=zh ((zu BAD) (fun hr=>lt (((zu ROW).1 hr).2.2 k0)))
       clear BAD GOOD ROW
       have ge:x≤(el ps (k-1)).1:=by omega
       generalize (el ps (k-1)).1=z at *
       go_wp2_with fail
       go_quiet (first|(go_at_call 130;refine Calls.quiet_of_same (sNo _ true _ B1))|(go_at_call 29;refine Calls.quiet_of_same (sIn _ _ _ true _ B2)))
       go_wp2
       go_ret
       exact⟨by rw[zu OKF];rfl,drewN_more (zu HQ) _⟩
     ·obtain rfl:k=0:=by omega
      have GO:=zh ((zu GOOD) ((zu ROW).2 ⟨rfl,rfl,fun h0=>absurd h0 k0⟩))
      clear BAD GOOD ROW e3
      go_wp2_with fail
      go_quiet (first|(go_at_call 130;refine Calls.quiet_of_same (sNo _ true _ B1))|(go_at_call 29;refine Calls.quiet_of_same (sIn _ _ _ true _ B2)))
      go_wp2
      go_roundw
      case rel=>exact⟨1,by omega,by go_num,zu HA,zh (drewN_more (zu HQ) _),GO⟩
      case measure=>simp[intOf];omega
  ·obtain rfl:k=n:=by omega
   obtain rfl:ok=true:=hok.of ⟨by omega,by rw[hl];exact zu HG⟩
   clear h hok
   go_wp2
   go_ret
   exact⟨rfl,zu HQ⟩
theorem sKind(w:World)(g n cap:Nat)(ps:List (Int×Int))(no:Int)(hl:ps.length=n)(h20:n≤1048576)(h:At w g ps):
  Calls Tryz.prog 76 #[.slice (some ⟨g,0,none⟩) n cap,.int .i64 no] w fun e w'=>∃r,IsKind 8 2 ps no r∧e= .returned (.int .i64 r)∧∃q,w'=w.drewN q:=by
 obtain⟨ok,OK⟩:=says_of 8 2 ps
 go_enter Tryz.func76,Tryz.ntmps76
 go_wp2
 go_loopw [5] (fun i wr=>∃(k:Nat),k≤n∧i= .int .i64 k∧At wr g ps∧Hid (∃q,wr=w.drewN q)∧Hid (∀i,i<k→(el ps i).1≠no)) (fun i _=>n-(intOf i).toNat)
 case atStart=>exact⟨0,by omega,rfl,h,zh ⟨0,rfl⟩,zh (fun i hi=>absurd hi (by omega))⟩
 case round=>
  clear h
  obtain⟨k,hk,rfl,h,HQ,HG⟩:=hrel
  by_cases t:k<n
  ·obtain⟨e1,e2⟩:=h k (by omega)
   have HA:=zh h
   clear h
   have GO:=zh (show(el ps k).1≠no→∀i,i<k+1→(el ps i).1≠no from fun hn i hi=>by
    by_cases e:i=k
    ·subst e;exact hn
    ·exact(zu HG) i (by omega))
   have YES:=zh (show ok=true→(el ps k).1=no→IsKind 8 2 ps no (el ps k).2 from fun ho he=> .inl ⟨OK.1 ho,k,by omega,he,rfl⟩)
   generalize (el ps k).1=x at *
   generalize (el ps k).2=y at *
   cases ok
   ·go_wp2_with fail
    refine(sOk _ _ _ _ ps false hl h20 (zu HA) OK).mono ?_
    rintro e w2 ⟨rfl,nq,rfl⟩
    go_wp2
    go_ret
    exact⟨0,.inr ⟨.inl OK.no,rfl⟩,rfl,drewN_more (zu HQ) _⟩
   ·go_wp2_with fail
    refine(sOk _ _ _ _ ps true hl h20 (zu HA) OK).mono ?_
    rintro e w2 ⟨rfl,nq,rfl⟩
    by_cases eq:x=no
    ·have Y:=zh ((zu YES) (by trivial) eq)
     clear YES GO
     subst eq
     go_wp2
     go_ret
     exact⟨y,zu Y,rfl,drewN_more (zu HQ) _⟩
    ·have eqb:(x==no)=false:=by simpa using eq
     have G:=zh ((zu GO) eq)
     clear YES GO
     go_wp2
     go_roundw
     case rel=>exact⟨k+1,by omega,by go_num,zu HA,zh (drewN_more (zu HQ) _),G⟩
     case measure=>simp[intOf];omega
  ·obtain rfl:k=n:=by omega
   have K0:=zh (show IsKind 8 2 ps no 0 from .inr ⟨.inr (fun i hi=>(zu HG) i (by omega)),rfl⟩)
   clear h
   go_wp2
   go_ret
   exact⟨0,zu K0,rfl,zu HQ⟩
end InstrSOk
namespace BalApp
open Bals Triples
theorem info2:(Tryz.prog.info? 111).map (fun i=>(i.zero,i.size,i.bytes))=some (some (.agg #[.int .i64 0,.int .i64 0,.int .i64 0]),3,24):=by kernel_rfl
theorem wp_app(u:World){ops:Array Oper}{rest:List Oper}{o:Oper}{a:Act}{Q:Exit→Act→World→Prop}(hgd:o.guard=none)(s x:Operand)
  (ho:o.op= .call {callee:= .builtin .append,args:= #[s,x],argTypes:= #[41,41]})(base g n cap:Nat)(ps:List T3)(vb:Nat)(p q r:Int)
  (hs:a.eval s= .slice (some ⟨g,0,none⟩) n cap)(hx:a.eval x= .slice (some ⟨vb,0,none⟩) 1 1)(hown:Own3 111 u base g n cap ps)(hv:Holds3 u vb 0 (p,q,r))(hn:n≤1048576)(hb:base≤u.heap.size)
  (h:∀g' c' w',Own3 111 w' base g' (n+1) c' (ps++[(p,q,r)])→u.grownBy w' (some g)→(g'=g∨g'=u.heap.size)→wpList Tryz.prog ops Q rest (a.put o.dst (.slice (some ⟨g',0,none⟩) (n+1) c')) w'):wpList Tryz.prog ops Q (o::rest) a u:=by
 obtain⟨i0,hi,hz0,hz1,hz2⟩:=info_parts info2
 have hat:At3 u vb [(p,q,r)]:=by
  intro i hi
  obtain rfl:i=0:=by simpa using hi
  exact hv
 refine wpList_append_own_at u hgd s x 41 ho base 111 i0 (.agg #[.int .i64 0,.int .i64 0,.int .i64 0]) 3 24 Tryz.underlying41 hi hz0 hz1 hz2 rfl (by decide) _ n _ hs hown ⟨vb,0,none⟩ 1 1 (flat3 [(p,q,r)]) hx rfl hat.cells (fun u hu=>flat3_one u _ hu) (by unfold maxLen;omega) (by omega) hb ?_
 intro v' w' own' gr' nil' loc'
 obtain⟨g',c',rfl,o'⟩:=own3_of_row (n':=n+1) (ps:=ps++[(p,q,r)]) own' rfl (by rw[flat3_append]) (by rw[nil'];simp)
 exact h g' c' w' o' gr' (by simpa[Value.ownBlock] using loc')
end BalApp
namespace LotApp
open Tup5
theorem info2:(Tryz.prog.info? 113).map (fun i=>(i.zero,i.size,i.bytes))=some (some (.agg #[.int .i64 0,.int .i64 0,.int .i64 0,.int .i64 0,.int .i64 0]),5,40):=by kernel_rfl
theorem wp_app(u:World){ops:Array Oper}{rest:List Oper}{o:Oper}{a:Act}{Q:Exit→Act→World→Prop}(hgd:o.guard=none)(s x:Operand)
  (ho:o.op= .call {callee:= .builtin .append,args:= #[s,x],argTypes:= #[42,42]})(base g n cap:Nat)(ps:List T5)(vb:Nat)(x0 x1 x2 x3 x4:Int)
  (hs:a.eval s= .slice (some ⟨g,0,none⟩) n cap)(hx:a.eval x= .slice (some ⟨vb,0,none⟩) 1 1)(hown:Own5 113 u base g n cap ps)(hv:Holds5 u vb 0 (x0,x1,x2,x3,x4))(hn:n≤1048576)(hb:base≤u.heap.size)
  (h:∀g' c' w',Own5 113 w' base g' (n+1) c' (ps++[(x0,x1,x2,x3,x4)])→u.grownBy w' (some g)→(g'=g∨g'=u.heap.size)→wpList Tryz.prog ops Q rest (a.put o.dst (.slice (some ⟨g',0,none⟩) (n+1) c')) w'):wpList Tryz.prog ops Q (o::rest) a u:=by
 obtain⟨i0,hi,hz0,hz1,hz2⟩:=info_parts info2
 have hat:At5 u vb [(x0,x1,x2,x3,x4)]:=by
  intro i hi
  obtain rfl:i=0:=by simpa using hi
  exact hv
 refine wpList_append_own_at u hgd s x 42 ho base 113 i0 (.agg #[.int .i64 0,.int .i64 0,.int .i64 0,.int .i64 0,.int .i64 0]) 5 40 Tryz.underlying42 hi hz0 hz1 hz2 rfl (by decide) _ n _ hs hown ⟨vb,0,none⟩ 1 1 (flat5 [(x0,x1,x2,x3,x4)]) hx rfl hat.cells (fun u hu=>flat5_one u _ hu) (by unfold maxLen;omega) (by omega) hb ?_
 intro v' w' own' gr' nil' loc'
 obtain⟨g',c',rfl,o'⟩:=own5_of_row (n':=n+1) (ps:=ps++[(x0,x1,x2,x3,x4)]) own' rfl (by rw[flat5_append]) (by rw[nil'];simp)
 exact h g' c' w' o' gr' (by simpa[Value.ownBlock] using loc')
end LotApp
namespace SSeal11
open SBytes SPut11 SPuts11
open ByteH (Own At)
theorem chkB_in(xs:List Int):0≤chkB xs∧chkB xs≤4294967295:=by
 have:=chk_in xs xs.length
 unfold chkB
 omega
def four(n:Int):List Int:=[n%256,n/256%256,n/65536%256,n/16777216%256]
def sealB(xs:List Int):List Int:=if xs.length≤9000 then numB xs.length++xs++four (chkB xs) else[]
theorem lit_four(w:World)(a b c d:Int):AtO (w.alloc (.cells #[.int .u8 a,.int .u8 b,.int .u8 c,.int .u8 d] 5)) w.heap.size 0 [a,b,c,d]:=by
 intro i hi
 have:i=0∨i=1∨i=2∨i=3:=by simp at hi;omega
 rcases this with rfl|rfl|rfl|rfl<;>simp
theorem sSeal(w:World)(gl cl:Nat)(xs:List Int)(h20:xs.length≤1048576)(hg:gl<w.heap.size)(hr:AtB w gl xs):
  Calls Tryz.prog 175 #[.slice (some ⟨gl,0,none⟩) xs.length cl] w fun e w'=>∃g c,e= .returned (.tuple #[.slice (some ⟨g,0,none⟩) (sealB xs).length c,.bool (decide (xs.length≤9000))])∧Own w' w.heap.size g (sealB xs).length c (sealB xs)∧Below w.heap.size w w':=by
 by_cases h0:xs.length≤9000
 case neg=>
  have e:sealB xs=[]:=if_neg h0
  rw[e]
  have O0:=zh (lit0 w w.heap.size (Nat.le_refl _) rfl)
  have B0:=zh (one_more w (.cells #[] 5))
  have h1:(9000:Int)<xs.length:=by omega
  have D:=zh (show decide (xs.length≤9000)=false from by simp;omega)
  rw[zu D]
  clear e h0 hr
  go_enter Tryz.func175,Tryz.ntmps175
  go_wp2
  go_ret2
  exact⟨_,0,rfl,zu O0,zu B0⟩
 have S:=zh (show numB xs.length++xs++four (chkB xs)=sealB xs from(if_pos h0).symm)
 have D:=zh (show decide (xs.length≤9000)=true from by simp;omega)
 rw[zu D]
 have CI:=zh (show 0≤65536*(chk xs xs.length).2+(chk xs xs.length).1∧65536*(chk xs xs.length).2+(chk xs xs.length).1≤4294967295 from chkB_in xs)
 have R:=zh hr
 have HG:=zh hg
 have nine:=numB_nine (x:=xs.length) (by omega)
 have h1:¬(9000:Int)<xs.length:=by omega
 clear hr hg D
 go_enter Tryz.func175,Tryz.ntmps175
 go_wp2_with fail
 refine(sCheck _ gl cl xs h20 (zu R)).mono ?_
 rintro e u ⟨rfl,rfl⟩
 have S1:=zh (show numB xs.length++xs++four (65536*(chk xs xs.length).2+(chk xs xs.length).1)=sealB xs from zu S)
 clear S
 generalize 65536*(chk xs xs.length).2+(chk xs xs.length).1=n at *
 clear h1
 go_wp2_with fail
 refine(sPutNum _ xs.length (by omega)).mono ?_
 rintro e u1 ⟨g1,c1,rfl,o1,b1⟩
 have O1:=zh o1
 have B1:=zh b1
 have us:=b1.size
 have og:=o1.lt
 clear o1 b1
 go_wp2_with (first|(at_builtin;refine wp_catB _ rfl _ _ rfl u.heap.size g1 (numB xs.length).length c1 xs.length (numB xs.length) xs gl 0 cl rfl rfl (zu O1) rfl (AtO.of (fun i hi=>((AtB.below (zu R) (zu B1) (zu HG)) i hi).1)) (by omega) (by omega) ?_)|go_in)
 intro g2 c2 w2 o2 gr2 loc2
 have O2:=zh o2
 have B2:=zh ((zu B1).grown gr2 (by omega) (fun j hj=>by cases hj;exact og.1))
 have og2:=o2.lt
 have us2:=gr2.size
 clear o2 gr2 loc2
 obtain⟨n0,n1⟩:=zu CI
 have N:=zh (And.intro n0 n1)
 have m9:(numB xs.length).length+xs.length≤9009:=by omega
 generalize hm:(numB xs.length).length+xs.length=m at *
 have HM:=zh hm
 clear hm n0 n1
 go_wp2_with (first|(at_builtin;refine wp_catB _ rfl _ _ rfl u.heap.size g2 m c2 4 (numB xs.length++xs) _ w2.heap.size 0 4 rfl rfl (own_alloc (zu O2) _) (by rfl) (lit_four _ _ _ _ _) (by omega) (by simp;omega) ?_)|go_in)
 intro g3 c3 w3 o3 gr3 loc3
 have O3:=zh o3
 have B3:=zh (((zu B2).alloc (by omega) (.cells #[.int .u8 (n%256),.int .u8 (n/256%256),.int .u8 (n/65536%256),.int .u8 (n/16777216%256)] 5)).grown gr3 (by simp;omega) (fun j hj=>by cases hj;exact og2.1))
 clear o3 gr3 loc3
 go_wp2
 go_ret2
 have e:=zu S1
 have l:(sealB xs).length=m+4:=by rw[←e,←zu HM];simp[four];omega
 refine⟨g3,c3,by rw[l];rfl,?_,zu B3⟩
 rw[l,←e]
 have:=zu O3
 simpa[four,List.append_assoc] using this
end SSeal11
namespace Bx16
def Bx7(w:World)(base g:Nat)(v0 v1 v2 v3 v4 v5 v6:Value):Prop:=w.ownsRow base 79 7 (.slice (some ⟨g,0,none⟩) 1 1) 1 [v0,v1,v2,v3,v4,v5,v6]
theorem Bx7.made{w:World}{base g:Nat}(v0 v1 v2 v3 v4 v5 v6:Value)(hb:base≤w.heap.size)(hg:g=w.heap.size):Bx7 (w.alloc (.cells #[v0,v1,v2,v3,v4,v5,v6] 79)) base g v0 v1 v2 v3 v4 v5 v6:=by
 subst hg
 exact⟨rfl,.inr ⟨w.heap.size,1,#[v0,v1,v2,v3,v4,v5,v6],rfl,hb,heap_alloc_new w _,Nat.le_refl _,by unfold maxLen;omega,rfl,rfl⟩⟩
section
variable {w w':World} {base g:Nat} {v0 v1 v2 v3 v4 v5 v6:Value}
theorem Bx7.lt(h:Bx7 w base g v0 v1 v2 v3 v4 v5 v6):base≤g∧g<w.heap.size:=World.ownsRow.lt h g rfl
theorem Bx7.free(h:Bx7 w base g v0 v1 v2 v3 v4 v5 v6)(i:Nat):w.frozen? ⟨g,i,none⟩=false:=World.ownsRow.frozenAt h i
theorem Bx7.c0(h:Bx7 w base g v0 v1 v2 v3 v4 v5 v6):w.cell? ⟨g,0,none⟩=some v0:=(World.ownsRow.cellAt h 0 (by omega)).trans rfl
theorem Bx7.c1(h:Bx7 w base g v0 v1 v2 v3 v4 v5 v6):w.cell? ⟨g,1,none⟩=some v1:=(World.ownsRow.cellAt h 1 (by omega)).trans rfl
theorem Bx7.c2(h:Bx7 w base g v0 v1 v2 v3 v4 v5 v6):w.cell? ⟨g,2,none⟩=some v2:=(World.ownsRow.cellAt h 2 (by omega)).trans rfl
theorem Bx7.c3(h:Bx7 w base g v0 v1 v2 v3 v4 v5 v6):w.cell? ⟨g,3,none⟩=some v3:=(World.ownsRow.cellAt h 3 (by omega)).trans rfl
theorem Bx7.c4(h:Bx7 w base g v0 v1 v2 v3 v4 v5 v6):w.cell? ⟨g,4,none⟩=some v4:=(World.ownsRow.cellAt h 4 (by omega)).trans rfl
theorem Bx7.c5(h:Bx7 w base g v0 v1 v2 v3 v4 v5 v6):w.cell? ⟨g,5,none⟩=some v5:=(World.ownsRow.cellAt h 5 (by omega)).trans rfl
theorem Bx7.c6(h:Bx7 w base g v0 v1 v2 v3 v4 v5 v6):w.cell? ⟨g,6,none⟩=some v6:=(World.ownsRow.cellAt h 6 (by omega)).trans rfl
theorem Bx7.set0(h:Bx7 w base g v0 v1 v2 v3 v4 v5 v6)(u:Value):Bx7 (w.setCell ⟨g,0,none⟩ u) base g u v1 v2 v3 v4 v5 v6∧w.grownBy (w.setCell ⟨g,0,none⟩ u) (some g):=World.ownsRow.stored h 0 u
theorem Bx7.set1(h:Bx7 w base g v0 v1 v2 v3 v4 v5 v6)(u:Value):Bx7 (w.setCell ⟨g,1,none⟩ u) base g v0 u v2 v3 v4 v5 v6∧w.grownBy (w.setCell ⟨g,1,none⟩ u) (some g):=World.ownsRow.stored h 1 u
theorem Bx7.set2(h:Bx7 w base g v0 v1 v2 v3 v4 v5 v6)(u:Value):Bx7 (w.setCell ⟨g,2,none⟩ u) base g v0 v1 u v3 v4 v5 v6∧w.grownBy (w.setCell ⟨g,2,none⟩ u) (some g):=World.ownsRow.stored h 2 u
theorem Bx7.set3(h:Bx7 w base g v0 v1 v2 v3 v4 v5 v6)(u:Value):Bx7 (w.setCell ⟨g,3,none⟩ u) base g v0 v1 v2 u v4 v5 v6∧w.grownBy (w.setCell ⟨g,3,none⟩ u) (some g):=World.ownsRow.stored h 3 u
theorem Bx7.set4(h:Bx7 w base g v0 v1 v2 v3 v4 v5 v6)(u:Value):Bx7 (w.setCell ⟨g,4,none⟩ u) base g v0 v1 v2 v3 u v5 v6∧w.grownBy (w.setCell ⟨g,4,none⟩ u) (some g):=World.ownsRow.stored h 4 u
theorem Bx7.set5(h:Bx7 w base g v0 v1 v2 v3 v4 v5 v6)(u:Value):Bx7 (w.setCell ⟨g,5,none⟩ u) base g v0 v1 v2 v3 v4 u v6∧w.grownBy (w.setCell ⟨g,5,none⟩ u) (some g):=World.ownsRow.stored h 5 u
theorem Bx7.set6(h:Bx7 w base g v0 v1 v2 v3 v4 v5 v6)(u:Value):Bx7 (w.setCell ⟨g,6,none⟩ u) base g v0 v1 v2 v3 v4 v5 u∧w.grownBy (w.setCell ⟨g,6,none⟩ u) (some g):=World.ownsRow.stored h 6 u
theorem Bx7.below{B:Nat}(h:Bx7 w base g v0 v1 v2 v3 v4 v5 v6)(k:Below B w w')(hg:g<B):Bx7 w' base g v0 v1 v2 v3 v4 v5 v6:=by
 refine⟨h.1,?_⟩
 rcases h.2 with⟨h1,_⟩|⟨g',c,cur,h1,h2,h3,h4⟩
 ·simp at h1
 ·have e:g=g':=by simp at h1;exact h1.1
  subst e
  exact .inr ⟨g,c,cur,h1,h2,(k.block g hg).trans h3,h4⟩
theorem Bx7.kept{row:Option Nat}(h:Bx7 w base g v0 v1 v2 v3 v4 v5 v6)(k:w.grownBy w' row)(hne:some g≠row):Bx7 w' base g v0 v1 v2 v3 v4 v5 v6:=World.ownsRow.kept h k (Or.inr hne)
end
theorem grow_grow{w w1 w2:World}{row:Option Nat}(h:w.grownBy w1 row)(k:w1.grownBy w2 row):w.grownBy w2 row:=
 ⟨k.os.trans h.os,k.tape.trans h.tape,k.output.trans h.output,Nat.le_trans h.size k.size,fun i hi hr=>(k.block i (Nat.lt_of_lt_of_le hi h.size) hr).trans (h.block i hi hr)⟩
theorem grow_low{B:Nat}{w W W':World}{G:Nat}(h:Below B w W)(k:W.grownBy W' (some G))(hB:B≤G∧B≤W.heap.size):Below B w W':=
 ⟨k.os.trans h.os,k.tape.trans h.tape,k.output.trans h.output,Nat.le_trans h.size k.size,fun i hi=>(k.block i (by omega) (by simp;omega)).trans (h.block i hi)⟩
end Bx16
namespace Copy
open BMem
theorem cells2{W:World}{g:Nat}{ps:List (Int×Int)}(h:Pairs.At W g ps):∀(j:Nat) (u:Value),(Pairs.flat ps)[j]?=some u→W.cell? ((⟨g,0,none⟩:Addr).add j)=some u:=by
 intro j u hj
 have hl:j<ps.length*2:=by
  have:=(List.getElem?_eq_some_iff.1 hj).1
  rw[Pairs.flat_len] at this
  exact this
 rw[Addr.add_lit,Nat.zero_add]
 obtain⟨c0,c1⟩:=h (j/2) (by omega)
 obtain⟨f0,f1⟩:=Pairs.flat_get ps (j/2) (by omega)
 rcases(show j%2=0∨j%2=1 by omega) with e|e
 ·rw[show j/2*2=j by omega] at c0 f0
  rw[c0,←hj,f0]
 ·rw[show j/2*2+1=j by omega] at c1 f1
  rw[c1,←hj,f1]
theorem cells3{W:World}{g:Nat}{ps:List Bals.T3}(h:Triples.At3 W g ps):∀(j:Nat) (u:Value),(Triples.flat3 ps)[j]?=some u→W.cell? ((⟨g,0,none⟩:Addr).add j)=some u:=by
 intro j u hj
 have hl:j<ps.length*3:=by
  have:=(List.getElem?_eq_some_iff.1 hj).1
  rw[Triples.flat3_len] at this
  exact this
 rw[Addr.add_lit,Nat.zero_add]
 obtain⟨c0,c1,c2⟩:=h (j/3) (by omega)
 obtain⟨f0,f1,f2⟩:=Triples.flat3_get ps (j/3) (by omega)
 rcases(show j%3=0∨j%3=1∨j%3=2 by omega) with e|e|e
 ·rw[show j/3*3=j by omega] at c0 f0
  rw[c0,←hj,f0]
 ·rw[show j/3*3+1=j by omega] at c1 f1
  rw[c1,←hj,f1]
 ·rw[show j/3*3+2=j by omega] at c2 f2
  rw[c2,←hj,f2]
theorem cells5{W:World}{g:Nat}{ps:List Tup5.T5}(h:Tup5.At5 W g ps):∀(j:Nat) (u:Value),(Tup5.flat5 ps)[j]?=some u→W.cell? ((⟨g,0,none⟩:Addr).add j)=some u:=by
 intro j u hj
 have hl:j<ps.length*5:=by
  have:=(List.getElem?_eq_some_iff.1 hj).1
  rw[Tup5.flat5_len] at this
  exact this
 rw[Addr.add_lit,Nat.zero_add]
 obtain⟨c0,c1,c2,c3,c4⟩:=h (j/5) (by omega)
 obtain⟨f0,f1,f2,f3,f4⟩:=Tup5.flat5_get ps (j/5) (by omega)
 rcases(show j%5=0∨j%5=1∨j%5=2∨j%5=3∨j%5=4 by omega) with e|e|e|e|e
 ·rw[show j/5*5=j by omega] at c0 f0
  rw[c0,←hj,f0]
 ·rw[show j/5*5+1=j by omega] at c1 f1
  rw[c1,←hj,f1]
 ·rw[show j/5*5+2=j by omega] at c2 f2
  rw[c2,←hj,f2]
 ·rw[show j/5*5+3=j by omega] at c3 f3
  rw[c3,←hj,f3]
 ·rw[show j/5*5+4=j by omega] at c4 f4
  rw[c4,←hj,f4]
theorem cells8{W:World}{g:Nat}{ps:List Tup8.T8}(h:Tup8.At8 W g ps):∀(j:Nat) (u:Value),(Tup8.flat8 ps)[j]?=some u→W.cell? ((⟨g,0,none⟩:Addr).add j)=some u:=by
 intro j u hj
 have hl:j<ps.length*8:=by
  have:=(List.getElem?_eq_some_iff.1 hj).1
  rw[Tup8.flat8_len] at this
  exact this
 rw[Addr.add_lit,Nat.zero_add]
 obtain⟨c0,c1,c2,c3,c4,c5,c6,c7⟩:=h (j/8) (by omega)
 obtain⟨f0,f1,f2,f3,f4,f5,f6,f7⟩:=Tup8.flat8_get ps (j/8) (by omega)
 rcases(show j%8=0∨j%8=1∨j%8=2∨j%8=3∨j%8=4∨j%8=5∨j%8=6∨j%8=7 by omega) with e|e|e|e|e|e|e|e
 ·rw[show j/8*8=j by omega] at c0 f0
  rw[c0,←hj,f0]
 ·rw[show j/8*8+1=j by omega] at c1 f1
  rw[c1,←hj,f1]
 ·rw[show j/8*8+2=j by omega] at c2 f2
  rw[c2,←hj,f2]
 ·rw[show j/8*8+3=j by omega] at c3 f3
  rw[c3,←hj,f3]
 ·rw[show j/8*8+4=j by omega] at c4 f4
  rw[c4,←hj,f4]
 ·rw[show j/8*8+5=j by omega] at c5 f5
  rw[c5,←hj,f5]
 ·rw[show j/8*8+6=j by omega] at c6 f6
  rw[c6,←hj,f6]
 ·rw[show j/8*8+7=j by omega] at c7 f7
  rw[c7,←hj,f7]
theorem wpo_append{P:Program}{o:Oper}{a:Act}{u w':World}{K:Act→World→Prop}{Q:Exit→Act→World→Prop}(s x:Operand)(T:TypeId)(ho:o.op= .call {callee:= .builtin .append,args:= #[s,x],argTypes:= #[T,T]}){vs vx v':Value}(hs:a.eval s=vs)(hx:a.eval x=vx)
  (hr:(Builtin.append_ #[T,T] o.type #[vs,vx]).run P u= .ok v' w')(h:K (a.put o.dst v') w'):Oper.wp P o a u K Q:=by
 unfold Oper.wp execOp
 simp only[ho,resolve,invoke,builtin,Sem.run_bind,Sem.run_pure,Result.andThen_ok,List.map_toArray,List.map_cons,List.map_nil,hs,hx,hr]
 exact h
theorem run_copy(w:World)(base:Nat)(t ty e:TypeId)(i:TypeInfo)(z:Value)(size bytes:Nat)(ht:Tryz.prog.underlying t=some (.slice e))(hi:Tryz.prog.info? e=some i)(hz:i.zero=some z)
  (hsize:i.size=size)(hby:i.bytes=bytes)(hzs:z.cells.size=size)(hsz:0<size)(hbb:bytes≤64)(g cap:Nat)(hown:w.ownsRow base e size (.slice (some ⟨g,0,none⟩) 0 cap) 0 [])
  (b m c:Nat)(news:List Value)(hl:news.length=m*size)(hnews:∀j u,news[j]?=some u→w.cell? ((⟨b,0,none⟩:Addr).add j)=some u)(h1:∀u∈news,u.oneCell'=true)(hm:m≤1048576)(hbase:base≤w.heap.size):
  ∃g' c' w',(Builtin.append_ #[t,t] ty #[.slice (some ⟨g,0,none⟩) 0 cap,.slice (some ⟨b,0,none⟩) m c]).run Tryz.prog w= .ok (.slice (some ⟨g',0,none⟩) m c') w'∧w'.ownsRow base e size (.slice (some ⟨g',0,none⟩) m c') m news∧w.grownBy w' (some g)∧(g'=g∨g'=w.heap.size):=by
 obtain⟨v',w',hr,ho,hg,hn,hb⟩:=run_append_own_at (P:=Tryz.prog) w base t ty e i z size bytes ht hi hz hsize hby hzs hsz (.slice (some ⟨g,0,none⟩) 0 cap) 0 [] hown ⟨b,0,none⟩ m c news hl hnews h1 (by unfold maxLen;omega) (by
  have:(0+m)*bytes≤1048576*64:=Nat.mul_le_mul (by omega) hbb
  omega) hbase
 rw[Nat.zero_add,List.nil_append] at ho
 have ne:¬v'= .slice none 0 0:=fun e=>by have:=(hn.1 e).1;simp at this
 rcases ho.2 with⟨e1,_⟩|⟨g',c',cur,e1,h2,h3⟩
 ·exact absurd e1 ne
 ·subst e1
  refine⟨g',c',w',hr,ho,hg,?_⟩
  rcases hb with hb|hb
  ·exact .inl (by simpa[Value.ownBlock] using hb)
  ·exact .inr (by simpa[Value.ownBlock] using hb)
theorem infoAccount:(Tryz.prog.info? 108).map (fun i=>(i.zero,i.size,i.bytes))=some (some (.agg #[.int .i64 0,.int .i64 0]),2,16):=by kernel_rfl
theorem copyAccount(w:World)(base g cap:Nat)(hown:w.ownsRow base 108 2 (.slice (some ⟨g,0,none⟩) 0 cap) 0 [])(ty:TypeId)(b c:Nat)(ps:List (Int×Int))(h:Pairs.At w b ps)(hm:ps.length≤1048576)(hbase:base≤w.heap.size):
  ∃g' c' w',(Builtin.append_ #[39,39] ty #[.slice (some ⟨g,0,none⟩) 0 cap,.slice (some ⟨b,0,none⟩) ps.length c]).run Tryz.prog w= .ok (.slice (some ⟨g',0,none⟩) ps.length c') w'∧w'.ownsRow base 108 2 (.slice (some ⟨g',0,none⟩) ps.length c') ps.length (Pairs.flat ps)∧w.grownBy w' (some g)∧(g'=g∨g'=w.heap.size):=by
 obtain⟨i0,hi,hz0,hz1,hz2⟩:=info_parts infoAccount
 exact run_copy w base 39 ty 108 i0 (.agg #[.int .i64 0,.int .i64 0]) 2 16 Tryz.underlying39 hi hz0 hz1 hz2 rfl (by decide) (by decide) g cap hown b ps.length c (Pairs.flat ps) (Pairs.flat_len ps) (cells2 h) (fun u hu=>Pairs.flat_one u ps hu) hm hbase
theorem infoInstr:(Tryz.prog.info? 109).map (fun i=>(i.zero,i.size,i.bytes))=some (some (.agg #[.int .i64 0,.int .i64 0]),2,16):=by kernel_rfl
theorem copyInstr(w:World)(base g cap:Nat)(hown:w.ownsRow base 109 2 (.slice (some ⟨g,0,none⟩) 0 cap) 0 [])(ty:TypeId)(b c:Nat)(ps:List (Int×Int))(h:Pairs.At w b ps)(hm:ps.length≤1048576)(hbase:base≤w.heap.size):
  ∃g' c' w',(Builtin.append_ #[40,40] ty #[.slice (some ⟨g,0,none⟩) 0 cap,.slice (some ⟨b,0,none⟩) ps.length c]).run Tryz.prog w= .ok (.slice (some ⟨g',0,none⟩) ps.length c') w'∧w'.ownsRow base 109 2 (.slice (some ⟨g',0,none⟩) ps.length c') ps.length (Pairs.flat ps)∧w.grownBy w' (some g)∧(g'=g∨g'=w.heap.size):=by
 obtain⟨i0,hi,hz0,hz1,hz2⟩:=info_parts infoInstr
 exact run_copy w base 40 ty 109 i0 (.agg #[.int .i64 0,.int .i64 0]) 2 16 Tryz.underlying40 hi hz0 hz1 hz2 rfl (by decide) (by decide) g cap hown b ps.length c (Pairs.flat ps) (Pairs.flat_len ps) (cells2 h) (fun u hu=>Pairs.flat_one u ps hu) hm hbase
theorem infoBal:(Tryz.prog.info? 111).map (fun i=>(i.zero,i.size,i.bytes))=some (some (.agg #[.int .i64 0,.int .i64 0,.int .i64 0]),3,24):=by kernel_rfl
theorem copyBal(w:World)(base g cap:Nat)(hown:w.ownsRow base 111 3 (.slice (some ⟨g,0,none⟩) 0 cap) 0 [])(ty:TypeId)(b c:Nat)(ps:List Bals.T3)(h:Triples.At3 w b ps)(hm:ps.length≤1048576)(hbase:base≤w.heap.size):
  ∃g' c' w',(Builtin.append_ #[41,41] ty #[.slice (some ⟨g,0,none⟩) 0 cap,.slice (some ⟨b,0,none⟩) ps.length c]).run Tryz.prog w= .ok (.slice (some ⟨g',0,none⟩) ps.length c') w'∧w'.ownsRow base 111 3 (.slice (some ⟨g',0,none⟩) ps.length c') ps.length (Triples.flat3 ps)∧w.grownBy w' (some g)∧(g'=g∨g'=w.heap.size):=by
 obtain⟨i0,hi,hz0,hz1,hz2⟩:=info_parts infoBal
 exact run_copy w base 41 ty 111 i0 (.agg #[.int .i64 0,.int .i64 0,.int .i64 0]) 3 24 Tryz.underlying41 hi hz0 hz1 hz2 rfl (by decide) (by decide) g cap hown b ps.length c (Triples.flat3 ps) (Triples.flat3_len ps) (cells3 h) (fun u hu=>Triples.flat3_one u ps hu) hm hbase
theorem infoLot:(Tryz.prog.info? 113).map (fun i=>(i.zero,i.size,i.bytes))=some (some (.agg #[.int .i64 0,.int .i64 0,.int .i64 0,.int .i64 0,.int .i64 0]),5,40):=by kernel_rfl
theorem copyLot(w:World)(base g cap:Nat)(hown:w.ownsRow base 113 5 (.slice (some ⟨g,0,none⟩) 0 cap) 0 [])(ty:TypeId)(b c:Nat)(ps:List Tup5.T5)(h:Tup5.At5 w b ps)(hm:ps.length≤1048576)(hbase:base≤w.heap.size):
  ∃g' c' w',(Builtin.append_ #[42,42] ty #[.slice (some ⟨g,0,none⟩) 0 cap,.slice (some ⟨b,0,none⟩) ps.length c]).run Tryz.prog w= .ok (.slice (some ⟨g',0,none⟩) ps.length c') w'∧w'.ownsRow base 113 5 (.slice (some ⟨g',0,none⟩) ps.length c') ps.length (Tup5.flat5 ps)∧w.grownBy w' (some g)∧(g'=g∨g'=w.heap.size):=by
 obtain⟨i0,hi,hz0,hz1,hz2⟩:=info_parts infoLot
 exact run_copy w base 42 ty 113 i0 (.agg #[.int .i64 0,.int .i64 0,.int .i64 0,.int .i64 0,.int .i64 0]) 5 40 Tryz.underlying42 hi hz0 hz1 hz2 rfl (by decide) (by decide) g cap hown b ps.length c (Tup5.flat5 ps) (Tup5.flat5_len ps) (cells5 h) (fun u hu=>Tup5.flat5_one u ps hu) hm hbase
theorem infoTrade:(Tryz.prog.info? 115).map (fun i=>(i.zero,i.size,i.bytes))=some (some (.agg #[.int .i64 0,.int .i64 0,.int .i64 0,.int .i64 0,.int .i64 0,.int .i64 0,.int .i64 0,.int .i64 0]),8,64):=by kernel_rfl
theorem copyTrade(w:World)(base g cap:Nat)(hown:w.ownsRow base 115 8 (.slice (some ⟨g,0,none⟩) 0 cap) 0 [])(ty:TypeId)(b c:Nat)(ps:List Tup8.T8)(h:Tup8.At8 w b ps)(hm:ps.length≤1048576)(hbase:base≤w.heap.size):
  ∃g' c' w',(Builtin.append_ #[43,43] ty #[.slice (some ⟨g,0,none⟩) 0 cap,.slice (some ⟨b,0,none⟩) ps.length c]).run Tryz.prog w= .ok (.slice (some ⟨g',0,none⟩) ps.length c') w'∧w'.ownsRow base 115 8 (.slice (some ⟨g',0,none⟩) ps.length c') ps.length (Tup8.flat8 ps)∧w.grownBy w' (some g)∧(g'=g∨g'=w.heap.size):=by
 obtain⟨i0,hi,hz0,hz1,hz2⟩:=info_parts infoTrade
 exact run_copy w base 43 ty 115 i0 (.agg #[.int .i64 0,.int .i64 0,.int .i64 0,.int .i64 0,.int .i64 0,.int .i64 0,.int .i64 0,.int .i64 0]) 8 64 Tryz.underlying43 hi hz0 hz1 hz2 rfl (by decide) (by decide) g cap hown b ps.length c (Tup8.flat8 ps) (Tup8.flat8_len ps) (cells8 h) (fun u hu=>Tup8.flat8_one u ps hu) hm hbase
end Copy
namespace IPuts11
open SBytes SPut11 SPuts11
open ByteH (Own At)
theorem iForm(w:World)(base g0 c0 n0:Nat)(p0:List Int)(x0:Int)(h0:0≤x0)(hx:x0≤9223372036854775807)(hn:n0≤100000000)(hb:base≤w.heap.size)(ho:Own w base g0 n0 c0 p0):
  Calls Tryz.prog 259 #[.slice (some ⟨g0,0,none⟩) n0 c0,.int .i64 x0] w fun e w'=>∃g c,e= .returned (.slice (some ⟨g,0,none⟩) (n0+(numF x0.toNat).length) c)∧Own w' base g (n0+(numF x0.toNat).length) c (p0++numF x0.toNat)∧Below base w w':=by
 have O0:=zh (show Own w base g0 (n0+([]:List Int).length) c0 (p0++[]) from by simpa using ho)
 have B0:=zh (Below.refl base w)
 have L:=zh (numF_nine (x:=x0.toNat) (by omega))
 obtain⟨r,hr⟩:∃r,Hid (numF x0.toNat=r):=⟨_,rfl⟩
 rw[zu hr] at L⊢
 have S0:=zh (show([]:List Int)++numF x0.toNat=r from zu hr)
 clear hr ho
 go_enter Tryz.func259,Tryz.ntmps259
 go_wp2
 go_loopw [0,1] (fun l a wr=>∃(x:Int) (p:List Int) (g c n:Nat),a= .int .i64 x∧l= .slice (some ⟨g,0,none⟩) n c∧n=n0+p.length∧0≤x∧x≤9223372036854775807∧Hid (p++numF x.toNat=r)∧Hid (Own wr base g n c (p0++p))∧Hid (Below base w wr)) (fun _ a _=>(intOf a).toNat)
 case atStart=>exact⟨x0,[],g0,c0,n0,rfl,rfl,by simp,h0,hx,S0,O0,B0⟩
 case round=>
  clear O0 B0 S0 hx h0
  obtain⟨x,p,g,c,n,rfl,rfl,hnp,x1,x2,HR,HO,HB⟩:=hrel
  have bs:=(zu HB).size
  have pl:p.length≤9:=by have a:=zu L;rw[←zu HR] at a;simp at a;omega
  have nl:n≤100000009:=by omega
  have HN:=zh hnp
  have og:=(zu HO).lt
  have HX:=zh (And.intro x1 x2)
  clear hnp
  by_cases t:127<x
  ·have N:=zh (show(p++[x%128+128])++numF (x/128).toNat=r from by
    rw[←zu HR,numF_more (x:=x.toNat) (by omega),List.append_assoc]
    have e1:((x.toNat%128+128:Nat):Int)=x%128+128:=by omega
    have e2:x.toNat/128=(x/128).toNat:=by omega
    rw[e1,e2];rfl)
   clear HR x1 x2
   go_wp2_with (first|(at_builtin;refine wp_catB _ rfl _ _ rfl base g n c 1 (p0++p) [x%128+128] wr.heap.size 0 1 rfl rfl (own_alloc (zu HO) _) rfl (lit_one _ _) (by omega) (by simp;omega) ?_)|go_in)
   intro g5 c5 w5 o5 gr5 loc5
   have O5:=zh o5
   have B5:=zh (((zu HB).alloc (by omega) (.cells #[.int .u8 (x%128+128)] 5)).grown gr5 (by simp;omega) (fun j hj=>by cases hj;exact og.1))
   clear o5 gr5 loc5
   go_wp2
   go_roundw
   case rel=>
    have xx:=zu HX
    exact⟨x/128,p++[x%128+128],g5,c5,n+1,by simp,rfl,by have:=zu HN;simp;omega,by omega,by omega,N,O5,B5⟩
   case measure=>
    have xx:=zu HX
    simp[intOf]
    omega
  ·have N:=zh (show p++[x]=r from by
    rw[←zu HR,numF_last (x:=x.toNat) (by omega)]
    have e1:((x.toNat:Nat):Int)=x:=by omega
    rw[e1])
   clear HR
   go_wp2_with (first|(at_builtin;refine wp_catB _ rfl _ _ rfl base g n c 1 (p0++p) [x] wr.heap.size 0 1 rfl rfl (own_alloc (zu HO) _) rfl (lit_one _ _) (by omega) (by simp;omega) ?_)|go_in)
   intro g5 c5 w5 o5 gr5 loc5
   have O5:=zh o5
   have B5:=zh (((zu HB).alloc (by omega) (.cells #[.int .u8 x] 5)).grown gr5 (by simp;omega) (fun j hj=>by cases hj;exact og.1))
   clear o5 gr5 loc5
   go_wp2
   go_ret
   have e:=zu N
   have e1:n0+r.length=n+1:=by rw[←e,zu HN];simp;omega
   exact⟨g5,c5,by rw[e1];rfl,by rw[e1,←e];exact zu O5,zu B5⟩
theorem iPutNums(w:World)(gl cl:Nat)(xs:List Int)(h20:xs.length≤1048576)(hg:gl<w.heap.size)(hr:Ints.At w gl xs)(hi:∀i,i<xs.length→xs.getD i 0≤9223372036854775807):
  Calls Tryz.prog 230 #[.slice (some ⟨gl,0,none⟩) xs.length cl] w fun e w'=>∃a c,e= .returned (.slice a (numsB xs).length c)∧VOB.Ob w' w.heap.size a (numsB xs).length c (numsB xs)∧Below w.heap.size w w':=by
 have O0:=zh (lit0 w w.heap.size (Nat.le_refl _) rfl)
 have B0:=zh (one_more w (.cells #[] 5))
 have R:=zh hr
 have HI:=zh hi
 have HG:=zh hg
 obtain⟨r,hq⟩:∃r,Hid (numsB xs=r):=⟨_,rfl⟩
 rw[zu hq]
 clear hr hi hg
 go_enter Tryz.func230,Tryz.ntmps230
 go_wp2
 go_loopw [3,5,9] (fun l _ a wr=>∃(k g c n:Nat),a= .int .i64 k∧k≤xs.length∧l= .slice (some ⟨g,0,none⟩) n c∧n≤9*k∧Hid (n=((xs.take k).flatMap numB).length)∧Hid (∀i,i<k→0≤xs.getD i 0)∧Hid (Own wr w.heap.size g n c ((xs.take k).flatMap numB))∧Hid (Below w.heap.size w wr)) (fun _ _ a _=>xs.length-(intOf a).toNat)
 case atStart=>exact⟨0,w.heap.size,0,0,rfl,by omega,rfl,by omega,zh (by simp),zh (fun i h=>absurd h (by omega)),zh (by simpa using zu O0),B0⟩
 case round=>
  clear O0 B0
  obtain⟨k,g,c,n,rfl,hk,rfl,nk,HN,HP,HO,HB⟩:=hrel
  have bs:=(zu HB).size
  by_cases t:k<xs.length
  ·have d:=(((zu R).below (zu HB) (zu HG)) k t)
   have NX:=zh (flat_next t)
   have HX:=zh ((zu HI) k t)
   have SG:=zh (show 0≤xs.getD k 0→∀i,i<k+1→0≤xs.getD i 0 from fun h i hi=>by
    by_cases e:i=k
    ·subst e;exact h
    ·exact(zu HP) i (by omega))
   have BAD:=zh (show xs.getD k 0<0→r=[] from fun h=>by rw[←zu hq];exact if_neg (fun a=>by have:=a k t;omega))
   clear HP
   generalize xs.getD k 0=y at *
   have kx:(k:Int)<xs.length:=by omega
   by_cases y0:y<0
   ·have e:=(zu BAD) y0
    subst e
    have O5:=zh (lit0 wr w.heap.size bs rfl)
    have B5:=zh ((zu HB).alloc bs (.cells #[] 5))
    clear BAD SG NX HX hq HI R
    go_wp2
    go_ret
    exact⟨_,0,rfl,.of (zu O5),zu B5⟩
   ·have S1:=zh ((zu SG) (by omega))
    have NB:=zh (numB_pos (x:=y) (by omega))
    have nine:=numB_nine (zu HX)
    rw[zu NB] at nine
    have y1:0≤y:=by omega
    have FM:=zh (iForm wr w.heap.size g c n _ y y1 (zu HX) (by omega) bs (zu HO))
    clear BAD SG
    go_wp2_with fail
    refine(zu FM).mono ?_
    rintro e u ⟨g5,c5,rfl,o5,b5⟩
    have O5:=zh o5
    have B5:=zh ((zu HB).trans b5)
    clear o5 b5 FM HO
    go_wp2
    go_roundw
    case rel=>exact⟨k+1,g5,c5,n+(numF y.toNat).length,by go_num,by omega,rfl,by omega,zh (by rw[zu NX,List.length_append,←zu HN,zu NB]),S1,zh (by rw[zu NX,zu NB];exact zu O5),B5⟩
    case measure=>simp[intOf];omega
  ·have e:k=xs.length:=by omega
   subst e
   have E:=zh (show xs.flatMap numB=r from by rw[←zu hq];exact(if_pos (zu HP)).symm)
   have N:=zu HN
   have O:=zu HO
   rw[List.take_length] at N O
   rw[zu E] at N O
   have O5:=zh O
   have N5:=zh N
   clear N O HN HO HP
   go_wp2
   go_ret
   have e:=zu N5
   subst e
   exact⟨_,c,rfl,.of (zu O5),zu HB⟩
end IPuts11
namespace IPut11
open SBytes SPut11 SPuts11
theorem nums_one(x:Int):numsB [x]=numB x:=by
 unfold numsB
 by_cases h:x<0
 ·rw[if_neg (fun a=>by have:=a 0 (by simp);simp at this;omega)]
  exact(if_pos h).symm
 ·rw[if_pos (fun i hi=>by
   have:i=0:=by simpa using hi
   subst this
   simp
   omega)]
  simp
theorem iPutNum(w:World)(x:Int)(hx:x≤9223372036854775807):
  Calls Tryz.prog 208 #[.int .i64 x] w fun e w'=>∃a c,e= .returned (.slice a (numB x).length c)∧VOB.Ob w' w.heap.size a (numB x).length c (numB x)∧Below w.heap.size w w':=by
 have B0:=zh (one_more w (.cells #[.int .i64 x] 3))
 have M:=zh (IPuts11.iPutNums (w.alloc (.cells #[.int .i64 x] 3)) w.heap.size 1 [x] (by simp) (by simp) (fun i hi=>by
  have:i=0:=by simpa using hi
  subst this
  simp) (fun i hi=>by
  have:i=0:=by simpa using hi
  subst this
  simpa using hx))
 rw[nums_one] at M
 generalize numB x=ws at *
 generalize hn:ws.length=nw at *
 have NW:=zh hn
 clear hn
 go_enter Tryz.func208,Tryz.ntmps208
 go_wp2_with fail
 refine(zu M).mono ?_
 rintro e u ⟨a,c,rfl,o,b⟩
 have O:=zh o
 have B:=zh ((zu B0).trans (b.mono (by simp)))
 clear o b M B0
 go_wp2
 go_ret
 exact⟨a,c,rfl,(zu O).mono (by simp),zu B⟩
end IPut11
namespace ISum11
open SBytes SPut11
theorem chkB_in(xs:List Int):0≤chkB xs∧chkB xs≤4294967295:=by
 have:=chk_in xs xs.length
 unfold chkB
 omega
def laid(n:Int)(k:Nat):Array Value:= #[.int .u8 (if 0<k then n%256 else 0),.int .u8 (if 1<k then n/256%256 else 0),.int .u8 (if 2<k then n/65536%256 else 0),.int .u8 (if 3<k then n/16777216%256 else 0)]
theorem iSum(w:World)(gl o cl:Nat)(xs:List Int)(h20:xs.length≤1048576)(hg:gl<w.heap.size)(hr:ICheck11.AtBO w gl o xs):
  Calls Tryz.prog 228 #[.slice (some ⟨gl,o,none⟩) xs.length cl] w fun e w'=>e= .returned (.agg #[.int .u8 (chkB xs%256),.int .u8 (chkB xs/256%256),.int .u8 (chkB xs/65536%256),.int .u8 (chkB xs/16777216%256)])∧Below w.heap.size w w':=by
 have CK:=zh (fun u h=>ICheck11.iCheckO u gl o cl xs h20 h)
 have R:=zh hr
 have CI:=zh (show 0≤65536*(chk xs xs.length).2+(chk xs xs.length).1∧65536*(chk xs xs.length).2+(chk xs xs.length).1≤4294967295 from chkB_in xs)
 have E:=zh (show chkB xs=65536*(chk xs xs.length).2+(chk xs xs.length).1 from rfl)
 rw[zu E]
 clear hr E
 generalize 65536*(chk xs xs.length).2+(chk xs xs.length).1=n at *
 obtain⟨n0,n1⟩:=zu CI
 go_enter Tryz.func228,Tryz.ntmps228
 go_wp2_with fail
 refine((zu CK) _ ((zu R).below (one_more _ _) hg)).mono ?_
 rintro e u ⟨rfl,rfl⟩
 go_wp2
 go_loopw [5,9] (fun _ i wr=>∃k:Nat,k≤4∧i= .int .i64 k∧wr=(w.alloc (.cells #[.int .u8 0,.int .u8 0,.int .u8 0,.int .u8 0] 234)).alloc (.cells (laid n k) 234)) (fun _ i _=>4-(intOf i).toNat)
 case atStart=>exact⟨0,by omega,rfl,rfl⟩
 case round=>
  obtain⟨k,hk,rfl,rfl⟩:=hrel
  have:k=0∨k=1∨k=2∨k=3∨k=4:=by omega
  rcases this with rfl|rfl|rfl|rfl|rfl
  ·simp only[laid]
   go_wp2
   go_roundw
   case rel=>exact⟨1,by omega,rfl,by first|rfl|simp⟩
   case measure=>simp[intOf]
  ·simp only[laid]
   go_wp2
   go_roundw
   case rel=>exact⟨2,by omega,rfl,by first|rfl|simp⟩
   case measure=>simp[intOf]
  ·simp only[laid]
   go_wp2
   go_roundw
   case rel=>exact⟨3,by omega,rfl,by first|rfl|simp⟩
   case measure=>simp[intOf]
  ·simp only[laid]
   go_wp2
   go_roundw
   case rel=>exact⟨4,by omega,rfl,by
    have e:n/16777216%256=n/16777216:=by omega
    simp[e]⟩
   case measure=>simp[intOf]
  ·simp only[laid]
   go_wp2
   go_returns
   exact⟨rfl,(one_more _ _).trans ((Below.refl _ _).alloc (by simp) _)⟩
end ISum11
end Go.Proofs.YtlbgfdpcgpijhaaGreat
