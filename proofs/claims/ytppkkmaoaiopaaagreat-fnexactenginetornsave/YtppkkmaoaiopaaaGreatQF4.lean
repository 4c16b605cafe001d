/- Lemmas. -/
import Derived.Test.YtppkkmaoaiopaaaGreatQF1
import Derived.Test.YtppkkmaoaiopaaaGreatQF3
open Go.ChangeShapes Go.WideShapes Go.ChangeAt Go.RowKit
set_option linter.unusedVariables false
set_option linter.unusedSimpArgs false
set_option maxRecDepth 100000
set_option maxHeartbeats 32000000
namespace Go.Proofs.YtppkkmaoaiopaaaGreat
namespace Triples
open Bals
theorem zh{p:Prop}(h:p):Hid p:=h
theorem zu{p:Prop}(h:Hid p):p:=h
def flat3(ps:List T3):List Value:=ps.flatMap fun p=>[.int .i64 p.1,.int .i64 p.2.1,.int .i64 p.2.2]
theorem flat3_cons(p:T3)(ps:List T3):flat3 (p::ps)= .int .i64 p.1:: .int .i64 p.2.1:: .int .i64 p.2.2::flat3 ps:=rfl
theorem flat3_append(ps qs:List T3):flat3 (ps++qs)=flat3 ps++flat3 qs:=by simp[flat3,List.flatMap_append]
theorem flat3_len(ps:List T3):(flat3 ps).length=ps.length*3:=by
 induction ps with
 |nil=>rfl
 |cons p ps ih=>rw[flat3_cons];simp[ih];omega
theorem flat3_get(ps:List T3):∀i,i<ps.length→(flat3 ps)[i*3]?=some (.int .i64 (el3 ps i).1)∧(flat3 ps)[i*3+1]?=some (.int .i64 (el3 ps i).2.1)∧(flat3 ps)[i*3+2]?=some (.int .i64 (el3 ps i).2.2):=by
 induction ps with
 |nil=>intro i h;simp at h
 |cons p ps ih=>
  intro i h
  cases i with
  |zero=>rw[flat3_cons];simp
  |succ i=>
   have:=ih i (by simpa using h)
   rw[flat3_cons,show(i+1)*3=i*3+3 by omega,show i*3+3+1=(i*3+1)+3 by omega,show i*3+3+2=(i*3+2)+3 by omega]
   simpa using this
theorem flat3_one(u:Value)(ps:List T3)(h:u∈flat3 ps):u.oneCell'=true:=by
 induction ps with
 |nil=>simp[flat3] at h
 |cons p ps ih=>
  rw[flat3_cons] at h
  simp only[List.mem_cons] at h
  rcases h with rfl|rfl|rfl|h
  ·rfl
  ·rfl
  ·rfl
  ·exact ih h
theorem flat3_set(ps:List T3):∀(i:Nat) (x:Int),(flat3 ps).set (i*3) (.int .i64 x)=flat3 (ps.modify i fun p=>(x,p.2))∧(flat3 ps).set (i*3+1) (.int .i64 x)=flat3 (ps.modify i fun p=>(p.1,x,p.2.2))∧
  (flat3 ps).set (i*3+2) (.int .i64 x)=flat3 (ps.modify i fun p=>(p.1,p.2.1,x)):=by
 induction ps with
 |nil=>intro i x;simp[flat3]
 |cons p ps ih=>
  intro i x
  cases i with
  |zero=>simp[flat3_cons]
  |succ i=>
   obtain⟨a,b,c⟩:=ih i x
   refine⟨?_,?_,?_⟩
   ·rw[flat3_cons,show(i+1)*3=i*3+1+1+1 by omega,List.set_cons_succ,List.set_cons_succ,List.set_cons_succ,a,List.modify_succ_cons,flat3_cons]
   ·rw[flat3_cons,show(i+1)*3+1=i*3+1+1+1+1 by omega,List.set_cons_succ,List.set_cons_succ,List.set_cons_succ,b,List.modify_succ_cons,flat3_cons]
   ·rw[flat3_cons,show(i+1)*3+2=i*3+2+1+1+1 by omega,List.set_cons_succ,List.set_cons_succ,List.set_cons_succ,c,List.modify_succ_cons,flat3_cons]
def Holds3(w:World)(g o:Nat)(p:T3):Prop:=w.cell? ⟨g,o,none⟩=some (.int .i64 p.1)∧w.cell? ⟨g,o+1,none⟩=some (.int .i64 p.2.1)∧w.cell? ⟨g,o+2,none⟩=some (.int .i64 p.2.2)
def At3(w:World)(g:Nat)(ps:List T3):Prop:=∀i,i<ps.length→Holds3 w g (i*3) (el3 ps i)
def Reads3(w:World)(a:Option Addr)(ps:List T3):Prop:=ps.length=0∨∃b off,a=some ⟨b,off,none⟩∧b<w.heap.size∧∀i,i<ps.length→Holds3 w b (off+i*3) (el3 ps i)
def Own3(e:TypeId)(w:World)(base g n cap:Nat)(ps:List T3):Prop:=w.ownsRow base e 3 (.slice (some ⟨g,0,none⟩) n cap) n (flat3 ps)
section
variable {e:TypeId} {w w':World} {base base' g n cap:Nat} {ps:List T3}
theorem Holds3.below{B o:Nat}{p:T3}(h:Holds3 w g o p)(k:Below B w w')(hg:g<B):Holds3 w' g o p:=
 ⟨(k.cell (p:=⟨g,o,none⟩) hg).trans h.1,(k.cell (p:=⟨g,o+1,none⟩) hg).trans h.2.1,(k.cell (p:=⟨g,o+2,none⟩) hg).trans h.2.2⟩
theorem Own3.len(h:Own3 e w base g n cap ps):ps.length=n:=by
 have:=h.1
 rw[flat3_len] at this
 omega
theorem Own3.lt(h:Own3 e w base g n cap ps):base≤g∧g<w.heap.size:=World.ownsRow.lt h g rfl
theorem Own3.at(h:Own3 e w base g n cap ps):At3 w g ps:=by
 intro i hi
 have hl:=h.len
 obtain⟨f0,f1,f2⟩:=flat3_get ps i hi
 exact⟨(World.ownsRow.cellAt h (i*3) (by omega)).trans f0,(World.ownsRow.cellAt h (i*3+1) (by omega)).trans f1,(World.ownsRow.cellAt h (i*3+2) (by omega)).trans f2⟩
theorem Own3.free(h:Own3 e w base g n cap ps)(i:Nat):w.frozen? ⟨g,i,none⟩=false:=World.ownsRow.frozenAt h i
theorem Own3.rebase(h:Own3 e w base g n cap ps)(hb:base'≤g):Own3 e w base' g n cap ps:=by
 refine⟨h.1,?_⟩
 rcases h.2 with⟨h1,_⟩|⟨g',c,cur,h1,h2,h3⟩
 ·simp at h1
 ·obtain⟨e,_⟩:g=g'∧cap=c:=by simpa using h1
  subst e
  exact Or.inr ⟨g,c,cur,h1,hb,h3⟩
theorem Own3.kept{row:Option Nat}(h:Own3 e w base g n cap ps)(k:w.grownBy w' row)(hne:some g≠row):Own3 e w' base g n cap ps:=
 World.ownsRow.kept h k (Or.inr hne)
theorem Own3.below{B:Nat}(h:Own3 e w base g n cap ps)(k:Below B w w')(hg:g<B):Own3 e w' base g n cap ps:=by
 refine⟨h.1,?_⟩
 rcases h.2 with⟨h1,_⟩|⟨g',c,cur,h1,h2,h3,h4⟩
 ·simp at h1
 ·obtain⟨e,_⟩:g=g'∧cap=c:=by simpa using h1
  subst e
  exact Or.inr ⟨g,c,cur,h1,h2,by rw[k.block g hg];exact h3,h4⟩
theorem Own3.alloc(h:Own3 e w base g n cap ps)(o:Obj):Own3 e (w.alloc o) base g n cap ps:=World.ownsRow.alloc h o
theorem At3.below{B:Nat}(h:At3 w g ps)(k:Below B w w')(hg:g<B):At3 w' g ps:=fun i hi=>(h i hi).below k hg
theorem Reads3.below{a:Option Addr}(h:Reads3 w a ps)(k:Below w.heap.size w w'):Reads3 w' a ps:=by
 rcases h with h|⟨b,off,rfl,hb,hc⟩
 ·exact Or.inl h
 ·exact Or.inr ⟨b,off,rfl,Nat.lt_of_lt_of_le hb k.size,fun i hi=>(hc i hi).below k hb⟩
theorem Own3.set0(h:Own3 e w base g n cap ps)(i:Nat)(x:Int):
  Own3 e (w.setCell ⟨g,i*3,none⟩ (.int .i64 x)) base g n cap (ps.modify i fun p=>(x,p.2))∧w.grownBy (w.setCell ⟨g,i*3,none⟩ (.int .i64 x)) (some g):=by
 have:=World.ownsRow.stored h (i*3) (.int .i64 x)
 refine⟨?_,this.2⟩
 unfold Own3
 rw[←(flat3_set ps i x).1]
 exact this.1
theorem Own3.set1(h:Own3 e w base g n cap ps)(i:Nat)(x:Int):
  Own3 e (w.setCell ⟨g,i*3+1,none⟩ (.int .i64 x)) base g n cap (ps.modify i fun p=>(p.1,x,p.2.2))∧w.grownBy (w.setCell ⟨g,i*3+1,none⟩ (.int .i64 x)) (some g):=by
 have:=World.ownsRow.stored h (i*3+1) (.int .i64 x)
 refine⟨?_,this.2⟩
 unfold Own3
 rw[←(flat3_set ps i x).2.1]
 exact this.1
theorem Own3.set2(h:Own3 e w base g n cap ps)(i:Nat)(x:Int):
  Own3 e (w.setCell ⟨g,i*3+2,none⟩ (.int .i64 x)) base g n cap (ps.modify i fun p=>(p.1,p.2.1,x))∧w.grownBy (w.setCell ⟨g,i*3+2,none⟩ (.int .i64 x)) (some g):=by
 have:=World.ownsRow.stored h (i*3+2) (.int .i64 x)
 refine⟨?_,this.2⟩
 unfold Own3
 rw[←(flat3_set ps i x).2.2]
 exact this.1
end
theorem grownBy_below{w w':World}(h:w.grownBy w' none):Below w.heap.size w w':=⟨h.os,h.tape,h.output,h.size,fun k hk=>h.block k hk (by simp)⟩
theorem next{a b c:World}(h:Below a.heap.size a b)(k:Below b.heap.size b c):Below a.heap.size a c:=h.trans (k.mono h.size)
theorem own3_of_row{e:TypeId}{w:World}{base n n':Nat}{v:Value}{vs:List Value}{ps:List T3}(h:w.ownsRow base e 3 v n vs)(hn:n=n')(hv:vs=flat3 ps)(hs:¬v= .slice none 0 0):
  ∃g c,v= .slice (some ⟨g,0,none⟩) n' c∧Own3 e w base g n' c ps:=by
 subst hn hv
 have h':=h
 rcases h.2 with⟨h1,_⟩|⟨g,c,cur,rfl,_⟩
 ·exact absurd h1 hs
 ·exact⟨g,c,rfl,h'⟩
theorem lit30(e:TypeId)(w:World)(base:Nat)(hb:base≤w.heap.size):Own3 e (w.alloc (.cells #[] e)) base w.heap.size 0 0 []:=World.ownsRow_lit w #[] 0 hb (by decide) rfl
theorem At3.cells{w:World}{g:Nat}{ps:List T3}(h:At3 w g ps):∀(j:Nat) (u:Value),(flat3 ps)[j]?=some u→w.cell? ((⟨g,0,none⟩:Addr).add j)=some u:=by
 intro j u hj
 have hl:j<ps.length*3:=by
  have:=(List.getElem?_eq_some_iff.1 hj).1
  rw[flat3_len] at this
  exact this
 rw[Addr.add_lit,Nat.zero_add]
 obtain⟨c0,c1,c2⟩:=h (j/3) (by omega)
 obtain⟨f0,f1,f2⟩:=flat3_get ps (j/3) (by omega)
 rcases(show j%3=0∨j%3=1∨j%3=2 by omega) with e|e|e
 ·rw[show j/3*3=j by omega] at c0 f0
  rw[c0,←hj,f0]
 ·rw[show j/3*3+1=j by omega] at c1 f1
  rw[c1,←hj,f1]
 ·rw[show j/3*3+2=j by omega] at c2 f2
  rw[c2,←hj,f2]
theorem grown_trans{a b c:World}{row:Option Nat}(h:a.grownBy b row)(k:b.grownBy c row):a.grownBy c row:=
 ⟨k.os.trans h.os,k.tape.trans h.tape,k.output.trans h.output,Nat.le_trans h.size k.size,fun j hj hne=>(k.block j (Nat.lt_of_lt_of_le hj h.size) hne).trans (h.block j hj hne)⟩
theorem below_drewN{B:Nat}{a w:World}(h:Below B a w)(m:Nat):Below B a (w.drewN m):=⟨h.os,h.tape,h.output,h.size,h.block⟩
end Triples
namespace Bks
open Go Go.RowKit
open Bals (T3 el3 val sumI)
open Tup5 (T5 el5)
open Tup8 (T8 el8)
open Lots (qtyOf NoOk Says says_of ownL restL One)
open Takes (sumQ)
def kindOf:List (Int×Int)→Int→Int
 |[],_=>0
 |p::r,no=>if p.1=no then p.2 else kindOf r no
theorem kind_mem:∀(ps:List (Int×Int)) (no:Int),kindOf ps no≠0→(no,kindOf ps no)∈ps
 |[],no,h=>absurd rfl h
 |p::r,no,h=>by
  unfold kindOf at h⊢
  by_cases e:p.1=no
  ·rw[if_pos e];obtain⟨a,b⟩:=p;obtain rfl:a=no:=e;exact List.mem_cons_self
  ·rw[if_neg e] at h⊢;exact List.mem_cons_of_mem _ (kind_mem r no h)
theorem kind_none:∀(ps:List (Int×Int)) (no:Int),(∀p∈ps,p.1≠no)→kindOf ps no=0
 |[],_,_=>rfl
 |p::r,no,h=>by
  unfold kindOf
  rw[if_neg (h p List.mem_cons_self),kind_none r no (fun q hq=>h q (List.mem_cons_of_mem _ hq))]
theorem el_mem{ps:List (Int×Int)}{i:Nat}(h:i<ps.length):Chart.el ps i∈ps:=by
 unfold Chart.el
 simp[List.getD,h]
theorem mem_el{ps:List (Int×Int)}{p:Int×Int}(h:p∈ps):∃i,i<ps.length∧Chart.el ps i=p:=by
 obtain⟨i,hi,rfl⟩:=List.getElem_of_mem h
 exact⟨i,hi,by simp[Chart.el,List.getD,hi]⟩
theorem kind_of_mem{ps:List (Int×Int)}(h:∀p∈ps,∀q∈ps,p.1=q.1→p=q):∀p∈ps,kindOf ps p.1=p.2:=by
 induction ps with
 |nil=>intro p hp;simp at hp
 |cons q r ih=>
  intro p hp
  unfold kindOf
  by_cases e:q.1=p.1
  ·rw[if_pos e,h q List.mem_cons_self p hp e]
  ·rw[if_neg e]
   rcases List.mem_cons.1 hp with rfl|hp
   ·exact absurd rfl e
   ·exact ih (fun a ha b hb=>h a (List.mem_cons_of_mem _ ha) b (List.mem_cons_of_mem _ hb)) p hp
theorem right_one{most:Nat}{last:Int}{ps:List (Int×Int)}(h:Chart.Right most last ps):∀p∈ps,∀q∈ps,p.1=q.1→p=q:=by
 intro p hp q hq e
 obtain⟨i,hi,rfl⟩:=mem_el hp
 obtain⟨j,hj,rfl⟩:=mem_el hq
 rw[h.one i j hi hj e]
theorem kind_is{most:Nat}{last:Int}{ps:List (Int×Int)}{no r:Int}(h:Chart.Right most last ps)(k:Chart.IsKind most last ps no r):r=kindOf ps no:=by
 rcases k with⟨_,i,hi,e,rfl⟩|⟨k,rfl⟩
 ·rw[←e];exact(kind_of_mem (right_one h) _ (el_mem hi)).symm
 ·rcases k with k|k
  ·exact absurd h k
  ·refine(kind_none ps no fun p hp=>?_).symm
   obtain⟨i,hi,rfl⟩:=mem_el hp
   exact k i hi
def TOne(t:T8):Prop:=NoOk t.1∧NoOk t.2.1∧NoOk t.2.2.1∧NoOk t.2.2.2.1∧NoOk t.2.2.2.2.2.1∧t.2.1≠t.2.2.1∧(1≤t.2.2.2.2.1∧t.2.2.2.2.1≤1000000000000000)∧(0≤t.2.2.2.2.2.2.1∧t.2.2.2.2.2.2.1≤1000000000000000)∧(1≤t.2.2.2.2.2.2.2∧t.2.2.2.2.2.2.2≤3)
def TRowOk(ps:List T8)(i:Nat):Prop:=TOne (el8 ps i)∧(0<i→(el8 ps (i-1)).1<(el8 ps i).1)
def TRight(ps:List T8):Prop:=ps.length≤30∧∀i,i<ps.length→TRowOk ps i
structure Bk where
 ac:List (Int×Int)
 ic:List (Int×Int)
 bs:List T3
 ls:List T5
 ts:List T8
 lot:Int
def Lists(b:Bk):Prop:=Chart.Right 20 4 b.ac∧Chart.Right 8 2 b.ic∧Bals.Right b.bs∧Lots.Right b.ls∧TRight b.ts∧(0≤b.lot∧b.lot≤1000000000)
def BalFit(b:Bk)(p:T3):Prop:=kindOf b.ac p.1≠0∧kindOf b.ic p.2.1≠0∧¬(kindOf b.ac p.1=1∧p.2.2<0)
def BalsFit(b:Bk):Prop:=(∀k,k<b.bs.length→BalFit b (el3 b.bs k))∧∀i,sumI b.bs i=0
def LotFit(b:Bk)(l:T5):Prop:=kindOf b.ac l.1=1∧kindOf b.ic l.2.1=2∧l.2.2.1≤b.lot
def LotsFit(b:Bk):Prop:=(∀k,k<b.ls.length→LotFit b (el5 b.ls k))∧∀a i,kindOf b.ac a=1→kindOf b.ic i=2→qtyOf b.ls a i=val b.bs a i
def TradeFit(b:Bk)(t:T8):Prop:=kindOf b.ac t.2.1=1∧kindOf b.ac t.2.2.1=1∧kindOf b.ic t.2.2.2.1=2∧kindOf b.ic t.2.2.2.2.2.1=1
def TradesFit(b:Bk):Prop:=∀k,k<b.ts.length→TradeFit b (el8 b.ts k)
def Ok(b:Bk):Prop:=Lists b∧BalsFit b∧LotsFit b∧TradesFit b
theorem bals_spec{b:Bk}(h:∀k,k<b.bs.length→BalFit b (el3 b.bs k)∧sumI b.bs (el3 b.bs k).2.1=0):BalsFit b:=
 ⟨fun k hk=>(h k hk).1,Bals.even_of fun k hk=>(h k hk).2⟩
theorem bals_impl{b:Bk}(h:∀k,k<b.bs.length→BalFit b (el3 b.bs k))(hs:∀k,k<b.ic.length→sumI b.bs (Chart.el b.ic k).1=0):BalsFit b:=by
 refine⟨h,Bals.even_of fun k hk=>?_⟩
 obtain⟨i,hi,e⟩:=mem_el (kind_mem b.ic _ (h k hk).2.1)
 have:=hs i hi
 rw[e] at this
 exact this
theorem sum_zero{bs:List T3}{i r:Int}{c:Bool}(hr:Bals.Right bs)(h:Bals.IsSum bs i r c):(c=true∧r=0)↔sumI bs i=0:=by
 rcases h with⟨_,h1,h2,h3⟩|⟨h1,h2,h3⟩
 ·rw[←h2,h3];simp
 ·constructor
  ·rintro⟨e,_⟩;rw[h3] at e;cases e
  ·intro e
   refine absurd ⟨hr,?_⟩ h1
   rw[e];unfold Bals.Amt;omega
def leftT(b:Bk)(a i:Int):Int:=(if kindOf b.ac a=1∧kindOf b.ic i=2 then val b.bs a i else 0) -qtyOf b.ls a i
theorem lots_impl{b:Bk}(h:∀k,k<b.ls.length→LotFit b (el5 b.ls k)):(∀a i,leftT b a i=0)↔LotsFit b:=by
 constructor
 ·intro hz
  refine⟨h,fun a i ha hi=>?_⟩
  have:=hz a i
  unfold leftT at this
  rw[if_pos ⟨ha,hi⟩] at this
  omega
 ·intro hf a i
  unfold leftT
  by_cases e:kindOf b.ac a=1∧kindOf b.ic i=2
  ·rw[if_pos e,hf.2 a i e.1 e.2];omega
  ·rw[if_neg e]
   have:qtyOf b.ls a i=0:=by
    refine(Lots.qty_none a i b.ls fun p hp hk=>e ?_).1
    obtain⟨k,hk1,hk2,rfl⟩:=Lots.mem_take (ps:=b.ls) (k:=b.ls.length) (p:=p) (by rw[List.take_length];exact hp)
    obtain⟨f1,f2,_⟩:=h k hk2
    rw[hk.1] at f1
    rw[hk.2] at f2
    exact⟨f1,f2⟩
   omega
theorem lots_spec{b:Bk}(hA:Chart.Right 20 4 b.ac)(hI:Chart.Right 8 2 b.ic)(h:∀k,k<b.ls.length→LotFit b (el5 b.ls k)):LotsFit b↔∀j,j<b.ac.length→∀k,k<b.ic.length→(Chart.el b.ac j).2=1→(Chart.el b.ic k).2=2→sumQ (ownL b.ls (Chart.el b.ac j).1 (Chart.el b.ic k).1)=val b.bs (Chart.el b.ac j).1 (Chart.el b.ic k).1:=by
 constructor
 ·rintro⟨_,hf⟩ j hj k hk e1 e2
  rw[(Takes.own_sums _ _ b.ls).1]
  exact hf _ _ (by rw[kind_of_mem (right_one hA) _ (el_mem hj)];exact e1) (by rw[kind_of_mem (right_one hI) _ (el_mem hk)];exact e2)
 ·intro hf
  refine⟨h,fun a i ha hi=>?_⟩
  obtain⟨j,hj,ej⟩:=mem_el (kind_mem b.ac a (by omega))
  obtain⟨k,hk,ek⟩:=mem_el (kind_mem b.ic i (by omega))
  have:=hf j hj k hk (by rw[ej];exact ha) (by rw[ek];exact hi)
  rw[(Takes.own_sums _ _ b.ls).1,ej,ek] at this
  exact this
end Bks
namespace BMem
open Bks (Bk)
theorem zh{p:Prop}(h:p):Hid p:=h
theorem zu{p:Prop}(h:Hid p):p:=h
theorem next{a b c:World}(h:Below a.heap.size a b)(k:Below b.heap.size b c):Below a.heap.size a c:=h.trans (k.mono h.size)
structure Bx where
 ga:Nat
 ca:Nat
 gi:Nat
 ci:Nat
 gb:Nat
 cb:Nat
 gl:Nat
 cl:Nat
 gt:Nat
 ct:Nat
 b:Bk
structure Rd(w:World)(x:Bx):Prop where
 la:x.ga<w.heap.size
 ra:Pairs.At w x.ga x.b.ac
 na:x.b.ac.length≤1048576
 li:x.gi<w.heap.size
 ri:Pairs.At w x.gi x.b.ic
 ni:x.b.ic.length≤1048576
 lb:x.gb<w.heap.size
 rb:Triples.At3 w x.gb x.b.bs
 nb:x.b.bs.length≤1048576
 ll:x.gl<w.heap.size
 rl:Tup5.At5 w x.gl x.b.ls
 nl:x.b.ls.length≤1048576
 hc:x.b.ls.length≤x.cl
 hm:x.cl≤9223372036854775807
 lt:x.gt<w.heap.size
 rt:Tup8.At8 w x.gt x.b.ts
 nt:x.b.ts.length≤1048576
theorem Rd.below{w w':World}{x:Bx}(h:Rd w x)(k:Below w.heap.size w w'):Rd w' x:=
 ⟨Nat.lt_of_lt_of_le h.la k.size,h.ra.below k h.la,h.na,Nat.lt_of_lt_of_le h.li k.size,h.ri.below k h.li,h.ni,Nat.lt_of_lt_of_le h.lb k.size,h.rb.below k h.lb,h.nb,Nat.lt_of_lt_of_le h.ll k.size,h.rl.below k h.ll,h.nl,h.hc,h.hm,Nat.lt_of_lt_of_le h.lt k.size,h.rt.below k h.lt,h.nt⟩
theorem Rd.alloc{w:World}{x:Bx}(h:Rd w x)(o:Obj):Rd (w.alloc o) x:=h.below ((Below.refl _ _).alloc (Nat.le_refl _) o)
structure Ow(w:World)(base:Nat)(x:Bx):Prop where
 oa:Pairs.Own 129 w base x.ga x.b.ac.length x.ca x.b.ac
 oi:Pairs.Own 130 w base x.gi x.b.ic.length x.ci x.b.ic
 ob:Triples.Own3 132 w base x.gb x.b.bs.length x.cb x.b.bs
 ol:Tup5.Own5 134 w base x.gl x.b.ls.length x.cl x.b.ls
 ot:Tup8.Own8 136 w base x.gt x.b.ts.length x.ct x.b.ts
def Small(b:Bk):Prop:=b.ac.length≤1048576∧b.ic.length≤1048576∧b.bs.length≤1048576∧b.ls.length≤1048576∧b.ts.length≤1048576
theorem own_cap{e:TypeId}{w:World}{base g n cap:Nat}{ps:List Tup5.T5}(h:Tup5.Own5 e w base g n cap ps):n≤cap∧cap≤9223372036854775807:=by
 rcases h.2 with⟨h1,_⟩|⟨g',c,cur,h1,h2,h3,h4,h5,_⟩
 ·simp at h1
 ·obtain⟨_,e⟩:g=g'∧cap=c:=by simpa using h1
  subst e
  exact⟨h4,by unfold maxLen at h5;omega⟩
theorem Ow.rd{w:World}{base:Nat}{x:Bx}(h:Ow w base x)(s:Small x.b):Rd w x:=
 ⟨h.oa.lt.2,h.oa.at,s.1,h.oi.lt.2,h.oi.at,s.2.1,h.ob.lt.2,h.ob.at,s.2.2.1,h.ol.lt.2,h.ol.at,s.2.2.2.1,(own_cap h.ol).1,(own_cap h.ol).2,h.ot.lt.2,h.ot.at,s.2.2.2.2⟩
theorem Ow.rebase{w:World}{base base':Nat}{x:Bx}(h:Ow w base x)(hb:base'≤base):Ow w base' x:=
 ⟨h.oa.rebase (by have:=h.oa.lt;omega),h.oi.rebase (by have:=h.oi.lt;omega),h.ob.rebase (by have:=h.ob.lt;omega),h.ol.rebase (by have:=h.ol.lt;omega),h.ot.rebase (by have:=h.ot.lt;omega)⟩
theorem Ow.kept{w w':World}{base:Nat}{row:Option Nat}{x:Bx}(h:Ow w base x)(k:w.grownBy w' row)(hne:∀g,row=some g→g<base):Ow w' base x:=
 ⟨h.oa.kept k (fun e=>by have:=h.oa.lt;have:=hne _ e.symm;omega),h.oi.kept k (fun e=>by have:=h.oi.lt;have:=hne _ e.symm;omega),h.ob.kept k (fun e=>by have:=h.ob.lt;have:=hne _ e.symm;omega),h.ol.kept k (fun e=>by have:=h.ol.lt;have:=hne _ e.symm;omega),h.ot.kept k (fun e=>by have:=h.ot.lt;have:=hne _ e.symm;omega)⟩
structure Cl(w:World)(g:Nat)(x:Bx):Prop where
 c0:w.cell? ⟨g,0,none⟩=some (.slice (some ⟨x.ga,0,none⟩) x.b.ac.length x.ca)
 c1:w.cell? ⟨g,1,none⟩=some (.slice (some ⟨x.gi,0,none⟩) x.b.ic.length x.ci)
 c2:w.cell? ⟨g,2,none⟩=some (.slice (some ⟨x.gb,0,none⟩) x.b.bs.length x.cb)
 c3:w.cell? ⟨g,3,none⟩=some (.slice (some ⟨x.gl,0,none⟩) x.b.ls.length x.cl)
 c4:w.cell? ⟨g,4,none⟩=some (.slice (some ⟨x.gt,0,none⟩) x.b.ts.length x.ct)
 c5:w.cell? ⟨g,5,none⟩=some (.int .i64 x.b.lot)
theorem Cl.below{w w':World}{B g:Nat}{x:Bx}(h:Cl w g x)(k:Below B w w')(hg:g<B):Cl w' g x:=
 ⟨(k.cell (p:=⟨g,0,none⟩) hg).trans h.c0,(k.cell (p:=⟨g,1,none⟩) hg).trans h.c1,(k.cell (p:=⟨g,2,none⟩) hg).trans h.c2,(k.cell (p:=⟨g,3,none⟩) hg).trans h.c3,(k.cell (p:=⟨g,4,none⟩) hg).trans h.c4,(k.cell (p:=⟨g,5,none⟩) hg).trans h.c5⟩
def Box(w:World)(base g:Nat)(v0 v1 v2 v3 v4 v5:Value):Prop:=w.ownsRow base 44 6 (.slice (some ⟨g,0,none⟩) 1 1) 1 [v0,v1,v2,v3,v4,v5]
theorem Box.made{w:World}{base g:Nat}(v0 v1 v2 v3 v4 v5:Value)(hb:base≤w.heap.size)(hg:g=w.heap.size):Box (w.alloc (.cells #[v0,v1,v2,v3,v4,v5] 44)) base g v0 v1 v2 v3 v4 v5:=by
 subst hg
 exact⟨rfl,.inr ⟨w.heap.size,1,#[v0,v1,v2,v3,v4,v5],rfl,hb,heap_alloc_new w _,Nat.le_refl _,by unfold maxLen;omega,rfl,rfl⟩⟩
section
variable {w w':World} {base base' g:Nat} {v0 v1 v2 v3 v4 v5:Value}
theorem Box.lt(h:Box w base g v0 v1 v2 v3 v4 v5):base≤g∧g<w.heap.size:=World.ownsRow.lt h g rfl
theorem Box.free(h:Box w base g v0 v1 v2 v3 v4 v5)(i:Nat):w.frozen? ⟨g,i,none⟩=false:=World.ownsRow.frozenAt h i
theorem Box.c0(h:Box w base g v0 v1 v2 v3 v4 v5):w.cell? ⟨g,0,none⟩=some v0:=(World.ownsRow.cellAt h 0 (by omega)).trans rfl
theorem Box.c1(h:Box w base g v0 v1 v2 v3 v4 v5):w.cell? ⟨g,1,none⟩=some v1:=(World.ownsRow.cellAt h 1 (by omega)).trans rfl
theorem Box.c2(h:Box w base g v0 v1 v2 v3 v4 v5):w.cell? ⟨g,2,none⟩=some v2:=(World.ownsRow.cellAt h 2 (by omega)).trans rfl
theorem Box.c3(h:Box w base g v0 v1 v2 v3 v4 v5):w.cell? ⟨g,3,none⟩=some v3:=(World.ownsRow.cellAt h 3 (by omega)).trans rfl
theorem Box.c4(h:Box w base g v0 v1 v2 v3 v4 v5):w.cell? ⟨g,4,none⟩=some v4:=(World.ownsRow.cellAt h 4 (by omega)).trans rfl
theorem Box.c5(h:Box w base g v0 v1 v2 v3 v4 v5):w.cell? ⟨g,5,none⟩=some v5:=(World.ownsRow.cellAt h 5 (by omega)).trans rfl
theorem Box.set0(h:Box w base g v0 v1 v2 v3 v4 v5)(u:Value):Box (w.setCell ⟨g,0,none⟩ u) base g u v1 v2 v3 v4 v5∧w.grownBy (w.setCell ⟨g,0,none⟩ u) (some g):=World.ownsRow.stored h 0 u
theorem Box.set1(h:Box w base g v0 v1 v2 v3 v4 v5)(u:Value):Box (w.setCell ⟨g,1,none⟩ u) base g v0 u v2 v3 v4 v5∧w.grownBy (w.setCell ⟨g,1,none⟩ u) (some g):=World.ownsRow.stored h 1 u
theorem Box.set2(h:Box w base g v0 v1 v2 v3 v4 v5)(u:Value):Box (w.setCell ⟨g,2,none⟩ u) base g v0 v1 u v3 v4 v5∧w.grownBy (w.setCell ⟨g,2,none⟩ u) (some g):=World.ownsRow.stored h 2 u
theorem Box.set3(h:Box w base g v0 v1 v2 v3 v4 v5)(u:Value):Box (w.setCell ⟨g,3,none⟩ u) base g v0 v1 v2 u v4 v5∧w.grownBy (w.setCell ⟨g,3,none⟩ u) (some g):=World.ownsRow.stored h 3 u
theorem Box.set4(h:Box w base g v0 v1 v2 v3 v4 v5)(u:Value):Box (w.setCell ⟨g,4,none⟩ u) base g v0 v1 v2 v3 u v5∧w.grownBy (w.setCell ⟨g,4,none⟩ u) (some g):=World.ownsRow.stored h 4 u
theorem Box.set5(h:Box w base g v0 v1 v2 v3 v4 v5)(u:Value):Box (w.setCell ⟨g,5,none⟩ u) base g v0 v1 v2 v3 v4 u∧w.grownBy (w.setCell ⟨g,5,none⟩ u) (some g):=World.ownsRow.stored h 5 u
theorem Box.kept{row:Option Nat}(h:Box w base g v0 v1 v2 v3 v4 v5)(k:w.grownBy w' row)(hne:some g≠row):Box w' base g v0 v1 v2 v3 v4 v5:=World.ownsRow.kept h k (Or.inr hne)
theorem Box.below{B:Nat}(h:Box w base g v0 v1 v2 v3 v4 v5)(k:Below B w w')(hg:g<B):Box w' base g v0 v1 v2 v3 v4 v5:=by
 refine⟨h.1,?_⟩
 rcases h.2 with⟨h1,_⟩|⟨g',c,cur,h1,h2,h3,h4⟩
 ·simp at h1
 ·have e:g=g':=by simp at h1;exact h1.1
  subst e
  exact .inr ⟨g,c,cur,h1,h2,(k.block g hg).trans h3,h4⟩
end
theorem Box.all{w:World}{base g:Nat}{v0 v1 v2 v3 v4 v5:Value}(h:Box w base g v0 v1 v2 v3 v4 v5):w.cell? ⟨g,0,none⟩=some v0∧w.cell? ⟨g,1,none⟩=some v1∧w.cell? ⟨g,2,none⟩=some v2∧w.cell? ⟨g,3,none⟩=some v3∧w.cell? ⟨g,4,none⟩=some v4∧w.cell? ⟨g,5,none⟩=some v5∧w.frozen? ⟨g,0,none⟩=false∧w.frozen? ⟨g,1,none⟩=false∧w.frozen? ⟨g,2,none⟩=false∧w.frozen? ⟨g,3,none⟩=false∧w.frozen? ⟨g,4,none⟩=false∧w.frozen? ⟨g,5,none⟩=false:=⟨h.c0,h.c1,h.c2,h.c3,h.c4,h.c5,h.free 0,h.free 1,h.free 2,h.free 3,h.free 4,h.free 5⟩
end BMem
namespace BalHelp
open Bals Triples
theorem info2:(Tryz.prog.info? 132).map (fun i=>(i.zero,i.size,i.bytes))=some (some (.agg #[.int .i64 0,.int .i64 0,.int .i64 0]),3,24):=by kernel_rfl
theorem to1(w:World)(x y z:Int):Calls Tryz.prog 107 #[.agg #[.int .i64 x,.int .i64 y,.int .i64 z]] w fun e w'=>e= .returned (.agg #[.int .i64 x,.int .i64 y,.int .i64 z])∧Below w.heap.size w w':=by
 go_enter Tryz.func107,Tryz.ntmps107
 go_wp2
 refine bodyPost_ret (v:= .agg #[.int .i64 x,.int .i64 y,.int .i64 z]) (by simp[results,Tryz.results107,go_sem]) rfl ⟨rfl,?_⟩
 exact(((Below.refl _ _).alloc (Nat.le_refl _) _).alloc (by simp) _).alloc (by simp;omega) _
theorem made_triples(n:Nat):(madeCells (Value.agg #[.int .i64 0,.int .i64 0,.int .i64 0]).cells (n*3)).toList=flat3 (List.replicate n (0,0,0)):=by
 apply List.ext_getElem?
 intro j
 by_cases hj:j<n*3
 ·have hs:(Value.agg #[Value.int .i64 0,Value.int .i64 0,Value.int .i64 0]).cells= #[Value.int .i64 0,Value.int .i64 0,Value.int .i64 0]:=rfl
  rw[hs]
  obtain⟨f0,f1,f2⟩:=flat3_get (List.replicate n (0,0,0)) (j/3) (by simp;omega)
  have hg:(List.replicate n ((0:Int),(0:Int),(0:Int))).getD (j/3) (0,0,0)=(0,0,0):=by simp[List.getD,show j/3<n by omega]
  unfold el3 at f0 f1 f2
  rw[hg] at f0 f1 f2
  rcases(show j%3=0∨j%3=1∨j%3=2 by omega) with e|e|e
  ·rw[show j/3*3=j by omega] at f0
   rw[f0]
   simp[madeCells,hj,e]
  ·rw[show j/3*3+1=j by omega] at f1
   rw[f1]
   simp[madeCells,hj,e]
  ·rw[show j/3*3+2=j by omega] at f2
   rw[f2]
   simp[madeCells,hj,e]
 ·rw[List.getElem?_eq_none (by simp[madeCells];omega),List.getElem?_eq_none (by rw[flat3_len];simp;omega)]
def part(ps:List T3)(n k:Nat):List T3:=ps.take k++List.replicate (n-k) (0,0,0)
theorem part_zero(ps:List T3)(n:Nat):part ps n 0=List.replicate n (0,0,0):=by simp[part]
theorem part_all(ps:List T3)(n:Nat)(h:ps.length=n):part ps n n=ps:=by
 unfold part
 rw[←h];simp
theorem part_step(ps:List T3)(n k:Nat)(h:ps.length=n)(hk:k<n):(((part ps n k).modify k fun p=>((el3 ps k).1,p.2)).modify k (fun p=>(p.1,(el3 ps k).2.1,p.2.2))).modify k (fun p=>(p.1,p.2.1,(el3 ps k).2.2))=part ps n (k+1):=by
 subst h
 unfold part
 apply List.ext_getElem?
 intro j
 have l1:(ps.take k).length=k:=by simp;omega
 have l2:(ps.take (k+1)).length=k+1:=by simp;omega
 rw[List.getElem?_modify,List.getElem?_modify,List.getElem?_modify]
 by_cases e:k=j
 ·subst e
  rw[List.getElem?_append_right (by omega),List.getElem?_append_left (by omega),List.getElem?_take,if_pos (by omega),l1]
  simp[List.getD,hk,show 0<ps.length-k by omega]
 ·by_cases l:j<k
  ·rw[List.getElem?_append_left (by omega),List.getElem?_append_left (by omega),List.getElem?_take,List.getElem?_take,if_pos l,if_pos (by omega)]
   simp[e]
  ·rw[List.getElem?_append_right (by omega),List.getElem?_append_right (by omega),l1,l2]
   simp only[List.getElem?_replicate]
   by_cases m:j<ps.length
   ·rw[if_pos (by omega),if_pos (by omega)];simp[e]
   ·rw[if_neg (by omega),if_neg (by omega)];simp[e]
theorem toS(w:World)(a:Option Addr)(len cap:Nat)(ps:List T3)(hl:ps.length=len)(h20:len≤1048576)(hr:Reads3 w a ps):
  Calls Tryz.prog 55 #[.slice a len cap] w fun e w'=>e= .returned (.slice (some ⟨w.heap.size,0,none⟩) len len)∧Own3 132 w' w.heap.size w.heap.size len len ps∧Below w.heap.size w w':=by
 obtain⟨i0,hi,hz0,hz1,hz2⟩:=info_parts info2
 go_enter Tryz.func55,Tryz.ntmps55
 go_wp2_with (at_make;refine wpList_make_full _ rfl _ _ 40 rfl w.heap.size 132 i0 (.agg #[.int .i64 0,.int .i64 0,.int .i64 0]) 3 Tryz.underlying40 hi hz0 hz1 .i64 .i64 _ _ len rfl rfl rfl rfl (by rw[hz2];omega) (by unfold maxLen;omega) (Nat.le_refl _) ?_;intro w1 hown hgrow)
 rw[made_triples,←part_zero ps] at hown
 have hb:=grownBy_below hgrow
 have hown:Own3 132 w1 w.heap.size w.heap.size len len (part ps len 0):=hown
 clear hgrow
 go_loopw [4] (fun i wr=>∃(k:Nat),k≤len∧i= .int .i64 k∧Own3 132 wr w.heap.size w.heap.size len len (part ps len k)∧Below w.heap.size w wr) (fun i _=>len-(intOf i).toNat)
 case atStart=>exact⟨0,by omega,rfl,hown,hb⟩
 case round=>
  clear hown hb
  obtain⟨k,hk,rfl,hown,hb⟩:=hrel
  by_cases t:k<len
  ·rcases hr with hz|⟨b,off,rfl,hlt,hcell⟩
   ·omega
   have hc0:=(hb.cell (p:=⟨b,off+k*3,none⟩) hlt).trans (hcell k (by omega)).1
   have hc1:=(hb.cell (p:=⟨b,off+k*3+1,none⟩) hlt).trans (hcell k (by omega)).2.1
   have hc2:=(hb.cell (p:=⟨b,off+k*3+2,none⟩) hlt).trans (hcell k (by omega)).2.2
   clear hcell
   have HO:=zh hown
   have HB:=zh hb
   clear hown hb
   have PS:=zh (part_step ps len k hl t)
   generalize (el3 ps k).1=x at *
   generalize (el3 ps k).2.1=y at *
   generalize (el3 ps k).2.2=z at *
   go_wp2_with fail
   refine(to1 _ x y z).mono ?_
   rintro e w2 ⟨rfl,b2⟩
   have o2:=(zu HO).below b2 (zu HO).lt.2
   have hb2:=(zu HB).trans (b2.mono (zu HB).size)
   clear HO HB b2 hc0 hc1 hc2
   have hs:=o2.set0 k x
   have hs2:=hs.1.set1 k y
   have hs3:=hs2.1.set2 k z
   have hd:=o2.at k (by rw[o2.len];exact t)
   have hd0:=hd.1
   have hd1:=hd.2.1
   have hd2:=hd.2.2
   have hf0:=o2.free (k*3)
   have hf1:=o2.free (k*3+1)
   have hf2:=o2.free (k*3+2)
   have HS:=zh hs3.1
   have HB:=zh (((hb2.setCell (p:=⟨w.heap.size,k*3,none⟩) (Nat.le_refl _) (.int .i64 x)).setCell (p:=⟨w.heap.size,k*3+1,none⟩) (Nat.le_refl _) (.int .i64 y)).setCell (p:=⟨w.heap.size,k*3+2,none⟩) (Nat.le_refl _) (.int .i64 z))
   clear hs hs2 hs3 hd o2 hb2
   go_wp2
   go_roundw
   case rel=>
    have o:=zu HS
    rw[zu PS] at o
    exact⟨k+1,by omega,by go_num,o,zu HB⟩
   case measure=>simp[intOf];omega
  ·obtain rfl:k=len:=by omega
   rw[part_all ps k hl] at hown
   have HO:=zh hown
   have HB:=zh hb
   clear hown hb hr
   go_wp2
   go_ret
   exact⟨rfl,zu HO,zu HB⟩
theorem eq1(w:World)(x y z:Int):Calls Tryz.prog 120 #[.agg #[.int .i64 x,.int .i64 y,.int .i64 z],.agg #[.int .i64 x,.int .i64 y,.int .i64 z]] w fun e w'=>e= .returned (.bool true)∧w'=(w.alloc (.cells #[.int .i64 x,.int .i64 y,.int .i64 z] 132)).alloc (.cells #[.int .i64 x,.int .i64 y,.int .i64 z] 132):=by
 go_enter Tryz.func120,Tryz.ntmps120
 go_wp2
 go_ret
 exact⟨rfl,rfl⟩
theorem two_more(w:World)(o p:Obj):Below w.heap.size w ((w.alloc o).alloc p).drew:=(((Below.refl _ _).alloc (Nat.le_refl _) _).alloc (by simp) _).drew
theorem eqS(w:World)(g1 g2 n c1 c2:Nat)(ps:List T3)(hl:ps.length=n)(h20:n≤1048576)(l1:g1<w.heap.size)(l2:g2<w.heap.size)(h1:At3 w g1 ps)(h2:At3 w g2 ps):
  Calls Tryz.prog 68 #[.slice (some ⟨g1,0,none⟩) n c1,.slice (some ⟨g2,0,none⟩) n c2] w fun e w'=>e= .returned (.bool true)∧Below w.heap.size w w':=by
 go_enter Tryz.func68,Tryz.ntmps68
 go_wp2
 go_loopw [5] (fun i wr=>∃(k:Nat),k≤n∧i= .int .i64 k∧At3 wr g1 ps∧At3 wr g2 ps∧Below w.heap.size w wr) (fun i _=>n-(intOf i).toNat)
 case atStart=>exact⟨0,by omega,rfl,h1,h2,Below.refl _ _⟩
 case round=>
  clear h1 h2
  obtain⟨k,hk,rfl,h1,h2,hb⟩:=hrel
  by_cases t:k<n
  ·obtain⟨e1,f1,i1⟩:=h1 k (by omega)
   obtain⟨e2,f2,i2⟩:=h2 k (by omega)
   have s:=hb.size
   have H1:=zh h1
   have H2:=zh h2
   have HB:=zh hb
   clear h1 h2 hb
   generalize (el3 ps k).1=x at *
   generalize (el3 ps k).2.1=y at *
   generalize (el3 ps k).2.2=z at *
   go_wp2_with fail
   go_region_held3 (fun w'=>w'.cell? ⟨g1,k*3,none⟩=some (.int .i64 x)∧w'.cell? ⟨g2,k*3,none⟩=some (.int .i64 x)∧w'.cell? ⟨g1,k*3+1,none⟩=some (.int .i64 y)∧w'.cell? ⟨g2,k*3+1,none⟩=some (.int .i64 y)∧w'.cell? ⟨g1,k*3+2,none⟩=some (.int .i64 z)∧w'.cell? ⟨g2,k*3+2,none⟩=some (.int .i64 z)) (go_keep)
    (first|(go_at_call 120;refine(eq1 _ _ _ _).mono ?_;rintro e w2 ⟨rfl,rfl⟩))
   all_goals(go_wp2;go_roundw)
   all_goals first
    |(have b2:=two_more wr (.cells #[.int .i64 x,.int .i64 y,.int .i64 z] 132) (.cells #[.int .i64 x,.int .i64 y,.int .i64 z] 132)
      exact⟨k+1,by omega,by go_num,(zu H1).below b2 (by omega),(zu H2).below b2 (by omega),next (zu HB) b2⟩)
    |(simp[intOf];omega)
  ·have HB:=zh hb
   clear h1 h2 hb
   go_wp2
   go_ret
   exact⟨rfl,zu HB⟩
def marks(s:Int)(n:Nat):List T3:=(List.range n).map fun(i:Nat)=>(s+3*(i:Int),s+3*(i:Int)+1,s+3*(i:Int)+2)
theorem marks_len(s:Int)(n:Nat):(marks s n).length=n:=by simp[marks]
theorem marks_getD(s:Int)(n i:Nat)(h:i<n):el3 (marks s n) i=(s+3*(i:Int),s+3*(i:Int)+1,s+3*(i:Int)+2):=by simp[marks,List.getD,h]
def marked(s:Int)(ps:List T3)(n j:Nat):List T3:=(marks s n).take j++ps.drop j
theorem marked_zero(s:Int)(ps:List T3)(n:Nat):marked s ps n 0=ps:=by simp[marked]
theorem marked_all(s:Int)(ps:List T3)(n:Nat)(h:ps.length=n):marked s ps n n=marks s n:=by
 unfold marked
 rw[List.take_of_length_le (by rw[marks_len];exact Nat.le_refl _),List.drop_of_length_le (by omega),List.append_nil]
theorem marked_step(s:Int)(ps:List T3)(n j:Nat)(h:ps.length=n)(hj:j<n):(((marked s ps n j).modify j fun p=>(s+3*(j:Int),p.2)).modify j (fun p=>(p.1,s+3*(j:Int)+1,p.2.2))).modify j (fun p=>(p.1,p.2.1,s+3*(j:Int)+1+1))=marked s ps n (j+1):=by
 unfold marked
 have l:=marks_len s n
 have g:=marks_getD s n j hj
 have l1:((marks s n).take j).length=j:=by simp;omega
 have l2:((marks s n).take (j+1)).length=j+1:=by simp;omega
 apply List.ext_getElem?
 intro i
 rw[List.getElem?_modify,List.getElem?_modify,List.getElem?_modify]
 by_cases e:j=i
 ·subst e
  rw[List.getElem?_append_right (by omega),List.getElem?_append_left (by omega),List.getElem?_take,if_pos (by omega),l1]
  have hg:(marks s n)[j]?=some (s+3*(j:Int),s+3*(j:Int)+1,s+3*(j:Int)+2):=by
   rw[←g];simp[List.getD,l,hj]
  rw[hg]
  simp[List.getElem?_drop,h,hj]
  omega
 ·by_cases d:i<j
  ·rw[List.getElem?_append_left (by omega),List.getElem?_append_left (by omega),List.getElem?_take,List.getElem?_take,if_pos d,if_pos (by omega)]
   simp[e]
  ·rw[List.getElem?_append_right (by omega),List.getElem?_append_right (by omega),l1,l2]
   simp only[List.getElem?_drop]
   rw[show j+(i-j)=i by omega,show j+1+(i-(j+1))=i by omega]
   simp[e]
theorem markS(w:World)(base g n cap:Nat)(s:Int)(ps:List T3)(h20:n≤1048576)(s0:0≤s)(s1:s≤100000000)(ho:Own3 132 w base g n cap ps):
  Calls Tryz.prog 74 #[.slice (some ⟨g,0,none⟩) n cap,.int .i64 s] w fun e w'=>e= .returned (.int .i64 (s+3*(n:Int)))∧Own3 132 w' base g n cap (marks s n)∧w.grownBy w' (some g):=by
 have hl:=ho.len
 have ho':Own3 132 w base g n cap (marked s ps n 0):=by rw[marked_zero];exact ho
 clear ho
 go_enter Tryz.func74,Tryz.ntmps74
 go_wp2
 go_loopw [1,5] (fun m i wr=>∃(k:Nat),k≤n∧i= .int .i64 k∧m= .int .i64 (s+3*(k:Int))∧Own3 132 wr base g n cap (marked s ps n k)∧w.grownBy wr (some g)) (fun _ i _=>n-(intOf i).toNat)
 case atStart=>exact⟨0,by omega,rfl,by go_num,ho',World.grownBy.refl _ _⟩
 case round=>
  clear ho'
  obtain⟨k,hk,rfl,rfl,hown,hg⟩:=hrel
  by_cases t:k<n
  ·obtain⟨o1,q1⟩:=hown.set0 k (s+3*(k:Int))
   obtain⟨o2,q2⟩:=o1.set1 k (s+3*(k:Int)+1)
   obtain⟨o3,q3⟩:=o2.set2 k (s+3*(k:Int)+1+1)
   obtain⟨hd0,hd1,hd2⟩:=hown.at k (by rw[Own3.len hown];exact t)
   have hf0:=hown.free (k*3)
   have hf1:=hown.free (k*3+1)
   have hf2:=hown.free (k*3+2)
   rw[marked_step s ps n k hl t] at o3
   have HO:=zh o3
   have HG:=zh (grown_trans (grown_trans (grown_trans hg q1) q2) q3)
   clear hown hg o1 q1 o2 q2 o3 q3
   generalize (el3 (marked s ps n k) k).1=z0 at hd0
   generalize (el3 (marked s ps n k) k).2.1=z1 at hd1
   generalize (el3 (marked s ps n k) k).2.2=z2 at hd2
   have r1:IntKind.i64.wrap (s+3*(k:Int)+1)=s+3*(k:Int)+1:=by rw[IntKind.wrap_i64];omega
   have r2:IntKind.i64.wrap (s+3*(k:Int)+1+1)=s+3*(k:Int)+1+1:=by rw[IntKind.wrap_i64];omega
   have r3:IntKind.i64.wrap (s+3*(k:Int)+1+1+1)=s+3*(k:Int)+1+1+1:=by rw[IntKind.wrap_i64];omega
   go_wp2
   go_roundw
   case rel=>exact⟨k+1,by omega,by go_num,by go_num,zu HO,zu HG⟩
   case measure=>simp[intOf];omega
  ·obtain rfl:k=n:=by omega
   rw[marked_all s ps k hl] at hown
   have HO:=zh hown
   have HG:=zh hg
   clear hown hg
   go_wp2
   go_ret
   exact⟨rfl,zu HO,zu HG⟩
theorem sz_yes(a:Option Addr)(len cap:Nat)(l:Int)(w:World)(h:(len:Int)≤l)(hl:l≤1048576):
  Calls Tryz.prog 32 #[.slice a len cap,.int .i64 l] w fun e w'=>e= .returned (.int .i64 (l-(len:Int)))∧w'=w:=by
 have h1:(0:Int)≤l-(len:Int):=by omega
 have h2:wrap64 (l-(len:Int))=l-(len:Int):=by rw[wrap64];omega
 go_enter Tryz.func32,Tryz.ntmps32
 go_wp2
 go_ret
 exact⟨rfl,rfl⟩
theorem sz_no(a:Option Addr)(len cap:Nat)(l:Int)(w:World)(h:¬(len:Int)≤l)(hl:l≤1048576)(h0:0≤l)(hm:len≤9223372036854775807):
  Calls Tryz.prog 32 #[.slice a len cap,.int .i64 l] w fun e w'=>e= .returned (.int .i64 (-1))∧w'=w:=by
 have h1:l-(len:Int)<0:=by omega
 have h2:wrap64 (l-(len:Int))=l-(len:Int):=by rw[wrap64];omega
 go_enter Tryz.func32,Tryz.ntmps32
 go_wp2
 go_ret
 exact⟨rfl,rfl⟩
end BalHelp
namespace BalHeld
open Triples
open BalHelp (marks marks_len marks_getD)
theorem heldS(w:World)(g n cap:Nat)(s:Int)(h20:n≤1048576)(s0:0≤s)(s1:s≤100000000)(h:At3 w g (marks s n)):
  Calls Tryz.prog 80 #[.slice (some ⟨g,0,none⟩) n cap,.int .i64 s] w fun e w'=>e= .returned (.int .i64 (s+3*(n:Int)))∧w'=w:=by
 go_enter Tryz.func80,Tryz.ntmps80
 go_wp2
 go_loop [1,5] (fun m i=>∃(k:Nat),k≤n∧i= .int .i64 k∧m= .int .i64 (s+3*(k:Int))) (fun _ i=>n-(intOf i).toNat)
 case atStart=>exact⟨0,by omega,rfl,by go_num⟩
 case round=>
  obtain⟨k,hk,rfl,rfl⟩:=hrel
  by_cases t:k<n
  ·obtain⟨e0,e1,e2⟩:=h k (by rw[marks_len];exact t)
   rw[marks_getD s n k t] at e0 e1 e2
   have e2:w.cell? ⟨g,k*3+2,none⟩=some (.int .i64 (s+3*(k:Int)+1+1)):=by rw[e2];simp;omega
   clear h
   go_wp2
   go_round
   case rel=>exact⟨k+1,by omega,by go_num,by go_num⟩
   case measure=>simp[intOf];omega
  ·obtain rfl:k=n:=by omega
   clear h
   go_wp2
   go_ret
   exact⟨rfl,rfl⟩
end BalHeld
namespace AccountSOk
open Pairs Chart
def Tells(b:Bool)(x lo hi:Int):Prop:=b=true↔lo≤x∧x≤hi
theorem tells_of(x lo hi:Int):∃b,Tells b x lo hi:=bool_of _
theorem sIn(x lo hi:Int)(b:Bool)(w:World)(hb:Tells b x lo hi):
  Calls Tryz.prog 39 #[.int .i64 x,.int .i64 lo,.int .i64 hi] w fun e w'=>e= .returned (.bool b)∧w'=w:=by
 cases b
 ·have H:=zh (show lo≤x→¬x≤hi from fun h1 h2=>Bool.noConfusion ((zu hb).2 ⟨h1,h2⟩))
  clear hb
  by_cases h1:lo≤x
  ·have h2:=(zu H) h1
   clear H
   go_enter Tryz.func39,Tryz.ntmps39
   go_wp2
   go_ret
   exact⟨rfl,rfl⟩
  ·clear H
   go_enter Tryz.func39,Tryz.ntmps39
   go_wp2
   go_ret
   exact⟨rfl,rfl⟩
 ·obtain⟨h1,h2⟩:=(zu hb).1 rfl
  clear hb
  go_enter Tryz.func39,Tryz.ntmps39
  go_wp2
  go_ret
  exact⟨rfl,rfl⟩
theorem sNo(x:Int)(b:Bool)(w:World)(hb:Tells b x 1 1000):
  Calls Tryz.prog 124 #[.int .i64 x] w fun e w'=>e= .returned (.bool b)∧w'=w:=by
 go_enter Tryz.func124,Tryz.ntmps124
 go_wp2_with fail
 refine(sIn x 1 1000 b _ hb).mono ?_
 rintro e w' ⟨rfl,rfl⟩
 go_wp2
 go_ret
 exact⟨rfl,rfl⟩
theorem drewN_more{w wr:World}(h:∃q,wr=w.drewN q)(m:Nat):∃q,wr.drewN m=w.drewN q:=by
 obtain⟨q,rfl⟩:=h
 exact⟨q+m,World.drewN_drewN ..⟩
theorem sOk(w:World)(g n cap:Nat)(ps:List (Int×Int))(ok:Bool)(hl:ps.length=n)(h20:n≤1048576)(h:At w g ps)(hok:Says ok 20 4 ps):
  Calls Tryz.prog 86 #[.slice (some ⟨g,0,none⟩) n cap] w fun e w'=>e= .returned (.bool ok)∧∃q,w'=w.drewN q:=by
 by_cases nn:(20:Int)<(n:Int)
 ·obtain rfl:ok=false:=hok.not (fun r=>by have:=r.1;omega)
  clear hok h
  go_enter Tryz.func86,Tryz.ntmps86
  go_wp2
  go_ret
  exact⟨rfl,0,rfl⟩
 go_enter Tryz.func86,Tryz.ntmps86
 go_wp2
 go_loopw [3] (fun i wr=>∃(k:Nat),k≤n∧i= .int .i64 k∧At wr g ps∧Hid (∃q,wr=w.drewN q)∧Hid (∀i,i<k→RowOk 4 ps i)) (fun i _=>n-(intOf i).toNat)
 case atStart=>exact⟨0,by omega,rfl,h,zh ⟨0,rfl⟩,zh (fun i hi=>absurd hi (by omega))⟩
 case round=>
  clear h
  obtain⟨k,hk,rfl,h,HQ,HG⟩:=hrel
  by_cases t:k<n
  ·obtain⟨e1,e2⟩:=h k (by omega)
   have e3:0<k→wr.cell? ⟨g,(k-1)*2,none⟩=some (.int .i64 (el ps (k-1)).1):=fun k0=>(h (k-1) (by omega)).1
   obtain⟨b1,B1⟩:=tells_of (el ps k).1 1 1000
   obtain⟨b2,B2⟩:=tells_of (el ps k).2 1 4
   have ROW:=zh (show RowOk 4 ps k↔(b1=true)∧(b2=true)∧(0<k→(el ps (k-1)).1<(el ps k).1) from by unfold Tells at B1 B2;rw[B1,B2];exact Iff.rfl)
   have HA:=zh h
   clear h
   have BAD:=zh (show ¬RowOk 4 ps k→ok=false from fun hr=>hok.not (fun r=>hr (r.2 k (by omega))))
   have GOOD:=zh (show RowOk 4 ps k→∀i,i<k+1→RowOk 4 ps i from fun hr i hi=>by
    by_cases e:i=k
    ·subst e;exact hr
    ·exact(zu HG) i (by omega))
   generalize (el ps k).1=x at *
   generalize (el ps k).2=y at *
   cases b1
   ·have OKF:=zh ((zu BAD) (fun hr=>by have:=((zu ROW).1 hr).1;cases this))
    clear BAD GOOD ROW e3
    go_wp2_with fail
    go_quiet (first|(go_at_call 124;refine Calls.quiet_of_same (sNo _ false _ B1)))
    go_wp2
    go_ret
    exact⟨by rw[zu OKF];rfl,drewN_more (zu HQ) _⟩
   ·cases b2
    ·have OKF:=zh ((zu BAD) (fun hr=>by have:=((zu ROW).1 hr).2.1;cases this))
     clear BAD GOOD ROW e3
     go_wp2_with fail
     go_quiet (first|(go_at_call 124;refine Calls.quiet_of_same (sNo _ true _ B1))|(go_at_call 39;refine Calls.quiet_of_same (sIn _ _ _ false _ B2)))
     go_wp2
     go_ret
     exact⟨by rw[zu OKF];rfl,drewN_more (zu HQ) _⟩
    ·by_cases k0:0<k
     ·have e3:=e3 k0
      have k1:(0:Int)<(k:Int):=by omega
      have k2:(0:Int)≤(k:Int) -1:=by omega
      have k3:((k:Int) -1).toNat=k-1:=by omega
      by_cases lt:(el ps (k-1)).1<x
      ·have GO:=zh ((zu GOOD) ((zu ROW).2 ⟨rfl,rfl,fun _=>lt⟩))
       clear BAD GOOD ROW
       have ge:¬x≤(el ps (k-1)).1:=by omega
       generalize (el ps (k-1)).1=z at *
       go_wp2_with fail
       go_quiet (first|(go_at_call 124;refine Calls.quiet_of_same (sNo _ true _ B1))|(go_at_call 39;refine Calls.quiet_of_same (sIn _ _ _ true _ B2)))
       go_wp2
       go_roundw
       case rel=>exact⟨k+1,by omega,by go_num,zu HA,zh (drewN_more (zu HQ) _),GO⟩
       case measure=>simp[intOf];omega
      ·have OKF:=zh ((zu BAD) (fun hr=>lt (((zu ROW).1 hr).2.2 k0)))
       clear BAD GOOD ROW
       have ge:x≤(el ps (k-1)).1:=by omega
       generalize (el ps (k-1)).1=z at *
       go_wp2_with fail
       go_quiet (first|(go_at_call 124;refine Calls.quiet_of_same (sNo _ true _ B1))|(go_at_call 39;refine Calls.quiet_of_same (sIn _ _ _ true _ B2)))
       go_wp2
       go_ret
       exact⟨by rw[zu OKF];rfl,drewN_more (zu HQ) _⟩
     ·obtain rfl:k=0:=by omega
      have GO:=zh ((zu GOOD) ((zu ROW).2 ⟨rfl,rfl,fun h0=>absurd h0 k0⟩))
      clear BAD GOOD ROW e3
      go_wp2_with fail
      go_quiet (first|(go_at_call 124;refine Calls.quiet_of_same (sNo _ true _ B1))|(go_at_call 39;refine Calls.quiet_of_same (sIn _ _ _ true _ B2)))
      go_wp2
      go_roundw
      case rel=>exact⟨1,by omega,by go_num,zu HA,zh (drewN_more (zu HQ) _),GO⟩
      case measure=>simp[intOf];omega
  ·obtain rfl:k=n:=by omega
   obtain rfl:ok=true:=hok.of ⟨by omega,by rw[hl];exact zu HG⟩
   clear h hok
   go_wp2
   go_ret
   exact⟨rfl,zu HQ⟩
theorem sKind(w:World)(g n cap:Nat)(ps:List (Int×Int))(no:Int)(hl:ps.length=n)(h20:n≤1048576)(h:At w g ps):
  Calls Tryz.prog 93 #[.slice (some ⟨g,0,none⟩) n cap,.int .i64 no] w fun e w'=>∃r,IsKind 20 4 ps no r∧e= .returned (.int .i64 r)∧∃q,w'=w.drewN q:=by
 obtain⟨ok,OK⟩:=says_of 20 4 ps
 go_enter Tryz.func93,Tryz.ntmps93
 go_wp2
 go_loopw [5] (fun i wr=>∃(k:Nat),k≤n∧i= .int .i64 k∧At wr g ps∧Hid (∃q,wr=w.drewN q)∧Hid (∀i,i<k→(el ps i).1≠no)) (fun i _=>n-(intOf i).toNat)
 case atStart=>exact⟨0,by omega,rfl,h,zh ⟨0,rfl⟩,zh (fun i hi=>absurd hi (by omega))⟩
 case round=>
  clear h
  obtain⟨k,hk,rfl,h,HQ,HG⟩:=hrel
  by_cases t:k<n
  ·obtain⟨e1,e2⟩:=h k (by omega)
   have HA:=zh h
   clear h
   have GO:=zh (show(el ps k).1≠no→∀i,i<k+1→(el ps i).1≠no from fun hn i hi=>by
    by_cases e:i=k
    ·subst e;exact hn
    ·exact(zu HG) i (by omega))
   have YES:=zh (show ok=true→(el ps k).1=no→IsKind 20 4 ps no (el ps k).2 from fun ho he=> .inl ⟨OK.1 ho,k,by omega,he,rfl⟩)
   generalize (el ps k).1=x at *
   generalize (el ps k).2=y at *
   cases ok
   ·go_wp2_with fail
    refine(sOk _ _ _ _ ps false hl h20 (zu HA) OK).mono ?_
    rintro e w2 ⟨rfl,nq,rfl⟩
    go_wp2
    go_ret
    exact⟨0,.inr ⟨.inl OK.no,rfl⟩,rfl,drewN_more (zu HQ) _⟩
   ·go_wp2_with fail
    refine(sOk _ _ _ _ ps true hl h20 (zu HA) OK).mono ?_
    rintro e w2 ⟨rfl,nq,rfl⟩
    by_cases eq:x=no
    ·have Y:=zh ((zu YES) (by trivial) eq)
     clear YES GO
     subst eq
     go_wp2
     go_ret
     exact⟨y,zu Y,rfl,drewN_more (zu HQ) _⟩
    ·have eqb:(x==no)=false:=by simpa using eq
     have G:=zh ((zu GO) eq)
     clear YES GO
     go_wp2
     go_roundw
     case rel=>exact⟨k+1,by omega,by go_num,zu HA,zh (drewN_more (zu HQ) _),G⟩
     case measure=>simp[intOf];omega
  ·obtain rfl:k=n:=by omega
   have K0:=zh (show IsKind 20 4 ps no 0 from .inr ⟨.inr (fun i hi=>(zu HG) i (by omega)),rfl⟩)
   clear h
   go_wp2
   go_ret
   exact⟨0,zu K0,rfl,zu HQ⟩
end AccountSOk
namespace InstrSOk
open Pairs Chart
def Tells(b:Bool)(x lo hi:Int):Prop:=b=true↔lo≤x∧x≤hi
theorem tells_of(x lo hi:Int):∃b,Tells b x lo hi:=bool_of _
theorem sIn(x lo hi:Int)(b:Bool)(w:World)(hb:Tells b x lo hi):
  Calls Tryz.prog 39 #[.int .i64 x,.int .i64 lo,.int .i64 hi] w fun e w'=>e= .returned (.bool b)∧w'=w:=by
 cases b
 ·have H:=zh (show lo≤x→¬x≤hi from fun h1 h2=>Bool.noConfusion ((zu hb).2 ⟨h1,h2⟩))
  clear hb
  by_cases h1:lo≤x
  ·have h2:=(zu H) h1
   clear H
   go_enter Tryz.func39,Tryz.ntmps39
   go_wp2
   go_ret
   exact⟨rfl,rfl⟩
  ·clear H
   go_enter Tryz.func39,Tryz.ntmps39
   go_wp2
   go_ret
   exact⟨rfl,rfl⟩
 ·obtain⟨h1,h2⟩:=(zu hb).1 rfl
  clear hb
  go_enter Tryz.func39,Tryz.ntmps39
  go_wp2
  go_ret
  exact⟨rfl,rfl⟩
theorem sNo(x:Int)(b:Bool)(w:World)(hb:Tells b x 1 1000):
  Calls Tryz.prog 124 #[.int .i64 x] w fun e w'=>e= .returned (.bool b)∧w'=w:=by
 go_enter Tryz.func124,Tryz.ntmps124
 go_wp2_with fail
 refine(sIn x 1 1000 b _ hb).mono ?_
 rintro e w' ⟨rfl,rfl⟩
 go_wp2
 go_ret
 exact⟨rfl,rfl⟩
theorem drewN_more{w wr:World}(h:∃q,wr=w.drewN q)(m:Nat):∃q,wr.drewN m=w.drewN q:=by
 obtain⟨q,rfl⟩:=h
 exact⟨q+m,World.drewN_drewN ..⟩
theorem sOk(w:World)(g n cap:Nat)(ps:List (Int×Int))(ok:Bool)(hl:ps.length=n)(h20:n≤1048576)(h:At w g ps)(hok:Says ok 8 2 ps):
  Calls Tryz.prog 87 #[.slice (some ⟨g,0,none⟩) n cap] w fun e w'=>e= .returned (.bool ok)∧∃q,w'=w.drewN q:=by
 by_cases nn:(8:Int)<(n:Int)
 ·obtain rfl:ok=false:=hok.not (fun r=>by have:=r.1;omega)
  clear hok h
  go_enter Tryz.func87,Tryz.ntmps87
  go_wp2
  go_ret
  exact⟨rfl,0,rfl⟩
 go_enter Tryz.func87,Tryz.ntmps87
 go_wp2
 go_loopw [3] (fun i wr=>∃(k:Nat),k≤n∧i= .int .i64 k∧At wr g ps∧Hid (∃q,wr=w.drewN q)∧Hid (∀i,i<k→RowOk 2 ps i)) (fun i _=>n-(intOf i).toNat)
 case atStart=>exact⟨0,by omega,rfl,h,zh ⟨0,rfl⟩,zh (fun i hi=>absurd hi (by omega))⟩
 case round=>
  clear h
  obtain⟨k,hk,rfl,h,HQ,HG⟩:=hrel
  by_cases t:k<n
  ·obtain⟨e1,e2⟩:=h k (by omega)
   have e3:0<k→wr.cell? ⟨g,(k-1)*2,none⟩=some (.int .i64 (el ps (k-1)).1):=fun k0=>(h (k-1) (by omega)).1
   obtain⟨b1,B1⟩:=tells_of (el ps k).1 1 1000
   obtain⟨b2,B2⟩:=tells_of (el ps k).2 1 2
   have ROW:=zh (show RowOk 2 ps k↔(b1=true)∧(b2=true)∧(0<k→(el ps (k-1)).1<(el ps k).1) from by unfold Tells at B1 B2;rw[B1,B2];exact Iff.rfl)
   have HA:=zh h
   clear h
   have BAD:=zh (show ¬RowOk 2 ps k→ok=false from fun hr=>hok.not (fun r=>hr (r.2 k (by omega))))
   have GOOD:=zh (show RowOk 2 ps k→∀i,i<k+1→RowOk 2 ps i from fun hr i hi=>by
    by_cases e:i=k
    ·subst e;exact hr
    ·exact(zu HG) i (by omega))
   generalize (el ps k).1=x at *
   generalize (el ps k).2=y at *
   cases b1
   ·have OKF:=zh ((zu BAD) (fun hr=>by have:=((zu ROW).1 hr).1;cases this))
    clear BAD GOOD ROW e3
    go_wp2_with fail
    go_quiet (first|(go_at_call 124;refine Calls.quiet_of_same (sNo _ false _ B1)))
    go_wp2
    go_ret
    exact⟨by rw[zu OKF];rfl,drewN_more (zu HQ) _⟩
   ·cases b2
    ·have OKF:=zh ((zu BAD) (fun hr=>by have:=((zu ROW).1 hr).2.1;cases this))
     clear BAD GOOD ROW e3
     go_wp2_with fail
     go_quiet (first|(go_at_call 124;refine Calls.quiet_of_same (sNo _ true _ B1))|(go_at_call 39;refine Calls.quiet_of_same (sIn _ _ _ false _ B2)))
     go_wp2
     go_ret
     exact⟨by rw[zu OKF];rfl,drewN_more (zu HQ) _⟩
    ·by_cases k0:0<k
     ·have e3:=e3 k0
      have k1:(0:Int)<(k:Int):=by omega
      have k2:(0:Int)≤(k:Int) -1:=by omega
      have k3:((k:Int) -1).toNat=k-1:=by omega
      by_cases lt:(el ps (k-1)).1<x
      ·have GO:=zh ((zu GOOD) ((zu ROW).2 ⟨rfl,rfl,fun _=>lt⟩))
       clear BAD GOOD ROW
       have ge:¬x≤(el ps (k-1)).1:=by omega
       generalize (el ps (k-1)).1=z at *
       go_wp2_with fail
       go_quiet (first|(go_at_call 124;refine Calls.quiet_of_same (sNo _ true _ B1))|(go_at_call 39;refine Calls.quiet_of_same (sIn _ _ _ true _ B2)))
       go_wp2
       go_roundw
       case rel=>exact⟨k+1,by omega,by go_num,zu HA,zh (drewN_more (zu HQ) _),GO⟩
       case measure=>simp[intOf];omega
      ·have OKF:=zh ((zu BAD) (fun hr=>lt (((zu ROW).1 hr).2.2 k0)))
       clear BAD GOOD ROW
       have ge:x≤(el ps (k-1)).1:=by omega
       generalize (el ps (k-1)).1=z at *
       go_wp2_with fail
       go_quiet (first|(go_at_call 124;refine Calls.quiet_of_same (sNo _ true _ B1))|(go_at_call 39;refine Calls.quiet_of_same (sIn _ _ _ true _ B2)))
       go_wp2
       go_ret
       exact⟨by rw[zu OKF];rfl,drewN_more (zu HQ) _⟩
     ·obtain rfl:k=0:=by omega
      have GO:=zh ((zu GOOD) ((zu ROW).2 ⟨rfl,rfl,fun h0=>absurd h0 k0⟩))
      clear BAD GOOD ROW e3
      go_wp2_with fail
      go_quiet (first|(go_at_call 124;refine Calls.quiet_of_same (sNo _ true _ B1))|(go_at_call 39;refine Calls.quiet_of_same (sIn _ _ _ true _ B2)))
      go_wp2
      go_roundw
      case rel=>exact⟨1,by omega,by go_num,zu HA,zh (drewN_more (zu HQ) _),GO⟩
      case measure=>simp[intOf];omega
  ·obtain rfl:k=n:=by omega
   obtain rfl:ok=true:=hok.of ⟨by omega,by rw[hl];exact zu HG⟩
   clear h hok
   go_wp2
   go_ret
   exact⟨rfl,zu HQ⟩
theorem sKind(w:World)(g n cap:Nat)(ps:List (Int×Int))(no:Int)(hl:ps.length=n)(h20:n≤1048576)(h:At w g ps):
  Calls Tryz.prog 94 #[.slice (some ⟨g,0,none⟩) n cap,.int .i64 no] w fun e w'=>∃r,IsKind 8 2 ps no r∧e= .returned (.int .i64 r)∧∃q,w'=w.drewN q:=by
 obtain⟨ok,OK⟩:=says_of 8 2 ps
 go_enter Tryz.func94,Tryz.ntmps94
 go_wp2
 go_loopw [5] (fun i wr=>∃(k:Nat),k≤n∧i= .int .i64 k∧At wr g ps∧Hid (∃q,wr=w.drewN q)∧Hid (∀i,i<k→(el ps i).1≠no)) (fun i _=>n-(intOf i).toNat)
 case atStart=>exact⟨0,by omega,rfl,h,zh ⟨0,rfl⟩,zh (fun i hi=>absurd hi (by omega))⟩
 case round=>
  clear h
  obtain⟨k,hk,rfl,h,HQ,HG⟩:=hrel
  by_cases t:k<n
  ·obtain⟨e1,e2⟩:=h k (by omega)
   have HA:=zh h
   clear h
   have GO:=zh (show(el ps k).1≠no→∀i,i<k+1→(el ps i).1≠no from fun hn i hi=>by
    by_cases e:i=k
    ·subst e;exact hn
    ·exact(zu HG) i (by omega))
   have YES:=zh (show ok=true→(el ps k).1=no→IsKind 8 2 ps no (el ps k).2 from fun ho he=> .inl ⟨OK.1 ho,k,by omega,he,rfl⟩)
   generalize (el ps k).1=x at *
   generalize (el ps k).2=y at *
   cases ok
   ·go_wp2_with fail
    refine(sOk _ _ _ _ ps false hl h20 (zu HA) OK).mono ?_
    rintro e w2 ⟨rfl,nq,rfl⟩
    go_wp2
    go_ret
    exact⟨0,.inr ⟨.inl OK.no,rfl⟩,rfl,drewN_more (zu HQ) _⟩
   ·go_wp2_with fail
    refine(sOk _ _ _ _ ps true hl h20 (zu HA) OK).mono ?_
    rintro e w2 ⟨rfl,nq,rfl⟩
    by_cases eq:x=no
    ·have Y:=zh ((zu YES) (by trivial) eq)
     clear YES GO
     subst eq
     go_wp2
     go_ret
     exact⟨y,zu Y,rfl,drewN_more (zu HQ) _⟩
    ·have eqb:(x==no)=false:=by simpa using eq
     have G:=zh ((zu GO) eq)
     clear YES GO
     go_wp2
     go_roundw
     case rel=>exact⟨k+1,by omega,by go_num,zu HA,zh (drewN_more (zu HQ) _),G⟩
     case measure=>simp[intOf];omega
  ·obtain rfl:k=n:=by omega
   have K0:=zh (show IsKind 8 2 ps no 0 from .inr ⟨.inr (fun i hi=>(zu HG) i (by omega)),rfl⟩)
   clear h
   go_wp2
   go_ret
   exact⟨0,zu K0,rfl,zu HQ⟩
end InstrSOk
namespace Bx16
def Bx7(w:World)(base g:Nat)(v0 v1 v2 v3 v4 v5 v6:Value):Prop:=w.ownsRow base 59 7 (.slice (some ⟨g,0,none⟩) 1 1) 1 [v0,v1,v2,v3,v4,v5,v6]
theorem Bx7.made{w:World}{base g:Nat}(v0 v1 v2 v3 v4 v5 v6:Value)(hb:base≤w.heap.size)(hg:g=w.heap.size):Bx7 (w.alloc (.cells #[v0,v1,v2,v3,v4,v5,v6] 59)) base g v0 v1 v2 v3 v4 v5 v6:=by
 subst hg
 exact⟨rfl,.inr ⟨w.heap.size,1,#[v0,v1,v2,v3,v4,v5,v6],rfl,hb,heap_alloc_new w _,Nat.le_refl _,by unfold maxLen;omega,rfl,rfl⟩⟩
section
variable {w w':World} {base g:Nat} {v0 v1 v2 v3 v4 v5 v6:Value}
theorem Bx7.lt(h:Bx7 w base g v0 v1 v2 v3 v4 v5 v6):base≤g∧g<w.heap.size:=World.ownsRow.lt h g rfl
theorem Bx7.free(h:Bx7 w base g v0 v1 v2 v3 v4 v5 v6)(i:Nat):w.frozen? ⟨g,i,none⟩=false:=World.ownsRow.frozenAt h i
theorem Bx7.c0(h:Bx7 w base g v0 v1 v2 v3 v4 v5 v6):w.cell? ⟨g,0,none⟩=some v0:=(World.ownsRow.cellAt h 0 (by omega)).trans rfl
theorem Bx7.c1(h:Bx7 w base g v0 v1 v2 v3 v4 v5 v6):w.cell? ⟨g,1,none⟩=some v1:=(World.ownsRow.cellAt h 1 (by omega)).trans rfl
theorem Bx7.c2(h:Bx7 w base g v0 v1 v2 v3 v4 v5 v6):w.cell? ⟨g,2,none⟩=some v2:=(World.ownsRow.cellAt h 2 (by omega)).trans rfl
theorem Bx7.c3(h:Bx7 w base g v0 v1 v2 v3 v4 v5 v6):w.cell? ⟨g,3,none⟩=some v3:=(World.ownsRow.cellAt h 3 (by omega)).trans rfl
theorem Bx7.c4(h:Bx7 w base g v0 v1 v2 v3 v4 v5 v6):w.cell? ⟨g,4,none⟩=some v4:=(World.ownsRow.cellAt h 4 (by omega)).trans rfl
theorem Bx7.c5(h:Bx7 w base g v0 v1 v2 v3 v4 v5 v6):w.cell? ⟨g,5,none⟩=some v5:=(World.ownsRow.cellAt h 5 (by omega)).trans rfl
theorem Bx7.c6(h:Bx7 w base g v0 v1 v2 v3 v4 v5 v6):w.cell? ⟨g,6,none⟩=some v6:=(World.ownsRow.cellAt h 6 (by omega)).trans rfl
theorem Bx7.set0(h:Bx7 w base g v0 v1 v2 v3 v4 v5 v6)(u:Value):Bx7 (w.setCell ⟨g,0,none⟩ u) base g u v1 v2 v3 v4 v5 v6∧w.grownBy (w.setCell ⟨g,0,none⟩ u) (some g):=World.ownsRow.stored h 0 u
theorem Bx7.set1(h:Bx7 w base g v0 v1 v2 v3 v4 v5 v6)(u:Value):Bx7 (w.setCell ⟨g,1,none⟩ u) base g v0 u v2 v3 v4 v5 v6∧w.grownBy (w.setCell ⟨g,1,none⟩ u) (some g):=World.ownsRow.stored h 1 u
theorem Bx7.set2(h:Bx7 w base g v0 v1 v2 v3 v4 v5 v6)(u:Value):Bx7 (w.setCell ⟨g,2,none⟩ u) base g v0 v1 u v3 v4 v5 v6∧w.grownBy (w.setCell ⟨g,2,none⟩ u) (some g):=World.ownsRow.stored h 2 u
theorem Bx7.set3(h:Bx7 w base g v0 v1 v2 v3 v4 v5 v6)(u:Value):Bx7 (w.setCell ⟨g,3,none⟩ u) base g v0 v1 v2 u v4 v5 v6∧w.grownBy (w.setCell ⟨g,3,none⟩ u) (some g):=World.ownsRow.stored h 3 u
theorem Bx7.set4(h:Bx7 w base g v0 v1 v2 v3 v4 v5 v6)(u:Value):Bx7 (w.setCell ⟨g,4,none⟩ u) base g v0 v1 v2 v3 u v5 v6∧w.grownBy (w.setCell ⟨g,4,none⟩ u) (some g):=World.ownsRow.stored h 4 u
theorem Bx7.set5(h:Bx7 w base g v0 v1 v2 v3 v4 v5 v6)(u:Value):Bx7 (w.setCell ⟨g,5,none⟩ u) base g v0 v1 v2 v3 v4 u v6∧w.grownBy (w.setCell ⟨g,5,none⟩ u) (some g):=World.ownsRow.stored h 5 u
theorem Bx7.set6(h:Bx7 w base g v0 v1 v2 v3 v4 v5 v6)(u:Value):Bx7 (w.setCell ⟨g,6,none⟩ u) base g v0 v1 v2 v3 v4 v5 u∧w.grownBy (w.setCell ⟨g,6,none⟩ u) (some g):=World.ownsRow.stored h 6 u
theorem Bx7.below{B:Nat}(h:Bx7 w base g v0 v1 v2 v3 v4 v5 v6)(k:Below B w w')(hg:g<B):Bx7 w' base g v0 v1 v2 v3 v4 v5 v6:=by
 refine⟨h.1,?_⟩
 rcases h.2 with⟨h1,_⟩|⟨g',c,cur,h1,h2,h3,h4⟩
 ·simp at h1
 ·have e:g=g':=by simp at h1;exact h1.1
  subst e
  exact .inr ⟨g,c,cur,h1,h2,(k.block g hg).trans h3,h4⟩
theorem Bx7.kept{row:Option Nat}(h:Bx7 w base g v0 v1 v2 v3 v4 v5 v6)(k:w.grownBy w' row)(hne:some g≠row):Bx7 w' base g v0 v1 v2 v3 v4 v5 v6:=World.ownsRow.kept h k (Or.inr hne)
end
theorem grow_grow{w w1 w2:World}{row:Option Nat}(h:w.grownBy w1 row)(k:w1.grownBy w2 row):w.grownBy w2 row:=
 ⟨k.os.trans h.os,k.tape.trans h.tape,k.output.trans h.output,Nat.le_trans h.size k.size,fun i hi hr=>(k.block i (Nat.lt_of_lt_of_le hi h.size) hr).trans (h.block i hi hr)⟩
theorem grow_low{B:Nat}{w W W':World}{G:Nat}(h:Below B w W)(k:W.grownBy W' (some G))(hB:B≤G∧B≤W.heap.size):Below B w W':=
 ⟨k.os.trans h.os,k.tape.trans h.tape,k.output.trans h.output,Nat.le_trans h.size k.size,fun i hi=>(k.block i (by omega) (by simp;omega)).trans (h.block i hi)⟩
end Bx16
end Go.Proofs.YtppkkmaoaiopaaaGreat
