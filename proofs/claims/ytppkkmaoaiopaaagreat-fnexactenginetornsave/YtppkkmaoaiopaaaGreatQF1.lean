/- Lemmas. -/
import Derived.Test.YtppkkmaoaiopaaaGreatQF0
import Derived.WalkKit
import Derived.ProofKit
import Derived.OpenShut
import Derived.BigQuiet
import Derived.Lib.ConvBytes
open Go.ChangeShapes Go.WideShapes Go.ChangeAt Go.RowKit
set_option linter.unusedVariables false
set_option linter.unusedSimpArgs false
set_option maxRecDepth 100000
set_option maxHeartbeats 32000000
namespace Go.Proofs.YtppkkmaoaiopaaaGreat
namespace Fil14
abbrev TF:Type:=Int×ByteArray×ByteArray
abbrev elF(ps:List TF)(i:Nat):TF:=ps.getD i (0,ByteArray.empty,ByteArray.empty)
theorem zh{p:Prop}(h:p):Hid p:=h
theorem zu{p:Prop}(h:Hid p):p:=h
def flatF(ps:List TF):List Value:=ps.flatMap fun p=>[.int .i64 p.1,.string p.2.1,.string p.2.2]
theorem flatF_cons(p:TF)(ps:List TF):flatF (p::ps)= .int .i64 p.1:: .string p.2.1:: .string p.2.2::flatF ps:=rfl
theorem flatF_append(ps qs:List TF):flatF (ps++qs)=flatF ps++flatF qs:=by simp[flatF,List.flatMap_append]
theorem flatF_len(ps:List TF):(flatF ps).length=ps.length*3:=by
 induction ps with
 |nil=>rfl
 |cons p ps ih=>rw[flatF_cons];simp[ih];omega
theorem flatF_get(ps:List TF):∀i,i<ps.length→(flatF ps)[i*3]?=some (.int .i64 (elF ps i).1)∧(flatF ps)[i*3+1]?=some (.string (elF ps i).2.1)∧(flatF ps)[i*3+2]?=some (.string (elF ps i).2.2):=by
 induction ps with
 |nil=>intro i h;simp at h
 |cons p ps ih=>
  intro i h
  cases i with
  |zero=>rw[flatF_cons];simp
  |succ i=>
   have:=ih i (by simpa using h)
   rw[flatF_cons,show(i+1)*3=i*3+3 by omega,show i*3+3+1=(i*3+1)+3 by omega,show i*3+3+2=(i*3+2)+3 by omega]
   simpa using this
theorem flatF_one(u:Value)(ps:List TF)(h:u∈flatF ps):u.oneCell'=true:=by
 induction ps with
 |nil=>simp[flatF] at h
 |cons p ps ih=>
  rw[flatF_cons] at h
  simp only[List.mem_cons] at h
  rcases h with rfl|rfl|rfl|h
  ·rfl
  ·rfl
  ·rfl
  ·exact ih h
theorem flatF_set0(ps:List TF):∀(i:Nat) (x:Int),(flatF ps).set (i*3) (.int .i64 x)=flatF (ps.modify i fun p=>(x,p.2)):=by
 induction ps with
 |nil=>intro i x;simp[flatF]
 |cons p ps ih=>
  intro i x
  cases i with
  |zero=>simp[flatF_cons]
  |succ i=>rw[flatF_cons,show(i+1)*3=i*3+1+1+1 by omega,List.set_cons_succ,List.set_cons_succ,List.set_cons_succ,ih i x,List.modify_succ_cons,flatF_cons]
theorem flatF_set(ps:List TF):∀(i:Nat) (x:ByteArray),(flatF ps).set (i*3+1) (.string x)=flatF (ps.modify i fun p=>(p.1,x,p.2.2))∧(flatF ps).set (i*3+2) (.string x)=flatF (ps.modify i fun p=>(p.1,p.2.1,x)):=by
 induction ps with
 |nil=>intro i x;simp[flatF]
 |cons p ps ih=>
  intro i x
  cases i with
  |zero=>simp[flatF_cons]
  |succ i=>
   obtain⟨b,c⟩:=ih i x
   refine⟨?_,?_⟩
   ·rw[flatF_cons,show(i+1)*3+1=i*3+1+1+1+1 by omega,List.set_cons_succ,List.set_cons_succ,List.set_cons_succ,b,List.modify_succ_cons,flatF_cons]
   ·rw[flatF_cons,show(i+1)*3+2=i*3+2+1+1+1 by omega,List.set_cons_succ,List.set_cons_succ,List.set_cons_succ,c,List.modify_succ_cons,flatF_cons]
def HoldsF(w:World)(g o:Nat)(p:TF):Prop:=w.cell? ⟨g,o,none⟩=some (.int .i64 p.1)∧w.cell? ⟨g,o+1,none⟩=some (.string p.2.1)∧w.cell? ⟨g,o+2,none⟩=some (.string p.2.2)
def AtF(w:World)(g:Nat)(ps:List TF):Prop:=∀i,i<ps.length→HoldsF w g (i*3) (elF ps i)
def ReadsF(w:World)(a:Option Addr)(ps:List TF):Prop:=ps.length=0∨∃b off,a=some ⟨b,off,none⟩∧b<w.heap.size∧∀i,i<ps.length→HoldsF w b (off+i*3) (elF ps i)
def OwnF(e:TypeId)(w:World)(base g n cap:Nat)(ps:List TF):Prop:=w.ownsRow base e 3 (.slice (some ⟨g,0,none⟩) n cap) n (flatF ps)
section
variable {e:TypeId} {w w':World} {base base' g n cap:Nat} {ps:List TF}
theorem HoldsF.below{B o:Nat}{p:TF}(h:HoldsF w g o p)(k:Below B w w')(hg:g<B):HoldsF w' g o p:=
 ⟨(k.cell (p:=⟨g,o,none⟩) hg).trans h.1,(k.cell (p:=⟨g,o+1,none⟩) hg).trans h.2.1,(k.cell (p:=⟨g,o+2,none⟩) hg).trans h.2.2⟩
theorem OwnF.len(h:OwnF e w base g n cap ps):ps.length=n:=by
 have:=h.1
 rw[flatF_len] at this
 omega
theorem OwnF.lt(h:OwnF e w base g n cap ps):base≤g∧g<w.heap.size:=World.ownsRow.lt h g rfl
theorem OwnF.at(h:OwnF e w base g n cap ps):AtF w g ps:=by
 intro i hi
 have hl:=h.len
 obtain⟨f0,f1,f2⟩:=flatF_get ps i hi
 exact⟨(World.ownsRow.cellAt h (i*3) (by omega)).trans f0,(World.ownsRow.cellAt h (i*3+1) (by omega)).trans f1,(World.ownsRow.cellAt h (i*3+2) (by omega)).trans f2⟩
theorem OwnF.free(h:OwnF e w base g n cap ps)(i:Nat):w.frozen? ⟨g,i,none⟩=false:=World.ownsRow.frozenAt h i
theorem OwnF.rebase(h:OwnF e w base g n cap ps)(hb:base'≤g):OwnF e w base' g n cap ps:=by
 refine⟨h.1,?_⟩
 rcases h.2 with⟨h1,_⟩|⟨g',c,cur,h1,h2,h3⟩
 ·simp at h1
 ·obtain⟨e,_⟩:g=g'∧cap=c:=by simpa using h1
  subst e
  exact Or.inr ⟨g,c,cur,h1,hb,h3⟩
theorem OwnF.below{B:Nat}(h:OwnF e w base g n cap ps)(k:Below B w w')(hg:g<B):OwnF e w' base g n cap ps:=by
 refine⟨h.1,?_⟩
 rcases h.2 with⟨h1,_⟩|⟨g',c,cur,h1,h2,h3,h4⟩
 ·simp at h1
 ·obtain⟨e,_⟩:g=g'∧cap=c:=by simpa using h1
  subst e
  exact Or.inr ⟨g,c,cur,h1,h2,by rw[k.block g hg];exact h3,h4⟩
theorem AtF.below{B:Nat}(h:AtF w g ps)(k:Below B w w')(hg:g<B):AtF w' g ps:=fun i hi=>(h i hi).below k hg
theorem ReadsF.below{a:Option Addr}(h:ReadsF w a ps)(k:Below w.heap.size w w'):ReadsF w' a ps:=by
 rcases h with h|⟨b,off,rfl,hb,hc⟩
 ·exact Or.inl h
 ·exact Or.inr ⟨b,off,rfl,Nat.lt_of_lt_of_le hb k.size,fun i hi=>(hc i hi).below k hb⟩
theorem OwnF.set0(h:OwnF e w base g n cap ps)(i:Nat)(x:Int):
  OwnF e (w.setCell ⟨g,i*3,none⟩ (.int .i64 x)) base g n cap (ps.modify i fun p=>(x,p.2))∧w.grownBy (w.setCell ⟨g,i*3,none⟩ (.int .i64 x)) (some g):=by
 have:=World.ownsRow.stored h (i*3) (.int .i64 x)
 refine⟨?_,this.2⟩
 unfold OwnF
 rw[←flatF_set0 ps i x]
 exact this.1
theorem OwnF.set1(h:OwnF e w base g n cap ps)(i:Nat)(x:ByteArray):
  OwnF e (w.setCell ⟨g,i*3+1,none⟩ (.string x)) base g n cap (ps.modify i fun p=>(p.1,x,p.2.2))∧w.grownBy (w.setCell ⟨g,i*3+1,none⟩ (.string x)) (some g):=by
 have:=World.ownsRow.stored h (i*3+1) (.string x)
 refine⟨?_,this.2⟩
 unfold OwnF
 rw[←(flatF_set ps i x).1]
 exact this.1
theorem OwnF.set2(h:OwnF e w base g n cap ps)(i:Nat)(x:ByteArray):
  OwnF e (w.setCell ⟨g,i*3+2,none⟩ (.string x)) base g n cap (ps.modify i fun p=>(p.1,p.2.1,x))∧w.grownBy (w.setCell ⟨g,i*3+2,none⟩ (.string x)) (some g):=by
 have:=World.ownsRow.stored h (i*3+2) (.string x)
 refine⟨?_,this.2⟩
 unfold OwnF
 rw[←(flatF_set ps i x).2]
 exact this.1
end
theorem grownBy_below{w w':World}(h:w.grownBy w' none):Below w.heap.size w w':=⟨h.os,h.tape,h.output,h.size,fun k hk=>h.block k hk (by simp)⟩
theorem next{a b c:World}(h:Below a.heap.size a b)(k:Below b.heap.size b c):Below a.heap.size a c:=h.trans (k.mono h.size)
theorem litF0(e:TypeId)(w:World)(base:Nat)(hb:base≤w.heap.size):OwnF e (w.alloc (.cells #[] e)) base w.heap.size 0 0 []:=World.ownsRow_lit w #[] 0 hb (by decide) rfl
theorem litF1(e:TypeId)(w:World)(base:Nat)(x:Int)(y z:ByteArray)(hb:base≤w.heap.size):OwnF e (w.alloc (.cells #[.int .i64 x,.string y,.string z] e)) base w.heap.size 1 1 [(x,y,z)]:=World.ownsRow_lit w #[.int .i64 x,.string y,.string z] 1 hb (by decide) rfl
theorem AtF.cells{w:World}{g:Nat}{ps:List TF}(h:AtF w g ps):∀(j:Nat) (u:Value),(flatF ps)[j]?=some u→w.cell? ((⟨g,0,none⟩:Addr).add j)=some u:=by
 intro j u hj
 have hl:j<ps.length*3:=by
  have:=(List.getElem?_eq_some_iff.1 hj).1
  rw[flatF_len] at this
  exact this
 rw[Addr.add_lit,Nat.zero_add]
 obtain⟨c0,c1,c2⟩:=h (j/3) (by omega)
 obtain⟨f0,f1,f2⟩:=flatF_get ps (j/3) (by omega)
 rcases(show j%3=0∨j%3=1∨j%3=2 by omega) with e|e|e
 ·rw[show j/3*3=j by omega] at c0 f0
  rw[c0,←hj,f0]
 ·rw[show j/3*3+1=j by omega] at c1 f1
  rw[c1,←hj,f1]
 ·rw[show j/3*3+2=j by omega] at c2 f2
  rw[c2,←hj,f2]
theorem grown_trans{a b c:World}{row:Option Nat}(h:a.grownBy b row)(k:b.grownBy c row):a.grownBy c row:=
 ⟨k.os.trans h.os,k.tape.trans h.tape,k.output.trans h.output,Nat.le_trans h.size k.size,fun j hj hne=>(k.block j (Nat.lt_of_lt_of_le hj h.size) hne).trans (h.block j hj hne)⟩
end Fil14
namespace Pairs
theorem zh{p:Prop}(h:p):Hid p:=h
theorem zu{p:Prop}(h:Hid p):p:=h
def flat(ps:List (Int×Int)):List Value:=ps.flatMap fun p=>[.int .i64 p.1,.int .i64 p.2]
theorem flat_cons(p:Int×Int)(ps:List (Int×Int)):flat (p::ps)= .int .i64 p.1:: .int .i64 p.2::flat ps:=rfl
theorem flat_len(ps:List (Int×Int)):(flat ps).length=ps.length*2:=by
 induction ps with
 |nil=>rfl
 |cons p ps ih=>rw[flat_cons];simp[ih];omega
theorem flat_get(ps:List (Int×Int)):∀i,i<ps.length→(flat ps)[i*2]?=some (.int .i64 (ps.getD i (0,0)).1)∧(flat ps)[i*2+1]?=some (.int .i64 (ps.getD i (0,0)).2):=by
 induction ps with
 |nil=>intro i h;simp at h
 |cons p ps ih=>
  intro i h
  cases i with
  |zero=>rw[flat_cons];simp
  |succ i=>
   have:=ih i (by simpa using h)
   rw[flat_cons,show(i+1)*2=i*2+2 by omega,show i*2+2+1=(i*2+1)+2 by omega]
   simpa using this
theorem flat_one(u:Value)(ps:List (Int×Int))(h:u∈flat ps):u.oneCell'=true:=by
 induction ps with
 |nil=>simp[flat] at h
 |cons p ps ih=>
  rw[flat_cons] at h
  simp only[List.mem_cons] at h
  rcases h with rfl|rfl|h
  ·rfl
  ·rfl
  ·exact ih h
theorem flat_set0(ps:List (Int×Int)):∀(i:Nat) (x:Int),(flat ps).set (i*2) (.int .i64 x)=flat (ps.modify i fun p=>(x,p.2)):=by
 induction ps with
 |nil=>intro i x;simp[flat]
 |cons p ps ih=>
  intro i x
  cases i with
  |zero=>simp[flat_cons]
  |succ i=>
   rw[flat_cons,show(i+1)*2=i*2+1+1 by omega,List.set_cons_succ,List.set_cons_succ,ih i x,List.modify_succ_cons,flat_cons]
theorem flat_set1(ps:List (Int×Int)):∀(i:Nat) (x:Int),(flat ps).set (i*2+1) (.int .i64 x)=flat (ps.modify i fun p=>(p.1,x)):=by
 induction ps with
 |nil=>intro i x;simp[flat]
 |cons p ps ih=>
  intro i x
  cases i with
  |zero=>simp[flat_cons]
  |succ i=>
   rw[flat_cons,show(i+1)*2+1=i*2+1+1+1 by omega,List.set_cons_succ,List.set_cons_succ,ih i x,List.modify_succ_cons,flat_cons]
def At(w:World)(g:Nat)(ps:List (Int×Int)):Prop:=
 ∀i,i<ps.length→w.cell? ⟨g,i*2,none⟩=some (.int .i64 (ps.getD i (0,0)).1)∧w.cell? ⟨g,i*2+1,none⟩=some (.int .i64 (ps.getD i (0,0)).2)
def Reads(w:World)(a:Option Addr)(ps:List (Int×Int)):Prop:=
 ps.length=0∨∃b off,a=some ⟨b,off,none⟩∧b<w.heap.size∧∀i,i<ps.length→w.cell? ⟨b,off+i*2,none⟩=some (.int .i64 (ps.getD i (0,0)).1)∧w.cell? ⟨b,off+i*2+1,none⟩=some (.int .i64 (ps.getD i (0,0)).2)
def Own(e:TypeId)(w:World)(base g n cap:Nat)(ps:List (Int×Int)):Prop:=w.ownsRow base e 2 (.slice (some ⟨g,0,none⟩) n cap) n (flat ps)
section
variable {e:TypeId} {w w':World} {base base' g n cap:Nat} {ps:List (Int×Int)}
theorem Own.len(h:Own e w base g n cap ps):ps.length=n:=by
 have:=h.1
 rw[flat_len] at this
 omega
theorem Own.lt(h:Own e w base g n cap ps):base≤g∧g<w.heap.size:=World.ownsRow.lt h g rfl
theorem Own.at(h:Own e w base g n cap ps):At w g ps:=by
 intro i hi
 have hl:=h.len
 have g0:=World.ownsRow.cellAt h (i*2) (by omega)
 have g1:=World.ownsRow.cellAt h (i*2+1) (by omega)
 obtain⟨f0,f1⟩:=flat_get ps i hi
 exact⟨g0.trans f0,g1.trans f1⟩
theorem Own.free(h:Own e w base g n cap ps)(i:Nat):w.frozen? ⟨g,i,none⟩=false:=World.ownsRow.frozenAt h i
theorem Own.rebase(h:Own e w base g n cap ps)(hb:base'≤g):Own e w base' g n cap ps:=by
 refine⟨h.1,?_⟩
 rcases h.2 with⟨h1,_⟩|⟨g',c,cur,h1,h2,h3⟩
 ·simp at h1
 ·obtain⟨e,_⟩:g=g'∧cap=c:=by simpa using h1
  subst e
  exact Or.inr ⟨g,c,cur,h1,hb,h3⟩
theorem Own.kept{row:Option Nat}(h:Own e w base g n cap ps)(k:w.grownBy w' row)(hne:some g≠row):Own e w' base g n cap ps:=
 World.ownsRow.kept h k (Or.inr hne)
theorem Own.below{B:Nat}(h:Own e w base g n cap ps)(k:Below B w w')(hg:g<B):Own e w' base g n cap ps:=by
 refine⟨h.1,?_⟩
 rcases h.2 with⟨h1,_⟩|⟨g',c,cur,h1,h2,h3,h4⟩
 ·simp at h1
 ·obtain⟨e,_⟩:g=g'∧cap=c:=by simpa using h1
  subst e
  exact Or.inr ⟨g,c,cur,h1,h2,by rw[k.block g hg];exact h3,h4⟩
theorem At.below{B:Nat}(h:At w g ps)(k:Below B w w')(hg:g<B):At w' g ps:=fun i hi=>
 ⟨(k.cell (p:=⟨g,i*2,none⟩) hg).trans (h i hi).1,(k.cell (p:=⟨g,i*2+1,none⟩) hg).trans (h i hi).2⟩
theorem Reads.below{a:Option Addr}(h:Reads w a ps)(k:Below w.heap.size w w'):Reads w' a ps:=by
 rcases h with h|⟨b,off,rfl,hb,hc⟩
 ·exact Or.inl h
 ·exact Or.inr ⟨b,off,rfl,Nat.lt_of_lt_of_le hb k.size,fun i hi=>⟨(k.cell (p:=⟨b,off+i*2,none⟩) hb).trans (hc i hi).1,(k.cell (p:=⟨b,off+i*2+1,none⟩) hb).trans (hc i hi).2⟩⟩
theorem Own.set0(h:Own e w base g n cap ps)(i:Nat)(x:Int):
  Own e (w.setCell ⟨g,i*2,none⟩ (.int .i64 x)) base g n cap (ps.modify i fun p=>(x,p.2))∧w.grownBy (w.setCell ⟨g,i*2,none⟩ (.int .i64 x)) (some g):=by
 have:=World.ownsRow.stored h (i*2) (.int .i64 x)
 refine⟨?_,this.2⟩
 unfold Own
 rw[←flat_set0]
 exact this.1
theorem Own.set1(h:Own e w base g n cap ps)(i:Nat)(x:Int):
  Own e (w.setCell ⟨g,i*2+1,none⟩ (.int .i64 x)) base g n cap (ps.modify i fun p=>(p.1,x))∧w.grownBy (w.setCell ⟨g,i*2+1,none⟩ (.int .i64 x)) (some g):=by
 have:=World.ownsRow.stored h (i*2+1) (.int .i64 x)
 refine⟨?_,this.2⟩
 unfold Own
 rw[←flat_set1]
 exact this.1
end
theorem grownBy_below{w w':World}(h:w.grownBy w' none):Below w.heap.size w w':=⟨h.os,h.tape,h.output,h.size,fun k hk=>h.block k hk (by simp)⟩
theorem next{a b c:World}(h:Below a.heap.size a b)(k:Below b.heap.size b c):Below a.heap.size a c:=h.trans (k.mono h.size)
theorem grown_trans{a b c:World}{row:Option Nat}(h:a.grownBy b row)(k:b.grownBy c row):a.grownBy c row:=
 ⟨k.os.trans h.os,k.tape.trans h.tape,k.output.trans h.output,Nat.le_trans h.size k.size,fun j hj hne=>(k.block j (Nat.lt_of_lt_of_le hj h.size) hne).trans (h.block j hj hne)⟩
end Pairs
namespace Tup5
theorem zh{p:Prop}(h:p):Hid p:=h
theorem zu{p:Prop}(h:Hid p):p:=h
abbrev T5:Type:=Int×Int×Int×Int×Int
abbrev el5(ps:List T5)(i:Nat):T5:=ps.getD i (0,0,0,0,0)
def flat5(ps:List T5):List Value:=ps.flatMap fun p=>[.int .i64 p.1,.int .i64 p.2.1,.int .i64 p.2.2.1,.int .i64 p.2.2.2.1,.int .i64 p.2.2.2.2]
theorem flat5_cons(p:T5)(ps:List T5):flat5 (p::ps)= .int .i64 p.1:: .int .i64 p.2.1:: .int .i64 p.2.2.1:: .int .i64 p.2.2.2.1:: .int .i64 p.2.2.2.2::flat5 ps:=rfl
theorem flat5_append(ps qs:List T5):flat5 (ps++qs)=flat5 ps++flat5 qs:=by simp[flat5,List.flatMap_append]
theorem flat5_len(ps:List T5):(flat5 ps).length=ps.length*5:=by
 induction ps with
 |nil=>rfl
 |cons p ps ih=>rw[flat5_cons];simp[ih];omega
theorem flat5_get(ps:List T5):∀i,i<ps.length→(flat5 ps)[i*5]?=some (.int .i64 (el5 ps i).1)∧(flat5 ps)[i*5+1]?=some (.int .i64 (el5 ps i).2.1)∧(flat5 ps)[i*5+2]?=some (.int .i64 (el5 ps i).2.2.1)∧(flat5 ps)[i*5+3]?=some (.int .i64 (el5 ps i).2.2.2.1)∧(flat5 ps)[i*5+4]?=some (.int .i64 (el5 ps i).2.2.2.2):=by
 induction ps with
 |nil=>intro i h;simp at h
 |cons p ps ih=>
  intro i h
  cases i with
  |zero=>rw[flat5_cons];simp
  |succ i=>
   have:=ih i (by simpa using h)
   rw[flat5_cons,show(i+1)*5=i*5+5 by omega,show i*5+5+1=(i*5+1)+5 by omega,show i*5+5+2=(i*5+2)+5 by omega,show i*5+5+3=(i*5+3)+5 by omega,show i*5+5+4=(i*5+4)+5 by omega]
   simpa using this
theorem flat5_one(u:Value)(ps:List T5)(h:u∈flat5 ps):u.oneCell'=true:=by
 induction ps with
 |nil=>simp[flat5] at h
 |cons p ps ih=>
  rw[flat5_cons] at h
  simp only[List.mem_cons] at h
  rcases h with rfl|rfl|rfl|rfl|rfl|h
  ·rfl
  ·rfl
  ·rfl
  ·rfl
  ·rfl
  ·exact ih h
theorem flat5_set(ps:List T5):∀(i:Nat) (x:Int),(flat5 ps).set (i*5) (.int .i64 x)=flat5 (ps.modify i fun p=>(x,p.2.1,p.2.2.1,p.2.2.2.1,p.2.2.2.2))∧(flat5 ps).set (i*5+1) (.int .i64 x)=flat5 (ps.modify i fun p=>(p.1,x,p.2.2.1,p.2.2.2.1,p.2.2.2.2))∧(flat5 ps).set (i*5+2) (.int .i64 x)=flat5 (ps.modify i fun p=>(p.1,p.2.1,x,p.2.2.2.1,p.2.2.2.2))∧(flat5 ps).set (i*5+3) (.int .i64 x)=flat5 (ps.modify i fun p=>(p.1,p.2.1,p.2.2.1,x,p.2.2.2.2))∧(flat5 ps).set (i*5+4) (.int .i64 x)=flat5 (ps.modify i fun p=>(p.1,p.2.1,p.2.2.1,p.2.2.2.1,x)):=by
 induction ps with
 |nil=>intro i x;simp[flat5]
 |cons p ps ih=>
  intro i x
  cases i with
  |zero=>simp[flat5_cons]
  |succ i=>
   obtain⟨a0,a1,a2,a3,a4⟩:=ih i x
   refine⟨?_,?_,?_,?_,?_⟩
   ·rw[flat5_cons,show(i+1)*5=i*5+1+1+1+1+1 by omega,List.set_cons_succ,List.set_cons_succ,List.set_cons_succ,List.set_cons_succ,List.set_cons_succ,a0,List.modify_succ_cons,flat5_cons]
   ·rw[flat5_cons,show(i+1)*5+1=i*5+1+1+1+1+1+1 by omega,List.set_cons_succ,List.set_cons_succ,List.set_cons_succ,List.set_cons_succ,List.set_cons_succ,a1,List.modify_succ_cons,flat5_cons]
   ·rw[flat5_cons,show(i+1)*5+2=i*5+2+1+1+1+1+1 by omega,List.set_cons_succ,List.set_cons_succ,List.set_cons_succ,List.set_cons_succ,List.set_cons_succ,a2,List.modify_succ_cons,flat5_cons]
   ·rw[flat5_cons,show(i+1)*5+3=i*5+3+1+1+1+1+1 by omega,List.set_cons_succ,List.set_cons_succ,List.set_cons_succ,List.set_cons_succ,List.set_cons_succ,a3,List.modify_succ_cons,flat5_cons]
   ·rw[flat5_cons,show(i+1)*5+4=i*5+4+1+1+1+1+1 by omega,List.set_cons_succ,List.set_cons_succ,List.set_cons_succ,List.set_cons_succ,List.set_cons_succ,a4,List.modify_succ_cons,flat5_cons]
def Holds5(w:World)(g o:Nat)(p:T5):Prop:=w.cell? ⟨g,o,none⟩=some (.int .i64 p.1)∧w.cell? ⟨g,o+1,none⟩=some (.int .i64 p.2.1)∧w.cell? ⟨g,o+2,none⟩=some (.int .i64 p.2.2.1)∧w.cell? ⟨g,o+3,none⟩=some (.int .i64 p.2.2.2.1)∧w.cell? ⟨g,o+4,none⟩=some (.int .i64 p.2.2.2.2)
def At5(w:World)(g:Nat)(ps:List T5):Prop:=∀i,i<ps.length→Holds5 w g (i*5) (el5 ps i)
def Reads5(w:World)(a:Option Addr)(ps:List T5):Prop:=ps.length=0∨∃b off,a=some ⟨b,off,none⟩∧b<w.heap.size∧∀i,i<ps.length→Holds5 w b (off+i*5) (el5 ps i)
def Own5(e:TypeId)(w:World)(base g n cap:Nat)(ps:List T5):Prop:=w.ownsRow base e 5 (.slice (some ⟨g,0,none⟩) n cap) n (flat5 ps)
section
variable {e:TypeId} {w w':World} {base base' g n cap:Nat} {ps:List T5}
theorem Holds5.below{B o:Nat}{p:T5}(h:Holds5 w g o p)(k:Below B w w')(hg:g<B):Holds5 w' g o p:=
 ⟨(k.cell (p:=⟨g,o,none⟩) hg).trans h.1,(k.cell (p:=⟨g,o+1,none⟩) hg).trans h.2.1,(k.cell (p:=⟨g,o+2,none⟩) hg).trans h.2.2.1,(k.cell (p:=⟨g,o+3,none⟩) hg).trans h.2.2.2.1,(k.cell (p:=⟨g,o+4,none⟩) hg).trans h.2.2.2.2⟩
theorem Own5.len(h:Own5 e w base g n cap ps):ps.length=n:=by
 have:=h.1
 rw[flat5_len] at this
 omega
theorem Own5.lt(h:Own5 e w base g n cap ps):base≤g∧g<w.heap.size:=World.ownsRow.lt h g rfl
theorem Own5.at(h:Own5 e w base g n cap ps):At5 w g ps:=by
 intro i hi
 have hl:=h.len
 obtain⟨f0,f1,f2,f3,f4⟩:=flat5_get ps i hi
 exact⟨(World.ownsRow.cellAt h (i*5) (by omega)).trans f0,(World.ownsRow.cellAt h (i*5+1) (by omega)).trans f1,(World.ownsRow.cellAt h (i*5+2) (by omega)).trans f2,(World.ownsRow.cellAt h (i*5+3) (by omega)).trans f3,(World.ownsRow.cellAt h (i*5+4) (by omega)).trans f4⟩
theorem Own5.free(h:Own5 e w base g n cap ps)(i:Nat):w.frozen? ⟨g,i,none⟩=false:=World.ownsRow.frozenAt h i
theorem Own5.rebase(h:Own5 e w base g n cap ps)(hb:base'≤g):Own5 e w base' g n cap ps:=by
 refine⟨h.1,?_⟩
 rcases h.2 with⟨h1,_⟩|⟨g',c,cur,h1,h2,h3⟩
 ·simp at h1
 ·obtain⟨e,_⟩:g=g'∧cap=c:=by simpa using h1
  subst e
  exact Or.inr ⟨g,c,cur,h1,hb,h3⟩
theorem Own5.kept{row:Option Nat}(h:Own5 e w base g n cap ps)(k:w.grownBy w' row)(hne:some g≠row):Own5 e w' base g n cap ps:=
 World.ownsRow.kept h k (Or.inr hne)
theorem Own5.below{B:Nat}(h:Own5 e w base g n cap ps)(k:Below B w w')(hg:g<B):Own5 e w' base g n cap ps:=by
 refine⟨h.1,?_⟩
 rcases h.2 with⟨h1,_⟩|⟨g',c,cur,h1,h2,h3,h4⟩
 ·simp at h1
 ·obtain⟨e,_⟩:g=g'∧cap=c:=by simpa using h1
  subst e
  exact Or.inr ⟨g,c,cur,h1,h2,by rw[k.block g hg];exact h3,h4⟩
theorem Own5.alloc(h:Own5 e w base g n cap ps)(o:Obj):Own5 e (w.alloc o) base g n cap ps:=World.ownsRow.alloc h o
theorem At5.below{B:Nat}(h:At5 w g ps)(k:Below B w w')(hg:g<B):At5 w' g ps:=fun i hi=>(h i hi).below k hg
theorem Reads5.below{a:Option Addr}(h:Reads5 w a ps)(k:Below w.heap.size w w'):Reads5 w' a ps:=by
 rcases h with h|⟨b,off,rfl,hb,hc⟩
 ·exact Or.inl h
 ·exact Or.inr ⟨b,off,rfl,Nat.lt_of_lt_of_le hb k.size,fun i hi=>(hc i hi).below k hb⟩
theorem Own5.set0(h:Own5 e w base g n cap ps)(i:Nat)(x:Int):
  Own5 e (w.setCell ⟨g,i*5,none⟩ (.int .i64 x)) base g n cap (ps.modify i fun p=>(x,p.2.1,p.2.2.1,p.2.2.2.1,p.2.2.2.2))∧w.grownBy (w.setCell ⟨g,i*5,none⟩ (.int .i64 x)) (some g):=by
 have:=World.ownsRow.stored h (i*5) (.int .i64 x)
 refine⟨?_,this.2⟩
 unfold Own5
 rw[←(flat5_set ps i x).1]
 exact this.1
theorem Own5.set1(h:Own5 e w base g n cap ps)(i:Nat)(x:Int):
  Own5 e (w.setCell ⟨g,i*5+1,none⟩ (.int .i64 x)) base g n cap (ps.modify i fun p=>(p.1,x,p.2.2.1,p.2.2.2.1,p.2.2.2.2))∧w.grownBy (w.setCell ⟨g,i*5+1,none⟩ (.int .i64 x)) (some g):=by
 have:=World.ownsRow.stored h (i*5+1) (.int .i64 x)
 refine⟨?_,this.2⟩
 unfold Own5
 rw[←(flat5_set ps i x).2.1]
 exact this.1
theorem Own5.set2(h:Own5 e w base g n cap ps)(i:Nat)(x:Int):
  Own5 e (w.setCell ⟨g,i*5+2,none⟩ (.int .i64 x)) base g n cap (ps.modify i fun p=>(p.1,p.2.1,x,p.2.2.2.1,p.2.2.2.2))∧w.grownBy (w.setCell ⟨g,i*5+2,none⟩ (.int .i64 x)) (some g):=by
 have:=World.ownsRow.stored h (i*5+2) (.int .i64 x)
 refine⟨?_,this.2⟩
 unfold Own5
 rw[←(flat5_set ps i x).2.2.1]
 exact this.1
theorem Own5.set3(h:Own5 e w base g n cap ps)(i:Nat)(x:Int):
  Own5 e (w.setCell ⟨g,i*5+3,none⟩ (.int .i64 x)) base g n cap (ps.modify i fun p=>(p.1,p.2.1,p.2.2.1,x,p.2.2.2.2))∧w.grownBy (w.setCell ⟨g,i*5+3,none⟩ (.int .i64 x)) (some g):=by
 have:=World.ownsRow.stored h (i*5+3) (.int .i64 x)
 refine⟨?_,this.2⟩
 unfold Own5
 rw[←(flat5_set ps i x).2.2.2.1]
 exact this.1
theorem Own5.set4(h:Own5 e w base g n cap ps)(i:Nat)(x:Int):
  Own5 e (w.setCell ⟨g,i*5+4,none⟩ (.int .i64 x)) base g n cap (ps.modify i fun p=>(p.1,p.2.1,p.2.2.1,p.2.2.2.1,x))∧w.grownBy (w.setCell ⟨g,i*5+4,none⟩ (.int .i64 x)) (some g):=by
 have:=World.ownsRow.stored h (i*5+4) (.int .i64 x)
 refine⟨?_,this.2⟩
 unfold Own5
 rw[←(flat5_set ps i x).2.2.2.2]
 exact this.1
end
theorem grownBy_below{w w':World}(h:w.grownBy w' none):Below w.heap.size w w':=⟨h.os,h.tape,h.output,h.size,fun k hk=>h.block k hk (by simp)⟩
theorem next{a b c:World}(h:Below a.heap.size a b)(k:Below b.heap.size b c):Below a.heap.size a c:=h.trans (k.mono h.size)
theorem own5_of_row{e:TypeId}{w:World}{base n n':Nat}{v:Value}{vs:List Value}{ps:List T5}(h:w.ownsRow base e 5 v n vs)(hn:n=n')(hv:vs=flat5 ps)(hs:¬v= .slice none 0 0):
  ∃g c,v= .slice (some ⟨g,0,none⟩) n' c∧Own5 e w base g n' c ps:=by
 subst hn hv
 have h':=h
 rcases h.2 with⟨h1,_⟩|⟨g,c,cur,rfl,_⟩
 ·exact absurd h1 hs
 ·exact⟨g,c,rfl,h'⟩
theorem lit50(e:TypeId)(w:World)(base:Nat)(hb:base≤w.heap.size):Own5 e (w.alloc (.cells #[] e)) base w.heap.size 0 0 []:=World.ownsRow_lit w #[] 0 hb (by decide) rfl
theorem lit51(e:TypeId)(w:World)(base:Nat)(x0 x1 x2 x3 x4:Int)(hb:base≤w.heap.size):Own5 e (w.alloc (.cells #[.int .i64 x0,.int .i64 x1,.int .i64 x2,.int .i64 x3,.int .i64 x4] e)) base w.heap.size 1 1 [(x0,x1,x2,x3,x4)]:=World.ownsRow_lit w #[.int .i64 x0,.int .i64 x1,.int .i64 x2,.int .i64 x3,.int .i64 x4] 1 hb (by decide) rfl
theorem At5.cells{w:World}{g:Nat}{ps:List T5}(h:At5 w g ps):∀(j:Nat) (u:Value),(flat5 ps)[j]?=some u→w.cell? ((⟨g,0,none⟩:Addr).add j)=some u:=by
 intro j u hj
 have hl:j<ps.length*5:=by
  have:=(List.getElem?_eq_some_iff.1 hj).1
  rw[flat5_len] at this
  exact this
 rw[Addr.add_lit,Nat.zero_add]
 obtain⟨c0,c1,c2,c3,c4⟩:=h (j/5) (by omega)
 obtain⟨f0,f1,f2,f3,f4⟩:=flat5_get ps (j/5) (by omega)
 rcases(show j%5=0∨j%5=1∨j%5=2∨j%5=3∨j%5=4 by omega) with e|e|e|e|e
 ·rw[show j/5*5=j by omega] at c0 f0
  rw[c0,←hj,f0]
 ·rw[show j/5*5+1=j by omega] at c1 f1
  rw[c1,←hj,f1]
 ·rw[show j/5*5+2=j by omega] at c2 f2
  rw[c2,←hj,f2]
 ·rw[show j/5*5+3=j by omega] at c3 f3
  rw[c3,←hj,f3]
 ·rw[show j/5*5+4=j by omega] at c4 f4
  rw[c4,←hj,f4]
theorem grown_trans{a b c:World}{row:Option Nat}(h:a.grownBy b row)(k:b.grownBy c row):a.grownBy c row:=
 ⟨k.os.trans h.os,k.tape.trans h.tape,k.output.trans h.output,Nat.le_trans h.size k.size,fun j hj hne=>(k.block j (Nat.lt_of_lt_of_le hj h.size) hne).trans (h.block j hj hne)⟩
theorem below_drewN{B:Nat}{a w:World}(h:Below B a w)(m:Nat):Below B a (w.drewN m):=⟨h.os,h.tape,h.output,h.size,h.block⟩
theorem getD_mem{ps:List T5}{i:Nat}(h:i<ps.length):el5 ps i∈ps:=by
 unfold el5
 simp only[List.getD,List.getElem?_eq_getElem h,Option.getD_some]
 exact List.getElem_mem h
theorem mem_getD{ps:List T5}{p:T5}(h:p∈ps):∃i,i<ps.length∧el5 ps i=p:=by
 obtain⟨i,hi,e⟩:=List.getElem_of_mem h
 refine⟨i,hi,?_⟩
 unfold el5
 simp[List.getD,hi,e]
theorem take_next{ps:List T5}{k:Nat}(h:k<ps.length):ps.take (k+1)=ps.take k++[el5 ps k]:=by
 rw[List.take_add_one]
 simp[List.getD,h]
end Tup5
namespace Tup8
theorem zh{p:Prop}(h:p):Hid p:=h
theorem zu{p:Prop}(h:Hid p):p:=h
abbrev T8:Type:=Int×Int×Int×Int×Int×Int×Int×Int
abbrev el8(ps:List T8)(i:Nat):T8:=ps.getD i (0,0,0,0,0,0,0,0)
def flat8(ps:List T8):List Value:=ps.flatMap fun p=>[.int .i64 p.1,.int .i64 p.2.1,.int .i64 p.2.2.1,.int .i64 p.2.2.2.1,.int .i64 p.2.2.2.2.1,.int .i64 p.2.2.2.2.2.1,.int .i64 p.2.2.2.2.2.2.1,.int .i64 p.2.2.2.2.2.2.2]
theorem flat8_cons(p:T8)(ps:List T8):flat8 (p::ps)= .int .i64 p.1:: .int .i64 p.2.1:: .int .i64 p.2.2.1:: .int .i64 p.2.2.2.1:: .int .i64 p.2.2.2.2.1:: .int .i64 p.2.2.2.2.2.1:: .int .i64 p.2.2.2.2.2.2.1:: .int .i64 p.2.2.2.2.2.2.2::flat8 ps:=rfl
theorem flat8_len(ps:List T8):(flat8 ps).length=ps.length*8:=by
 induction ps with
 |nil=>rfl
 |cons p ps ih=>rw[flat8_cons];simp[ih];omega
theorem flat8_get(ps:List T8):∀i,i<ps.length→(flat8 ps)[i*8]?=some (.int .i64 (el8 ps i).1)∧(flat8 ps)[i*8+1]?=some (.int .i64 (el8 ps i).2.1)∧(flat8 ps)[i*8+2]?=some (.int .i64 (el8 ps i).2.2.1)∧(flat8 ps)[i*8+3]?=some (.int .i64 (el8 ps i).2.2.2.1)∧(flat8 ps)[i*8+4]?=some (.int .i64 (el8 ps i).2.2.2.2.1)∧(flat8 ps)[i*8+5]?=some (.int .i64 (el8 ps i).2.2.2.2.2.1)∧(flat8 ps)[i*8+6]?=some (.int .i64 (el8 ps i).2.2.2.2.2.2.1)∧(flat8 ps)[i*8+7]?=some (.int .i64 (el8 ps i).2.2.2.2.2.2.2):=by
 induction ps with
 |nil=>intro i h;simp at h
 |cons p ps ih=>
  intro i h
  cases i with
  |zero=>rw[flat8_cons];simp
  |succ i=>
   have:=ih i (by simpa using h)
   rw[flat8_cons,show(i+1)*8=i*8+8 by omega,show i*8+8+1=(i*8+1)+8 by omega,show i*8+8+2=(i*8+2)+8 by omega,show i*8+8+3=(i*8+3)+8 by omega,show i*8+8+4=(i*8+4)+8 by omega,show i*8+8+5=(i*8+5)+8 by omega,show i*8+8+6=(i*8+6)+8 by omega,show i*8+8+7=(i*8+7)+8 by omega]
   simpa using this
theorem flat8_one(u:Value)(ps:List T8)(h:u∈flat8 ps):u.oneCell'=true:=by
 induction ps with
 |nil=>simp[flat8] at h
 |cons p ps ih=>
  rw[flat8_cons] at h
  simp only[List.mem_cons] at h
  rcases h with rfl|rfl|rfl|rfl|rfl|rfl|rfl|rfl|h
  ·rfl
  ·rfl
  ·rfl
  ·rfl
  ·rfl
  ·rfl
  ·rfl
  ·rfl
  ·exact ih h
theorem flat8_set(ps:List T8):∀(i:Nat) (x:Int),(flat8 ps).set (i*8) (.int .i64 x)=flat8 (ps.modify i fun p=>(x,p.2.1,p.2.2.1,p.2.2.2.1,p.2.2.2.2.1,p.2.2.2.2.2.1,p.2.2.2.2.2.2.1,p.2.2.2.2.2.2.2))∧(flat8 ps).set (i*8+1) (.int .i64 x)=flat8 (ps.modify i fun p=>(p.1,x,p.2.2.1,p.2.2.2.1,p.2.2.2.2.1,p.2.2.2.2.2.1,p.2.2.2.2.2.2.1,p.2.2.2.2.2.2.2))∧(flat8 ps).set (i*8+2) (.int .i64 x)=flat8 (ps.modify i fun p=>(p.1,p.2.1,x,p.2.2.2.1,p.2.2.2.2.1,p.2.2.2.2.2.1,p.2.2.2.2.2.2.1,p.2.2.2.2.2.2.2))∧(flat8 ps).set (i*8+3) (.int .i64 x)=flat8 (ps.modify i fun p=>(p.1,p.2.1,p.2.2.1,x,p.2.2.2.2.1,p.2.2.2.2.2.1,p.2.2.2.2.2.2.1,p.2.2.2.2.2.2.2))∧(flat8 ps).set (i*8+4) (.int .i64 x)=flat8 (ps.modify i fun p=>(p.1,p.2.1,p.2.2.1,p.2.2.2.1,x,p.2.2.2.2.2.1,p.2.2.2.2.2.2.1,p.2.2.2.2.2.2.2))∧(flat8 ps).set (i*8+5) (.int .i64 x)=flat8 (ps.modify i fun p=>(p.1,p.2.1,p.2.2.1,p.2.2.2.1,p.2.2.2.2.1,x,p.2.2.2.2.2.2.1,p.2.2.2.2.2.2.2))∧(flat8 ps).set (i*8+6) (.int .i64 x)=flat8 (ps.modify i fun p=>(p.1,p.2.1,p.2.2.1,p.2.2.2.1,p.2.2.2.2.1,p.2.2.2.2.2.1,x,p.2.2.2.2.2.2.2))∧(flat8 ps).set (i*8+7) (.int .i64 x)=flat8 (ps.modify i fun p=>(p.1,p.2.1,p.2.2.1,p.2.2.2.1,p.2.2.2.2.1,p.2.2.2.2.2.1,p.2.2.2.2.2.2.1,x)):=by
 induction ps with
 |nil=>intro i x;simp[flat8]
 |cons p ps ih=>
  intro i x
  cases i with
  |zero=>simp[flat8_cons]
  |succ i=>
   obtain⟨a0,a1,a2,a3,a4,a5,a6,a7⟩:=ih i x
   refine⟨?_,?_,?_,?_,?_,?_,?_,?_⟩
   ·rw[flat8_cons,show(i+1)*8=i*8+1+1+1+1+1+1+1+1 by omega,List.set_cons_succ,List.set_cons_succ,List.set_cons_succ,List.set_cons_succ,List.set_cons_succ,List.set_cons_succ,List.set_cons_succ,List.set_cons_succ,a0,List.modify_succ_cons,flat8_cons]
   ·rw[flat8_cons,show(i+1)*8+1=i*8+1+1+1+1+1+1+1+1+1 by omega,List.set_cons_succ,List.set_cons_succ,List.set_cons_succ,List.set_cons_succ,List.set_cons_succ,List.set_cons_succ,List.set_cons_succ,List.set_cons_succ,a1,List.modify_succ_cons,flat8_cons]
   ·rw[flat8_cons,show(i+1)*8+2=i*8+2+1+1+1+1+1+1+1+1 by omega,List.set_cons_succ,List.set_cons_succ,List.set_cons_succ,List.set_cons_succ,List.set_cons_succ,List.set_cons_succ,List.set_cons_succ,List.set_cons_succ,a2,List.modify_succ_cons,flat8_cons]
   ·rw[flat8_cons,show(i+1)*8+3=i*8+3+1+1+1+1+1+1+1+1 by omega,List.set_cons_succ,List.set_cons_succ,List.set_cons_succ,List.set_cons_succ,List.set_cons_succ,List.set_cons_succ,List.set_cons_succ,List.set_cons_succ,a3,List.modify_succ_cons,flat8_cons]
   ·rw[flat8_cons,show(i+1)*8+4=i*8+4+1+1+1+1+1+1+1+1 by omega,List.set_cons_succ,List.set_cons_succ,List.set_cons_succ,List.set_cons_succ,List.set_cons_succ,List.set_cons_succ,List.set_cons_succ,List.set_cons_succ,a4,List.modify_succ_cons,flat8_cons]
   ·rw[flat8_cons,show(i+1)*8+5=i*8+5+1+1+1+1+1+1+1+1 by omega,List.set_cons_succ,List.set_cons_succ,List.set_cons_succ,List.set_cons_succ,List.set_cons_succ,List.set_cons_succ,List.set_cons_succ,List.set_cons_succ,a5,List.modify_succ_cons,flat8_cons]
   ·rw[flat8_cons,show(i+1)*8+6=i*8+6+1+1+1+1+1+1+1+1 by omega,List.set_cons_succ,List.set_cons_succ,List.set_cons_succ,List.set_cons_succ,List.set_cons_succ,List.set_cons_succ,List.set_cons_succ,List.set_cons_succ,a6,List.modify_succ_cons,flat8_cons]
   ·rw[flat8_cons,show(i+1)*8+7=i*8+7+1+1+1+1+1+1+1+1 by omega,List.set_cons_succ,List.set_cons_succ,List.set_cons_succ,List.set_cons_succ,List.set_cons_succ,List.set_cons_succ,List.set_cons_succ,List.set_cons_succ,a7,List.modify_succ_cons,flat8_cons]
def Holds8(w:World)(g o:Nat)(p:T8):Prop:=w.cell? ⟨g,o,none⟩=some (.int .i64 p.1)∧w.cell? ⟨g,o+1,none⟩=some (.int .i64 p.2.1)∧w.cell? ⟨g,o+2,none⟩=some (.int .i64 p.2.2.1)∧w.cell? ⟨g,o+3,none⟩=some (.int .i64 p.2.2.2.1)∧w.cell? ⟨g,o+4,none⟩=some (.int .i64 p.2.2.2.2.1)∧w.cell? ⟨g,o+5,none⟩=some (.int .i64 p.2.2.2.2.2.1)∧w.cell? ⟨g,o+6,none⟩=some (.int .i64 p.2.2.2.2.2.2.1)∧w.cell? ⟨g,o+7,none⟩=some (.int .i64 p.2.2.2.2.2.2.2)
def At8(w:World)(g:Nat)(ps:List T8):Prop:=∀i,i<ps.length→Holds8 w g (i*8) (el8 ps i)
def Reads8(w:World)(a:Option Addr)(ps:List T8):Prop:=ps.length=0∨∃b off,a=some ⟨b,off,none⟩∧b<w.heap.size∧∀i,i<ps.length→Holds8 w b (off+i*8) (el8 ps i)
def Own8(e:TypeId)(w:World)(base g n cap:Nat)(ps:List T8):Prop:=w.ownsRow base e 8 (.slice (some ⟨g,0,none⟩) n cap) n (flat8 ps)
section
variable {e:TypeId} {w w':World} {base base' g n cap:Nat} {ps:List T8}
theorem Holds8.below{B o:Nat}{p:T8}(h:Holds8 w g o p)(k:Below B w w')(hg:g<B):Holds8 w' g o p:=
 ⟨(k.cell (p:=⟨g,o,none⟩) hg).trans h.1,(k.cell (p:=⟨g,o+1,none⟩) hg).trans h.2.1,(k.cell (p:=⟨g,o+2,none⟩) hg).trans h.2.2.1,(k.cell (p:=⟨g,o+3,none⟩) hg).trans h.2.2.2.1,(k.cell (p:=⟨g,o+4,none⟩) hg).trans h.2.2.2.2.1,(k.cell (p:=⟨g,o+5,none⟩) hg).trans h.2.2.2.2.2.1,(k.cell (p:=⟨g,o+6,none⟩) hg).trans h.2.2.2.2.2.2.1,(k.cell (p:=⟨g,o+7,none⟩) hg).trans h.2.2.2.2.2.2.2⟩
theorem Own8.len(h:Own8 e w base g n cap ps):ps.length=n:=by
 have:=h.1
 rw[flat8_len] at this
 omega
theorem Own8.lt(h:Own8 e w base g n cap ps):base≤g∧g<w.heap.size:=World.ownsRow.lt h g rfl
theorem Own8.at(h:Own8 e w base g n cap ps):At8 w g ps:=by
 intro i hi
 have hl:=h.len
 obtain⟨f0,f1,f2,f3,f4,f5,f6,f7⟩:=flat8_get ps i hi
 exact⟨(World.ownsRow.cellAt h (i*8) (by omega)).trans f0,(World.ownsRow.cellAt h (i*8+1) (by omega)).trans f1,(World.ownsRow.cellAt h (i*8+2) (by omega)).trans f2,(World.ownsRow.cellAt h (i*8+3) (by omega)).trans f3,(World.ownsRow.cellAt h (i*8+4) (by omega)).trans f4,(World.ownsRow.cellAt h (i*8+5) (by omega)).trans f5,(World.ownsRow.cellAt h (i*8+6) (by omega)).trans f6,(World.ownsRow.cellAt h (i*8+7) (by omega)).trans f7⟩
theorem Own8.free(h:Own8 e w base g n cap ps)(i:Nat):w.frozen? ⟨g,i,none⟩=false:=World.ownsRow.frozenAt h i
theorem Own8.rebase(h:Own8 e w base g n cap ps)(hb:base'≤g):Own8 e w base' g n cap ps:=by
 refine⟨h.1,?_⟩
 rcases h.2 with⟨h1,_⟩|⟨g',c,cur,h1,h2,h3⟩
 ·simp at h1
 ·obtain⟨e,_⟩:g=g'∧cap=c:=by simpa using h1
  subst e
  exact Or.inr ⟨g,c,cur,h1,hb,h3⟩
theorem Own8.kept{row:Option Nat}(h:Own8 e w base g n cap ps)(k:w.grownBy w' row)(hne:some g≠row):Own8 e w' base g n cap ps:=
 World.ownsRow.kept h k (Or.inr hne)
theorem Own8.below{B:Nat}(h:Own8 e w base g n cap ps)(k:Below B w w')(hg:g<B):Own8 e w' base g n cap ps:=by
 refine⟨h.1,?_⟩
 rcases h.2 with⟨h1,_⟩|⟨g',c,cur,h1,h2,h3,h4⟩
 ·simp at h1
 ·obtain⟨e,_⟩:g=g'∧cap=c:=by simpa using h1
  subst e
  exact Or.inr ⟨g,c,cur,h1,h2,by rw[k.block g hg];exact h3,h4⟩
theorem At8.below{B:Nat}(h:At8 w g ps)(k:Below B w w')(hg:g<B):At8 w' g ps:=fun i hi=>(h i hi).below k hg
theorem Reads8.below{a:Option Addr}(h:Reads8 w a ps)(k:Below w.heap.size w w'):Reads8 w' a ps:=by
 rcases h with h|⟨b,off,rfl,hb,hc⟩
 ·exact Or.inl h
 ·exact Or.inr ⟨b,off,rfl,Nat.lt_of_lt_of_le hb k.size,fun i hi=>(hc i hi).below k hb⟩
theorem Own8.set0(h:Own8 e w base g n cap ps)(i:Nat)(x:Int):
  Own8 e (w.setCell ⟨g,i*8,none⟩ (.int .i64 x)) base g n cap (ps.modify i fun p=>(x,p.2.1,p.2.2.1,p.2.2.2.1,p.2.2.2.2.1,p.2.2.2.2.2.1,p.2.2.2.2.2.2.1,p.2.2.2.2.2.2.2))∧w.grownBy (w.setCell ⟨g,i*8,none⟩ (.int .i64 x)) (some g):=by
 have:=World.ownsRow.stored h (i*8) (.int .i64 x)
 refine⟨?_,this.2⟩
 unfold Own8
 rw[←(flat8_set ps i x).1]
 exact this.1
theorem Own8.set1(h:Own8 e w base g n cap ps)(i:Nat)(x:Int):
  Own8 e (w.setCell ⟨g,i*8+1,none⟩ (.int .i64 x)) base g n cap (ps.modify i fun p=>(p.1,x,p.2.2.1,p.2.2.2.1,p.2.2.2.2.1,p.2.2.2.2.2.1,p.2.2.2.2.2.2.1,p.2.2.2.2.2.2.2))∧w.grownBy (w.setCell ⟨g,i*8+1,none⟩ (.int .i64 x)) (some g):=by
 have:=World.ownsRow.stored h (i*8+1) (.int .i64 x)
 refine⟨?_,this.2⟩
 unfold Own8
 rw[←(flat8_set ps i x).2.1]
 exact this.1
theorem Own8.set2(h:Own8 e w base g n cap ps)(i:Nat)(x:Int):
  Own8 e (w.setCell ⟨g,i*8+2,none⟩ (.int .i64 x)) base g n cap (ps.modify i fun p=>(p.1,p.2.1,x,p.2.2.2.1,p.2.2.2.2.1,p.2.2.2.2.2.1,p.2.2.2.2.2.2.1,p.2.2.2.2.2.2.2))∧w.grownBy (w.setCell ⟨g,i*8+2,none⟩ (.int .i64 x)) (some g):=by
 have:=World.ownsRow.stored h (i*8+2) (.int .i64 x)
 refine⟨?_,this.2⟩
 unfold Own8
 rw[←(flat8_set ps i x).2.2.1]
 exact this.1
theorem Own8.set3(h:Own8 e w base g n cap ps)(i:Nat)(x:Int):
  Own8 e (w.setCell ⟨g,i*8+3,none⟩ (.int .i64 x)) base g n cap (ps.modify i fun p=>(p.1,p.2.1,p.2.2.1,x,p.2.2.2.2.1,p.2.2.2.2.2.1,p.2.2.2.2.2.2.1,p.2.2.2.2.2.2.2))∧w.grownBy (w.setCell ⟨g,i*8+3,none⟩ (.int .i64 x)) (some g):=by
 have:=World.ownsRow.stored h (i*8+3) (.int .i64 x)
 refine⟨?_,this.2⟩
 unfold Own8
 rw[←(flat8_set ps i x).2.2.2.1]
 exact this.1
theorem Own8.set4(h:Own8 e w base g n cap ps)(i:Nat)(x:Int):
  Own8 e (w.setCell ⟨g,i*8+4,none⟩ (.int .i64 x)) base g n cap (ps.modify i fun p=>(p.1,p.2.1,p.2.2.1,p.2.2.2.1,x,p.2.2.2.2.2.1,p.2.2.2.2.2.2.1,p.2.2.2.2.2.2.2))∧w.grownBy (w.setCell ⟨g,i*8+4,none⟩ (.int .i64 x)) (some g):=by
 have:=World.ownsRow.stored h (i*8+4) (.int .i64 x)
 refine⟨?_,this.2⟩
 unfold Own8
 rw[←(flat8_set ps i x).2.2.2.2.1]
 exact this.1
theorem Own8.set5(h:Own8 e w base g n cap ps)(i:Nat)(x:Int):
  Own8 e (w.setCell ⟨g,i*8+5,none⟩ (.int .i64 x)) base g n cap (ps.modify i fun p=>(p.1,p.2.1,p.2.2.1,p.2.2.2.1,p.2.2.2.2.1,x,p.2.2.2.2.2.2.1,p.2.2.2.2.2.2.2))∧w.grownBy (w.setCell ⟨g,i*8+5,none⟩ (.int .i64 x)) (some g):=by
 have:=World.ownsRow.stored h (i*8+5) (.int .i64 x)
 refine⟨?_,this.2⟩
 unfold Own8
 rw[←(flat8_set ps i x).2.2.2.2.2.1]
 exact this.1
theorem Own8.set6(h:Own8 e w base g n cap ps)(i:Nat)(x:Int):
  Own8 e (w.setCell ⟨g,i*8+6,none⟩ (.int .i64 x)) base g n cap (ps.modify i fun p=>(p.1,p.2.1,p.2.2.1,p.2.2.2.1,p.2.2.2.2.1,p.2.2.2.2.2.1,x,p.2.2.2.2.2.2.2))∧w.grownBy (w.setCell ⟨g,i*8+6,none⟩ (.int .i64 x)) (some g):=by
 have:=World.ownsRow.stored h (i*8+6) (.int .i64 x)
 refine⟨?_,this.2⟩
 unfold Own8
 rw[←(flat8_set ps i x).2.2.2.2.2.2.1]
 exact this.1
theorem Own8.set7(h:Own8 e w base g n cap ps)(i:Nat)(x:Int):
  Own8 e (w.setCell ⟨g,i*8+7,none⟩ (.int .i64 x)) base g n cap (ps.modify i fun p=>(p.1,p.2.1,p.2.2.1,p.2.2.2.1,p.2.2.2.2.1,p.2.2.2.2.2.1,p.2.2.2.2.2.2.1,x))∧w.grownBy (w.setCell ⟨g,i*8+7,none⟩ (.int .i64 x)) (some g):=by
 have:=World.ownsRow.stored h (i*8+7) (.int .i64 x)
 refine⟨?_,this.2⟩
 unfold Own8
 rw[←(flat8_set ps i x).2.2.2.2.2.2.2]
 exact this.1
end
theorem grownBy_below{w w':World}(h:w.grownBy w' none):Below w.heap.size w w':=⟨h.os,h.tape,h.output,h.size,fun k hk=>h.block k hk (by simp)⟩
theorem next{a b c:World}(h:Below a.heap.size a b)(k:Below b.heap.size b c):Below a.heap.size a c:=h.trans (k.mono h.size)
theorem grown_trans{a b c:World}{row:Option Nat}(h:a.grownBy b row)(k:b.grownBy c row):a.grownBy c row:=
 ⟨k.os.trans h.os,k.tape.trans h.tape,k.output.trans h.output,Nat.le_trans h.size k.size,fun j hj hne=>(k.block j (Nat.lt_of_lt_of_le hj h.size) hne).trans (h.block j hj hne)⟩
theorem getD_mem{ps:List T8}{i:Nat}(h:i<ps.length):el8 ps i∈ps:=by
 unfold el8
 simp only[List.getD,List.getElem?_eq_getElem h,Option.getD_some]
 exact List.getElem_mem h
theorem mem_getD{ps:List T8}{p:T8}(h:p∈ps):∃i,i<ps.length∧el8 ps i=p:=by
 obtain⟨i,hi,e⟩:=List.getElem_of_mem h
 refine⟨i,hi,?_⟩
 unfold el8
 simp[List.getD,hi,e]
end Tup8
namespace Lots
open Tup5
def Amt(x:Int):Prop:= -1000000000000000≤x∧x≤1000000000000000
def NoOk(x:Int):Prop:=1≤x∧x≤1000
theorem bool_of(p:Prop):∃b:Bool,b=true↔p:=by
 by_cases h:p
 ·exact⟨true,⟨fun _=>h,fun _=>rfl⟩⟩
 ·exact⟨false,⟨fun e=>Bool.noConfusion e,fun e=>absurd e h⟩⟩
def Says(b:Bool)(p:Prop):Prop:=b=true↔p
theorem says_of(p:Prop):∃b,Says b p:=bool_of _
theorem Says.yes{p:Prop}(h:Says true p):p:=h.1 rfl
theorem Says.no{p:Prop}(h:Says false p):¬p:=fun r=>Bool.noConfusion (h.2 r)
theorem Says.of{b:Bool}{p:Prop}(h:Says b p)(r:p):b=true:=h.2 r
theorem Says.not{b:Bool}{p:Prop}(h:Says b p)(r:¬p):b=false:=by
 cases b
 ·rfl
 ·exact absurd h.yes r
def Bef(p q:T5):Prop:=p.1<q.1∨(p.1=q.1∧(p.2.1<q.2.1∨(p.2.1=q.2.1∧p.2.2.1<q.2.2.1)))
theorem bef_trans{p q r:T5}(h:Bef p q)(k:Bef q r):Bef p r:=by unfold Bef at *;omega
def One(p:T5):Prop:=NoOk p.1∧NoOk p.2.1∧(1≤p.2.2.1∧p.2.2.1≤1000000000)∧(1≤p.2.2.2.1∧p.2.2.2.1≤1000000000000000)∧(0≤p.2.2.2.2∧p.2.2.2.2≤1000000000000000)
def qtyOf:List T5→Int→Int→Int
 |[],_,_=>0
 |p::r,a,i=>(if p.1=a∧p.2.1=i then p.2.2.2.1 else 0)+qtyOf r a i
def costOf:List T5→Int→Int→Int
 |[],_,_=>0
 |p::r,a,i=>(if p.1=a∧p.2.1=i then p.2.2.2.2 else 0)+costOf r a i
theorem qtyOf_append(a i:Int):∀(ps qs:List T5),qtyOf (ps++qs) a i=qtyOf ps a i+qtyOf qs a i
 |[],qs=>by simp[qtyOf]
 |p::r,qs=>by
  have:=qtyOf_append a i r qs
  simp only[List.cons_append,qtyOf,this]
  omega
theorem costOf_append(a i:Int):∀(ps qs:List T5),costOf (ps++qs) a i=costOf ps a i+costOf qs a i
 |[],qs=>by simp[costOf]
 |p::r,qs=>by
  have:=costOf_append a i r qs
  simp only[List.cons_append,costOf,this]
  omega
theorem qtyOf_next{ps:List T5}{k:Nat}(h:k<ps.length)(a i:Int):qtyOf (ps.take (k+1)) a i=qtyOf (ps.take k) a i+(if(el5 ps k).1=a∧(el5 ps k).2.1=i then(el5 ps k).2.2.2.1 else 0):=by
 rw[take_next h,qtyOf_append]
 simp[qtyOf]
theorem costOf_next{ps:List T5}{k:Nat}(h:k<ps.length)(a i:Int):costOf (ps.take (k+1)) a i=costOf (ps.take k) a i+(if(el5 ps k).1=a∧(el5 ps k).2.1=i then(el5 ps k).2.2.2.2 else 0):=by
 rw[take_next h,costOf_append]
 simp[costOf]
def RowOk(ps:List T5)(i:Nat):Prop:=One (el5 ps i)∧(0<i→Bef (el5 ps (i-1)) (el5 ps i))
def Right(ps:List T5):Prop:=
 ps.length≤120∧(∀i,i<ps.length→RowOk ps i)∧∀a i,qtyOf ps a i≤1000000000000000∧costOf ps a i≤1000000000000000
theorem qty_pos{a i:Int}:∀(ps:List T5),(∀p∈ps,One p)→0≤qtyOf ps a i∧0≤costOf ps a i
 |[],_=>by simp[qtyOf,costOf]
 |p::r,h=>by
  obtain⟨i1,i2⟩:=qty_pos (a:=a) (i:=i) r (fun q hq=>h q (List.mem_cons_of_mem _ hq))
  obtain⟨_,_,_,h4,h5⟩:=h p List.mem_cons_self
  unfold qtyOf costOf
  constructor
  ·split<;>omega
  ·split<;>omega
theorem take_le{ps:List T5}(h:∀p∈ps,One p)(k:Nat)(a i:Int):qtyOf (ps.take k) a i≤qtyOf ps a i∧costOf (ps.take k) a i≤costOf ps a i:=by
 have e:ps=ps.take k++ps.drop k:=(List.take_append_drop k ps).symm
 have q:=qty_pos (a:=a) (i:=i) (ps.drop k) (fun p hp=>h p (List.mem_of_mem_drop hp))
 have e1:=qtyOf_append a i (ps.take k) (ps.drop k)
 have e2:=costOf_append a i (ps.take k) (ps.drop k)
 rw[←e] at e1 e2
 omega
def run(ps:List T5)(k:Nat):Int×Int:=(qtyOf (ps.take (k+1)) (el5 ps k).1 (el5 ps k).2.1,costOf (ps.take (k+1)) (el5 ps k).1 (el5 ps k).2.1)
theorem asc_of{ps:List T5}{m:Nat}(hm:m≤ps.length)(h:∀i,i<m→RowOk ps i):∀j i,i<j→j<m→Bef (el5 ps i) (el5 ps j):=by
 intro j
 induction j with
 |zero=>intro i h1;omega
 |succ j ih=>
  intro i h1 h2
  have r:=(h (j+1) h2).2 (by omega)
  rw[show j+1-1=j by omega] at r
  by_cases e:i=j
  ·subst e;exact r
  ·exact bef_trans (ih i (by omega) (by omega)) r
theorem qty_none(a i:Int):∀(ps:List T5),(∀p∈ps,¬(p.1=a∧p.2.1=i))→qtyOf ps a i=0∧costOf ps a i=0
 |[],_=>⟨rfl,rfl⟩
 |p::r,h=>by
  obtain⟨h1,h2⟩:=qty_none a i r (fun q hq=>h q (List.mem_cons_of_mem _ hq))
  unfold qtyOf costOf
  rw[if_neg (h p List.mem_cons_self),if_neg (h p List.mem_cons_self),h1,h2]
  exact⟨rfl,rfl⟩
theorem mem_take{ps:List T5}{k:Nat}{p:T5}(h:p∈ps.take k):∃i,i<k∧i<ps.length∧el5 ps i=p:=by
 obtain⟨i,hi,e⟩:=mem_getD h
 have h1:i<k∧i<ps.length:=by simp at hi;omega
 refine⟨i,h1.1,h1.2,?_⟩
 rw[←e]
 simp[el5,List.getD,h1.1,h1.2]
theorem run_next{ps:List T5}{k:Nat}(hk:k<ps.length)(h:∀i,i<k+1→RowOk ps i):
  run ps k=(if k=0∨(el5 ps k).1≠(el5 ps (k-1)).1∨(el5 ps k).2.1≠(el5 ps (k-1)).2.1 then((el5 ps k).2.2.2.1,(el5 ps k).2.2.2.2)
   else((run ps (k-1)).1+(el5 ps k).2.2.2.1,(run ps (k-1)).2+(el5 ps k).2.2.2.2)):=by
 unfold run
 rw[qtyOf_next hk,costOf_next hk,if_pos ⟨rfl,rfl⟩,if_pos ⟨rfl,rfl⟩]
 by_cases c:k=0∨(el5 ps k).1≠(el5 ps (k-1)).1∨(el5 ps k).2.1≠(el5 ps (k-1)).2.1
 ·rw[if_pos c]
  obtain⟨z1,z2⟩:=qty_none (el5 ps k).1 (el5 ps k).2.1 (ps.take k) (fun p hp e=>by
   obtain⟨i,hi,hl,rfl⟩:=mem_take hp
   have b:=asc_of (m:=k+1) (by omega) h k i hi (by omega)
   by_cases k0:k=0
   ·omega
   ·have b1:=(h k (by omega)).2 (by omega)
    by_cases e1:i=k-1
    ·subst e1
     rcases c with c|c|c
     ·omega
     ·exact c e.1.symm
     ·exact c e.2.symm
    ·have b2:=asc_of (m:=k+1) (by omega) h (k-1) i (by omega) (by omega)
     unfold Bef at b b1 b2
     omega)
  rw[z1,z2]
  simp
 ·rw[if_neg c]
  have k0:k≠0:=fun e=>c (.inl e)
  have e1:(el5 ps k).1=(el5 ps (k-1)).1:=Classical.byContradiction fun e=>c (.inr (.inl e))
  have e2:(el5 ps k).2.1=(el5 ps (k-1)).2.1:=Classical.byContradiction fun e=>c (.inr (.inr e))
  rw[show k-1+1=k by omega,e1,e2]
theorem right_iff(ps:List T5)(hl:ps.length≤120):Right ps↔∀i,i<ps.length→RowOk ps i∧(run ps i).1≤1000000000000000∧(run ps i).2≤1000000000000000:=by
 constructor
 ·rintro⟨_,h2,h3⟩ i hi
  have one:∀p∈ps,One p:=fun p hp=>by
   obtain⟨j,hj,rfl⟩:=mem_getD hp
   exact(h2 j hj).1
  have t:=take_le one (i+1) (el5 ps i).1 (el5 ps i).2.1
  have s:=h3 (el5 ps i).1 (el5 ps i).2.1
  refine⟨h2 i hi,?_,?_⟩
  ·show qtyOf _ _ _≤_
   omega
  ·show costOf _ _ _≤_
   omega
 ·intro h
  refine⟨hl,fun i hi=>(h i hi).1,fun a i=>?_⟩
  have key:∀m,m≤ps.length→qtyOf (ps.take m) a i≤1000000000000000∧costOf (ps.take m) a i≤1000000000000000:=by
   intro m
   induction m with
   |zero=>intro _;simp[qtyOf,costOf]
   |succ m ih=>
    intro hm
    by_cases e:(el5 ps m).1=a∧(el5 ps m).2.1=i
    ·obtain⟨rfl,rfl⟩:=e
     exact(h m (by omega)).2
    ·have i0:=ih (by omega)
     rw[qtyOf_next (by omega),costOf_next (by omega),if_neg e,if_neg e]
     omega
  have:=key ps.length (Nat.le_refl _)
  rw[List.take_length] at this
  exact this
def ownL(ps:List T5)(a i:Int):List T5:=ps.filter fun p=>decide (p.1=a∧p.2.1=i)
def restL(ps:List T5)(a i:Int):List T5:=ps.filter fun p=> !decide (p.1=a∧p.2.1=i)
theorem own_next{ps:List T5}{k:Nat}(h:k<ps.length)(a i:Int):ownL (ps.take (k+1)) a i=ownL (ps.take k) a i++(if(el5 ps k).1=a∧(el5 ps k).2.1=i then[el5 ps k] else[]):=by
 unfold ownL
 rw[take_next h,List.filter_append]
 congr 1
 generalize el5 ps k=p
 by_cases e:p.1=a∧p.2.1=i
 ·rw[if_pos e];simp[e]
 ·rw[if_neg e,List.filter_cons];simp[e]
theorem rest_next{ps:List T5}{k:Nat}(h:k<ps.length)(a i:Int):restL (ps.take (k+1)) a i=restL (ps.take k) a i++(if(el5 ps k).1=a∧(el5 ps k).2.1=i then[] else[el5 ps k]):=by
 unfold restL
 rw[take_next h,List.filter_append]
 congr 1
 generalize el5 ps k=p
 by_cases e:p.1=a∧p.2.1=i
 ·rw[if_pos e];simp[e]
 ·rw[if_neg e,List.filter_cons];simp[e]
end Lots
namespace Takes
open Tup5 Lots
def sumQ:List T5→Int
 |[]=>0
 |p::r=>p.2.2.2.1+sumQ r
def sumC:List T5→Int
 |[]=>0
 |p::r=>p.2.2.2.2+sumC r
theorem sumQ_append:∀(a b:List T5),sumQ (a++b)=sumQ a+sumQ b
 |[],b=>by simp[sumQ]
 |p::r,b=>by simp only[List.cons_append,sumQ,sumQ_append r b];omega
theorem sumC_append:∀(a b:List T5),sumC (a++b)=sumC a+sumC b
 |[],b=>by simp[sumC]
 |p::r,b=>by simp only[List.cons_append,sumC,sumC_append r b];omega
theorem sumQ_next{ps:List T5}{k:Nat}(h:k<ps.length):sumQ (ps.take (k+1))=sumQ (ps.take k)+(el5 ps k).2.2.2.1:=by
 rw[take_next h,sumQ_append]
 simp[sumQ]
theorem own_sums(a i:Int):∀(ps:List T5),sumQ (ownL ps a i)=qtyOf ps a i∧sumC (ownL ps a i)=costOf ps a i
 |[]=>⟨rfl,rfl⟩
 |p::r=>by
  obtain⟨h1,h2⟩:=own_sums a i r
  unfold ownL at h1 h2⊢
  by_cases e:p.1=a∧p.2.1=i
  ·rw[List.filter_cons_of_pos (by simpa using e)]
   simp only[sumQ,sumC,qtyOf,costOf,if_pos e,h1,h2]
   exact⟨trivial,trivial⟩
  ·rw[List.filter_cons_of_neg (by simpa using e)]
   simp only[qtyOf,costOf,if_neg e,h1,h2]
   omega
def Pos(p:T5):Prop:=(1≤p.2.2.2.1∧p.2.2.2.1≤1000000000000000)∧0≤p.2.2.2.2∧p.2.2.2.2≤1000000000000000
theorem sum_pos:∀(l:List T5),(∀p∈l,Pos p)→0≤sumQ l∧0≤sumC l
 |[],_=>by simp[sumQ,sumC]
 |p::r,h=>by
  obtain⟨i1,i2⟩:=sum_pos r (fun q hq=>h q (List.mem_cons_of_mem _ hq))
  have hp:=h p List.mem_cons_self
  unfold Pos at hp
  unfold sumQ sumC
  omega
theorem right_pos{ps:List T5}(h:Right ps):∀p∈ps,Pos p:=by
 intro p hp
 obtain⟨i,hi,rfl⟩:=mem_getD hp
 have:=(h.2.1 i hi).1
 exact this.2.2.2
theorem own_pos{ps:List T5}(h:Right ps)(a i:Int):(∀p∈ownL ps a i,Pos p)∧sumQ (ownL ps a i)≤1000000000000000∧sumC (ownL ps a i)≤1000000000000000:=by
 refine⟨fun p hp=>right_pos h p (List.mem_filter.1 hp).1,?_⟩
 obtain⟨e1,e2⟩:=own_sums a i ps
 rw[e1,e2]
 exact h.2.2 a i
end Takes
namespace Ints
theorem info3:(Tryz.prog.info? 3).map (fun i=>(i.zero,i.size,i.bytes))=some (some (.int .i64 0),1,8):=by kernel_rfl
def At(w:World)(g:Nat)(xs:List Int):Prop:=∀i,i<xs.length→w.cell? ⟨g,i,none⟩=some (.int .i64 (xs.getD i 0))
def Own(w:World)(base g n cap:Nat)(xs:List Int):Prop:=w.ownsRow base 3 1 (.slice (some ⟨g,0,none⟩) n cap) n (xs.map (Value.int .i64))
theorem Own.len{w:World}{base g n cap:Nat}{xs:List Int}(h:Own w base g n cap xs):xs.length=n:=by
 have:=h.1
 simpa using this
theorem Own.lt{w:World}{base g n cap:Nat}{xs:List Int}(h:Own w base g n cap xs):base≤g∧g<w.heap.size:=World.ownsRow.lt h g rfl
theorem Own.at{w:World}{base g n cap:Nat}{xs:List Int}(h:Own w base g n cap xs):At w g xs:=by
 intro i hi
 have hl:=h.len
 have:=World.ownsRow.cellAt h i (by omega)
 rw[this]
 simp[List.getD,hi]
theorem Own.mono{w:World}{base base' g n cap:Nat}{xs:List Int}(h:Own w base g n cap xs)(hb:base'≤base):Own w base' g n cap xs:=by
 refine⟨h.1,?_⟩
 rcases h.2 with⟨h1,_⟩|⟨g',c,cur,h1,h2,h3⟩
 ·simp at h1
 ·exact Or.inr ⟨g',c,cur,h1,Nat.le_trans hb h2,h3⟩
theorem At.below{w w':World}{g B:Nat}{xs:List Int}(h:At w g xs)(k:Below B w w')(hg:g<B):At w' g xs:=fun i hi=>(k.cell (p:=⟨g,i,none⟩) hg).trans (h i hi)
end Ints
namespace Quieter
open Tup5
structure Near(w:World) where
 u:World
 b:Below w.heap.size w u
theorem near_is(w:World):Nonempty (Near w):=⟨⟨w,Below.refl _ _⟩⟩
theorem quiet_near{P:Program}{id:Nat}{Q:Exit→Act→World→Prop}{a:Act}{w:World}{l:List Oper}(hm:P.follows .mixedOrders=true)(hB:Region.lexB .any l.toArray=true)
  (h:wpQuiet P l.toArray (fun w'=>∃n:Near w,w'=n.u) (fun a'=>∀w',(∃n:Near w,w'=n.u)→Q .normal a' w') l a):(Code.region id l.toArray true).wp P Q a w:=
 wp_region_quiet (C:=fun w'=>∃n:Near w,w'=n.u) hm hB ⟨⟨w.drew,Below.drew (Below.refl _ _)⟩,rfl⟩ h
end Quieter
namespace SBytes
theorem zh{p:Prop}(h:p):Hid p:=h
theorem zu{p:Prop}(h:Hid p):p:=h
def AtB(w:World)(g:Nat)(xs:List Int):Prop:=∀i,i<xs.length→w.cell? ⟨g,i,none⟩=some (.int .u8 (xs.getD i 0))∧0≤xs.getD i 0∧xs.getD i 0≤255
def stepC(p:Int×Int)(d:Int):Int×Int:=((p.1+d+1)%65535,(p.2+(p.1+d+1)%65535)%65535)
def chk(xs:List Int):Nat→Int×Int
 |0=>(0,0)
 |k+1=>stepC (chk xs k) (xs.getD k 0)
theorem chk_in(xs:List Int)(k:Nat):0≤(chk xs k).1∧(chk xs k).1<65535∧0≤(chk xs k).2∧(chk xs k).2<65535:=by
 cases k with
 |zero=>simp[chk]
 |succ k=>simp only[chk,stepC];omega
theorem AtB.below{w w':World}{g B:Nat}{xs:List Int}(h:AtB w g xs)(k:Below B w w')(hg:g<B):AtB w' g xs:=fun i hi=>⟨(k.cell (p:=⟨g,i,none⟩) hg).trans (h i hi).1,(h i hi).2⟩
def chkB(xs:List Int):Int:=65536*(chk xs xs.length).2+(chk xs xs.length).1
theorem tmod_pos(a:Int)(h:0≤a):a.tmod 65535=a%65535:=Int.tmod_eq_emod_of_nonneg h
theorem sCheck(w:World)(g cap:Nat)(xs:List Int)(h20:xs.length≤1048576)(hr:AtB w g xs):
  Calls Tryz.prog 136 #[.slice (some ⟨g,0,none⟩) xs.length cap] w fun e w'=>e= .returned (.int .i64 (65536*(chk xs xs.length).2+(chk xs xs.length).1))∧w'=w:=by
 have R:=zh hr
 clear hr
 go_enter Tryz.func136,Tryz.ntmps136
 go_wp2
 go_loopw [3,4,5] (fun a b i wr=>∃(k:Nat) (x y:Int),k≤xs.length∧i= .int .i64 k∧a= .int .i64 x∧b= .int .i64 y∧Hid ((x,y)=chk xs k)∧wr=w) (fun _ _ i _=>xs.length-(intOf i).toNat)
 case atStart=>exact⟨0,0,0,by omega,rfl,rfl,rfl,rfl,rfl⟩
 case round=>
  obtain⟨k,x,y,hk,rfl,rfl,rfl,HC,rfl⟩:=hrel
  have q:=chk_in xs k
  rw[←zu HC] at q
  obtain⟨q0,q1,q2,q3⟩:=q
  simp only at q0 q1 q2 q3
  by_cases t:k<xs.length
  ·obtain⟨d,d0,d1⟩:=(zu R) k t
   have N:=zh (show((x+xs.getD k 0+1)%65535,(y+(x+xs.getD k 0+1)%65535)%65535)=chk xs (k+1) from by simp only[chk];rw[←zu HC];rfl)
   clear HC
   generalize xs.getD k 0=v at *
   have a1:wrap64 (x+v)=x+v:=by rw[wrap64];omega
   have a2:wrap64 (x+v+1)=x+v+1:=by rw[wrap64];omega
   have a3:(x+v+1).tmod 65535=(x+v+1)%65535:=tmod_pos _ (by omega)
   have m1:0≤(x+v+1)%65535∧(x+v+1)%65535<65535:=by omega
   generalize (x+v+1)%65535=m at *
   have a4:wrap64 m=m:=by rw[wrap64];omega
   have a5:wrap64 (y+m)=y+m:=by rw[wrap64];omega
   have a6:(y+m).tmod 65535=(y+m)%65535:=tmod_pos _ (by omega)
   have m2:0≤(y+m)%65535∧(y+m)%65535<65535:=by omega
   generalize (y+m)%65535=n at *
   have a7:wrap64 n=n:=by rw[wrap64];omega
   have a8:wrap64 v=v:=by rw[wrap64];omega
   go_wp2
   go_roundw
   case rel=>exact⟨k+1,m,n,by omega,by go_num,by simp[a1,a2,a3,a4],by simp[a1,a2,a3,a4,a5,a6,a7],N,trivial⟩
   case measure=>simp[intOf];omega
  ·have e:k=xs.length:=by omega
   subst e
   have a1:wrap64 (65536*y)=65536*y:=by rw[wrap64];omega
   have a2:wrap64 (65536*y+x)=65536*y+x:=by rw[wrap64];omega
   have c1:x=(chk xs xs.length).1:=congrArg Prod.fst (zu HC)
   have c2:y=(chk xs xs.length).2:=congrArg Prod.snd (zu HC)
   have C1:=zh c1
   have C2:=zh c2
   clear c1 c2
   go_wp2
   go_ret
   exact⟨by rw[←zu C1,←zu C2];simp[a1,a2],rfl⟩
end SBytes
namespace ByteH
theorem info8:(Tryz.prog.info? 5).map (fun i=>(i.zero,i.size,i.bytes))=some (some (.int .u8 0),1,1):=by kernel_rfl
def At(w:World)(g:Nat)(xs:List Int):Prop:=∀i,i<xs.length→w.cell? ⟨g,i,none⟩=some (.int .u8 (xs.getD i 0))
def Own(w:World)(base g n cap:Nat)(xs:List Int):Prop:=w.ownsRow base 5 1 (.slice (some ⟨g,0,none⟩) n cap) n (xs.map (Value.int .u8))
theorem Own.len{w:World}{base g n cap:Nat}{xs:List Int}(h:Own w base g n cap xs):xs.length=n:=by
 have:=h.1
 simpa using this
theorem Own.lt{w:World}{base g n cap:Nat}{xs:List Int}(h:Own w base g n cap xs):base≤g∧g<w.heap.size:=World.ownsRow.lt h g rfl
theorem Own.at{w:World}{base g n cap:Nat}{xs:List Int}(h:Own w base g n cap xs):At w g xs:=by
 intro i hi
 have hl:=h.len
 have:=World.ownsRow.cellAt h i (by omega)
 rw[this]
 simp[List.getD,hi]
theorem Own.mono{w:World}{base base' g n cap:Nat}{xs:List Int}(h:Own w base g n cap xs)(hb:base'≤base):Own w base' g n cap xs:=by
 refine⟨h.1,?_⟩
 rcases h.2 with⟨h1,_⟩|⟨g',c,cur,h1,h2,h3⟩
 ·simp at h1
 ·exact Or.inr ⟨g',c,cur,h1,Nat.le_trans hb h2,h3⟩
theorem Own.below{w w':World}{base g n cap B:Nat}{xs:List Int}(h:Own w base g n cap xs)(k:Below B w w')(hg:g<B):Own w' base g n cap xs:=by
 refine⟨h.1,?_⟩
 rcases h.2 with⟨h1,_⟩|⟨g',c,cur,h1,h2,h3,h4⟩
 ·simp at h1
 ·obtain⟨e,_⟩:g=g'∧cap=c:=by simpa using h1
  subst e
  exact Or.inr ⟨g,c,cur,h1,h2,by rw[k.block g hg];exact h3,h4⟩
end ByteH
namespace Conv15
open SBytes
theorem of_bytes(w:World)(g c:Nat)(xs:List Int)(h:ByteH.At w g xs):(convert 142 9 (.slice (some ⟨g,0,none⟩) xs.length c)).run Tryz.prog w= .ok (.string (strOfNums xs)) w:=
 run_convert_bytes_arg w 142 5 Tryz.underlying142 Tryz.underlying5 g 0 xs.length c xs rfl (fun i hi=>by rw[Nat.zero_add];exact h i hi) 9 Tryz.underlying9
end Conv15
namespace VOI
open Ints (Own At)
section
variable {w w':World} {base n cap:Nat} {a:Option Addr} {xs:List Int}
end
def Rd(w:World)(a:Option Addr)(xs:List Int):Prop:=xs=[]∨∃g,a=some ⟨g,0,none⟩∧g<w.heap.size∧At w g xs
theorem Rd.below{w w':World}{a:Option Addr}{xs:List Int}(h:Rd w a xs)(k:Below w.heap.size w w'):Rd w' a xs:=by
 rcases h with h|⟨g,e,hl,hc⟩
 ·exact .inl h
 ·exact .inr ⟨g,e,Nat.lt_of_lt_of_le hl k.size,hc.below k hl⟩
end VOI
namespace VOB
open ByteH (Own At)
def Ob(w:World)(base:Nat)(a:Option Addr)(n cap:Nat)(xs:List Int):Prop:=w.ownsRow base 5 1 (.slice a n cap) n (xs.map (Value.int .u8))
theorem Ob.of{w:World}{base g n cap:Nat}{xs:List Int}(h:Own w base g n cap xs):Ob w base (some ⟨g,0,none⟩) n cap xs:=h
section
variable {w w':World} {base n cap:Nat} {a:Option Addr} {xs:List Int}
theorem Ob.len(h:Ob w base a n cap xs):xs.length=n:=by have:=h.1;simpa using this
theorem Ob.either(h:Ob w base a n cap xs):(a=none∧n=0∧xs=[])∨∃g,a=some ⟨g,0,none⟩∧Own w base g n cap xs:=by
 have hl:=h.len
 rcases h.2 with⟨h1,_⟩|⟨g,c,cur,h1,_⟩
 ·have:a=none∧n=0∧cap=0:=by simpa using h1
  obtain⟨rfl,rfl,rfl⟩:=this
  exact .inl ⟨rfl,rfl,List.eq_nil_of_length_eq_zero hl⟩
 ·have:a=some ⟨g,0,none⟩∧cap=c:=by simpa using h1
  obtain⟨rfl,rfl⟩:=this
  exact .inr ⟨g,rfl,h⟩
def Btw(lo hi:Nat)(a:Option Addr):Prop:=∀x,a=some x→lo≤x.block∧x.block<hi
theorem Ob.btw(h:Ob w base a n cap xs):Btw base w.heap.size a:=by
 intro x hx
 rcases h.either with⟨rfl,_⟩|⟨g,rfl,o⟩
 ·cases hx
 ·cases hx;exact o.lt
theorem Btw.mono{lo hi lo' hi':Nat}(h:Btw lo hi a)(h1:lo'≤lo)(h2:hi≤hi'):Btw lo' hi' a:=fun x hx=>⟨Nat.le_trans h1 (h x hx).1,Nat.lt_of_lt_of_le (h x hx).2 h2⟩
theorem Ob.mono{base':Nat}(h:Ob w base a n cap xs)(hb:base'≤base):Ob w base' a n cap xs:=by
 rcases h.either with⟨rfl,rfl,rfl⟩|⟨g,rfl,o⟩
 ·refine⟨h.1,?_⟩
  rcases h.2 with h|⟨g,c,cur,h1,_⟩
  ·exact .inl h
  ·simp at h1
 ·exact o.mono hb
theorem Ob.below{B:Nat}(h:Ob w base a n cap xs)(k:Below B w w')(hb:Btw 0 B a):Ob w' base a n cap xs:=by
 rcases h.either with⟨rfl,rfl,rfl⟩|⟨g,rfl,o⟩
 ·refine⟨h.1,?_⟩
  rcases h.2 with h|⟨g,c,cur,h1,_⟩
  ·exact .inl h
  ·simp at h1
 ·exact o.below k (hb _ rfl).2
theorem Ob.step(h:Ob w base a n cap xs)(k:Below w.heap.size w w'):Ob w' base a n cap xs:=h.below k (h.btw.mono (Nat.zero_le _) (Nat.le_refl _))
end
end VOB
namespace ICheck11
open SBytes
def AtBO(w:World)(g o:Nat)(xs:List Int):Prop:=∀i,i<xs.length→w.cell? ⟨g,o+i,none⟩=some (.int .u8 (xs.getD i 0))∧0≤xs.getD i 0∧xs.getD i 0≤255
theorem AtBO.of{w:World}{g:Nat}{xs:List Int}(h:AtB w g xs):AtBO w g 0 xs:=fun i hi=>by rw[Nat.zero_add];exact h i hi
theorem AtBO.below{w w':World}{g o B:Nat}{xs:List Int}(h:AtBO w g o xs)(k:Below B w w')(hg:g<B):AtBO w' g o xs:=fun i hi=>⟨(k.cell (p:=⟨g,o+i,none⟩) hg).trans (h i hi).1,(h i hi).2⟩
theorem iCheckO(w:World)(g o cap:Nat)(xs:List Int)(h20:xs.length≤1048576)(hr:AtBO w g o xs):
  Calls Tryz.prog 201 #[.slice (some ⟨g,o,none⟩) xs.length cap] w fun e w'=>e= .returned (.int .i64 (65536*(chk xs xs.length).2+(chk xs xs.length).1))∧w'=w:=by
 have R:=zh hr
 clear hr
 go_enter Tryz.func201,Tryz.ntmps201
 go_wp2
 go_loopw [3,4,6,9] (fun a b _ i wr=>∃(k:Nat) (x y:Int),k≤xs.length∧i= .int .i64 k∧a= .int .i64 x∧b= .int .i64 y∧Hid ((x,y)=chk xs k)∧wr=w) (fun _ _ _ i _=>xs.length-(intOf i).toNat)
 case atStart=>exact⟨0,0,0,by omega,rfl,rfl,rfl,rfl,rfl⟩
 case round=>
  obtain⟨k,x,y,hk,rfl,rfl,rfl,HC,rfl⟩:=hrel
  have q:=chk_in xs k
  rw[←zu HC] at q
  obtain⟨q0,q1,q2,q3⟩:=q
  simp only at q0 q1 q2 q3
  by_cases t:k<xs.length
  ·obtain⟨d,d0,d1⟩:=(zu R) k t
   have N:=zh (show((x+xs.getD k 0+1)%65535,(y+(x+xs.getD k 0+1)%65535)%65535)=chk xs (k+1) from by simp only[chk];rw[←zu HC];rfl)
   clear HC
   generalize xs.getD k 0=v at *
   have a1:wrap64 (x+v)=x+v:=by rw[wrap64];omega
   have a2:wrap64 (x+v+1)=x+v+1:=by rw[wrap64];omega
   have a3:(x+v+1).tmod 65535=(x+v+1)%65535:=tmod_pos _ (by omega)
   have m1:0≤(x+v+1)%65535∧(x+v+1)%65535<65535:=by omega
   generalize (x+v+1)%65535=m at *
   have a4:wrap64 m=m:=by rw[wrap64];omega
   have a5:wrap64 (y+m)=y+m:=by rw[wrap64];omega
   have a6:(y+m).tmod 65535=(y+m)%65535:=tmod_pos _ (by omega)
   have m2:0≤(y+m)%65535∧(y+m)%65535<65535:=by omega
   generalize (y+m)%65535=n at *
   have a7:wrap64 n=n:=by rw[wrap64];omega
   have a8:wrap64 v=v:=by rw[wrap64];omega
   go_wp2
   go_roundw
   case rel=>exact⟨k+1,m,n,by omega,by go_num,by simp[a1,a2,a3,a4],by simp[a1,a2,a3,a4,a5,a6,a7],N,trivial⟩
   case measure=>simp[intOf];omega
  ·have e:k=xs.length:=by omega
   subst e
   have a1:wrap64 (65536*y)=65536*y:=by rw[wrap64];omega
   have a2:wrap64 (65536*y+x)=65536*y+x:=by rw[wrap64];omega
   have c1:x=(chk xs xs.length).1:=congrArg Prod.fst (zu HC)
   have c2:y=(chk xs xs.length).2:=congrArg Prod.snd (zu HC)
   have C1:=zh c1
   have C2:=zh c2
   clear c1 c2
   go_wp2
   go_ret
   exact⟨by rw[←zu C1,←zu C2];simp[a1,a2],rfl⟩
end ICheck11
end Go.Proofs.YtppkkmaoaiopaaaGreat
