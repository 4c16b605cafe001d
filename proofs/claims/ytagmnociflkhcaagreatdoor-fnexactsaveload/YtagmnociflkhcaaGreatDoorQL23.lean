/- Texts of one proof, one behind the other: SRead13. -/
import Derived.Test.YtagmnociflkhcaaGreatDoorRows
import Derived.Test.YtagmnociflkhcaaGreatDoorCards
import Derived.Test.YtagmnociflkhcaaGreatDoorTie
import Derived.Test.YtagmnociflkhcaaGreatDoorQL0
import Derived.Test.YtagmnociflkhcaaGreatDoorQL15
import Derived.Test.YtagmnociflkhcaaGreatDoorQL17
import Derived.Deep.RegionHeld3
set_option linter.unusedVariables false
set_option linter.unusedSimpArgs false
open Go.ChangeShapes Go.WideShapes Go.ChangeAt Go.RowKit
set_option maxRecDepth 100000
set_option maxHeartbeats 32000000
namespace Go.Proofs.YtagmnociflkhcaaGreatDoor
namespace SRead13
open BMem Bks BHelp BMemV13 SRows13
open SBytes (AtB AtBO sGetNumO getN getF sGetNum val_in)
open SPuts11 (gets getsN)
open Lots (Says says_of)
open IBalsFit (one_more)
open Bals (T3 el3)
open Tup5 (T5 el5)
open Tup8 (T8 el8)
def r2(r:List Int):Int×Int:=(r.getD 0 0,r.getD 1 0)
def r3(r:List Int):T3:=(r.getD 0 0,r.getD 1 0,r.getD 2 0-1000000000000000)
def r5(r:List Int):T5:=(r.getD 0 0,r.getD 1 0,r.getD 2 0,r.getD 3 0,r.getD 4 0)
def r8(r:List Int):T8:=(r.getD 0 0,r.getD 1 0,r.getD 2 0,r.getD 3 0,r.getD 4 0,r.getD 5 0,r.getD 6 0,r.getD 7 0)
def wd:Nat→Nat|0=>2|1=>2|2=>3|3=>5|_=>8
def ms:Nat→Int|0=>20|1=>8|2=>160|3=>120|_=>30
def putRows(k:Nat)(rs:List (List Int))(b:Bk):Bk:=
 match k with
 |0=>⟨rs.map r2,b.ic,b.bs,b.ls,b.ts,b.lot⟩
 |1=>⟨b.ac,rs.map r2,b.bs,b.ls,b.ts,b.lot⟩
 |2=>⟨b.ac,b.ic,rs.map r3,b.ls,b.ts,b.lot⟩
 |3=>⟨b.ac,b.ic,b.bs,rs.map r5,b.ts,b.lot⟩
 |_=>⟨b.ac,b.ic,b.bs,b.ls,rs.map r8,b.lot⟩
def readF(xs:List Int):Nat→Int→Bk→Option (Int×Bk)
 |0,p,b=>some (p,b)
 |m+1,p,b=>if(rowsN xs p (wd (4-m)) (ms (4-m))).2.2=true then readF xs m (rowsN xs p (wd (4-m)) (ms (4-m))).2.1 (putRows (4-m) (rowsN xs p (wd (4-m)) (ms (4-m))).1 b) else none
def zeroB:Bk:=⟨[],[],[],[],[],0⟩
def withLot(b:Bk)(n:Int):Bk:=⟨b.ac,b.ic,b.bs,b.ls,b.ts,n⟩
open Classical in
noncomputable def endY (y:Int×Int×Bool) (len:Nat) (b:Bk):Bk×Bool:=if y.2.2=true∧y.2.1=len∧Ok (withLot b y.1) then(withLot b y.1,true) else(zeroB,false)
theorem endY_no{y:Int×Int×Bool}{len:Nat}{b:Bk}(h:¬(y.2.2=true∧y.2.1=len∧Ok (withLot b y.1))):endY y len b=(zeroB,false):=if_neg h
theorem endY_yes{y:Int×Int×Bool}{len:Nat}{b:Bk}(h:y.2.2=true∧y.2.1=len∧Ok (withLot b y.1)):endY y len b=(withLot b y.1,true):=if_pos h
noncomputable def endB (xs:List Int):Option (Int×Bk)→Bk×Bool
 |none=>(zeroB,false)
 |some (p,b)=>endY (getN xs p) xs.length b
noncomputable def readB (xs:List Int):Bk×Bool:=endB xs (readF xs 5 0 zeroB)
theorem gets_len(xs:List Int):∀m p l,(gets xs m p l).2.2=true→(gets xs m p l).1.length=l.length+m
 |0,p,l=>by simp[gets]
 |m+1,p,l=>by
  intro h
  simp only[gets] at h⊢
  by_cases a:(getN xs p).2.2=true
  ·rw[if_pos a] at h⊢
   rw[gets_len xs m _ _ h]
   simp
   omega
  ·rw[if_neg a] at h
   simp at h
theorem getsN_len{xs:List Int}{p:Int}{wide:Nat}(h:(getsN xs p wide).2.2=true):(getsN xs p wide).1.length=wide:=by
 unfold getsN at h⊢
 by_cases a:(0≤(wide:Int)∧(wide:Int)≤2000)∧0≤p∧p≤xs.length
 ·rw[if_pos a] at h⊢
  rw[gets_len xs _ _ _ h]
  simp
 ·rw[if_neg a] at h
  simp at h
theorem rowsL_in{xs:List Int}{wide:Nat}:∀m p l,(∀r∈l,r.length=wide)→(rowsL xs wide m p l).2.2=true→(∀r∈(rowsL xs wide m p l).1,r.length=wide)∧(rowsL xs wide m p l).1.length=l.length+m
 |0,p,l,hl,_=>⟨hl,rfl⟩
 |m+1,p,l,hl,h=>by
  simp only[rowsL] at h⊢
  by_cases a:(getsN xs p wide).2.2=true
  ·rw[if_pos a] at h⊢
   have q:=rowsL_in m _ (l++[(getsN xs p wide).1]) (fun r hr=>by
    rcases List.mem_append.1 hr with e|e
    ·exact hl r e
    ·simp at e;rw[e];exact getsN_len a) h
   refine⟨q.1,?_⟩
   rw[q.2]
   simp
   omega
  ·rw[if_neg a] at h
   simp at h
abbrev Fm(y:Int):Prop:=0≤y∧y≤9223372036854775807
theorem getF_lt(xs:List Int)(q:Nat):∀f k,f+k≤9→(getF xs q f k).2.2=true→Fm (getF xs q f k).1
 |0,k=>by simp[getF]
 |f+1,k=>by
  intro hk h
  simp only[getF] at h⊢
  by_cases a:q+k<xs.length
  ·rw[if_pos a] at h⊢
   by_cases b:xs.getD (q+k) 0<128
   ·rw[if_pos b] at h⊢
    by_cases c:xs.getD (q+k) 0=0∧0<k
    ·rw[if_pos c] at h;simp at h
    ·rw[if_neg c]
     have v:=val_in xs q (k+1)
     have p:(128:Int)^(k+1)≤128^9:=by
      have:k+1=1∨k+1=2∨k+1=3∨k+1=4∨k+1=5∨k+1=6∨k+1=7∨k+1=8∨k+1=9:=by omega
      rcases this with e|e|e|e|e|e|e|e|e<;>rw[e]<;>decide
     have q:(128:Int)^9=9223372036854775808:=by decide
     exact⟨v.1,by simp only;omega⟩
   ·rw[if_neg b] at h⊢
    exact getF_lt xs q f (k+1) (by omega) h
  ·rw[if_neg a] at h;simp at h
theorem getN_lt{xs:List Int}{p:Int}(h:(getN xs p).2.2=true):Fm (getN xs p).1:=by
 unfold getN at h⊢
 by_cases a:p<0∨(xs.length:Int)≤p
 ·rw[if_pos a] at h;simp at h
 ·rw[if_neg a] at h⊢
  exact getF_lt xs _ 9 0 (by omega) h
theorem gets_all(xs:List Int):∀m p l,(∀y∈l,Fm y)→(gets xs m p l).2.2=true→∀y∈(gets xs m p l).1,Fm y
 |0,p,l=>fun h _=>h
 |m+1,p,l=>by
  intro hl h
  simp only[gets] at h⊢
  by_cases a:(getN xs p).2.2=true
  ·rw[if_pos a] at h⊢
   exact gets_all xs m _ _ (fun y hy=>by
    rcases List.mem_append.1 hy with e|e
    ·exact hl y e
    ·simp at e;rw[e];exact getN_lt a) h
  ·rw[if_neg a] at h
   simp at h
theorem getsN_all{xs:List Int}{p:Int}{wide:Nat}(h:(getsN xs p wide).2.2=true):∀y∈(getsN xs p wide).1,Fm y:=by
 unfold getsN at h⊢
 by_cases a:(0≤(wide:Int)∧(wide:Int)≤2000)∧0≤p∧p≤xs.length
 ·rw[if_pos a] at h⊢
  exact gets_all xs _ _ _ (fun y hy=>by simp at hy) h
 ·rw[if_neg a] at h
  simp at h
theorem rowsL_all{xs:List Int}{wide:Nat}:∀m p l,(∀r∈l,∀y∈r,Fm y)→(rowsL xs wide m p l).2.2=true→∀r∈(rowsL xs wide m p l).1,∀y∈r,Fm y
 |0,p,l=>fun h _=>h
 |m+1,p,l=>by
  intro hl h
  simp only[rowsL] at h⊢
  by_cases a:(getsN xs p wide).2.2=true
  ·rw[if_pos a] at h⊢
   exact rowsL_all m _ _ (fun r hr=>by
    rcases List.mem_append.1 hr with e|e
    ·exact hl r e
    ·simp at e;rw[e];exact getsN_all a) h
  ·rw[if_neg a] at h
   simp at h
theorem rowsN_all{xs:List Int}{p:Int}{wide:Nat}{most:Int}(h:(rowsN xs p wide most).2.2=true):∀r∈(rowsN xs p wide most).1,∀y∈r,Fm y:=by
 unfold rowsN at h⊢
 by_cases a:(getN xs p).2.2=true∧(getN xs p).1≤most
 ·rw[if_pos a] at h⊢
  exact rowsL_all _ _ _ (fun r hr=>by simp at hr) h
 ·rw[if_neg a] at h
  simp at h
theorem mem_form{rs:List (List Int)}{i q n:Nat}(h:∀r∈rs,∀y∈r,Fm y)(hi:i<rs.length)(hl:(rs.getD i []).length=n)(hq:q<n):Fm ((rs.getD i []).getD q 0):=by
 refine h (rs.getD i []) (by simp[List.getD,hi]) _ ?_
 generalize rs.getD i []=r at *
 subst hl
 simp[List.getD,hq]
theorem rowsN_in{xs:List Int}{p:Int}{wide:Nat}{most:Int}(hm:most≤1000)(h:(rowsN xs p wide most).2.2=true):(∀r∈(rowsN xs p wide most).1,r.length=wide)∧(rowsN xs p wide most).1.length≤1000:=by
 unfold rowsN at h⊢
 by_cases a:(getN xs p).2.2=true∧(getN xs p).1≤most
 ·rw[if_pos a] at h⊢
  obtain⟨q1,q2⟩:=rowsL_in _ _ [] (fun r hr=>by simp at hr) h
  refine⟨q1,?_⟩
  rw[q2]
  simp
  omega
 ·rw[if_neg a] at h
  simp at h
theorem kcell{W W':World}{G g:Nat}(k:W.grownBy W' (some G))(o:Nat)(hg:g<W.heap.size)(hG:g≠G):W'.cell? ⟨g,o,none⟩=W.cell? ⟨g,o,none⟩:=
 World.cell?_of_block (w:=W) (k.block g hg (by simpa using hG))
theorem grow_grow{w w1 w2:World}{row:Option Nat}(h:w.grownBy w1 row)(k:w1.grownBy w2 row):w.grownBy w2 row:=
 ⟨k.os.trans h.os,k.tape.trans h.tape,k.output.trans h.output,Nat.le_trans h.size k.size,fun i hi hr=>(k.block i (Nat.lt_of_lt_of_le hi h.size) hr).trans (h.block i hi hr)⟩
theorem grow_app{Wk wr u9:World}{lit:Obj}{row:Option Nat}{G:Nat}(h:Wk.grownBy wr (some G))(k:(wr.drew.alloc lit).grownBy u9 row)(hr:∀j,row=some j→Wk.heap.size≤j):Wk.grownBy u9 (some G):=
 ⟨k.os.trans h.os,k.tape.trans h.tape,k.output.trans h.output,Nat.le_trans h.size (Nat.le_trans (show wr.heap.size≤(wr.drew.alloc lit).heap.size from by show wr.heap.size≤(wr.drew.heap.push lit).size;rw[Array.size_push];exact Nat.le_succ _) k.size),fun i hi hG=>by
  have l:i<wr.drew.heap.size:=Nat.lt_of_lt_of_le hi h.size
  refine(k.block i (by simp;exact Nat.lt_succ_of_lt l) (fun e=>by have:=hr i e.symm;omega)).trans ?_
  exact(Below.heap_alloc wr.drew lit i l).trans (h.block i hi hG)⟩
theorem row_kept{W W':World}{base G:Nat}{e:TypeId}{m:Nat}{v:Value}{n:Nat}{vs:List Value}(h:W.ownsRow base e m v n vs)(k:W.grownBy W' (some G))(hG:G<base):W'.ownsRow base e m v n vs:=
 World.ownsRow.kept h k (by
  cases hb:v.ownBlock with
  |none=>exact .inl rfl
  |some g=>exact .inr (fun e=>by have:=(World.ownsRow.lt h g hb).1;injection e with e;omega))
theorem step_app(u:World){ops:Array Oper}{o:Oper}{a:Act}{K:Act→World→Prop}{Q:Exit→Act→World→Prop}{E:Prop}(hgd:o.guard=none)(s x:Operand)(t e:TypeId)
  (ho:o.op= .call {callee:= .builtin .append,args:= #[s,x],argTypes:= #[t,t]})(z:Value)(size bytes:Nat)(ht:Tryz.prog.underlying t=some (.slice e))(hi:(Tryz.prog.info? e).map (fun i=>(i.zero,i.size,i.bytes))=some (some z,size,bytes))(hzs:z.cells.size=size)(hsz:0<size)(hby:bytes≤64)
  (base:Nat)(v:Value)(n:Nat)(xs:List Value)(vb:Nat)(news:List Value)(hs:a.eval s=v)(hx:a.eval x= .slice (some ⟨vb,0,none⟩) 1 1)(hown:u.ownsRow base e size v n xs)(hl:news.length=size)(hc:∀j w,news[j]?=some w→u.cell? ⟨vb,j,none⟩=some w)(h1:∀w∈news,w.oneCell'=true)(hn:n≤1000000)(hb:base≤u.heap.size)
  (h:∀g' c' w',w'.ownsRow base e size (.slice (some ⟨g',0,none⟩) (n+1) c') (n+1) (xs++news)→u.grownBy w' v.ownBlock→K (a.put o.dst (.slice (some ⟨g',0,none⟩) (n+1) c')) w'):if Region.wanted o (yielded ops a.tmps)=true then Oper.wp Tryz.prog o a u K Q else E:=by
 obtain⟨i0,hi,hz0,hz1,hz2⟩:=info_parts hi
 have hw:Region.wanted o (yielded ops a.tmps)=true:=by simp[Region.wanted,hgd]
 rw[if_pos hw]
 obtain⟨v',w',hr,own',gr',nil',loc'⟩:=run_append_own_at (P:=Tryz.prog) u base t o.type e i0 z size bytes ht hi hz0 hz1 hz2 hzs hsz v n xs hown ⟨vb,0,none⟩ 1 1 news (by omega) (fun j w hj=>by rw[Addr.add_lit,Nat.zero_add];exact hc j w hj) h1 (by unfold maxLen;omega) (by have:(n+1)*bytes≤1000001*64:=Nat.mul_le_mul (by omega) hby;omega) hb
 unfold Oper.wp execOp
 simp only[ho,resolve,invoke,builtin,Sem.run_bind,Sem.run_pure,Result.andThen_ok,List.map_toArray,List.map_cons,List.map_nil,hs,hx,hr]
 rcases own'.2 with⟨e1,_⟩|⟨g',c',cur,rfl,_⟩
 ·rw[e1] at nil';simp at nil'
 ·exact h g' c' w' own' gr'
theorem row_base{W:World}{base base':Nat}{e:TypeId}{m:Nat}{v:Value}{n:Nat}{vs:List Value}(h:W.ownsRow base e m v n vs)(hb:base'≤base):W.ownsRow base' e m v n vs:=
 ⟨h.1,by
  rcases h.2 with h|⟨g,c,cur,h1,h2,h3⟩
  ·exact .inl h
  ·exact .inr ⟨g,c,cur,h1,Nat.le_trans hb h2,h3⟩⟩
theorem litm(u:World)(news:List Value)(e:TypeId)(arr:Array Value)(h:arr=news.toArray):∀j w,news[j]?=some w→(u.alloc (.cells arr e)).cell? ⟨u.heap.size,j,none⟩=some w:=by
 subst h
 intro j w hj
 simpa using hj
theorem flat_p(ps:List (Int×Int))(a b:Int):Pairs.flat (ps++[(a,b)])=Pairs.flat ps++[.int .i64 a,.int .i64 b]:=by simp[Pairs.flat]
theorem flat_t(ps:List T3)(a b c:Int):Triples.flat3 (ps++[(a,b,c)])=Triples.flat3 ps++[.int .i64 a,.int .i64 b,.int .i64 c]:=by simp[Triples.flat3]
theorem flat_f(ps:List T5)(a b c d e:Int):Tup5.flat5 (ps++[(a,b,c,d,e)])=Tup5.flat5 ps++[.int .i64 a,.int .i64 b,.int .i64 c,.int .i64 d,.int .i64 e]:=by simp[Tup5.flat5]
theorem flat_e(ps:List T8)(a b c d e f g h:Int):Tup8.flat8 (ps++[(a,b,c,d,e,f,g,h)])=Tup8.flat8 ps++[.int .i64 a,.int .i64 b,.int .i64 c,.int .i64 d,.int .i64 e,.int .i64 f,.int .i64 g,.int .i64 h]:=by simp[Tup8.flat8]
theorem RowAt.lo{w:World}{lo lo' g:Nat}{rs:List (List Int)}(h:RowAt w lo g rs)(hl:lo'≤lo):RowAt w lo' g rs:=fun i hi=>by
 obtain⟨gi,ci,l,r⟩:=h i hi
 exact⟨gi,ci,Nat.le_trans hl l,r⟩
theorem six{w:World}{base g:Nat}{v0 v1 v2 v3 v4 v5:Value}(h:Box w base g v0 v1 v2 v3 v4 v5)(u0 u1 u2 u3 u4 u5:Value):Box ((((((w.setCell ⟨g,0,none⟩ u0).setCell ⟨g,1,none⟩ u1).setCell ⟨g,2,none⟩ u2).setCell ⟨g,3,none⟩ u3).setCell ⟨g,4,none⟩ u4).setCell ⟨g,5,none⟩ u5) base g u0 u1 u2 u3 u4 u5:=
 ((((((h.set0 u0).1.set1 u1).1.set2 u2).1.set3 u3).1.set4 u4).1.set5 u5).1
theorem six_grown{w:World}{base g:Nat}{v0 v1 v2 v3 v4 v5:Value}(h:Box w base g v0 v1 v2 v3 v4 v5)(u0 u1 u2 u3 u4 u5:Value):w.grownBy ((((((w.setCell ⟨g,0,none⟩ u0).setCell ⟨g,1,none⟩ u1).setCell ⟨g,2,none⟩ u2).setCell ⟨g,3,none⟩ u3).setCell ⟨g,4,none⟩ u4).setCell ⟨g,5,none⟩ u5) (some g):=by
 have a0:=h.set0 u0
 have a1:=a0.1.set1 u1
 have a2:=a1.1.set2 u2
 have a3:=a2.1.set3 u3
 have a4:=a3.1.set4 u4
 have a5:=a4.1.set5 u5
 exact grow_grow (grow_grow (grow_grow (grow_grow (grow_grow a0.2 a1.2) a2.2) a3.2) a4.2) a5.2
theorem below_six{w W:World}(h:Below w.heap.size w W)(u0 u1 u2 u3 u4 u5:Value):Below w.heap.size w ((((((W.setCell ⟨w.heap.size,0,none⟩ u0).setCell ⟨w.heap.size,1,none⟩ u1).setCell ⟨w.heap.size,2,none⟩ u2).setCell ⟨w.heap.size,3,none⟩ u3).setCell ⟨w.heap.size,4,none⟩ u4).setCell ⟨w.heap.size,5,none⟩ u5):=
 (((((h.setCell (p:=⟨w.heap.size,0,none⟩) (Nat.le_refl _) u0).setCell (p:=⟨w.heap.size,1,none⟩) (Nat.le_refl _) u1).setCell (p:=⟨w.heap.size,2,none⟩) (Nat.le_refl _) u2).setCell (p:=⟨w.heap.size,3,none⟩) (Nat.le_refl _) u3).setCell (p:=⟨w.heap.size,4,none⟩) (Nat.le_refl _) u4).setCell (p:=⟨w.heap.size,5,none⟩) (Nat.le_refl _) u5
structure Emp(k:Nat)(x:Ix):Prop where
 z0:k≤0→x.aa=none∧x.ca=0∧x.b.ac=[]
 z1:k≤1→x.ai=none∧x.ci=0∧x.b.ic=[]
 z2:k≤2→x.ab=none∧x.cb=0∧x.b.bs=[]
 z3:k≤3→x.al=none∧x.cl=0∧x.b.ls=[]
 z4:k≤4→x.ats=none∧x.ct=0∧x.b.ts=[]
structure Mv(w W:World)(x:Ix):Prop where
 bx:Box W w.heap.size (w.heap.size+1) (.slice x.aa x.b.ac.length x.ca) (.slice x.ai x.b.ic.length x.ci) (.slice x.ab x.b.bs.length x.cb) (.slice x.al x.b.ls.length x.cl) (.slice x.ats x.b.ts.length x.ct) (.int .i64 0)
 rx:Box W w.heap.size w.heap.size (.slice none 0 0) (.slice none 0 0) (.slice none 0 0) (.slice none 0 0) (.slice none 0 0) (.int .i64 0)
 oa:W.ownsRow (w.heap.size+4) 75 2 (.slice x.aa x.b.ac.length x.ca) x.b.ac.length (Pairs.flat x.b.ac)
 oi:W.ownsRow (w.heap.size+4) 76 2 (.slice x.ai x.b.ic.length x.ci) x.b.ic.length (Pairs.flat x.b.ic)
 ob:W.ownsRow (w.heap.size+4) 78 3 (.slice x.ab x.b.bs.length x.cb) x.b.bs.length (Triples.flat3 x.b.bs)
 ol:W.ownsRow (w.heap.size+4) 80 5 (.slice x.al x.b.ls.length x.cl) x.b.ls.length (Tup5.flat5 x.b.ls)
 ot:W.ownsRow (w.heap.size+4) 82 8 (.slice x.ats x.b.ts.length x.ct) x.b.ts.length (Tup8.flat8 x.b.ts)
 wc:W.cell? ⟨w.heap.size+2,0,none⟩=some (.int .i64 2)∧W.cell? ⟨w.heap.size+2,1,none⟩=some (.int .i64 2)∧W.cell? ⟨w.heap.size+2,2,none⟩=some (.int .i64 3)∧W.cell? ⟨w.heap.size+2,3,none⟩=some (.int .i64 5)∧W.cell? ⟨w.heap.size+2,4,none⟩=some (.int .i64 8)
 mc:W.cell? ⟨w.heap.size+3,0,none⟩=some (.int .i64 20)∧W.cell? ⟨w.heap.size+3,1,none⟩=some (.int .i64 8)∧W.cell? ⟨w.heap.size+3,2,none⟩=some (.int .i64 160)∧W.cell? ⟨w.heap.size+3,3,none⟩=some (.int .i64 120)∧W.cell? ⟨w.heap.size+3,4,none⟩=some (.int .i64 30)
 b:Below w.heap.size w W
 s:w.heap.size+4≤W.heap.size
 n:Small x.b
theorem row_step{W W':World}{base:Nat}{e:TypeId}{m:Nat}{v:Value}{n:Nat}{vs:List Value}(h:W.ownsRow base e m v n vs)(k:Below W.heap.size W W'):W'.ownsRow base e m v n vs:=
 World.ownsRow.kept h (row:=none) ⟨k.os,k.tape,k.output,k.size,fun i hi _=>k.block i hi⟩ (by
  cases hb:v.ownBlock with
  |none=>exact .inl rfl
  |some g=>exact .inr (by simp))
theorem Mv.step{w W W':World}{x:Ix}(h:Mv w W x)(k:Below W.heap.size W W'):Mv w W' x:=by
 have s:=h.s
 refine⟨h.bx.below k (by omega),h.rx.below k (by omega),row_step h.oa k,row_step h.oi k,row_step h.ob k,row_step h.ol k,row_step h.ot k,?_,?_,h.b.trans (k.mono (by omega)),Nat.le_trans h.s k.size,h.n⟩
 ·obtain⟨a,b,c,d,e⟩:=h.wc
  exact⟨(k.cell (p:=⟨w.heap.size+2,0,none⟩) (show w.heap.size+2<_ by omega)).trans a,(k.cell (p:=⟨w.heap.size+2,1,none⟩) (show w.heap.size+2<_ by omega)).trans b,(k.cell (p:=⟨w.heap.size+2,2,none⟩) (show w.heap.size+2<_ by omega)).trans c,(k.cell (p:=⟨w.heap.size+2,3,none⟩) (show w.heap.size+2<_ by omega)).trans d,(k.cell (p:=⟨w.heap.size+2,4,none⟩) (show w.heap.size+2<_ by omega)).trans e⟩
 ·obtain⟨a,b,c,d,e⟩:=h.mc
  exact⟨(k.cell (p:=⟨w.heap.size+3,0,none⟩) (show w.heap.size+3<_ by omega)).trans a,(k.cell (p:=⟨w.heap.size+3,1,none⟩) (show w.heap.size+3<_ by omega)).trans b,(k.cell (p:=⟨w.heap.size+3,2,none⟩) (show w.heap.size+3<_ by omega)).trans c,(k.cell (p:=⟨w.heap.size+3,3,none⟩) (show w.heap.size+3<_ by omega)).trans d,(k.cell (p:=⟨w.heap.size+3,4,none⟩) (show w.heap.size+3<_ by omega)).trans e⟩
theorem addr_of{W:World}{base:Nat}{e:TypeId}{m n c:Nat}{a:Option Addr}{vs:List Value}(h:W.ownsRow base e m (.slice a n c) n vs):(n≠0→∃g,a=some ⟨g,0,none⟩)∧∀g,a=some ⟨g,0,none⟩→g<W.heap.size:=by
 refine⟨fun hn=>?_,fun g e=>(World.ownsRow.lt h g (by rw[e];rfl)).2⟩
 rcases h.2 with⟨h1,_⟩|⟨g,c',cur,h1,_⟩
 ·have:n=0:=by simp at h1;omega
  exact absurd this hn
 ·have:a=some ⟨g,0,none⟩∧c=c':=by simpa using h1
  exact⟨g,this.1⟩
theorem Mv.rd{w W:World}{x:Ix}(h:Mv w W x):RdV W x:=by
 obtain⟨n1,n2,n3,n4,n5⟩:=h.n
 refine⟨(addr_of h.oa).1,fun g e=>⟨(addr_of h.oa).2 g e,?_⟩,n1,(addr_of h.oi).1,fun g e=>⟨(addr_of h.oi).2 g e,?_⟩,n2,(addr_of h.ob).1,fun g e=>⟨(addr_of h.ob).2 g e,?_⟩,n3,(addr_of h.ol).1,fun g e=>⟨(addr_of h.ol).2 g e,?_⟩,n4,(addr_of h.ot).1,fun g e=>⟨(addr_of h.ot).2 g e,?_⟩,n5⟩
 ·have o:=h.oa
  rw[e] at o
  exact Pairs.Own.at o
 ·have o:=h.oi
  rw[e] at o
  exact Pairs.Own.at o
 ·have o:=h.ob
  rw[e] at o
  exact Triples.Own3.at o
 ·have o:=h.ol
  rw[e] at o
  exact Tup5.Own5.at o
 ·have o:=h.ot
  rw[e] at o
  exact Tup8.Own8.at o
theorem Mv.rest{w W W':World}{x:Ix}(h:Mv w W x)(k:W.grownBy W' (some (w.heap.size+1))):(W'.ownsRow (w.heap.size+4) 75 2 (.slice x.aa x.b.ac.length x.ca) x.b.ac.length (Pairs.flat x.b.ac)∧W'.ownsRow (w.heap.size+4) 76 2 (.slice x.ai x.b.ic.length x.ci) x.b.ic.length (Pairs.flat x.b.ic)∧W'.ownsRow (w.heap.size+4) 78 3 (.slice x.ab x.b.bs.length x.cb) x.b.bs.length (Triples.flat3 x.b.bs)∧W'.ownsRow (w.heap.size+4) 80 5 (.slice x.al x.b.ls.length x.cl) x.b.ls.length (Tup5.flat5 x.b.ls)∧W'.ownsRow (w.heap.size+4) 82 8 (.slice x.ats x.b.ts.length x.ct) x.b.ts.length (Tup8.flat8 x.b.ts))∧Box W' w.heap.size w.heap.size (.slice none 0 0) (.slice none 0 0) (.slice none 0 0) (.slice none 0 0) (.slice none 0 0) (.int .i64 0)∧Below w.heap.size w W'∧w.heap.size+4≤W'.heap.size∧(W'.cell? ⟨w.heap.size+2,0,none⟩=some (.int .i64 2)∧W'.cell? ⟨w.heap.size+2,1,none⟩=some (.int .i64 2)∧W'.cell? ⟨w.heap.size+2,2,none⟩=some (.int .i64 3)∧W'.cell? ⟨w.heap.size+2,3,none⟩=some (.int .i64 5)∧W'.cell? ⟨w.heap.size+2,4,none⟩=some (.int .i64 8))∧(W'.cell? ⟨w.heap.size+3,0,none⟩=some (.int .i64 20)∧W'.cell? ⟨w.heap.size+3,1,none⟩=some (.int .i64 8)∧W'.cell? ⟨w.heap.size+3,2,none⟩=some (.int .i64 160)∧W'.cell? ⟨w.heap.size+3,3,none⟩=some (.int .i64 120)∧W'.cell? ⟨w.heap.size+3,4,none⟩=some (.int .i64 30)):=by
 have s:=h.s
 refine⟨⟨row_kept h.oa k (by omega),row_kept h.oi k (by omega),row_kept h.ob k (by omega),row_kept h.ol k (by omega),row_kept h.ot k (by omega)⟩,h.rx.kept k (fun e=>by injection e with e;omega),h.b.grown k (by omega) (fun j hj=>by cases hj;omega),Nat.le_trans s k.size,?_,?_⟩
 ·obtain⟨a,b,c,d,e⟩:=h.wc
  exact⟨(kcell k 0 (by omega) (by omega)).trans a,(kcell k 1 (by omega) (by omega)).trans b,(kcell k 2 (by omega) (by omega)).trans c,(kcell k 3 (by omega) (by omega)).trans d,(kcell k 4 (by omega) (by omega)).trans e⟩
 ·obtain⟨a,b,c,d,e⟩:=h.mc
  exact⟨(kcell k 0 (by omega) (by omega)).trans a,(kcell k 1 (by omega) (by omega)).trans b,(kcell k 2 (by omega) (by omega)).trans c,(kcell k 3 (by omega) (by omega)).trans d,(kcell k 4 (by omega) (by omega)).trans e⟩
theorem rd_lot{W:World}{x:Ix}{n:Int}{base:Nat}(k0:W.ownsRow base 75 2 (.slice x.aa x.b.ac.length x.ca) x.b.ac.length (Pairs.flat x.b.ac))(k1:W.ownsRow base 76 2 (.slice x.ai x.b.ic.length x.ci) x.b.ic.length (Pairs.flat x.b.ic))(k2:W.ownsRow base 78 3 (.slice x.ab x.b.bs.length x.cb) x.b.bs.length (Triples.flat3 x.b.bs))(k3:W.ownsRow base 80 5 (.slice x.al x.b.ls.length x.cl) x.b.ls.length (Tup5.flat5 x.b.ls))(k4:W.ownsRow base 82 8 (.slice x.ats x.b.ts.length x.ct) x.b.ts.length (Tup8.flat8 x.b.ts))(hn:Small x.b):
  RdV W (⟨x.aa,x.ca,x.ai,x.ci,x.ab,x.cb,x.al,x.cl,x.ats,x.ct,withLot x.b n⟩:Ix):=by
 obtain⟨n1,n2,n3,n4,n5⟩:=hn
 refine⟨(addr_of k0).1,fun g e=>⟨(addr_of k0).2 g e,?_⟩,n1,(addr_of k1).1,fun g e=>⟨(addr_of k1).2 g e,?_⟩,n2,(addr_of k2).1,fun g e=>⟨(addr_of k2).2 g e,?_⟩,n3,(addr_of k3).1,fun g e=>⟨(addr_of k3).2 g e,?_⟩,n4,(addr_of k4).1,fun g e=>⟨(addr_of k4).2 g e,?_⟩,n5⟩
 ·have o:=k0
  simp only at e
  rw[e] at o
  exact Pairs.Own.at o
 ·have o:=k1
  simp only at e
  rw[e] at o
  exact Pairs.Own.at o
 ·have o:=k2
  simp only at e
  rw[e] at o
  exact Triples.Own3.at o
 ·have o:=k3
  simp only at e
  rw[e] at o
  exact Tup5.Own5.at o
 ·have o:=k4
  simp only at e
  rw[e] at o
  exact Tup8.Own8.at o
def ReadSaid(r:Bk×Bool)(w:World)(e:Ending)(w':World):Prop:=∃x:Ix,x.b=r.1∧e= .returned (.tuple #[.agg #[.slice x.aa x.b.ac.length x.ca,.slice x.ai x.b.ic.length x.ci,.slice x.ab x.b.bs.length x.cb,.slice x.al x.b.ls.length x.cl,.slice x.ats x.b.ts.length x.ct,.int .i64 x.b.lot],.bool r.2])∧RdV w' x∧Below w.heap.size w w'
theorem ReadSaid.no{w w':World}{e:Ending}(h:e= .returned (.tuple #[.agg #[.slice none 0 0,.slice none 0 0,.slice none 0 0,.slice none 0 0,.slice none 0 0,.int .i64 0],.bool false]))(hb:Below w.heap.size w w'):ReadSaid (zeroB,false) w e w':=
 ⟨⟨none,0,none,0,none,0,none,0,none,0,zeroB⟩,rfl,h,⟨fun h=>absurd rfl h,fun g h=>by simp at h,by simp[zeroB],fun h=>absurd rfl h,fun g h=>by simp at h,by simp[zeroB],fun h=>absurd rfl h,fun g h=>by simp at h,by simp[zeroB],fun h=>absurd rfl h,fun g h=>by simp at h,by simp[zeroB],fun h=>absurd rfl h,fun g h=>by simp at h,by simp[zeroB]⟩,hb⟩
theorem ReadSaid.yes{w w':World}{e:Ending}{b:Bk}(x:Ix)(hx:x.b=b)(h:e= .returned (.tuple #[.agg #[.slice x.aa x.b.ac.length x.ca,.slice x.ai x.b.ic.length x.ci,.slice x.ab x.b.bs.length x.cb,.slice x.al x.b.ls.length x.cl,.slice x.ats x.b.ts.length x.ct,.int .i64 x.b.lot],.bool true]))(hr:RdV w' x)(hb:Below w.heap.size w w'):ReadSaid (b,true) w e w':=⟨x,hx,h,hr,hb⟩
theorem info_ac:(Tryz.prog.info? 75).map (fun i=>(i.zero,i.size,i.bytes))=some (some (.agg #[.int .i64 0,.int .i64 0]),2,16):=by kernel_rfl
theorem info_ic:(Tryz.prog.info? 76).map (fun i=>(i.zero,i.size,i.bytes))=some (some (.agg #[.int .i64 0,.int .i64 0]),2,16):=by kernel_rfl
theorem info_bs:(Tryz.prog.info? 78).map (fun i=>(i.zero,i.size,i.bytes))=some (some (.agg #[.int .i64 0,.int .i64 0,.int .i64 0]),3,24):=by kernel_rfl
theorem info_ls:(Tryz.prog.info? 80).map (fun i=>(i.zero,i.size,i.bytes))=some (some (.agg #[.int .i64 0,.int .i64 0,.int .i64 0,.int .i64 0,.int .i64 0]),5,40):=by kernel_rfl
theorem info_ts:(Tryz.prog.info? 82).map (fun i=>(i.zero,i.size,i.bytes))=some (some (.agg #[.int .i64 0,.int .i64 0,.int .i64 0,.int .i64 0,.int .i64 0,.int .i64 0,.int .i64 0,.int .i64 0]),8,64):=by kernel_rfl
theorem five(u:World)(t:TypeId)(a b c d e:Value):(u.alloc (.cells #[a,b,c,d,e] t)).cell? ⟨u.heap.size,0,none⟩=some a∧(u.alloc (.cells #[a,b,c,d,e] t)).cell? ⟨u.heap.size,1,none⟩=some b∧(u.alloc (.cells #[a,b,c,d,e] t)).cell? ⟨u.heap.size,2,none⟩=some c∧(u.alloc (.cells #[a,b,c,d,e] t)).cell? ⟨u.heap.size,3,none⟩=some d∧(u.alloc (.cells #[a,b,c,d,e] t)).cell? ⟨u.heap.size,4,none⟩=some e:=⟨by simp,by simp,by simp,by simp,by simp⟩
theorem Mv.start(w:World):Mv w ((((w.alloc (.cells #[.slice none 0 0,.slice none 0 0,.slice none 0 0,.slice none 0 0,.slice none 0 0,.int .i64 0] 32)).alloc (.cells #[.slice none 0 0,.slice none 0 0,.slice none 0 0,.slice none 0 0,.slice none 0 0,.int .i64 0] 32)).alloc (.cells #[.int .i64 2,.int .i64 2,.int .i64 3,.int .i64 5,.int .i64 8] 3)).alloc (.cells #[.int .i64 20,.int .i64 8,.int .i64 160,.int .i64 120,.int .i64 30] 3)) (⟨none,0,none,0,none,0,none,0,none,0,zeroB⟩:Ix):=by
 have s1:(w.alloc (.cells #[.slice none 0 0,.slice none 0 0,.slice none 0 0,.slice none 0 0,.slice none 0 0,.int .i64 0] 32)).heap.size=w.heap.size+1:=by simp
 have s2:((w.alloc (.cells #[.slice none 0 0,.slice none 0 0,.slice none 0 0,.slice none 0 0,.slice none 0 0,.int .i64 0] 32)).alloc (.cells #[.slice none 0 0,.slice none 0 0,.slice none 0 0,.slice none 0 0,.slice none 0 0,.int .i64 0] 32)).heap.size=w.heap.size+2:=by simp
 have s3:(((w.alloc (.cells #[.slice none 0 0,.slice none 0 0,.slice none 0 0,.slice none 0 0,.slice none 0 0,.int .i64 0] 32)).alloc (.cells #[.slice none 0 0,.slice none 0 0,.slice none 0 0,.slice none 0 0,.slice none 0 0,.int .i64 0] 32)).alloc (.cells #[.int .i64 2,.int .i64 2,.int .i64 3,.int .i64 5,.int .i64 8] 3)).heap.size=w.heap.size+3:=by simp
 have b1:=one_more w (.cells #[.slice none 0 0,.slice none 0 0,.slice none 0 0,.slice none 0 0,.slice none 0 0,.int .i64 0] 32)
 have b2:=one_more (w.alloc (.cells #[.slice none 0 0,.slice none 0 0,.slice none 0 0,.slice none 0 0,.slice none 0 0,.int .i64 0] 32)) (.cells #[.slice none 0 0,.slice none 0 0,.slice none 0 0,.slice none 0 0,.slice none 0 0,.int .i64 0] 32)
 have b3:=one_more ((w.alloc (.cells #[.slice none 0 0,.slice none 0 0,.slice none 0 0,.slice none 0 0,.slice none 0 0,.int .i64 0] 32)).alloc (.cells #[.slice none 0 0,.slice none 0 0,.slice none 0 0,.slice none 0 0,.slice none 0 0,.int .i64 0] 32)) (.cells #[.int .i64 2,.int .i64 2,.int .i64 3,.int .i64 5,.int .i64 8] 3)
 have b4:=one_more (((w.alloc (.cells #[.slice none 0 0,.slice none 0 0,.slice none 0 0,.slice none 0 0,.slice none 0 0,.int .i64 0] 32)).alloc (.cells #[.slice none 0 0,.slice none 0 0,.slice none 0 0,.slice none 0 0,.slice none 0 0,.int .i64 0] 32)).alloc (.cells #[.int .i64 2,.int .i64 2,.int .i64 3,.int .i64 5,.int .i64 8] 3)) (.cells #[.int .i64 20,.int .i64 8,.int .i64 160,.int .i64 120,.int .i64 30] 3)
 rw[s1] at b2
 rw[s2] at b3
 rw[s3] at b4
 have B:Below w.heap.size w ((((w.alloc (.cells #[.slice none 0 0,.slice none 0 0,.slice none 0 0,.slice none 0 0,.slice none 0 0,.int .i64 0] 32)).alloc (.cells #[.slice none 0 0,.slice none 0 0,.slice none 0 0,.slice none 0 0,.slice none 0 0,.int .i64 0] 32)).alloc (.cells #[.int .i64 2,.int .i64 2,.int .i64 3,.int .i64 5,.int .i64 8] 3)).alloc (.cells #[.int .i64 20,.int .i64 8,.int .i64 160,.int .i64 120,.int .i64 30] 3)):=((b1.trans (b2.mono (by omega))).trans (b3.mono (by omega))).trans (b4.mono (by omega))
 refine⟨(((Box.made _ _ _ _ _ _ (by rw[s1];omega) s1.symm).below b3 (by omega)).below b4 (by omega)),(((Box.made (w:=w) _ _ _ _ _ _ (Nat.le_refl _) rfl).below b2 (by omega)).below b3 (by omega)).below b4 (by omega),World.ownsRow_nil _ _ _ _,World.ownsRow_nil _ _ _ _,World.ownsRow_nil _ _ _ _,World.ownsRow_nil _ _ _ _,World.ownsRow_nil _ _ _ _,?_,?_,B,by simp,⟨by simp[zeroB],by simp[zeroB],by simp[zeroB],by simp[zeroB],by simp[zeroB]⟩⟩
 ·have h:=five ((w.alloc (.cells #[.slice none 0 0,.slice none 0 0,.slice none 0 0,.slice none 0 0,.slice none 0 0,.int .i64 0] 32)).alloc (.cells #[.slice none 0 0,.slice none 0 0,.slice none 0 0,.slice none 0 0,.slice none 0 0,.int .i64 0] 32)) 3 (.int .i64 2) (.int .i64 2) (.int .i64 3) (.int .i64 5) (.int .i64 8)
  rw[s2] at h
  obtain⟨a,b,c,d,e⟩:=h
  exact⟨(b4.cell (p:=⟨w.heap.size+2,0,none⟩) (show w.heap.size+2<_ by omega)).trans a,(b4.cell (p:=⟨w.heap.size+2,1,none⟩) (show w.heap.size+2<_ by omega)).trans b,(b4.cell (p:=⟨w.heap.size+2,2,none⟩) (show w.heap.size+2<_ by omega)).trans c,(b4.cell (p:=⟨w.heap.size+2,3,none⟩) (show w.heap.size+2<_ by omega)).trans d,(b4.cell (p:=⟨w.heap.size+2,4,none⟩) (show w.heap.size+2<_ by omega)).trans e⟩
 ·have h:=five (((w.alloc (.cells #[.slice none 0 0,.slice none 0 0,.slice none 0 0,.slice none 0 0,.slice none 0 0,.int .i64 0] 32)).alloc (.cells #[.slice none 0 0,.slice none 0 0,.slice none 0 0,.slice none 0 0,.slice none 0 0,.int .i64 0] 32)).alloc (.cells #[.int .i64 2,.int .i64 2,.int .i64 3,.int .i64 5,.int .i64 8] 3)) 3 (.int .i64 20) (.int .i64 8) (.int .i64 160) (.int .i64 120) (.int .i64 30)
  rw[s3] at h
  exact h
abbrev oW00:Oper:={dst:=some 25,op:=Go.Op.move (Go.Operand.tmp 0),type:=49,pos:= "l13_save.go:63",after:= #[],guard:=none}
abbrev oW01:Oper:={dst:=some 26,op:=Go.Op.move (Go.Operand.tmp 5),type:=3,pos:= "l13_save.go:63",after:= #[],guard:=none}
abbrev oW02:Oper:={dst:=some 27,op:=Go.Op.move (Go.Operand.tmp 6),type:=70,pos:= "l13_save.go:63",after:= #[],guard:=none}
abbrev oW03:Oper:={dst:=some 28,op:=Go.Op.move (Go.Operand.tmp 8),type:=3,pos:= "l13_save.go:63",after:= #[],guard:=none}
abbrev oW04:Oper:={dst:=some 29,op:=Go.Op.indexAddr 70 (Go.Operand.tmp 27) (Go.Operand.tmp 28),type:=0,pos:= "l13_save.go:63",after:= #[{on:=2,ground:=Go.Ground.data},{on:=3,ground:=Go.Ground.data}],guard:=none}
abbrev oW05:Oper:={dst:=some 30,op:=Go.Op.load 3 (Go.Operand.tmp 29),type:=3,pos:= "l13_save.go:63",after:= #[{on:=4,ground:=Go.Ground.data}],guard:=none}
abbrev oW06:Oper:={dst:=some 31,op:=Go.Op.move (Go.Operand.tmp 7),type:=70,pos:= "l13_save.go:63",after:= #[],guard:=none}
abbrev oW07:Oper:={dst:=some 32,op:=Go.Op.move (Go.Operand.tmp 8),type:=3,pos:= "l13_save.go:63",after:= #[],guard:=none}
abbrev oW08:Oper:={dst:=some 33,op:=Go.Op.indexAddr 70 (Go.Operand.tmp 31) (Go.Operand.tmp 32),type:=0,pos:= "l13_save.go:63",after:= #[{on:=6,ground:=Go.Ground.data},{on:=7,ground:=Go.Ground.data}],guard:=none}
abbrev oW09:Oper:={dst:=some 34,op:=Go.Op.load 3 (Go.Operand.tmp 33),type:=3,pos:= "l13_save.go:63",after:= #[{on:=8,ground:=Go.Ground.data}],guard:=none}
abbrev oW010:Oper:={dst:=some 35,op:=Go.Op.call {callee:=Go.Callee.value (Go.Operand.func 35),args:= #[Go.Operand.tmp 25,Go.Operand.tmp 26,Go.Operand.tmp 30,Go.Operand.tmp 34],argTypes:= #[49,3,3,3]},type:=72,pos:= "l13_save.go:63",after:= #[{on:=0,ground:=Go.Ground.data},{on:=1,ground:=Go.Ground.data},{on:=5,ground:=Go.Ground.data},{on:=9,ground:=Go.Ground.data}],guard:=none}
abbrev oW011:Oper:={dst:=some 24,op:=Go.Op.move (Go.Operand.tmp 35),type:=72,pos:= "l13_save.go:63",after:= #[{on:=10,ground:=Go.Ground.data}],guard:=none}
abbrev oW012:Oper:={dst:=some 36,op:=Go.Op.extract (Go.Operand.tmp 24) 0,type:=71,pos:= "l13_save.go:63",after:= #[{on:=11,ground:=Go.Ground.data}],guard:=none}
abbrev oW013:Oper:={dst:=some 37,op:=Go.Op.extract (Go.Operand.tmp 24) 1,type:=3,pos:= "l13_save.go:63",after:= #[{on:=11,ground:=Go.Ground.data},{on:=15,ground:=Go.Ground.gcOnly Go.Departure.lateStores}],guard:=none}
abbrev oW014:Oper:={dst:=some 38,op:=Go.Op.extract (Go.Operand.tmp 24) 2,type:=4,pos:= "l13_save.go:63",after:= #[{on:=11,ground:=Go.Ground.data},{on:=16,ground:=Go.Ground.gcOnly Go.Departure.lateStores}],guard:=none}
abbrev oW015:Oper:={dst:=some 9,op:=Go.Op.assign (Go.Operand.tmp 36),type:=71,pos:= "l13_save.go:63",after:= #[{on:=12,ground:=Go.Ground.data},{on:=10,ground:=Go.Ground.chain},{on:=0,ground:=Go.Ground.phase},{on:=1,ground:=Go.Ground.phase},{on:=2,ground:=Go.Ground.phase},{on:=3,ground:=Go.Ground.phase},{on:=4,ground:=Go.Ground.phase},{on:=5,ground:=Go.Ground.phase},{on:=6,ground:=Go.Ground.phase},{on:=7,ground:=Go.Ground.phase},{on:=8,ground:=Go.Ground.phase},{on:=9,ground:=Go.Ground.phase},{on:=10,ground:=Go.Ground.phase},{on:=11,ground:=Go.Ground.phase},{on:=12,ground:=Go.Ground.phase},{on:=13,ground:=Go.Ground.textOnly Go.Departure.lateStores},{on:=14,ground:=Go.Ground.textOnly Go.Departure.lateStores}],guard:=none}
abbrev oW016:Oper:={dst:=some 10,op:=Go.Op.assign (Go.Operand.tmp 37),type:=3,pos:= "l13_save.go:63",after:= #[{on:=13,ground:=Go.Ground.data},{on:=15,ground:=Go.Ground.chain},{on:=0,ground:=Go.Ground.phase},{on:=1,ground:=Go.Ground.phase},{on:=2,ground:=Go.Ground.phase},{on:=3,ground:=Go.Ground.phase},{on:=4,ground:=Go.Ground.phase},{on:=5,ground:=Go.Ground.phase},{on:=6,ground:=Go.Ground.phase},{on:=7,ground:=Go.Ground.phase},{on:=8,ground:=Go.Ground.phase},{on:=9,ground:=Go.Ground.phase},{on:=10,ground:=Go.Ground.phase},{on:=11,ground:=Go.Ground.phase},{on:=12,ground:=Go.Ground.phase},{on:=13,ground:=Go.Ground.phase},{on:=14,ground:=Go.Ground.textOnly Go.Departure.lateStores},{on:=15,ground:=Go.Ground.phase}],guard:=none}
abbrev oW017:Oper:={dst:=some 11,op:=Go.Op.assign (Go.Operand.tmp 38),type:=4,pos:= "l13_save.go:63",after:= #[{on:=14,ground:=Go.Ground.data},{on:=16,ground:=Go.Ground.chain},{on:=0,ground:=Go.Ground.phase},{on:=1,ground:=Go.Ground.phase},{on:=2,ground:=Go.Ground.phase},{on:=3,ground:=Go.Ground.phase},{on:=4,ground:=Go.Ground.phase},{on:=5,ground:=Go.Ground.phase},{on:=6,ground:=Go.Ground.phase},{on:=7,ground:=Go.Ground.phase},{on:=8,ground:=Go.Ground.phase},{on:=9,ground:=Go.Ground.phase},{on:=10,ground:=Go.Ground.phase},{on:=11,ground:=Go.Ground.phase},{on:=12,ground:=Go.Ground.phase},{on:=13,ground:=Go.Ground.phase},{on:=14,ground:=Go.Ground.phase},{on:=15,ground:=Go.Ground.phase},{on:=16,ground:=Go.Ground.phase}],guard:=none}
abbrev oX00:Oper:={dst:=some 56,op:=Go.Op.fieldAddr 32 (Go.Operand.tmp 4) 0,type:=0,pos:= "l13_save.go:72",after:= #[],guard:=none}
abbrev oX01:Oper:={dst:=some 57,op:=Go.Op.load 26 (Go.Operand.tmp 56),type:=26,pos:= "l13_save.go:72",after:= #[{on:=0,ground:=Go.Ground.data}],guard:=none}
abbrev oX02:Oper:={dst:=some 58,op:=Go.Op.move (Go.Operand.tmp 13),type:=70,pos:= "l13_save.go:72",after:= #[],guard:=none}
abbrev oX03:Oper:={dst:=some 59,op:=Go.Op.indexAddr 70 (Go.Operand.tmp 58) (Go.Operand.const (Go.Value.int Go.IntKind.i64 0)),type:=0,pos:= "l13_save.go:72",after:= #[{on:=2,ground:=Go.Ground.data}],guard:=none}
abbrev oX04:Oper:={dst:=some 60,op:=Go.Op.load 3 (Go.Operand.tmp 59),type:=3,pos:= "l13_save.go:72",after:= #[{on:=3,ground:=Go.Ground.data}],guard:=none}
abbrev oX05:Oper:={dst:=some 61,op:=Go.Op.move (Go.Operand.tmp 13),type:=70,pos:= "l13_save.go:72",after:= #[],guard:=none}
abbrev oX06:Oper:={dst:=some 62,op:=Go.Op.indexAddr 70 (Go.Operand.tmp 61) (Go.Operand.const (Go.Value.int Go.IntKind.i64 1)),type:=0,pos:= "l13_save.go:72",after:= #[{on:=5,ground:=Go.Ground.data}],guard:=none}
abbrev oX07:Oper:={dst:=some 63,op:=Go.Op.load 3 (Go.Operand.tmp 62),type:=3,pos:= "l13_save.go:72",after:= #[{on:=6,ground:=Go.Ground.data}],guard:=none}
abbrev oX08:Oper:={dst:=some 64,op:=Go.Op.build 75 #[(0,Go.Operand.tmp 60),(1,Go.Operand.tmp 63)],type:=75,pos:= "l13_save.go:72",after:= #[{on:=4,ground:=Go.Ground.data},{on:=7,ground:=Go.Ground.data}],guard:=none}
abbrev oX09:Oper:={dst:=some 65,op:=Go.Op.buildSlice 26 1 #[(0,Go.Operand.tmp 64)],type:=26,pos:= "l13_save.go:72",after:= #[{on:=8,ground:=Go.Ground.data}],guard:=none}
abbrev oX010:Oper:={dst:=some 66,op:=Go.Op.call {callee:=Go.Callee.builtin Go.Builtin.append,args:= #[Go.Operand.tmp 57,Go.Operand.tmp 65],argTypes:= #[26,26]},type:=26,pos:= "l13_save.go:72",after:= #[{on:=1,ground:=Go.Ground.data},{on:=9,ground:=Go.Ground.data}],guard:=none}
abbrev oX011:Oper:={dst:=some 67,op:=Go.Op.fieldAddr 32 (Go.Operand.tmp 4) 0,type:=0,pos:= "l13_save.go:72",after:= #[{on:=0,ground:=Go.Ground.phase},{on:=1,ground:=Go.Ground.phase},{on:=2,ground:=Go.Ground.phase},{on:=3,ground:=Go.Ground.phase},{on:=4,ground:=Go.Ground.phase},{on:=5,ground:=Go.Ground.phase},{on:=6,ground:=Go.Ground.phase},{on:=7,ground:=Go.Ground.phase},{on:=8,ground:=Go.Ground.phase},{on:=9,ground:=Go.Ground.phase},{on:=10,ground:=Go.Ground.phase}],guard:=none}
abbrev oX012:Oper:={dst:=none,op:=Go.Op.store 26 (Go.Operand.tmp 67) (Go.Operand.tmp 66),type:=0,pos:= "l13_save.go:72",after:= #[{on:=11,ground:=Go.Ground.data},{on:=10,ground:=Go.Ground.data},{on:=10,ground:=Go.Ground.chain},{on:=0,ground:=Go.Ground.phase},{on:=1,ground:=Go.Ground.phase},{on:=2,ground:=Go.Ground.phase},{on:=3,ground:=Go.Ground.phase},{on:=4,ground:=Go.Ground.phase},{on:=5,ground:=Go.Ground.phase},{on:=6,ground:=Go.Ground.phase},{on:=7,ground:=Go.Ground.phase},{on:=8,ground:=Go.Ground.phase},{on:=9,ground:=Go.Ground.phase},{on:=10,ground:=Go.Ground.phase}],guard:=none}
abbrev oW10:Oper:={dst:=some 25,op:=Go.Op.move (Go.Operand.tmp 0),type:=49,pos:= "l13_save.go:63",after:= #[],guard:=none}
abbrev oW11:Oper:={dst:=some 26,op:=Go.Op.move (Go.Operand.tmp 5),type:=3,pos:= "l13_save.go:63",after:= #[],guard:=none}
abbrev oW12:Oper:={dst:=some 27,op:=Go.Op.move (Go.Operand.tmp 6),type:=70,pos:= "l13_save.go:63",after:= #[],guard:=none}
abbrev oW13:Oper:={dst:=some 28,op:=Go.Op.move (Go.Operand.tmp 8),type:=3,pos:= "l13_save.go:63",after:= #[],guard:=none}
abbrev oW14:Oper:={dst:=some 29,op:=Go.Op.indexAddr 70 (Go.Operand.tmp 27) (Go.Operand.tmp 28),type:=0,pos:= "l13_save.go:63",after:= #[{on:=2,ground:=Go.Ground.data},{on:=3,ground:=Go.Ground.data}],guard:=none}
abbrev oW15:Oper:={dst:=some 30,op:=Go.Op.load 3 (Go.Operand.tmp 29),type:=3,pos:= "l13_save.go:63",after:= #[{on:=4,ground:=Go.Ground.data}],guard:=none}
abbrev oW16:Oper:={dst:=some 31,op:=Go.Op.move (Go.Operand.tmp 7),type:=70,pos:= "l13_save.go:63",after:= #[],guard:=none}
abbrev oW17:Oper:={dst:=some 32,op:=Go.Op.move (Go.Operand.tmp 8),type:=3,pos:= "l13_save.go:63",after:= #[],guard:=none}
abbrev oW18:Oper:={dst:=some 33,op:=Go.Op.indexAddr 70 (Go.Operand.tmp 31) (Go.Operand.tmp 32),type:=0,pos:= "l13_save.go:63",after:= #[{on:=6,ground:=Go.Ground.data},{on:=7,ground:=Go.Ground.data}],guard:=none}
abbrev oW19:Oper:={dst:=some 34,op:=Go.Op.load 3 (Go.Operand.tmp 33),type:=3,pos:= "l13_save.go:63",after:= #[{on:=8,ground:=Go.Ground.data}],guard:=none}
abbrev oW110:Oper:={dst:=some 35,op:=Go.Op.call {callee:=Go.Callee.value (Go.Operand.func 35),args:= #[Go.Operand.tmp 25,Go.Operand.tmp 26,Go.Operand.tmp 30,Go.Operand.tmp 34],argTypes:= #[49,3,3,3]},type:=72,pos:= "l13_save.go:63",after:= #[{on:=0,ground:=Go.Ground.data},{on:=1,ground:=Go.Ground.data},{on:=5,ground:=Go.Ground.data},{on:=9,ground:=Go.Ground.data}],guard:=none}
abbrev oW111:Oper:={dst:=some 24,op:=Go.Op.move (Go.Operand.tmp 35),type:=72,pos:= "l13_save.go:63",after:= #[{on:=10,ground:=Go.Ground.data}],guard:=none}
abbrev oW112:Oper:={dst:=some 36,op:=Go.Op.extract (Go.Operand.tmp 24) 0,type:=71,pos:= "l13_save.go:63",after:= #[{on:=11,ground:=Go.Ground.data}],guard:=none}
abbrev oW113:Oper:={dst:=some 37,op:=Go.Op.extract (Go.Operand.tmp 24) 1,type:=3,pos:= "l13_save.go:63",after:= #[{on:=11,ground:=Go.Ground.data},{on:=15,ground:=Go.Ground.gcOnly Go.Departure.lateStores}],guard:=none}
abbrev oW114:Oper:={dst:=some 38,op:=Go.Op.extract (Go.Operand.tmp 24) 2,type:=4,pos:= "l13_save.go:63",after:= #[{on:=11,ground:=Go.Ground.data},{on:=16,ground:=Go.Ground.gcOnly Go.Departure.lateStores}],guard:=none}
abbrev oW115:Oper:={dst:=some 9,op:=Go.Op.assign (Go.Operand.tmp 36),type:=71,pos:= "l13_save.go:63",after:= #[{on:=12,ground:=Go.Ground.data},{on:=10,ground:=Go.Ground.chain},{on:=0,ground:=Go.Ground.phase},{on:=1,ground:=Go.Ground.phase},{on:=2,ground:=Go.Ground.phase},{on:=3,ground:=Go.Ground.phase},{on:=4,ground:=Go.Ground.phase},{on:=5,ground:=Go.Ground.phase},{on:=6,ground:=Go.Ground.phase},{on:=7,ground:=Go.Ground.phase},{on:=8,ground:=Go.Ground.phase},{on:=9,ground:=Go.Ground.phase},{on:=10,ground:=Go.Ground.phase},{on:=11,ground:=Go.Ground.phase},{on:=12,ground:=Go.Ground.phase},{on:=13,ground:=Go.Ground.textOnly Go.Departure.lateStores},{on:=14,ground:=Go.Ground.textOnly Go.Departure.lateStores}],guard:=none}
abbrev oW116:Oper:={dst:=some 10,op:=Go.Op.assign (Go.Operand.tmp 37),type:=3,pos:= "l13_save.go:63",after:= #[{on:=13,ground:=Go.Ground.data},{on:=15,ground:=Go.Ground.chain},{on:=0,ground:=Go.Ground.phase},{on:=1,ground:=Go.Ground.phase},{on:=2,ground:=Go.Ground.phase},{on:=3,ground:=Go.Ground.phase},{on:=4,ground:=Go.Ground.phase},{on:=5,ground:=Go.Ground.phase},{on:=6,ground:=Go.Ground.phase},{on:=7,ground:=Go.Ground.phase},{on:=8,ground:=Go.Ground.phase},{on:=9,ground:=Go.Ground.phase},{on:=10,ground:=Go.Ground.phase},{on:=11,ground:=Go.Ground.phase},{on:=12,ground:=Go.Ground.phase},{on:=13,ground:=Go.Ground.phase},{on:=14,ground:=Go.Ground.textOnly Go.Departure.lateStores},{on:=15,ground:=Go.Ground.phase}],guard:=none}
abbrev oW117:Oper:={dst:=some 11,op:=Go.Op.assign (Go.Operand.tmp 38),type:=4,pos:= "l13_save.go:63",after:= #[{on:=14,ground:=Go.Ground.data},{on:=16,ground:=Go.Ground.chain},{on:=0,ground:=Go.Ground.phase},{on:=1,ground:=Go.Ground.phase},{on:=2,ground:=Go.Ground.phase},{on:=3,ground:=Go.Ground.phase},{on:=4,ground:=Go.Ground.phase},{on:=5,ground:=Go.Ground.phase},{on:=6,ground:=Go.Ground.phase},{on:=7,ground:=Go.Ground.phase},{on:=8,ground:=Go.Ground.phase},{on:=9,ground:=Go.Ground.phase},{on:=10,ground:=Go.Ground.phase},{on:=11,ground:=Go.Ground.phase},{on:=12,ground:=Go.Ground.phase},{on:=13,ground:=Go.Ground.phase},{on:=14,ground:=Go.Ground.phase},{on:=15,ground:=Go.Ground.phase},{on:=16,ground:=Go.Ground.phase}],guard:=none}
abbrev oX10:Oper:={dst:=some 70,op:=Go.Op.fieldAddr 32 (Go.Operand.tmp 4) 1,type:=0,pos:= "l13_save.go:74",after:= #[],guard:=none}
abbrev oX11:Oper:={dst:=some 71,op:=Go.Op.load 27 (Go.Operand.tmp 70),type:=27,pos:= "l13_save.go:74",after:= #[{on:=0,ground:=Go.Ground.data}],guard:=none}
abbrev oX12:Oper:={dst:=some 72,op:=Go.Op.move (Go.Operand.tmp 13),type:=70,pos:= "l13_save.go:74",after:= #[],guard:=none}
abbrev oX13:Oper:={dst:=some 73,op:=Go.Op.indexAddr 70 (Go.Operand.tmp 72) (Go.Operand.const (Go.Value.int Go.IntKind.i64 0)),type:=0,pos:= "l13_save.go:74",after:= #[{on:=2,ground:=Go.Ground.data}],guard:=none}
abbrev oX14:Oper:={dst:=some 74,op:=Go.Op.load 3 (Go.Operand.tmp 73),type:=3,pos:= "l13_save.go:74",after:= #[{on:=3,ground:=Go.Ground.data}],guard:=none}
abbrev oX15:Oper:={dst:=some 75,op:=Go.Op.move (Go.Operand.tmp 13),type:=70,pos:= "l13_save.go:74",after:= #[],guard:=none}
abbrev oX16:Oper:={dst:=some 76,op:=Go.Op.indexAddr 70 (Go.Operand.tmp 75) (Go.Operand.const (Go.Value.int Go.IntKind.i64 1)),type:=0,pos:= "l13_save.go:74",after:= #[{on:=5,ground:=Go.Ground.data}],guard:=none}
abbrev oX17:Oper:={dst:=some 77,op:=Go.Op.load 3 (Go.Operand.tmp 76),type:=3,pos:= "l13_save.go:74",after:= #[{on:=6,ground:=Go.Ground.data}],guard:=none}
abbrev oX18:Oper:={dst:=some 78,op:=Go.Op.build 76 #[(0,Go.Operand.tmp 74),(1,Go.Operand.tmp 77)],type:=76,pos:= "l13_save.go:74",after:= #[{on:=4,ground:=Go.Ground.data},{on:=7,ground:=Go.Ground.data}],guard:=none}
abbrev oX19:Oper:={dst:=some 79,op:=Go.Op.buildSlice 27 1 #[(0,Go.Operand.tmp 78)],type:=27,pos:= "l13_save.go:74",after:= #[{on:=8,ground:=Go.Ground.data}],guard:=none}
abbrev oX110:Oper:={dst:=some 80,op:=Go.Op.call {callee:=Go.Callee.builtin Go.Builtin.append,args:= #[Go.Operand.tmp 71,Go.Operand.tmp 79],argTypes:= #[27,27]},type:=27,pos:= "l13_save.go:74",after:= #[{on:=1,ground:=Go.Ground.data},{on:=9,ground:=Go.Ground.data}],guard:=none}
abbrev oX111:Oper:={dst:=some 81,op:=Go.Op.fieldAddr 32 (Go.Operand.tmp 4) 1,type:=0,pos:= "l13_save.go:74",after:= #[{on:=0,ground:=Go.Ground.phase},{on:=1,ground:=Go.Ground.phase},{on:=2,ground:=Go.Ground.phase},{on:=3,ground:=Go.Ground.phase},{on:=4,ground:=Go.Ground.phase},{on:=5,ground:=Go.Ground.phase},{on:=6,ground:=Go.Ground.phase},{on:=7,ground:=Go.Ground.phase},{on:=8,ground:=Go.Ground.phase},{on:=9,ground:=Go.Ground.phase},{on:=10,ground:=Go.Ground.phase}],guard:=none}
abbrev oX112:Oper:={dst:=none,op:=Go.Op.store 27 (Go.Operand.tmp 81) (Go.Operand.tmp 80),type:=0,pos:= "l13_save.go:74",after:= #[{on:=11,ground:=Go.Ground.data},{on:=10,ground:=Go.Ground.data},{on:=10,ground:=Go.Ground.chain},{on:=0,ground:=Go.Ground.phase},{on:=1,ground:=Go.Ground.phase},{on:=2,ground:=Go.Ground.phase},{on:=3,ground:=Go.Ground.phase},{on:=4,ground:=Go.Ground.phase},{on:=5,ground:=Go.Ground.phase},{on:=6,ground:=Go.Ground.phase},{on:=7,ground:=Go.Ground.phase},{on:=8,ground:=Go.Ground.phase},{on:=9,ground:=Go.Ground.phase},{on:=10,ground:=Go.Ground.phase}],guard:=none}
abbrev oW20:Oper:={dst:=some 25,op:=Go.Op.move (Go.Operand.tmp 0),type:=49,pos:= "l13_save.go:63",after:= #[],guard:=none}
abbrev oW21:Oper:={dst:=some 26,op:=Go.Op.move (Go.Operand.tmp 5),type:=3,pos:= "l13_save.go:63",after:= #[],guard:=none}
abbrev oW22:Oper:={dst:=some 27,op:=Go.Op.move (Go.Operand.tmp 6),type:=70,pos:= "l13_save.go:63",after:= #[],guard:=none}
abbrev oW23:Oper:={dst:=some 28,op:=Go.Op.move (Go.Operand.tmp 8),type:=3,pos:= "l13_save.go:63",after:= #[],guard:=none}
abbrev oW24:Oper:={dst:=some 29,op:=Go.Op.indexAddr 70 (Go.Operand.tmp 27) (Go.Operand.tmp 28),type:=0,pos:= "l13_save.go:63",after:= #[{on:=2,ground:=Go.Ground.data},{on:=3,ground:=Go.Ground.data}],guard:=none}
abbrev oW25:Oper:={dst:=some 30,op:=Go.Op.load 3 (Go.Operand.tmp 29),type:=3,pos:= "l13_save.go:63",after:= #[{on:=4,ground:=Go.Ground.data}],guard:=none}
abbrev oW26:Oper:={dst:=some 31,op:=Go.Op.move (Go.Operand.tmp 7),type:=70,pos:= "l13_save.go:63",after:= #[],guard:=none}
abbrev oW27:Oper:={dst:=some 32,op:=Go.Op.move (Go.Operand.tmp 8),type:=3,pos:= "l13_save.go:63",after:= #[],guard:=none}
abbrev oW28:Oper:={dst:=some 33,op:=Go.Op.indexAddr 70 (Go.Operand.tmp 31) (Go.Operand.tmp 32),type:=0,pos:= "l13_save.go:63",after:= #[{on:=6,ground:=Go.Ground.data},{on:=7,ground:=Go.Ground.data}],guard:=none}
abbrev oW29:Oper:={dst:=some 34,op:=Go.Op.load 3 (Go.Operand.tmp 33),type:=3,pos:= "l13_save.go:63",after:= #[{on:=8,ground:=Go.Ground.data}],guard:=none}
abbrev oW210:Oper:={dst:=some 35,op:=Go.Op.call {callee:=Go.Callee.value (Go.Operand.func 35),args:= #[Go.Operand.tmp 25,Go.Operand.tmp 26,Go.Operand.tmp 30,Go.Operand.tmp 34],argTypes:= #[49,3,3,3]},type:=72,pos:= "l13_save.go:63",after:= #[{on:=0,ground:=Go.Ground.data},{on:=1,ground:=Go.Ground.data},{on:=5,ground:=Go.Ground.data},{on:=9,ground:=Go.Ground.data}],guard:=none}
abbrev oW211:Oper:={dst:=some 24,op:=Go.Op.move (Go.Operand.tmp 35),type:=72,pos:= "l13_save.go:63",after:= #[{on:=10,ground:=Go.Ground.data}],guard:=none}
abbrev oW212:Oper:={dst:=some 36,op:=Go.Op.extract (Go.Operand.tmp 24) 0,type:=71,pos:= "l13_save.go:63",after:= #[{on:=11,ground:=Go.Ground.data}],guard:=none}
abbrev oW213:Oper:={dst:=some 37,op:=Go.Op.extract (Go.Operand.tmp 24) 1,type:=3,pos:= "l13_save.go:63",after:= #[{on:=11,ground:=Go.Ground.data},{on:=15,ground:=Go.Ground.gcOnly Go.Departure.lateStores}],guard:=none}
abbrev oW214:Oper:={dst:=some 38,op:=Go.Op.extract (Go.Operand.tmp 24) 2,type:=4,pos:= "l13_save.go:63",after:= #[{on:=11,ground:=Go.Ground.data},{on:=16,ground:=Go.Ground.gcOnly Go.Departure.lateStores}],guard:=none}
abbrev oW215:Oper:={dst:=some 9,op:=Go.Op.assign (Go.Operand.tmp 36),type:=71,pos:= "l13_save.go:63",after:= #[{on:=12,ground:=Go.Ground.data},{on:=10,ground:=Go.Ground.chain},{on:=0,ground:=Go.Ground.phase},{on:=1,ground:=Go.Ground.phase},{on:=2,ground:=Go.Ground.phase},{on:=3,ground:=Go.Ground.phase},{on:=4,ground:=Go.Ground.phase},{on:=5,ground:=Go.Ground.phase},{on:=6,ground:=Go.Ground.phase},{on:=7,ground:=Go.Ground.phase},{on:=8,ground:=Go.Ground.phase},{on:=9,ground:=Go.Ground.phase},{on:=10,ground:=Go.Ground.phase},{on:=11,ground:=Go.Ground.phase},{on:=12,ground:=Go.Ground.phase},{on:=13,ground:=Go.Ground.textOnly Go.Departure.lateStores},{on:=14,ground:=Go.Ground.textOnly Go.Departure.lateStores}],guard:=none}
abbrev oW216:Oper:={dst:=some 10,op:=Go.Op.assign (Go.Operand.tmp 37),type:=3,pos:= "l13_save.go:63",after:= #[{on:=13,ground:=Go.Ground.data},{on:=15,ground:=Go.Ground.chain},{on:=0,ground:=Go.Ground.phase},{on:=1,ground:=Go.Ground.phase},{on:=2,ground:=Go.Ground.phase},{on:=3,ground:=Go.Ground.phase},{on:=4,ground:=Go.Ground.phase},{on:=5,ground:=Go.Ground.phase},{on:=6,ground:=Go.Ground.phase},{on:=7,ground:=Go.Ground.phase},{on:=8,ground:=Go.Ground.phase},{on:=9,ground:=Go.Ground.phase},{on:=10,ground:=Go.Ground.phase},{on:=11,ground:=Go.Ground.phase},{on:=12,ground:=Go.Ground.phase},{on:=13,ground:=Go.Ground.phase},{on:=14,ground:=Go.Ground.textOnly Go.Departure.lateStores},{on:=15,ground:=Go.Ground.phase}],guard:=none}
abbrev oW217:Oper:={dst:=some 11,op:=Go.Op.assign (Go.Operand.tmp 38),type:=4,pos:= "l13_save.go:63",after:= #[{on:=14,ground:=Go.Ground.data},{on:=16,ground:=Go.Ground.chain},{on:=0,ground:=Go.Ground.phase},{on:=1,ground:=Go.Ground.phase},{on:=2,ground:=Go.Ground.phase},{on:=3,ground:=Go.Ground.phase},{on:=4,ground:=Go.Ground.phase},{on:=5,ground:=Go.Ground.phase},{on:=6,ground:=Go.Ground.phase},{on:=7,ground:=Go.Ground.phase},{on:=8,ground:=Go.Ground.phase},{on:=9,ground:=Go.Ground.phase},{on:=10,ground:=Go.Ground.phase},{on:=11,ground:=Go.Ground.phase},{on:=12,ground:=Go.Ground.phase},{on:=13,ground:=Go.Ground.phase},{on:=14,ground:=Go.Ground.phase},{on:=15,ground:=Go.Ground.phase},{on:=16,ground:=Go.Ground.phase}],guard:=none}
abbrev oX20:Oper:={dst:=some 84,op:=Go.Op.fieldAddr 32 (Go.Operand.tmp 4) 2,type:=0,pos:= "l13_save.go:76",after:= #[],guard:=none}
abbrev oX21:Oper:={dst:=some 85,op:=Go.Op.load 28 (Go.Operand.tmp 84),type:=28,pos:= "l13_save.go:76",after:= #[{on:=0,ground:=Go.Ground.data}],guard:=none}
abbrev oX22:Oper:={dst:=some 86,op:=Go.Op.move (Go.Operand.tmp 13),type:=70,pos:= "l13_save.go:76",after:= #[],guard:=none}
abbrev oX23:Oper:={dst:=some 87,op:=Go.Op.indexAddr 70 (Go.Operand.tmp 86) (Go.Operand.const (Go.Value.int Go.IntKind.i64 0)),type:=0,pos:= "l13_save.go:76",after:= #[{on:=2,ground:=Go.Ground.data}],guard:=none}
abbrev oX24:Oper:={dst:=some 88,op:=Go.Op.load 3 (Go.Operand.tmp 87),type:=3,pos:= "l13_save.go:76",after:= #[{on:=3,ground:=Go.Ground.data}],guard:=none}
abbrev oX25:Oper:={dst:=some 89,op:=Go.Op.move (Go.Operand.tmp 13),type:=70,pos:= "l13_save.go:76",after:= #[],guard:=none}
abbrev oX26:Oper:={dst:=some 90,op:=Go.Op.indexAddr 70 (Go.Operand.tmp 89) (Go.Operand.const (Go.Value.int Go.IntKind.i64 1)),type:=0,pos:= "l13_save.go:76",after:= #[{on:=5,ground:=Go.Ground.data}],guard:=none}
abbrev oX27:Oper:={dst:=some 91,op:=Go.Op.load 3 (Go.Operand.tmp 90),type:=3,pos:= "l13_save.go:76",after:= #[{on:=6,ground:=Go.Ground.data}],guard:=none}
abbrev oX28:Oper:={dst:=some 92,op:=Go.Op.move (Go.Operand.tmp 13),type:=70,pos:= "l13_save.go:76",after:= #[],guard:=none}
abbrev oX29:Oper:={dst:=some 93,op:=Go.Op.indexAddr 70 (Go.Operand.tmp 92) (Go.Operand.const (Go.Value.int Go.IntKind.i64 2)),type:=0,pos:= "l13_save.go:76",after:= #[{on:=8,ground:=Go.Ground.data}],guard:=none}
abbrev oX210:Oper:={dst:=some 94,op:=Go.Op.load 3 (Go.Operand.tmp 93),type:=3,pos:= "l13_save.go:76",after:= #[{on:=9,ground:=Go.Ground.data}],guard:=none}
abbrev oX211:Oper:={dst:=some 95,op:=Go.Op.binOp Go.BinOp.sub 3 (Go.Operand.tmp 94) (Go.Operand.const (Go.Value.int Go.IntKind.i64 1000000000000000)) 3,type:=3,pos:= "l13_save.go:76",after:= #[{on:=10,ground:=Go.Ground.data}],guard:=none}
abbrev oX212:Oper:={dst:=some 96,op:=Go.Op.build 78 #[(0,Go.Operand.tmp 88),(1,Go.Operand.tmp 91),(2,Go.Operand.tmp 95)],type:=78,pos:= "l13_save.go:76",after:= #[{on:=4,ground:=Go.Ground.data},{on:=7,ground:=Go.Ground.data},{on:=11,ground:=Go.Ground.data}],guard:=none}
abbrev oX213:Oper:={dst:=some 97,op:=Go.Op.buildSlice 28 1 #[(0,Go.Operand.tmp 96)],type:=28,pos:= "l13_save.go:76",after:= #[{on:=12,ground:=Go.Ground.data}],guard:=none}
abbrev oX214:Oper:={dst:=some 98,op:=Go.Op.call {callee:=Go.Callee.builtin Go.Builtin.append,args:= #[Go.Operand.tmp 85,Go.Operand.tmp 97],argTypes:= #[28,28]},type:=28,pos:= "l13_save.go:76",after:= #[{on:=1,ground:=Go.Ground.data},{on:=13,ground:=Go.Ground.data}],guard:=none}
abbrev oX215:Oper:={dst:=some 99,op:=Go.Op.fieldAddr 32 (Go.Operand.tmp 4) 2,type:=0,pos:= "l13_save.go:76",after:= #[{on:=0,ground:=Go.Ground.phase},{on:=1,ground:=Go.Ground.phase},{on:=2,ground:=Go.Ground.phase},{on:=3,ground:=Go.Ground.phase},{on:=4,ground:=Go.Ground.phase},{on:=5,ground:=Go.Ground.phase},{on:=6,ground:=Go.Ground.phase},{on:=7,ground:=Go.Ground.phase},{on:=8,ground:=Go.Ground.phase},{on:=9,ground:=Go.Ground.phase},{on:=10,ground:=Go.Ground.phase},{on:=11,ground:=Go.Ground.phase},{on:=12,ground:=Go.Ground.phase},{on:=13,ground:=Go.Ground.phase},{on:=14,ground:=Go.Ground.phase}],guard:=none}
abbrev oX216:Oper:={dst:=none,op:=Go.Op.store 28 (Go.Operand.tmp 99) (Go.Operand.tmp 98),type:=0,pos:= "l13_save.go:76",after:= #[{on:=15,ground:=Go.Ground.data},{on:=14,ground:=Go.Ground.data},{on:=14,ground:=Go.Ground.chain},{on:=0,ground:=Go.Ground.phase},{on:=1,ground:=Go.Ground.phase},{on:=2,ground:=Go.Ground.phase},{on:=3,ground:=Go.Ground.phase},{on:=4,ground:=Go.Ground.phase},{on:=5,ground:=Go.Ground.phase},{on:=6,ground:=Go.Ground.phase},{on:=7,ground:=Go.Ground.phase},{on:=8,ground:=Go.Ground.phase},{on:=9,ground:=Go.Ground.phase},{on:=10,ground:=Go.Ground.phase},{on:=11,ground:=Go.Ground.phase},{on:=12,ground:=Go.Ground.phase},{on:=13,ground:=Go.Ground.phase},{on:=14,ground:=Go.Ground.phase}],guard:=none}
abbrev oW30:Oper:={dst:=some 25,op:=Go.Op.move (Go.Operand.tmp 0),type:=49,pos:= "l13_save.go:63",after:= #[],guard:=none}
abbrev oW31:Oper:={dst:=some 26,op:=Go.Op.move (Go.Operand.tmp 5),type:=3,pos:= "l13_save.go:63",after:= #[],guard:=none}
abbrev oW32:Oper:={dst:=some 27,op:=Go.Op.move (Go.Operand.tmp 6),type:=70,pos:= "l13_save.go:63",after:= #[],guard:=none}
abbrev oW33:Oper:={dst:=some 28,op:=Go.Op.move (Go.Operand.tmp 8),type:=3,pos:= "l13_save.go:63",after:= #[],guard:=none}
abbrev oW34:Oper:={dst:=some 29,op:=Go.Op.indexAddr 70 (Go.Operand.tmp 27) (Go.Operand.tmp 28),type:=0,pos:= "l13_save.go:63",after:= #[{on:=2,ground:=Go.Ground.data},{on:=3,ground:=Go.Ground.data}],guard:=none}
abbrev oW35:Oper:={dst:=some 30,op:=Go.Op.load 3 (Go.Operand.tmp 29),type:=3,pos:= "l13_save.go:63",after:= #[{on:=4,ground:=Go.Ground.data}],guard:=none}
abbrev oW36:Oper:={dst:=some 31,op:=Go.Op.move (Go.Operand.tmp 7),type:=70,pos:= "l13_save.go:63",after:= #[],guard:=none}
abbrev oW37:Oper:={dst:=some 32,op:=Go.Op.move (Go.Operand.tmp 8),type:=3,pos:= "l13_save.go:63",after:= #[],guard:=none}
abbrev oW38:Oper:={dst:=some 33,op:=Go.Op.indexAddr 70 (Go.Operand.tmp 31) (Go.Operand.tmp 32),type:=0,pos:= "l13_save.go:63",after:= #[{on:=6,ground:=Go.Ground.data},{on:=7,ground:=Go.Ground.data}],guard:=none}
abbrev oW39:Oper:={dst:=some 34,op:=Go.Op.load 3 (Go.Operand.tmp 33),type:=3,pos:= "l13_save.go:63",after:= #[{on:=8,ground:=Go.Ground.data}],guard:=none}
abbrev oW310:Oper:={dst:=some 35,op:=Go.Op.call {callee:=Go.Callee.value (Go.Operand.func 35),args:= #[Go.Operand.tmp 25,Go.Operand.tmp 26,Go.Operand.tmp 30,Go.Operand.tmp 34],argTypes:= #[49,3,3,3]},type:=72,pos:= "l13_save.go:63",after:= #[{on:=0,ground:=Go.Ground.data},{on:=1,ground:=Go.Ground.data},{on:=5,ground:=Go.Ground.data},{on:=9,ground:=Go.Ground.data}],guard:=none}
abbrev oW311:Oper:={dst:=some 24,op:=Go.Op.move (Go.Operand.tmp 35),type:=72,pos:= "l13_save.go:63",after:= #[{on:=10,ground:=Go.Ground.data}],guard:=none}
abbrev oW312:Oper:={dst:=some 36,op:=Go.Op.extract (Go.Operand.tmp 24) 0,type:=71,pos:= "l13_save.go:63",after:= #[{on:=11,ground:=Go.Ground.data}],guard:=none}
abbrev oW313:Oper:={dst:=some 37,op:=Go.Op.extract (Go.Operand.tmp 24) 1,type:=3,pos:= "l13_save.go:63",after:= #[{on:=11,ground:=Go.Ground.data},{on:=15,ground:=Go.Ground.gcOnly Go.Departure.lateStores}],guard:=none}
abbrev oW314:Oper:={dst:=some 38,op:=Go.Op.extract (Go.Operand.tmp 24) 2,type:=4,pos:= "l13_save.go:63",after:= #[{on:=11,ground:=Go.Ground.data},{on:=16,ground:=Go.Ground.gcOnly Go.Departure.lateStores}],guard:=none}
abbrev oW315:Oper:={dst:=some 9,op:=Go.Op.assign (Go.Operand.tmp 36),type:=71,pos:= "l13_save.go:63",after:= #[{on:=12,ground:=Go.Ground.data},{on:=10,ground:=Go.Ground.chain},{on:=0,ground:=Go.Ground.phase},{on:=1,ground:=Go.Ground.phase},{on:=2,ground:=Go.Ground.phase},{on:=3,ground:=Go.Ground.phase},{on:=4,ground:=Go.Ground.phase},{on:=5,ground:=Go.Ground.phase},{on:=6,ground:=Go.Ground.phase},{on:=7,ground:=Go.Ground.phase},{on:=8,ground:=Go.Ground.phase},{on:=9,ground:=Go.Ground.phase},{on:=10,ground:=Go.Ground.phase},{on:=11,ground:=Go.Ground.phase},{on:=12,ground:=Go.Ground.phase},{on:=13,ground:=Go.Ground.textOnly Go.Departure.lateStores},{on:=14,ground:=Go.Ground.textOnly Go.Departure.lateStores}],guard:=none}
abbrev oW316:Oper:={dst:=some 10,op:=Go.Op.assign (Go.Operand.tmp 37),type:=3,pos:= "l13_save.go:63",after:= #[{on:=13,ground:=Go.Ground.data},{on:=15,ground:=Go.Ground.chain},{on:=0,ground:=Go.Ground.phase},{on:=1,ground:=Go.Ground.phase},{on:=2,ground:=Go.Ground.phase},{on:=3,ground:=Go.Ground.phase},{on:=4,ground:=Go.Ground.phase},{on:=5,ground:=Go.Ground.phase},{on:=6,ground:=Go.Ground.phase},{on:=7,ground:=Go.Ground.phase},{on:=8,ground:=Go.Ground.phase},{on:=9,ground:=Go.Ground.phase},{on:=10,ground:=Go.Ground.phase},{on:=11,ground:=Go.Ground.phase},{on:=12,ground:=Go.Ground.phase},{on:=13,ground:=Go.Ground.phase},{on:=14,ground:=Go.Ground.textOnly Go.Departure.lateStores},{on:=15,ground:=Go.Ground.phase}],guard:=none}
abbrev oW317:Oper:={dst:=some 11,op:=Go.Op.assign (Go.Operand.tmp 38),type:=4,pos:= "l13_save.go:63",after:= #[{on:=14,ground:=Go.Ground.data},{on:=16,ground:=Go.Ground.chain},{on:=0,ground:=Go.Ground.phase},{on:=1,ground:=Go.Ground.phase},{on:=2,ground:=Go.Ground.phase},{on:=3,ground:=Go.Ground.phase},{on:=4,ground:=Go.Ground.phase},{on:=5,ground:=Go.Ground.phase},{on:=6,ground:=Go.Ground.phase},{on:=7,ground:=Go.Ground.phase},{on:=8,ground:=Go.Ground.phase},{on:=9,ground:=Go.Ground.phase},{on:=10,ground:=Go.Ground.phase},{on:=11,ground:=Go.Ground.phase},{on:=12,ground:=Go.Ground.phase},{on:=13,ground:=Go.Ground.phase},{on:=14,ground:=Go.Ground.phase},{on:=15,ground:=Go.Ground.phase},{on:=16,ground:=Go.Ground.phase}],guard:=none}
abbrev oX30:Oper:={dst:=some 102,op:=Go.Op.fieldAddr 32 (Go.Operand.tmp 4) 3,type:=0,pos:= "l13_save.go:78",after:= #[],guard:=none}
abbrev oX31:Oper:={dst:=some 103,op:=Go.Op.load 29 (Go.Operand.tmp 102),type:=29,pos:= "l13_save.go:78",after:= #[{on:=0,ground:=Go.Ground.data}],guard:=none}
abbrev oX32:Oper:={dst:=some 104,op:=Go.Op.move (Go.Operand.tmp 13),type:=70,pos:= "l13_save.go:78",after:= #[],guard:=none}
abbrev oX33:Oper:={dst:=some 105,op:=Go.Op.indexAddr 70 (Go.Operand.tmp 104) (Go.Operand.const (Go.Value.int Go.IntKind.i64 0)),type:=0,pos:= "l13_save.go:78",after:= #[{on:=2,ground:=Go.Ground.data}],guard:=none}
abbrev oX34:Oper:={dst:=some 106,op:=Go.Op.load 3 (Go.Operand.tmp 105),type:=3,pos:= "l13_save.go:78",after:= #[{on:=3,ground:=Go.Ground.data}],guard:=none}
abbrev oX35:Oper:={dst:=some 107,op:=Go.Op.move (Go.Operand.tmp 13),type:=70,pos:= "l13_save.go:78",after:= #[],guard:=none}
abbrev oX36:Oper:={dst:=some 108,op:=Go.Op.indexAddr 70 (Go.Operand.tmp 107) (Go.Operand.const (Go.Value.int Go.IntKind.i64 1)),type:=0,pos:= "l13_save.go:78",after:= #[{on:=5,ground:=Go.Ground.data}],guard:=none}
abbrev oX37:Oper:={dst:=some 109,op:=Go.Op.load 3 (Go.Operand.tmp 108),type:=3,pos:= "l13_save.go:78",after:= #[{on:=6,ground:=Go.Ground.data}],guard:=none}
abbrev oX38:Oper:={dst:=some 110,op:=Go.Op.move (Go.Operand.tmp 13),type:=70,pos:= "l13_save.go:78",after:= #[],guard:=none}
abbrev oX39:Oper:={dst:=some 111,op:=Go.Op.indexAddr 70 (Go.Operand.tmp 110) (Go.Operand.const (Go.Value.int Go.IntKind.i64 2)),type:=0,pos:= "l13_save.go:78",after:= #[{on:=8,ground:=Go.Ground.data}],guard:=none}
abbrev oX310:Oper:={dst:=some 112,op:=Go.Op.load 3 (Go.Operand.tmp 111),type:=3,pos:= "l13_save.go:78",after:= #[{on:=9,ground:=Go.Ground.data}],guard:=none}
abbrev oX311:Oper:={dst:=some 113,op:=Go.Op.move (Go.Operand.tmp 13),type:=70,pos:= "l13_save.go:78",after:= #[],guard:=none}
abbrev oX312:Oper:={dst:=some 114,op:=Go.Op.indexAddr 70 (Go.Operand.tmp 113) (Go.Operand.const (Go.Value.int Go.IntKind.i64 3)),type:=0,pos:= "l13_save.go:78",after:= #[{on:=11,ground:=Go.Ground.data}],guard:=none}
abbrev oX313:Oper:={dst:=some 115,op:=Go.Op.load 3 (Go.Operand.tmp 114),type:=3,pos:= "l13_save.go:78",after:= #[{on:=12,ground:=Go.Ground.data}],guard:=none}
abbrev oX314:Oper:={dst:=some 116,op:=Go.Op.move (Go.Operand.tmp 13),type:=70,pos:= "l13_save.go:78",after:= #[],guard:=none}
abbrev oX315:Oper:={dst:=some 117,op:=Go.Op.indexAddr 70 (Go.Operand.tmp 116) (Go.Operand.const (Go.Value.int Go.IntKind.i64 4)),type:=0,pos:= "l13_save.go:78",after:= #[{on:=14,ground:=Go.Ground.data}],guard:=none}
abbrev oX316:Oper:={dst:=some 118,op:=Go.Op.load 3 (Go.Operand.tmp 117),type:=3,pos:= "l13_save.go:78",after:= #[{on:=15,ground:=Go.Ground.data}],guard:=none}
abbrev oX317:Oper:={dst:=some 119,op:=Go.Op.build 80 #[(0,Go.Operand.tmp 106),(1,Go.Operand.tmp 109),(2,Go.Operand.tmp 112),(3,Go.Operand.tmp 115),(4,Go.Operand.tmp 118)],type:=80,pos:= "l13_save.go:78",after:= #[{on:=4,ground:=Go.Ground.data},{on:=7,ground:=Go.Ground.data},{on:=10,ground:=Go.Ground.data},{on:=13,ground:=Go.Ground.data},{on:=16,ground:=Go.Ground.data}],guard:=none}
abbrev oX318:Oper:={dst:=some 120,op:=Go.Op.buildSlice 29 1 #[(0,Go.Operand.tmp 119)],type:=29,pos:= "l13_save.go:78",after:= #[{on:=17,ground:=Go.Ground.data}],guard:=none}
abbrev oX319:Oper:={dst:=some 121,op:=Go.Op.call {callee:=Go.Callee.builtin Go.Builtin.append,args:= #[Go.Operand.tmp 103,Go.Operand.tmp 120],argTypes:= #[29,29]},type:=29,pos:= "l13_save.go:78",after:= #[{on:=1,ground:=Go.Ground.data},{on:=18,ground:=Go.Ground.data}],guard:=none}
abbrev oX320:Oper:={dst:=some 122,op:=Go.Op.fieldAddr 32 (Go.Operand.tmp 4) 3,type:=0,pos:= "l13_save.go:78",after:= #[{on:=0,ground:=Go.Ground.phase},{on:=1,ground:=Go.Ground.phase},{on:=2,ground:=Go.Ground.phase},{on:=3,ground:=Go.Ground.phase},{on:=4,ground:=Go.Ground.phase},{on:=5,ground:=Go.Ground.phase},{on:=6,ground:=Go.Ground.phase},{on:=7,ground:=Go.Ground.phase},{on:=8,ground:=Go.Ground.phase},{on:=9,ground:=Go.Ground.phase},{on:=10,ground:=Go.Ground.phase},{on:=11,ground:=Go.Ground.phase},{on:=12,ground:=Go.Ground.phase},{on:=13,ground:=Go.Ground.phase},{on:=14,ground:=Go.Ground.phase},{on:=15,ground:=Go.Ground.phase},{on:=16,ground:=Go.Ground.phase},{on:=17,ground:=Go.Ground.phase},{on:=18,ground:=Go.Ground.phase},{on:=19,ground:=Go.Ground.phase}],guard:=none}
abbrev oX321:Oper:={dst:=none,op:=Go.Op.store 29 (Go.Operand.tmp 122) (Go.Operand.tmp 121),type:=0,pos:= "l13_save.go:78",after:= #[{on:=20,ground:=Go.Ground.data},{on:=19,ground:=Go.Ground.data},{on:=19,ground:=Go.Ground.chain},{on:=0,ground:=Go.Ground.phase},{on:=1,ground:=Go.Ground.phase},{on:=2,ground:=Go.Ground.phase},{on:=3,ground:=Go.Ground.phase},{on:=4,ground:=Go.Ground.phase},{on:=5,ground:=Go.Ground.phase},{on:=6,ground:=Go.Ground.phase},{on:=7,ground:=Go.Ground.phase},{on:=8,ground:=Go.Ground.phase},{on:=9,ground:=Go.Ground.phase},{on:=10,ground:=Go.Ground.phase},{on:=11,ground:=Go.Ground.phase},{on:=12,ground:=Go.Ground.phase},{on:=13,ground:=Go.Ground.phase},{on:=14,ground:=Go.Ground.phase},{on:=15,ground:=Go.Ground.phase},{on:=16,ground:=Go.Ground.phase},{on:=17,ground:=Go.Ground.phase},{on:=18,ground:=Go.Ground.phase},{on:=19,ground:=Go.Ground.phase}],guard:=none}
abbrev oW40:Oper:={dst:=some 25,op:=Go.Op.move (Go.Operand.tmp 0),type:=49,pos:= "l13_save.go:63",after:= #[],guard:=none}
abbrev oW41:Oper:={dst:=some 26,op:=Go.Op.move (Go.Operand.tmp 5),type:=3,pos:= "l13_save.go:63",after:= #[],guard:=none}
abbrev oW42:Oper:={dst:=some 27,op:=Go.Op.move (Go.Operand.tmp 6),type:=70,pos:= "l13_save.go:63",after:= #[],guard:=none}
abbrev oW43:Oper:={dst:=some 28,op:=Go.Op.move (Go.Operand.tmp 8),type:=3,pos:= "l13_save.go:63",after:= #[],guard:=none}
abbrev oW44:Oper:={dst:=some 29,op:=Go.Op.indexAddr 70 (Go.Operand.tmp 27) (Go.Operand.tmp 28),type:=0,pos:= "l13_save.go:63",after:= #[{on:=2,ground:=Go.Ground.data},{on:=3,ground:=Go.Ground.data}],guard:=none}
abbrev oW45:Oper:={dst:=some 30,op:=Go.Op.load 3 (Go.Operand.tmp 29),type:=3,pos:= "l13_save.go:63",after:= #[{on:=4,ground:=Go.Ground.data}],guard:=none}
abbrev oW46:Oper:={dst:=some 31,op:=Go.Op.move (Go.Operand.tmp 7),type:=70,pos:= "l13_save.go:63",after:= #[],guard:=none}
abbrev oW47:Oper:={dst:=some 32,op:=Go.Op.move (Go.Operand.tmp 8),type:=3,pos:= "l13_save.go:63",after:= #[],guard:=none}
abbrev oW48:Oper:={dst:=some 33,op:=Go.Op.indexAddr 70 (Go.Operand.tmp 31) (Go.Operand.tmp 32),type:=0,pos:= "l13_save.go:63",after:= #[{on:=6,ground:=Go.Ground.data},{on:=7,ground:=Go.Ground.data}],guard:=none}
abbrev oW49:Oper:={dst:=some 34,op:=Go.Op.load 3 (Go.Operand.tmp 33),type:=3,pos:= "l13_save.go:63",after:= #[{on:=8,ground:=Go.Ground.data}],guard:=none}
abbrev oW410:Oper:={dst:=some 35,op:=Go.Op.call {callee:=Go.Callee.value (Go.Operand.func 35),args:= #[Go.Operand.tmp 25,Go.Operand.tmp 26,Go.Operand.tmp 30,Go.Operand.tmp 34],argTypes:= #[49,3,3,3]},type:=72,pos:= "l13_save.go:63",after:= #[{on:=0,ground:=Go.Ground.data},{on:=1,ground:=Go.Ground.data},{on:=5,ground:=Go.Ground.data},{on:=9,ground:=Go.Ground.data}],guard:=none}
abbrev oW411:Oper:={dst:=some 24,op:=Go.Op.move (Go.Operand.tmp 35),type:=72,pos:= "l13_save.go:63",after:= #[{on:=10,ground:=Go.Ground.data}],guard:=none}
abbrev oW412:Oper:={dst:=some 36,op:=Go.Op.extract (Go.Operand.tmp 24) 0,type:=71,pos:= "l13_save.go:63",after:= #[{on:=11,ground:=Go.Ground.data}],guard:=none}
abbrev oW413:Oper:={dst:=some 37,op:=Go.Op.extract (Go.Operand.tmp 24) 1,type:=3,pos:= "l13_save.go:63",after:= #[{on:=11,ground:=Go.Ground.data},{on:=15,ground:=Go.Ground.gcOnly Go.Departure.lateStores}],guard:=none}
abbrev oW414:Oper:={dst:=some 38,op:=Go.Op.extract (Go.Operand.tmp 24) 2,type:=4,pos:= "l13_save.go:63",after:= #[{on:=11,ground:=Go.Ground.data},{on:=16,ground:=Go.Ground.gcOnly Go.Departure.lateStores}],guard:=none}
abbrev oW415:Oper:={dst:=some 9,op:=Go.Op.assign (Go.Operand.tmp 36),type:=71,pos:= "l13_save.go:63",after:= #[{on:=12,ground:=Go.Ground.data},{on:=10,ground:=Go.Ground.chain},{on:=0,ground:=Go.Ground.phase},{on:=1,ground:=Go.Ground.phase},{on:=2,ground:=Go.Ground.phase},{on:=3,ground:=Go.Ground.phase},{on:=4,ground:=Go.Ground.phase},{on:=5,ground:=Go.Ground.phase},{on:=6,ground:=Go.Ground.phase},{on:=7,ground:=Go.Ground.phase},{on:=8,ground:=Go.Ground.phase},{on:=9,ground:=Go.Ground.phase},{on:=10,ground:=Go.Ground.phase},{on:=11,ground:=Go.Ground.phase},{on:=12,ground:=Go.Ground.phase},{on:=13,ground:=Go.Ground.textOnly Go.Departure.lateStores},{on:=14,ground:=Go.Ground.textOnly Go.Departure.lateStores}],guard:=none}
abbrev oW416:Oper:={dst:=some 10,op:=Go.Op.assign (Go.Operand.tmp 37),type:=3,pos:= "l13_save.go:63",after:= #[{on:=13,ground:=Go.Ground.data},{on:=15,ground:=Go.Ground.chain},{on:=0,ground:=Go.Ground.phase},{on:=1,ground:=Go.Ground.phase},{on:=2,ground:=Go.Ground.phase},{on:=3,ground:=Go.Ground.phase},{on:=4,ground:=Go.Ground.phase},{on:=5,ground:=Go.Ground.phase},{on:=6,ground:=Go.Ground.phase},{on:=7,ground:=Go.Ground.phase},{on:=8,ground:=Go.Ground.phase},{on:=9,ground:=Go.Ground.phase},{on:=10,ground:=Go.Ground.phase},{on:=11,ground:=Go.Ground.phase},{on:=12,ground:=Go.Ground.phase},{on:=13,ground:=Go.Ground.phase},{on:=14,ground:=Go.Ground.textOnly Go.Departure.lateStores},{on:=15,ground:=Go.Ground.phase}],guard:=none}
abbrev oW417:Oper:={dst:=some 11,op:=Go.Op.assign (Go.Operand.tmp 38),type:=4,pos:= "l13_save.go:63",after:= #[{on:=14,ground:=Go.Ground.data},{on:=16,ground:=Go.Ground.chain},{on:=0,ground:=Go.Ground.phase},{on:=1,ground:=Go.Ground.phase},{on:=2,ground:=Go.Ground.phase},{on:=3,ground:=Go.Ground.phase},{on:=4,ground:=Go.Ground.phase},{on:=5,ground:=Go.Ground.phase},{on:=6,ground:=Go.Ground.phase},{on:=7,ground:=Go.Ground.phase},{on:=8,ground:=Go.Ground.phase},{on:=9,ground:=Go.Ground.phase},{on:=10,ground:=Go.Ground.phase},{on:=11,ground:=Go.Ground.phase},{on:=12,ground:=Go.Ground.phase},{on:=13,ground:=Go.Ground.phase},{on:=14,ground:=Go.Ground.phase},{on:=15,ground:=Go.Ground.phase},{on:=16,ground:=Go.Ground.phase}],guard:=none}
abbrev oX40:Oper:={dst:=some 125,op:=Go.Op.fieldAddr 32 (Go.Operand.tmp 4) 4,type:=0,pos:= "l13_save.go:80",after:= #[],guard:=none}
abbrev oX41:Oper:={dst:=some 126,op:=Go.Op.load 30 (Go.Operand.tmp 125),type:=30,pos:= "l13_save.go:80",after:= #[{on:=0,ground:=Go.Ground.data}],guard:=none}
abbrev oX42:Oper:={dst:=some 127,op:=Go.Op.move (Go.Operand.tmp 13),type:=70,pos:= "l13_save.go:80",after:= #[],guard:=none}
abbrev oX43:Oper:={dst:=some 128,op:=Go.Op.indexAddr 70 (Go.Operand.tmp 127) (Go.Operand.const (Go.Value.int Go.IntKind.i64 0)),type:=0,pos:= "l13_save.go:80",after:= #[{on:=2,ground:=Go.Ground.data}],guard:=none}
abbrev oX44:Oper:={dst:=some 129,op:=Go.Op.load 3 (Go.Operand.tmp 128),type:=3,pos:= "l13_save.go:80",after:= #[{on:=3,ground:=Go.Ground.data}],guard:=none}
abbrev oX45:Oper:={dst:=some 130,op:=Go.Op.move (Go.Operand.tmp 13),type:=70,pos:= "l13_save.go:80",after:= #[],guard:=none}
abbrev oX46:Oper:={dst:=some 131,op:=Go.Op.indexAddr 70 (Go.Operand.tmp 130) (Go.Operand.const (Go.Value.int Go.IntKind.i64 1)),type:=0,pos:= "l13_save.go:80",after:= #[{on:=5,ground:=Go.Ground.data}],guard:=none}
abbrev oX47:Oper:={dst:=some 132,op:=Go.Op.load 3 (Go.Operand.tmp 131),type:=3,pos:= "l13_save.go:80",after:= #[{on:=6,ground:=Go.Ground.data}],guard:=none}
abbrev oX48:Oper:={dst:=some 133,op:=Go.Op.move (Go.Operand.tmp 13),type:=70,pos:= "l13_save.go:80",after:= #[],guard:=none}
abbrev oX49:Oper:={dst:=some 134,op:=Go.Op.indexAddr 70 (Go.Operand.tmp 133) (Go.Operand.const (Go.Value.int Go.IntKind.i64 2)),type:=0,pos:= "l13_save.go:80",after:= #[{on:=8,ground:=Go.Ground.data}],guard:=none}
abbrev oX410:Oper:={dst:=some 135,op:=Go.Op.load 3 (Go.Operand.tmp 134),type:=3,pos:= "l13_save.go:80",after:= #[{on:=9,ground:=Go.Ground.data}],guard:=none}
abbrev oX411:Oper:={dst:=some 136,op:=Go.Op.move (Go.Operand.tmp 13),type:=70,pos:= "l13_save.go:80",after:= #[],guard:=none}
abbrev oX412:Oper:={dst:=some 137,op:=Go.Op.indexAddr 70 (Go.Operand.tmp 136) (Go.Operand.const (Go.Value.int Go.IntKind.i64 3)),type:=0,pos:= "l13_save.go:80",after:= #[{on:=11,ground:=Go.Ground.data}],guard:=none}
abbrev oX413:Oper:={dst:=some 138,op:=Go.Op.load 3 (Go.Operand.tmp 137),type:=3,pos:= "l13_save.go:80",after:= #[{on:=12,ground:=Go.Ground.data}],guard:=none}
abbrev oX414:Oper:={dst:=some 139,op:=Go.Op.move (Go.Operand.tmp 13),type:=70,pos:= "l13_save.go:80",after:= #[],guard:=none}
abbrev oX415:Oper:={dst:=some 140,op:=Go.Op.indexAddr 70 (Go.Operand.tmp 139) (Go.Operand.const (Go.Value.int Go.IntKind.i64 4)),type:=0,pos:= "l13_save.go:80",after:= #[{on:=14,ground:=Go.Ground.data}],guard:=none}
abbrev oX416:Oper:={dst:=some 141,op:=Go.Op.load 3 (Go.Operand.tmp 140),type:=3,pos:= "l13_save.go:80",after:= #[{on:=15,ground:=Go.Ground.data}],guard:=none}
abbrev oX417:Oper:={dst:=some 142,op:=Go.Op.move (Go.Operand.tmp 13),type:=70,pos:= "l13_save.go:80",after:= #[],guard:=none}
abbrev oX418:Oper:={dst:=some 143,op:=Go.Op.indexAddr 70 (Go.Operand.tmp 142) (Go.Operand.const (Go.Value.int Go.IntKind.i64 5)),type:=0,pos:= "l13_save.go:80",after:= #[{on:=17,ground:=Go.Ground.data}],guard:=none}
abbrev oX419:Oper:={dst:=some 144,op:=Go.Op.load 3 (Go.Operand.tmp 143),type:=3,pos:= "l13_save.go:80",after:= #[{on:=18,ground:=Go.Ground.data}],guard:=none}
abbrev oX420:Oper:={dst:=some 145,op:=Go.Op.move (Go.Operand.tmp 13),type:=70,pos:= "l13_save.go:80",after:= #[],guard:=none}
abbrev oX421:Oper:={dst:=some 146,op:=Go.Op.indexAddr 70 (Go.Operand.tmp 145) (Go.Operand.const (Go.Value.int Go.IntKind.i64 6)),type:=0,pos:= "l13_save.go:80",after:= #[{on:=20,ground:=Go.Ground.data}],guard:=none}
abbrev oX422:Oper:={dst:=some 147,op:=Go.Op.load 3 (Go.Operand.tmp 146),type:=3,pos:= "l13_save.go:80",after:= #[{on:=21,ground:=Go.Ground.data}],guard:=none}
abbrev oX423:Oper:={dst:=some 148,op:=Go.Op.move (Go.Operand.tmp 13),type:=70,pos:= "l13_save.go:80",after:= #[],guard:=none}
abbrev oX424:Oper:={dst:=some 149,op:=Go.Op.indexAddr 70 (Go.Operand.tmp 148) (Go.Operand.const (Go.Value.int Go.IntKind.i64 7)),type:=0,pos:= "l13_save.go:80",after:= #[{on:=23,ground:=Go.Ground.data}],guard:=none}
abbrev oX425:Oper:={dst:=some 150,op:=Go.Op.load 3 (Go.Operand.tmp 149),type:=3,pos:= "l13_save.go:80",after:= #[{on:=24,ground:=Go.Ground.data}],guard:=none}
abbrev oX426:Oper:={dst:=some 151,op:=Go.Op.build 82 #[(0,Go.Operand.tmp 129),(1,Go.Operand.tmp 132),(2,Go.Operand.tmp 135),(3,Go.Operand.tmp 138),(4,Go.Operand.tmp 141),(5,Go.Operand.tmp 144),(6,Go.Operand.tmp 147),(7,Go.Operand.tmp 150)],type:=82,pos:= "l13_save.go:80",after:= #[{on:=4,ground:=Go.Ground.data},{on:=7,ground:=Go.Ground.data},{on:=10,ground:=Go.Ground.data},{on:=13,ground:=Go.Ground.data},{on:=16,ground:=Go.Ground.data},{on:=19,ground:=Go.Ground.data},{on:=22,ground:=Go.Ground.data},{on:=25,ground:=Go.Ground.data}],guard:=none}
abbrev oX427:Oper:={dst:=some 152,op:=Go.Op.buildSlice 30 1 #[(0,Go.Operand.tmp 151)],type:=30,pos:= "l13_save.go:80",after:= #[{on:=26,ground:=Go.Ground.data}],guard:=none}
abbrev oX428:Oper:={dst:=some 153,op:=Go.Op.call {callee:=Go.Callee.builtin Go.Builtin.append,args:= #[Go.Operand.tmp 126,Go.Operand.tmp 152],argTypes:= #[30,30]},type:=30,pos:= "l13_save.go:80",after:= #[{on:=1,ground:=Go.Ground.data},{on:=27,ground:=Go.Ground.data}],guard:=none}
abbrev oX429:Oper:={dst:=some 154,op:=Go.Op.fieldAddr 32 (Go.Operand.tmp 4) 4,type:=0,pos:= "l13_save.go:80",after:= #[{on:=0,ground:=Go.Ground.phase},{on:=1,ground:=Go.Ground.phase},{on:=2,ground:=Go.Ground.phase},{on:=3,ground:=Go.Ground.phase},{on:=4,ground:=Go.Ground.phase},{on:=5,ground:=Go.Ground.phase},{on:=6,ground:=Go.Ground.phase},{on:=7,ground:=Go.Ground.phase},{on:=8,ground:=Go.Ground.phase},{on:=9,ground:=Go.Ground.phase},{on:=10,ground:=Go.Ground.phase},{on:=11,ground:=Go.Ground.phase},{on:=12,ground:=Go.Ground.phase},{on:=13,ground:=Go.Ground.phase},{on:=14,ground:=Go.Ground.phase},{on:=15,ground:=Go.Ground.phase},{on:=16,ground:=Go.Ground.phase},{on:=17,ground:=Go.Ground.phase},{on:=18,ground:=Go.Ground.phase},{on:=19,ground:=Go.Ground.phase},{on:=20,ground:=Go.Ground.phase},{on:=21,ground:=Go.Ground.phase},{on:=22,ground:=Go.Ground.phase},{on:=23,ground:=Go.Ground.phase},{on:=24,ground:=Go.Ground.phase},{on:=25,ground:=Go.Ground.phase},{on:=26,ground:=Go.Ground.phase},{on:=27,ground:=Go.Ground.phase},{on:=28,ground:=Go.Ground.phase}],guard:=none}
abbrev oX430:Oper:={dst:=none,op:=Go.Op.store 30 (Go.Operand.tmp 154) (Go.Operand.tmp 153),type:=0,pos:= "l13_save.go:80",after:= #[{on:=29,ground:=Go.Ground.data},{on:=28,ground:=Go.Ground.data},{on:=28,ground:=Go.Ground.chain},{on:=0,ground:=Go.Ground.phase},{on:=1,ground:=Go.Ground.phase},{on:=2,ground:=Go.Ground.phase},{on:=3,ground:=Go.Ground.phase},{on:=4,ground:=Go.Ground.phase},{on:=5,ground:=Go.Ground.phase},{on:=6,ground:=Go.Ground.phase},{on:=7,ground:=Go.Ground.phase},{on:=8,ground:=Go.Ground.phase},{on:=9,ground:=Go.Ground.phase},{on:=10,ground:=Go.Ground.phase},{on:=11,ground:=Go.Ground.phase},{on:=12,ground:=Go.Ground.phase},{on:=13,ground:=Go.Ground.phase},{on:=14,ground:=Go.Ground.phase},{on:=15,ground:=Go.Ground.phase},{on:=16,ground:=Go.Ground.phase},{on:=17,ground:=Go.Ground.phase},{on:=18,ground:=Go.Ground.phase},{on:=19,ground:=Go.Ground.phase},{on:=20,ground:=Go.Ground.phase},{on:=21,ground:=Go.Ground.phase},{on:=22,ground:=Go.Ground.phase},{on:=23,ground:=Go.Ground.phase},{on:=24,ground:=Go.Ground.phase},{on:=25,ground:=Go.Ground.phase},{on:=26,ground:=Go.Ground.phase},{on:=27,ground:=Go.Ground.phase},{on:=28,ground:=Go.Ground.phase}],guard:=none}
section
variable {oz:Nat}
theorem sBooksReadO(w:World)(gl cl:Nat)(xs:List Int)(h20:xs.length≤1048576)(hg:gl<w.heap.size)(hr:AtBO w gl oz xs):
  Calls Tryz.prog 18 #[.slice (some ⟨gl,oz,none⟩) xs.length cl] w (ReadSaid (readB xs) w):=by
 have R:=zh hr
 have HG:=zh hg
 have M0:=zh (Mv.start w)
 obtain⟨fin,hf⟩:∃fin,Hid (readF xs 5 0 zeroB=fin):=⟨_,rfl⟩
 unfold readB
 rw[zu hf]
 clear hr hg
 go_enter Tryz.func18,Tryz.ntmps18
 go_wp2
 go_loopw [5,8] (fun a i wr=>∃(k:Nat) (p:Int) (x:Ix),a= .int .i64 p∧i= .int .i64 k∧k≤5∧Hid (readF xs (5-k) p x.b=fin)∧Hid (Mv w wr x)∧Hid (Emp k x)) (fun _ i _=>5-(intOf i).toNat)
 case atStart=>exact⟨0,0,(⟨none,0,none,0,none,0,none,0,none,0,zeroB⟩:Ix),rfl,rfl,by omega,hf,M0,zh ⟨fun _=>⟨rfl,rfl,rfl⟩,fun _=>⟨rfl,rfl,rfl⟩,fun _=>⟨rfl,rfl,rfl⟩,fun _=>⟨rfl,rfl,rfl⟩,fun _=>⟨rfl,rfl,rfl⟩⟩⟩
 case round=>
  clear M0 hf
  obtain⟨k,p,x,rfl,rfl,hk,FIN,HM,EM⟩:=hrel
  have ws:=(zu HM).s
  have:k=0∨k=1∨k=2∨k=3∨k=4∨k=5:=by omega
  rcases this with rfl|rfl|rfl|rfl|rfl|rfl
  ·have NX:(if(rowsN xs p 2 20).2.2=true then readF xs 4 (rowsN xs p 2 20).2.1 (putRows 0 (rowsN xs p 2 20).1 x.b) else none)=fin:=zu FIN
   have HN:=zh NX
   clear NX FIN
   have RI:=zh (rowsN_in (xs:=xs) (p:=p) (wide:=2) (most:=20) (by omega))
   have RB:=zh (rowsN_all (xs:=xs) (p:=p) (wide:=2) (most:=20))
   have SR:=zh (fun u hg (hr:AtBO u gl oz xs)=>sRows u gl cl xs p 2 20 h20 (by omega) (by omega) hg hr)
   generalize rowsN xs p 2 20=y at *
   obtain⟨rs,p1,ok⟩:=y
   have K0:wr.cell? ⟨w.heap.size+2,0,none⟩=some (.int .i64 2)∧wr.cell? ⟨w.heap.size+3,0,none⟩=some (.int .i64 20):=⟨(zu HM).wc.1,(zu HM).mc.1⟩
   go_wp2_with fail
   refine wp_region_held_drew (S:=(fun w'=>w'.cell? ⟨w.heap.size+2,0,none⟩=some (.int .i64 2)∧w'.cell? ⟨w.heap.size+3,0,none⟩=some (.int .i64 20))) (by kernel_rfl) K0 (fun hHeld=>?_)
   refine tk 0 oW00 (.slice (some ⟨gl,oz,none⟩) xs.length cl) rfl (by kernel_rfl) (fun _ _ _ h=>h) (by rfl) (fun w hSw=>?_) hHeld ?_
   ·(try dsimp only at hSw)
    unfold oW00
    go_simp
   try simp only[oW00,Act.put,zA,zB,zC]
   refine tk 1 oW01 (.int .i64 p) rfl (by kernel_rfl) (fun _ _ _ h=>h) (by rfl) (fun w hSw=>?_) hHeld ?_
   ·(try dsimp only at hSw)
    unfold oW01
    go_simp
   try simp only[oW01,Act.put,zA,zB,zC]
   refine tk 2 oW02 (.slice (some ⟨w.heap.size+2,0,none⟩) 5 5) rfl (by kernel_rfl) (fun _ _ _ h=>h) (by rfl) (fun w hSw=>?_) hHeld ?_
   ·(try dsimp only at hSw)
    unfold oW02
    go_simp
   try simp only[oW02,Act.put,zA,zB,zC]
   refine tk 3 oW03 (.int .i64 0) rfl (by kernel_rfl) (fun _ _ _ h=>h) (by rfl) (fun w hSw=>?_) hHeld ?_
   ·(try dsimp only at hSw)
    unfold oW03
    go_simp
   try simp only[oW03,Act.put,zA,zB,zC]
   refine tk 4 oW04 (.pointer (some ⟨w.heap.size+2,0,none⟩)) rfl (by kernel_rfl) (fun _ _ _ h=>h) (by rfl) (fun w hSw=>?_) hHeld ?_
   ·(try dsimp only at hSw)
    unfold oW04
    go_simp
   try simp only[oW04,Act.put,zA,zB,zC]
   refine tk 5 oW05 (.int .i64 2) rfl (by kernel_rfl) (fun _ _ _ h=>h) (by rfl) (fun w hSw=>?_) hHeld ?_
   ·(try dsimp only at hSw)
    unfold oW05
    go_simp
   try simp only[oW05,Act.put,zA,zB,zC]
   refine tk 6 oW06 (.slice (some ⟨w.heap.size+3,0,none⟩) 5 5) rfl (by kernel_rfl) (fun _ _ _ h=>h) (by rfl) (fun w hSw=>?_) hHeld ?_
   ·(try dsimp only at hSw)
    unfold oW06
    go_simp
   try simp only[oW06,Act.put,zA,zB,zC]
   refine tk 7 oW07 (.int .i64 0) rfl (by kernel_rfl) (fun _ _ _ h=>h) (by rfl) (fun w hSw=>?_) hHeld ?_
   ·(try dsimp only at hSw)
    unfold oW07
    go_simp
   try simp only[oW07,Act.put,zA,zB,zC]
   refine tk 8 oW08 (.pointer (some ⟨w.heap.size+3,0,none⟩)) rfl (by kernel_rfl) (fun _ _ _ h=>h) (by rfl) (fun w hSw=>?_) hHeld ?_
   ·(try dsimp only at hSw)
    unfold oW08
    go_simp
   try simp only[oW08,Act.put,zA,zB,zC]
   refine tk 9 oW09 (.int .i64 20) rfl (by kernel_rfl) (fun _ _ _ h=>h) (by rfl) (fun w hSw=>?_) hHeld ?_
   ·(try dsimp only at hSw)
    unfold oW09
    go_simp
   try simp only[oW09,Act.put,zA,zB,zC]
   refine wpAnyH_ready (rs:=[10]) (by kernel_rfl) (by simp) ?_
   refine AllReadyH.cons (o:=oW010) rfl (fun K hK=>?_) AllReadyH.nil
   unfold oW010
   go_simp
   go_wp2_with fail
   refine((zu SR) wr.drew (show gl<wr.heap.size from by have:=(zu HM).b.size;have:=zu HG;omega) ((zu R).below (zu HM).b.drew (zu HG))).mono ?_
   rintro e u ⟨gr,cr,rfl,lr0,lr1,ra,b1⟩
   have b2:Below wr.heap.size wr u:=⟨b1.os,b1.tape,b1.output,b1.size,b1.block⟩
   have HM1:=zh ((zu HM).step b2)
   have K1:u.cell? ⟨w.heap.size+2,0,none⟩=some (.int .i64 2)∧u.cell? ⟨w.heap.size+3,0,none⟩=some (.int .i64 20):=⟨(zu HM1).wc.1,(zu HM1).mc.1⟩
   have RA:=zh (RowAt.lo ra (show w.heap.size+4≤wr.heap.size from(zu HM).s))
   have LR:=zh (show w.heap.size+4≤gr∧gr<u.heap.size from⟨Nat.le_trans (zu HM).s lr0,lr1⟩)
   clear b1 b2 ra lr0 lr1 SR
   go_wp2_with fail
   refine hK.out _ _ K1 (fun hHeld=>?_)
   clear hK K
   try simp only[oW010,Act.put,zA,zB,zC]
   refine tk 11 oW011 (.tuple #[.slice (some ⟨gr,0,none⟩) rs.length cr,.int .i64 p1,.bool ok]) rfl (by kernel_rfl) (fun _ _ _ h=>h) (by rfl) (fun w hSw=>?_) hHeld ?_
   ·(try dsimp only at hSw)
    unfold oW011
    go_simp
   try simp only[oW011,Act.put,zA,zB,zC]
   refine tk 12 oW012 (.slice (some ⟨gr,0,none⟩) rs.length cr) rfl (by kernel_rfl) (fun _ _ _ h=>h) (by rfl) (fun w hSw=>?_) hHeld ?_
   ·(try dsimp only at hSw)
    unfold oW012
    go_simp
   try simp only[oW012,Act.put,zA,zB,zC]
   refine tk 13 oW013 (.int .i64 p1) rfl (by kernel_rfl) (fun _ _ _ h=>h) (by rfl) (fun w hSw=>?_) hHeld ?_
   ·(try dsimp only at hSw)
    unfold oW013
    go_simp
   try simp only[oW013,Act.put,zA,zB,zC]
   refine tk 14 oW014 (.bool ok) rfl (by kernel_rfl) (fun _ _ _ h=>h) (by rfl) (fun w hSw=>?_) hHeld ?_
   ·(try dsimp only at hSw)
    unfold oW014
    go_simp
   try simp only[oW014,Act.put,zA,zB,zC]
   refine tk 15 oW015 (.slice (some ⟨gr,0,none⟩) rs.length cr) rfl (by kernel_rfl) (fun _ _ _ h=>h) (by rfl) (fun w hSw=>?_) hHeld ?_
   ·(try dsimp only at hSw)
    unfold oW015
    go_simp
   try simp only[oW015,Act.put,zA,zB,zC]
   refine tk 16 oW016 (.int .i64 p1) rfl (by kernel_rfl) (fun _ _ _ h=>h) (by rfl) (fun w hSw=>?_) hHeld ?_
   ·(try dsimp only at hSw)
    unfold oW016
    go_simp
   try simp only[oW016,Act.put,zA,zB,zC]
   refine tk 17 oW017 (.bool ok) rfl (by kernel_rfl) (fun _ _ _ h=>h) (by rfl) (fun w hSw=>?_) hHeld ?_
   ·(try dsimp only at hSw)
    unfold oW017
    go_simp
   try simp only[oW017,Act.put,zA,zB,zC]
   refine wpAnyH_done (by kernel_rfl) ?_ _
   clear K0 K1 HM
   cases ok with
   |false=>
    have F:=zu HN
    rw[if_neg (by simp)] at F
    subst F
    have RX:=zh (zu HM1).rx
    obtain⟨q0,q1,q2,q3,q4,q5,z0,z1,z2,z3,z4,z5⟩:=Box.all (zu RX)
    have ul:=(zu RX).lt.2
    go_wp2
    have SX:=six (zu RX) (.slice none 0 0) (.slice none 0 0) (.slice none 0 0) (.slice none 0 0) (.slice none 0 0) (.int .i64 0)
    have p0:=SX.c0
    have p1':=SX.c1
    have p2:=SX.c2
    have p3:=SX.c3
    have p4:=SX.c4
    have p5:=SX.c5
    (try simp only[Exit.inBlock,Exit.then])
    refine bodyPost_ret (v:= .tuple #[.agg #[.slice none 0 0,.slice none 0 0,.slice none 0 0,.slice none 0 0,.slice none 0 0,.int .i64 0],.bool false]) (by simp[results,Tryz.results18,go_sem,p0,p1',p2,p3,p4,p5]) rfl ?_
    exact .no rfl (below_six (zu HM1).b _ _ _ _ _ _)
   |true=>
    have F:=zu HN
    rw[if_pos rfl] at F
    have FIN:=zh F
    clear F HN
    obtain⟨rw0,rl⟩:=(zu RI) rfl
    have RW:=zh rw0
    have RF:=zh ((zu RB) rfl)
    clear RI RB rw0
    have us:=(zu HM1).s
    have Z:=(zu EM).z0 (by omega)
    have OX:=(zu HM1).bx
    rw[Z.1,Z.2.1,Z.2.2] at OX
    have BX0:=zh OX
    clear OX Z
    go_wp2
    go_loopw [12] (fun j wr=>∃(i c:Nat) (a:Option Addr),j= .int .i64 i∧i≤rs.length∧Hid (u.grownBy wr (some (w.heap.size+1)))∧Hid (Box wr w.heap.size (w.heap.size+1) (.slice a i c) (.slice x.ai x.b.ic.length x.ci) (.slice x.ab x.b.bs.length x.cb) (.slice x.al x.b.ls.length x.cl) (.slice x.ats x.b.ts.length x.ct) (.int .i64 0))∧Hid (wr.ownsRow u.heap.size 75 2 (.slice a i c) i (Pairs.flat ((rs.take i).map r2)))) (fun j _=>rs.length-(intOf j).toNat)
    case atStart=>exact⟨0,0,none,rfl,by omega,zh (World.grownBy.refl _ _),BX0,zh (World.ownsRow_nil u u.heap.size _ _)⟩
    case round=>
     clear BX0
     obtain⟨i,c,a,rfl,hi,GR,BX,OW⟩:=hrel
     by_cases t:i<rs.length
     ·have ti:(i:Int)<rs.length:=by omega
      obtain⟨gi,ci,gl0,rc,gi1,ga⟩:=(zu RA) i t
      have RWI:=(zu RW) (rs.getD i []) (by simp[List.getD,t])
      rw[RWI] at rc
      have LRU:=zu LR
      have rc1:=(kcell (zu GR) i LRU.2 (by omega)).trans rc
      have gi2:gi≠w.heap.size+1:=by omega
      have e0:=(kcell (zu GR) 0 gi1 gi2).trans (ga 0 (by rw[RWI];omega))
      have e1:=(kcell (zu GR) 1 gi1 gi2).trans (ga 1 (by rw[RWI];omega))
      have TK:=zh (show(rs.take (i+1)).map r2=(rs.take i).map r2++[((rs.getD i []).getD 0 0,(rs.getD i []).getD 1 0)] from by rw[List.take_succ_eq_append_getElem t,List.map_append];simp[List.getD,t,r2])
      clear ga rc RWI LRU
      generalize (rs.getD i []).getD 0 0=r0 at *
      generalize (rs.getD i []).getD 1 0=r1 at *
      have bc:=(zu BX).c0
      have gs:=(zu GR).size
      have K0:wr.cell? ⟨gi,0,none⟩=some (.int .i64 r0)∧wr.cell? ⟨gi,1,none⟩=some (.int .i64 r1):=⟨e0,e1⟩
      have KB:(wr.drew.alloc (.cells #[.int .i64 r0,.int .i64 r1] 75)).cell? ⟨gi,0,none⟩=some (.int .i64 r0)∧(wr.drew.alloc (.cells #[.int .i64 r0,.int .i64 r1] 75)).cell? ⟨gi,1,none⟩=some (.int .i64 r1):=⟨((one_more wr.drew (.cells #[.int .i64 r0,.int .i64 r1] 75)).cell (p:=⟨gi,0,none⟩) (show gi<wr.heap.size from by omega)).trans e0,((one_more wr.drew (.cells #[.int .i64 r0,.int .i64 r1] 75)).cell (p:=⟨gi,1,none⟩) (show gi<wr.heap.size from by omega)).trans e1⟩
      have bcD:wr.drew.cell? ⟨w.heap.size+1,0,none⟩=some (.slice a i c):=bc
      have bcA:(wr.alloc (.cells #[.int .i64 r0,.int .i64 r1] 75)).cell? ⟨w.heap.size+1,0,none⟩=some (.slice a i c):=((one_more wr.drew (.cells #[.int .i64 r0,.int .i64 r1] 75)).cell (p:=⟨w.heap.size+1,0,none⟩) (show w.heap.size+1<wr.heap.size from by omega)).trans bc
      go_wp2_with fail
      refine wp_region_held_drew (S:=(fun w'=>w'.cell? ⟨gi,0,none⟩=some (.int .i64 r0)∧w'.cell? ⟨gi,1,none⟩=some (.int .i64 r1))) (by kernel_rfl) K0 (fun hHeld=>?_)
      refine tk 0 oX00 (.pointer (some ⟨w.heap.size+1,0,none⟩)) rfl (by kernel_rfl) (fun _ _ _ h=>h) (by rfl) (fun w hSw=>?_) hHeld ?_
      ·(try dsimp only at hSw)
       unfold oX00
       go_simp
      try simp only[oX00,Act.put,zA,zB,zC]
      refine tk 2 oX02 (.slice (some ⟨gi,0,none⟩) 2 ci) rfl (by kernel_rfl) (fun _ _ _ h=>h) (by rfl) (fun w hSw=>?_) hHeld ?_
      ·(try dsimp only at hSw)
       unfold oX02
       go_simp
      try simp only[oX02,Act.put,zA,zB,zC]
      refine tk 3 oX03 (.pointer (some ⟨gi,0,none⟩)) rfl (by kernel_rfl) (fun _ _ _ h=>h) (by rfl) (fun w hSw=>?_) hHeld ?_
      ·(try dsimp only at hSw)
       unfold oX03
       go_simp
      try simp only[oX03,Act.put,zA,zB,zC]
      refine tk 4 oX04 (.int .i64 r0) rfl (by kernel_rfl) (fun _ _ _ h=>h) (by rfl) (fun w hSw=>?_) hHeld ?_
      ·(try dsimp only at hSw)
       unfold oX04
       go_simp
      try simp only[oX04,Act.put,zA,zB,zC]
      refine tk 5 oX05 (.slice (some ⟨gi,0,none⟩) 2 ci) rfl (by kernel_rfl) (fun _ _ _ h=>h) (by rfl) (fun w hSw=>?_) hHeld ?_
      ·(try dsimp only at hSw)
       unfold oX05
       go_simp
      try simp only[oX05,Act.put,zA,zB,zC]
      refine tk 6 oX06 (.pointer (some ⟨gi,1,none⟩)) rfl (by kernel_rfl) (fun _ _ _ h=>h) (by rfl) (fun w hSw=>?_) hHeld ?_
      ·(try dsimp only at hSw)
       unfold oX06
       go_simp
      try simp only[oX06,Act.put,zA,zB,zC]
      refine tk 7 oX07 (.int .i64 r1) rfl (by kernel_rfl) (fun _ _ _ h=>h) (by rfl) (fun w hSw=>?_) hHeld ?_
      ·(try dsimp only at hSw)
       unfold oX07
       go_simp
      try simp only[oX07,Act.put,zA,zB,zC]
      refine tk 8 oX08 (.agg #[.int .i64 r0,.int .i64 r1]) rfl (by kernel_rfl) (fun _ _ _ h=>h) (by rfl) (fun w hSw=>?_) hHeld ?_
      ·(try dsimp only at hSw)
       unfold oX08
       go_simp
      try simp only[oX08,Act.put,zA,zB,zC]
      refine wpAnyH_ready (rs:=[1,9]) (by kernel_rfl) (by simp) ?_
      refine AllReadyH.cons (o:=oX01) rfl (fun K hK=>?_) (AllReadyH.cons (o:=oX09) rfl (fun K hK=>?_) AllReadyH.nil)
      ·unfold oX01
       go_simp
       refine hK.out _ _ K0 (fun hHeld=>?_)
       clear hK K
       try simp only[oX01,Act.put,zA,zB,zC]
       refine wpAnyH_ready (rs:=[9]) (by kernel_rfl) (by simp) ?_
       refine AllReadyH.cons (o:=oX09) rfl (fun K hK=>?_) AllReadyH.nil
       unfold oX09
       go_simp
       refine hK.out _ _ KB (fun hHeld=>?_)
       clear hK K
       try simp only[oX09,Act.put,zA,zB,zC]
       refine wpAnyH_ready (rs:=[10]) (by kernel_rfl) (by simp) ?_
       refine AllReadyH.cons (o:=oX010) rfl (fun K hK=>?_) AllReadyH.nil
       refine step_app (wr.drew.alloc (.cells #[.int .i64 r0,.int .i64 r1] 75)) (by rfl) _ _ 26 75 (by rfl) (.agg #[.int .i64 0,.int .i64 0]) 2 16 Tryz.underlying26 info_ac rfl (by decide) (by decide) u.heap.size (.slice a i c) i (Pairs.flat ((rs.take i).map r2)) wr.drew.heap.size [.int .i64 r0,.int .i64 r1] (by rfl) (by rfl) (row_step (W:=wr.drew) (zu OW) (one_more wr.drew (.cells #[.int .i64 r0,.int .i64 r1] 75))) rfl (litm wr.drew _ _ _ (by rfl)) (by simp[Value.oneCell']) (by omega) (Nat.le_trans (show u.heap.size≤wr.drew.heap.size from gs) (by simp)) ?_
       intro g9 c9 u9 o9 gr9
       have BL:∀j,(Value.slice a i c).ownBlock=some j→u.heap.size≤j:=fun j hj=>(World.ownsRow.lt (zu OW) j hj).1
       have GR9:=zh (grow_app (zu GR) gr9 BL)
       have NG:some (w.heap.size+1)≠(Value.slice a i c).ownBlock:=fun e=>by have:=BL _ e.symm;omega
       have BX9:=zh (((show Box wr.drew w.heap.size (w.heap.size+1) (.slice a i c) (.slice x.ai x.b.ic.length x.ci) (.slice x.ab x.b.bs.length x.cb) (.slice x.al x.b.ls.length x.cl) (.slice x.ats x.b.ts.length x.ct) (.int .i64 0) from zu BX).below (one_more wr.drew (.cells #[.int .i64 r0,.int .i64 r1] 75)) (show w.heap.size+1<wr.heap.size from by omega)).kept gr9 NG)
       have O9:=zh o9
       have fr9:u9.frozen? ⟨w.heap.size+1,0,none⟩=false:=(zu BX9).free 0
       have bc9:=(zu BX9).c0
       have g9l:=(World.ownsRow.lt o9 g9 rfl).1
       have gs9:=(zu GR9).size
       have KC:u9.cell? ⟨gi,0,none⟩=some (.int .i64 r0)∧u9.cell? ⟨gi,1,none⟩=some (.int .i64 r1):=⟨gr9.cell KB.1 (fun e=>by have:=BL _ e.symm;simp only at this;omega),gr9.cell KB.2 (fun e=>by have:=BL _ e.symm;simp only at this;omega)⟩
       have SB:=(zu BX9).set0 (.slice (some ⟨g9,0,none⟩) (i+1) c9)
       have SB2:=zh SB
       have KD:(u9.setCell ⟨w.heap.size+1,0,none⟩ (.slice (some ⟨g9,0,none⟩) (i+1) c9)).cell? ⟨gi,0,none⟩=some (.int .i64 r0)∧(u9.setCell ⟨w.heap.size+1,0,none⟩ (.slice (some ⟨g9,0,none⟩) (i+1) c9)).cell? ⟨gi,1,none⟩=some (.int .i64 r1):=⟨(kcell SB.2 0 (show gi<u9.heap.size from by omega) gi2).trans KC.1,(kcell SB.2 1 (show gi<u9.heap.size from by omega) gi2).trans KC.2⟩
       clear o9 SB
       refine hK.out _ _ KC (fun hHeld=>?_)
       clear hK K
       try simp only[oX010,Act.put,zA,zB,zC]
       refine tk 11 oX011 (.pointer (some ⟨w.heap.size+1,0,none⟩)) rfl (by kernel_rfl) (fun _ _ _ h=>h) (by rfl) (fun w hSw=>?_) hHeld ?_
       ·(try dsimp only at hSw)
        unfold oX011
        go_simp
       try simp only[oX011,Act.put,zA,zB,zC]
       refine wpAnyH_ready (rs:=[12]) (by kernel_rfl) (by simp) ?_
       refine AllReadyH.cons (o:=oX012) rfl (fun K hK=>?_) AllReadyH.nil
       unfold oX012
       go_simp
       refine hK.out _ _ KD (fun hHeld=>?_)
       clear hK K
       try simp only[oX012,Act.put,zA,zB,zC]
       refine wpAnyH_done (by kernel_rfl) ?_ _
       clear K0 KB KC KD gr9 bc bcD bcA bc9 fr9
       have GRS:=zh (grow_grow (zu GR9) (zu SB2).2)
       have BXS:=zh (zu SB2).1
       have OWS:=zh (row_kept (zu O9) (zu SB2).2 (by omega))
       clear SB2
       go_wp2
       go_roundw
       case rel=>exact⟨i+1,c9,some ⟨g9,0,none⟩,by go_num,by omega,GRS,BXS,zh (by have h:=zu OWS;rw[zu TK,flat_p];exact h)⟩
       case measure=>simp[intOf];omega
      ·unfold oX09
       go_simp
       refine hK.out _ _ KB (fun hHeld=>?_)
       clear hK K
       try simp only[oX09,Act.put,zA,zB,zC]
       refine wpAnyH_ready (rs:=[1]) (by kernel_rfl) (by simp) ?_
       refine AllReadyH.cons (o:=oX01) rfl (fun K hK=>?_) AllReadyH.nil
       unfold oX01
       go_simp
       refine hK.out _ _ KB (fun hHeld=>?_)
       clear hK K
       try simp only[oX01,Act.put,zA,zB,zC]
       refine wpAnyH_ready (rs:=[10]) (by kernel_rfl) (by simp) ?_
       refine AllReadyH.cons (o:=oX010) rfl (fun K hK=>?_) AllReadyH.nil
       refine step_app (wr.drew.alloc (.cells #[.int .i64 r0,.int .i64 r1] 75)) (by rfl) _ _ 26 75 (by rfl) (.agg #[.int .i64 0,.int .i64 0]) 2 16 Tryz.underlying26 info_ac rfl (by decide) (by decide) u.heap.size (.slice a i c) i (Pairs.flat ((rs.take i).map r2)) wr.drew.heap.size [.int .i64 r0,.int .i64 r1] (by rfl) (by rfl) (row_step (W:=wr.drew) (zu OW) (one_more wr.drew (.cells #[.int .i64 r0,.int .i64 r1] 75))) rfl (litm wr.drew _ _ _ (by rfl)) (by simp[Value.oneCell']) (by omega) (Nat.le_trans (show u.heap.size≤wr.drew.heap.size from gs) (by simp)) ?_
       intro g9 c9 u9 o9 gr9
       have BL:∀j,(Value.slice a i c).ownBlock=some j→u.heap.size≤j:=fun j hj=>(World.ownsRow.lt (zu OW) j hj).1
       have GR9:=zh (grow_app (zu GR) gr9 BL)
       have NG:some (w.heap.size+1)≠(Value.slice a i c).ownBlock:=fun e=>by have:=BL _ e.symm;omega
       have BX9:=zh (((show Box wr.drew w.heap.size (w.heap.size+1) (.slice a i c) (.slice x.ai x.b.ic.length x.ci) (.slice x.ab x.b.bs.length x.cb) (.slice x.al x.b.ls.length x.cl) (.slice x.ats x.b.ts.length x.ct) (.int .i64 0) from zu BX).below (one_more wr.drew (.cells #[.int .i64 r0,.int .i64 r1] 75)) (show w.heap.size+1<wr.heap.size from by omega)).kept gr9 NG)
       have O9:=zh o9
       have fr9:u9.frozen? ⟨w.heap.size+1,0,none⟩=false:=(zu BX9).free 0
       have bc9:=(zu BX9).c0
       have g9l:=(World.ownsRow.lt o9 g9 rfl).1
       have gs9:=(zu GR9).size
       have KC:u9.cell? ⟨gi,0,none⟩=some (.int .i64 r0)∧u9.cell? ⟨gi,1,none⟩=some (.int .i64 r1):=⟨gr9.cell KB.1 (fun e=>by have:=BL _ e.symm;simp only at this;omega),gr9.cell KB.2 (fun e=>by have:=BL _ e.symm;simp only at this;omega)⟩
       have SB:=(zu BX9).set0 (.slice (some ⟨g9,0,none⟩) (i+1) c9)
       have SB2:=zh SB
       have KD:(u9.setCell ⟨w.heap.size+1,0,none⟩ (.slice (some ⟨g9,0,none⟩) (i+1) c9)).cell? ⟨gi,0,none⟩=some (.int .i64 r0)∧(u9.setCell ⟨w.heap.size+1,0,none⟩ (.slice (some ⟨g9,0,none⟩) (i+1) c9)).cell? ⟨gi,1,none⟩=some (.int .i64 r1):=⟨(kcell SB.2 0 (show gi<u9.heap.size from by omega) gi2).trans KC.1,(kcell SB.2 1 (show gi<u9.heap.size from by omega) gi2).trans KC.2⟩
       clear o9 SB
       refine hK.out _ _ KC (fun hHeld=>?_)
       clear hK K
       try simp only[oX010,Act.put,zA,zB,zC]
       refine tk 11 oX011 (.pointer (some ⟨w.heap.size+1,0,none⟩)) rfl (by kernel_rfl) (fun _ _ _ h=>h) (by rfl) (fun w hSw=>?_) hHeld ?_
       ·(try dsimp only at hSw)
        unfold oX011
        go_simp
       try simp only[oX011,Act.put,zA,zB,zC]
       refine wpAnyH_ready (rs:=[12]) (by kernel_rfl) (by simp) ?_
       refine AllReadyH.cons (o:=oX012) rfl (fun K hK=>?_) AllReadyH.nil
       unfold oX012
       go_simp
       refine hK.out _ _ KD (fun hHeld=>?_)
       clear hK K
       try simp only[oX012,Act.put,zA,zB,zC]
       refine wpAnyH_done (by kernel_rfl) ?_ _
       clear K0 KB KC KD gr9 bc bcD bcA bc9 fr9
       have GRS:=zh (grow_grow (zu GR9) (zu SB2).2)
       have BXS:=zh (zu SB2).1
       have OWS:=zh (row_kept (zu O9) (zu SB2).2 (by omega))
       clear SB2
       go_wp2
       go_roundw
       case rel=>exact⟨i+1,c9,some ⟨g9,0,none⟩,by go_num,by omega,GRS,BXS,zh (by have h:=zu OWS;rw[zu TK,flat_p];exact h)⟩
       case measure=>simp[intOf];omega
     ·have e:i=rs.length:=by omega
      subst e
      have OE:=zu OW
      rw[List.take_length] at OE
      have OE2:=row_base OE (show w.heap.size+4≤u.heap.size from us)
      rw[show rs.length=(rs.map r2).length by simp] at OE2
      have BE:=zu BX
      rw[show rs.length=(rs.map r2).length by simp] at BE
      obtain⟨⟨k0,k1,k2,k3,k4⟩,kr,kb,ks,kw,km⟩:=(zu HM1).rest (zu GR)
      have HM2:=zh (show Mv w wr (⟨a,c,x.ai,x.ci,x.ab,x.cb,x.al,x.cl,x.ats,x.ct,⟨rs.map r2,x.b.ic,x.b.bs,x.b.ls,x.b.ts,x.b.lot⟩⟩:Ix) from⟨BE,kr,OE2,k1,k2,k3,k4,kw,km,kb,ks,⟨by rw[List.length_map];omega,(zu HM1).n.2.1,(zu HM1).n.2.2.1,(zu HM1).n.2.2.2.1,(zu HM1).n.2.2.2.2⟩⟩)
      have EM2:=zh (show Emp 1 (⟨a,c,x.ai,x.ci,x.ab,x.cb,x.al,x.cl,x.ats,x.ct,⟨rs.map r2,x.b.ic,x.b.bs,x.b.ls,x.b.ts,x.b.lot⟩⟩:Ix) from⟨fun h=>absurd h (by omega),fun _=>(zu EM).z1 (by omega),fun _=>(zu EM).z2 (by omega),fun _=>(zu EM).z3 (by omega),fun _=>(zu EM).z4 (by omega)⟩)
      clear OE OE2 BE k0 k1 k2 k3 k4 kr kb ks kw km
      go_wp2
      go_roundw
      case rel=>exact⟨1,p1,_,rfl,rfl,by omega,FIN,HM2,EM2⟩
      case measure=>simp[intOf]
  ·have NX:(if(rowsN xs p 2 8).2.2=true then readF xs 3 (rowsN xs p 2 8).2.1 (putRows 1 (rowsN xs p 2 8).1 x.b) else none)=fin:=zu FIN
   have HN:=zh NX
   clear NX FIN
   have RI:=zh (rowsN_in (xs:=xs) (p:=p) (wide:=2) (most:=8) (by omega))
   have RB:=zh (rowsN_all (xs:=xs) (p:=p) (wide:=2) (most:=8))
   have SR:=zh (fun u hg (hr:AtBO u gl oz xs)=>sRows u gl cl xs p 2 8 h20 (by omega) (by omega) hg hr)
   generalize rowsN xs p 2 8=y at *
   obtain⟨rs,p1,ok⟩:=y
   have K0:wr.cell? ⟨w.heap.size+2,1,none⟩=some (.int .i64 2)∧wr.cell? ⟨w.heap.size+3,1,none⟩=some (.int .i64 8):=⟨(zu HM).wc.2.1,(zu HM).mc.2.1⟩
   go_wp2_with fail
   refine wp_region_held_drew (S:=(fun w'=>w'.cell? ⟨w.heap.size+2,1,none⟩=some (.int .i64 2)∧w'.cell? ⟨w.heap.size+3,1,none⟩=some (.int .i64 8))) (by kernel_rfl) K0 (fun hHeld=>?_)
   refine tk 0 oW10 (.slice (some ⟨gl,oz,none⟩) xs.length cl) rfl (by kernel_rfl) (fun _ _ _ h=>h) (by rfl) (fun w hSw=>?_) hHeld ?_
   ·(try dsimp only at hSw)
    unfold oW10
    go_simp
   try simp only[oW10,Act.put,zA,zB,zC]
   refine tk 1 oW11 (.int .i64 p) rfl (by kernel_rfl) (fun _ _ _ h=>h) (by rfl) (fun w hSw=>?_) hHeld ?_
   ·(try dsimp only at hSw)
    unfold oW11
    go_simp
   try simp only[oW11,Act.put,zA,zB,zC]
   refine tk 2 oW12 (.slice (some ⟨w.heap.size+2,0,none⟩) 5 5) rfl (by kernel_rfl) (fun _ _ _ h=>h) (by rfl) (fun w hSw=>?_) hHeld ?_
   ·(try dsimp only at hSw)
    unfold oW12
    go_simp
   try simp only[oW12,Act.put,zA,zB,zC]
   refine tk 3 oW13 (.int .i64 1) rfl (by kernel_rfl) (fun _ _ _ h=>h) (by rfl) (fun w hSw=>?_) hHeld ?_
   ·(try dsimp only at hSw)
    unfold oW13
    go_simp
   try simp only[oW13,Act.put,zA,zB,zC]
   refine tk 4 oW14 (.pointer (some ⟨w.heap.size+2,1,none⟩)) rfl (by kernel_rfl) (fun _ _ _ h=>h) (by rfl) (fun w hSw=>?_) hHeld ?_
   ·(try dsimp only at hSw)
    unfold oW14
    go_simp
   try simp only[oW14,Act.put,zA,zB,zC]
   refine tk 5 oW15 (.int .i64 2) rfl (by kernel_rfl) (fun _ _ _ h=>h) (by rfl) (fun w hSw=>?_) hHeld ?_
   ·(try dsimp only at hSw)
    unfold oW15
    go_simp
   try simp only[oW15,Act.put,zA,zB,zC]
   refine tk 6 oW16 (.slice (some ⟨w.heap.size+3,0,none⟩) 5 5) rfl (by kernel_rfl) (fun _ _ _ h=>h) (by rfl) (fun w hSw=>?_) hHeld ?_
   ·(try dsimp only at hSw)
    unfold oW16
    go_simp
   try simp only[oW16,Act.put,zA,zB,zC]
   refine tk 7 oW17 (.int .i64 1) rfl (by kernel_rfl) (fun _ _ _ h=>h) (by rfl) (fun w hSw=>?_) hHeld ?_
   ·(try dsimp only at hSw)
    unfold oW17
    go_simp
   try simp only[oW17,Act.put,zA,zB,zC]
   refine tk 8 oW18 (.pointer (some ⟨w.heap.size+3,1,none⟩)) rfl (by kernel_rfl) (fun _ _ _ h=>h) (by rfl) (fun w hSw=>?_) hHeld ?_
   ·(try dsimp only at hSw)
    unfold oW18
    go_simp
   try simp only[oW18,Act.put,zA,zB,zC]
   refine tk 9 oW19 (.int .i64 8) rfl (by kernel_rfl) (fun _ _ _ h=>h) (by rfl) (fun w hSw=>?_) hHeld ?_
   ·(try dsimp only at hSw)
    unfold oW19
    go_simp
   try simp only[oW19,Act.put,zA,zB,zC]
   refine wpAnyH_ready (rs:=[10]) (by kernel_rfl) (by simp) ?_
   refine AllReadyH.cons (o:=oW110) rfl (fun K hK=>?_) AllReadyH.nil
   unfold oW110
   go_simp
   go_wp2_with fail
   refine((zu SR) wr.drew (show gl<wr.heap.size from by have:=(zu HM).b.size;have:=zu HG;omega) ((zu R).below (zu HM).b.drew (zu HG))).mono ?_
   rintro e u ⟨gr,cr,rfl,lr0,lr1,ra,b1⟩
   have b2:Below wr.heap.size wr u:=⟨b1.os,b1.tape,b1.output,b1.size,b1.block⟩
   have HM1:=zh ((zu HM).step b2)
   have K1:u.cell? ⟨w.heap.size+2,1,none⟩=some (.int .i64 2)∧u.cell? ⟨w.heap.size+3,1,none⟩=some (.int .i64 8):=⟨(zu HM1).wc.2.1,(zu HM1).mc.2.1⟩
   have RA:=zh (RowAt.lo ra (show w.heap.size+4≤wr.heap.size from(zu HM).s))
   have LR:=zh (show w.heap.size+4≤gr∧gr<u.heap.size from⟨Nat.le_trans (zu HM).s lr0,lr1⟩)
   clear b1 b2 ra lr0 lr1 SR
   go_wp2_with fail
   refine hK.out _ _ K1 (fun hHeld=>?_)
   clear hK K
   try simp only[oW110,Act.put,zA,zB,zC]
   refine tk 11 oW111 (.tuple #[.slice (some ⟨gr,0,none⟩) rs.length cr,.int .i64 p1,.bool ok]) rfl (by kernel_rfl) (fun _ _ _ h=>h) (by rfl) (fun w hSw=>?_) hHeld ?_
   ·(try dsimp only at hSw)
    unfold oW111
    go_simp
   try simp only[oW111,Act.put,zA,zB,zC]
   refine tk 12 oW112 (.slice (some ⟨gr,0,none⟩) rs.length cr) rfl (by kernel_rfl) (fun _ _ _ h=>h) (by rfl) (fun w hSw=>?_) hHeld ?_
   ·(try dsimp only at hSw)
    unfold oW112
    go_simp
   try simp only[oW112,Act.put,zA,zB,zC]
   refine tk 13 oW113 (.int .i64 p1) rfl (by kernel_rfl) (fun _ _ _ h=>h) (by rfl) (fun w hSw=>?_) hHeld ?_
   ·(try dsimp only at hSw)
    unfold oW113
    go_simp
   try simp only[oW113,Act.put,zA,zB,zC]
   refine tk 14 oW114 (.bool ok) rfl (by kernel_rfl) (fun _ _ _ h=>h) (by rfl) (fun w hSw=>?_) hHeld ?_
   ·(try dsimp only at hSw)
    unfold oW114
    go_simp
   try simp only[oW114,Act.put,zA,zB,zC]
   refine tk 15 oW115 (.slice (some ⟨gr,0,none⟩) rs.length cr) rfl (by kernel_rfl) (fun _ _ _ h=>h) (by rfl) (fun w hSw=>?_) hHeld ?_
   ·(try dsimp only at hSw)
    unfold oW115
    go_simp
   try simp only[oW115,Act.put,zA,zB,zC]
   refine tk 16 oW116 (.int .i64 p1) rfl (by kernel_rfl) (fun _ _ _ h=>h) (by rfl) (fun w hSw=>?_) hHeld ?_
   ·(try dsimp only at hSw)
    unfold oW116
    go_simp
   try simp only[oW116,Act.put,zA,zB,zC]
   refine tk 17 oW117 (.bool ok) rfl (by kernel_rfl) (fun _ _ _ h=>h) (by rfl) (fun w hSw=>?_) hHeld ?_
   ·(try dsimp only at hSw)
    unfold oW117
    go_simp
   try simp only[oW117,Act.put,zA,zB,zC]
   refine wpAnyH_done (by kernel_rfl) ?_ _
   clear K0 K1 HM
   cases ok with
   |false=>
    have F:=zu HN
    rw[if_neg (by simp)] at F
    subst F
    have RX:=zh (zu HM1).rx
    obtain⟨q0,q1,q2,q3,q4,q5,z0,z1,z2,z3,z4,z5⟩:=Box.all (zu RX)
    have ul:=(zu RX).lt.2
    go_wp2
    have SX:=six (zu RX) (.slice none 0 0) (.slice none 0 0) (.slice none 0 0) (.slice none 0 0) (.slice none 0 0) (.int .i64 0)
    have p0:=SX.c0
    have p1':=SX.c1
    have p2:=SX.c2
    have p3:=SX.c3
    have p4:=SX.c4
    have p5:=SX.c5
    (try simp only[Exit.inBlock,Exit.then])
    refine bodyPost_ret (v:= .tuple #[.agg #[.slice none 0 0,.slice none 0 0,.slice none 0 0,.slice none 0 0,.slice none 0 0,.int .i64 0],.bool false]) (by simp[results,Tryz.results18,go_sem,p0,p1',p2,p3,p4,p5]) rfl ?_
    exact .no rfl (below_six (zu HM1).b _ _ _ _ _ _)
   |true=>
    have F:=zu HN
    rw[if_pos rfl] at F
    have FIN:=zh F
    clear F HN
    obtain⟨rw0,rl⟩:=(zu RI) rfl
    have RW:=zh rw0
    have RF:=zh ((zu RB) rfl)
    clear RI RB rw0
    have us:=(zu HM1).s
    have Z:=(zu EM).z1 (by omega)
    have OX:=(zu HM1).bx
    rw[Z.1,Z.2.1,Z.2.2] at OX
    have BX0:=zh OX
    clear OX Z
    go_wp2
    go_loopw [12] (fun j wr=>∃(i c:Nat) (a:Option Addr),j= .int .i64 i∧i≤rs.length∧Hid (u.grownBy wr (some (w.heap.size+1)))∧Hid (Box wr w.heap.size (w.heap.size+1) (.slice x.aa x.b.ac.length x.ca) (.slice a i c) (.slice x.ab x.b.bs.length x.cb) (.slice x.al x.b.ls.length x.cl) (.slice x.ats x.b.ts.length x.ct) (.int .i64 0))∧Hid (wr.ownsRow u.heap.size 76 2 (.slice a i c) i (Pairs.flat ((rs.take i).map r2)))) (fun j _=>rs.length-(intOf j).toNat)
    case atStart=>exact⟨0,0,none,rfl,by omega,zh (World.grownBy.refl _ _),BX0,zh (World.ownsRow_nil u u.heap.size _ _)⟩
    case round=>
     clear BX0
     obtain⟨i,c,a,rfl,hi,GR,BX,OW⟩:=hrel
     by_cases t:i<rs.length
     ·have ti:(i:Int)<rs.length:=by omega
      obtain⟨gi,ci,gl0,rc,gi1,ga⟩:=(zu RA) i t
      have RWI:=(zu RW) (rs.getD i []) (by simp[List.getD,t])
      rw[RWI] at rc
      have LRU:=zu LR
      have rc1:=(kcell (zu GR) i LRU.2 (by omega)).trans rc
      have gi2:gi≠w.heap.size+1:=by omega
      have e0:=(kcell (zu GR) 0 gi1 gi2).trans (ga 0 (by rw[RWI];omega))
      have e1:=(kcell (zu GR) 1 gi1 gi2).trans (ga 1 (by rw[RWI];omega))
      have TK:=zh (show(rs.take (i+1)).map r2=(rs.take i).map r2++[((rs.getD i []).getD 0 0,(rs.getD i []).getD 1 0)] from by rw[List.take_succ_eq_append_getElem t,List.map_append];simp[List.getD,t,r2])
      clear ga rc RWI LRU
      generalize (rs.getD i []).getD 0 0=r0 at *
      generalize (rs.getD i []).getD 1 0=r1 at *
      have bc:=(zu BX).c1
      have gs:=(zu GR).size
      have K0:wr.cell? ⟨gi,0,none⟩=some (.int .i64 r0)∧wr.cell? ⟨gi,1,none⟩=some (.int .i64 r1):=⟨e0,e1⟩
      have KB:(wr.drew.alloc (.cells #[.int .i64 r0,.int .i64 r1] 76)).cell? ⟨gi,0,none⟩=some (.int .i64 r0)∧(wr.drew.alloc (.cells #[.int .i64 r0,.int .i64 r1] 76)).cell? ⟨gi,1,none⟩=some (.int .i64 r1):=⟨((one_more wr.drew (.cells #[.int .i64 r0,.int .i64 r1] 76)).cell (p:=⟨gi,0,none⟩) (show gi<wr.heap.size from by omega)).trans e0,((one_more wr.drew (.cells #[.int .i64 r0,.int .i64 r1] 76)).cell (p:=⟨gi,1,none⟩) (show gi<wr.heap.size from by omega)).trans e1⟩
      have bcD:wr.drew.cell? ⟨w.heap.size+1,1,none⟩=some (.slice a i c):=bc
      have bcA:(wr.alloc (.cells #[.int .i64 r0,.int .i64 r1] 76)).cell? ⟨w.heap.size+1,1,none⟩=some (.slice a i c):=((one_more wr.drew (.cells #[.int .i64 r0,.int .i64 r1] 76)).cell (p:=⟨w.heap.size+1,1,none⟩) (show w.heap.size+1<wr.heap.size from by omega)).trans bc
      go_wp2_with fail
      refine wp_region_held_drew (S:=(fun w'=>w'.cell? ⟨gi,0,none⟩=some (.int .i64 r0)∧w'.cell? ⟨gi,1,none⟩=some (.int .i64 r1))) (by kernel_rfl) K0 (fun hHeld=>?_)
      refine tk 0 oX10 (.pointer (some ⟨w.heap.size+1,1,none⟩)) rfl (by kernel_rfl) (fun _ _ _ h=>h) (by rfl) (fun w hSw=>?_) hHeld ?_
      ·(try dsimp only at hSw)
       unfold oX10
       go_simp
      try simp only[oX10,Act.put,zA,zB,zC]
      refine tk 2 oX12 (.slice (some ⟨gi,0,none⟩) 2 ci) rfl (by kernel_rfl) (fun _ _ _ h=>h) (by rfl) (fun w hSw=>?_) hHeld ?_
      ·(try dsimp only at hSw)
       unfold oX12
       go_simp
      try simp only[oX12,Act.put,zA,zB,zC]
      refine tk 3 oX13 (.pointer (some ⟨gi,0,none⟩)) rfl (by kernel_rfl) (fun _ _ _ h=>h) (by rfl) (fun w hSw=>?_) hHeld ?_
      ·(try dsimp only at hSw)
       unfold oX13
       go_simp
      try simp only[oX13,Act.put,zA,zB,zC]
      refine tk 4 oX14 (.int .i64 r0) rfl (by kernel_rfl) (fun _ _ _ h=>h) (by rfl) (fun w hSw=>?_) hHeld ?_
      ·(try dsimp only at hSw)
       unfold oX14
       go_simp
      try simp only[oX14,Act.put,zA,zB,zC]
      refine tk 5 oX15 (.slice (some ⟨gi,0,none⟩) 2 ci) rfl (by kernel_rfl) (fun _ _ _ h=>h) (by rfl) (fun w hSw=>?_) hHeld ?_
      ·(try dsimp only at hSw)
       unfold oX15
       go_simp
      try simp only[oX15,Act.put,zA,zB,zC]
      refine tk 6 oX16 (.pointer (some ⟨gi,1,none⟩)) rfl (by kernel_rfl) (fun _ _ _ h=>h) (by rfl) (fun w hSw=>?_) hHeld ?_
      ·(try dsimp only at hSw)
       unfold oX16
       go_simp
      try simp only[oX16,Act.put,zA,zB,zC]
      refine tk 7 oX17 (.int .i64 r1) rfl (by kernel_rfl) (fun _ _ _ h=>h) (by rfl) (fun w hSw=>?_) hHeld ?_
      ·(try dsimp only at hSw)
       unfold oX17
       go_simp
      try simp only[oX17,Act.put,zA,zB,zC]
      refine tk 8 oX18 (.agg #[.int .i64 r0,.int .i64 r1]) rfl (by kernel_rfl) (fun _ _ _ h=>h) (by rfl) (fun w hSw=>?_) hHeld ?_
      ·(try dsimp only at hSw)
       unfold oX18
       go_simp
      try simp only[oX18,Act.put,zA,zB,zC]
      refine wpAnyH_ready (rs:=[1,9]) (by kernel_rfl) (by simp) ?_
      refine AllReadyH.cons (o:=oX11) rfl (fun K hK=>?_) (AllReadyH.cons (o:=oX19) rfl (fun K hK=>?_) AllReadyH.nil)
      ·unfold oX11
       go_simp
       refine hK.out _ _ K0 (fun hHeld=>?_)
       clear hK K
       try simp only[oX11,Act.put,zA,zB,zC]
       refine wpAnyH_ready (rs:=[9]) (by kernel_rfl) (by simp) ?_
       refine AllReadyH.cons (o:=oX19) rfl (fun K hK=>?_) AllReadyH.nil
       unfold oX19
       go_simp
       refine hK.out _ _ KB (fun hHeld=>?_)
       clear hK K
       try simp only[oX19,Act.put,zA,zB,zC]
       refine wpAnyH_ready (rs:=[10]) (by kernel_rfl) (by simp) ?_
       refine AllReadyH.cons (o:=oX110) rfl (fun K hK=>?_) AllReadyH.nil
       refine step_app (wr.drew.alloc (.cells #[.int .i64 r0,.int .i64 r1] 76)) (by rfl) _ _ 27 76 (by rfl) (.agg #[.int .i64 0,.int .i64 0]) 2 16 Tryz.underlying27 info_ic rfl (by decide) (by decide) u.heap.size (.slice a i c) i (Pairs.flat ((rs.take i).map r2)) wr.drew.heap.size [.int .i64 r0,.int .i64 r1] (by rfl) (by rfl) (row_step (W:=wr.drew) (zu OW) (one_more wr.drew (.cells #[.int .i64 r0,.int .i64 r1] 76))) rfl (litm wr.drew _ _ _ (by rfl)) (by simp[Value.oneCell']) (by omega) (Nat.le_trans (show u.heap.size≤wr.drew.heap.size from gs) (by simp)) ?_
       intro g9 c9 u9 o9 gr9
       have BL:∀j,(Value.slice a i c).ownBlock=some j→u.heap.size≤j:=fun j hj=>(World.ownsRow.lt (zu OW) j hj).1
       have GR9:=zh (grow_app (zu GR) gr9 BL)
       have NG:some (w.heap.size+1)≠(Value.slice a i c).ownBlock:=fun e=>by have:=BL _ e.symm;omega
       have BX9:=zh (((show Box wr.drew w.heap.size (w.heap.size+1) (.slice x.aa x.b.ac.length x.ca) (.slice a i c) (.slice x.ab x.b.bs.length x.cb) (.slice x.al x.b.ls.length x.cl) (.slice x.ats x.b.ts.length x.ct) (.int .i64 0) from zu BX).below (one_more wr.drew (.cells #[.int .i64 r0,.int .i64 r1] 76)) (show w.heap.size+1<wr.heap.size from by omega)).kept gr9 NG)
       have O9:=zh o9
       have fr9:u9.frozen? ⟨w.heap.size+1,1,none⟩=false:=(zu BX9).free 1
       have bc9:=(zu BX9).c1
       have g9l:=(World.ownsRow.lt o9 g9 rfl).1
       have gs9:=(zu GR9).size
       have KC:u9.cell? ⟨gi,0,none⟩=some (.int .i64 r0)∧u9.cell? ⟨gi,1,none⟩=some (.int .i64 r1):=⟨gr9.cell KB.1 (fun e=>by have:=BL _ e.symm;simp only at this;omega),gr9.cell KB.2 (fun e=>by have:=BL _ e.symm;simp only at this;omega)⟩
       have SB:=(zu BX9).set1 (.slice (some ⟨g9,0,none⟩) (i+1) c9)
       have SB2:=zh SB
       have KD:(u9.setCell ⟨w.heap.size+1,1,none⟩ (.slice (some ⟨g9,0,none⟩) (i+1) c9)).cell? ⟨gi,0,none⟩=some (.int .i64 r0)∧(u9.setCell ⟨w.heap.size+1,1,none⟩ (.slice (some ⟨g9,0,none⟩) (i+1) c9)).cell? ⟨gi,1,none⟩=some (.int .i64 r1):=⟨(kcell SB.2 0 (show gi<u9.heap.size from by omega) gi2).trans KC.1,(kcell SB.2 1 (show gi<u9.heap.size from by omega) gi2).trans KC.2⟩
       clear o9 SB
       refine hK.out _ _ KC (fun hHeld=>?_)
       clear hK K
       try simp only[oX110,Act.put,zA,zB,zC]
       refine tk 11 oX111 (.pointer (some ⟨w.heap.size+1,1,none⟩)) rfl (by kernel_rfl) (fun _ _ _ h=>h) (by rfl) (fun w hSw=>?_) hHeld ?_
       ·(try dsimp only at hSw)
        unfold oX111
        go_simp
       try simp only[oX111,Act.put,zA,zB,zC]
       refine wpAnyH_ready (rs:=[12]) (by kernel_rfl) (by simp) ?_
       refine AllReadyH.cons (o:=oX112) rfl (fun K hK=>?_) AllReadyH.nil
       unfold oX112
       go_simp
       refine hK.out _ _ KD (fun hHeld=>?_)
       clear hK K
       try simp only[oX112,Act.put,zA,zB,zC]
       refine wpAnyH_done (by kernel_rfl) ?_ _
       clear K0 KB KC KD gr9 bc bcD bcA bc9 fr9
       have GRS:=zh (grow_grow (zu GR9) (zu SB2).2)
       have BXS:=zh (zu SB2).1
       have OWS:=zh (row_kept (zu O9) (zu SB2).2 (by omega))
       clear SB2
       go_wp2
       go_roundw
       case rel=>exact⟨i+1,c9,some ⟨g9,0,none⟩,by go_num,by omega,GRS,BXS,zh (by have h:=zu OWS;rw[zu TK,flat_p];exact h)⟩
       case measure=>simp[intOf];omega
      ·unfold oX19
       go_simp
       refine hK.out _ _ KB (fun hHeld=>?_)
       clear hK K
       try simp only[oX19,Act.put,zA,zB,zC]
       refine wpAnyH_ready (rs:=[1]) (by kernel_rfl) (by simp) ?_
       refine AllReadyH.cons (o:=oX11) rfl (fun K hK=>?_) AllReadyH.nil
       unfold oX11
       go_simp
       refine hK.out _ _ KB (fun hHeld=>?_)
       clear hK K
       try simp only[oX11,Act.put,zA,zB,zC]
       refine wpAnyH_ready (rs:=[10]) (by kernel_rfl) (by simp) ?_
       refine AllReadyH.cons (o:=oX110) rfl (fun K hK=>?_) AllReadyH.nil
       refine step_app (wr.drew.alloc (.cells #[.int .i64 r0,.int .i64 r1] 76)) (by rfl) _ _ 27 76 (by rfl) (.agg #[.int .i64 0,.int .i64 0]) 2 16 Tryz.underlying27 info_ic rfl (by decide) (by decide) u.heap.size (.slice a i c) i (Pairs.flat ((rs.take i).map r2)) wr.drew.heap.size [.int .i64 r0,.int .i64 r1] (by rfl) (by rfl) (row_step (W:=wr.drew) (zu OW) (one_more wr.drew (.cells #[.int .i64 r0,.int .i64 r1] 76))) rfl (litm wr.drew _ _ _ (by rfl)) (by simp[Value.oneCell']) (by omega) (Nat.le_trans (show u.heap.size≤wr.drew.heap.size from gs) (by simp)) ?_
       intro g9 c9 u9 o9 gr9
       have BL:∀j,(Value.slice a i c).ownBlock=some j→u.heap.size≤j:=fun j hj=>(World.ownsRow.lt (zu OW) j hj).1
       have GR9:=zh (grow_app (zu GR) gr9 BL)
       have NG:some (w.heap.size+1)≠(Value.slice a i c).ownBlock:=fun e=>by have:=BL _ e.symm;omega
       have BX9:=zh (((show Box wr.drew w.heap.size (w.heap.size+1) (.slice x.aa x.b.ac.length x.ca) (.slice a i c) (.slice x.ab x.b.bs.length x.cb) (.slice x.al x.b.ls.length x.cl) (.slice x.ats x.b.ts.length x.ct) (.int .i64 0) from zu BX).below (one_more wr.drew (.cells #[.int .i64 r0,.int .i64 r1] 76)) (show w.heap.size+1<wr.heap.size from by omega)).kept gr9 NG)
       have O9:=zh o9
       have fr9:u9.frozen? ⟨w.heap.size+1,1,none⟩=false:=(zu BX9).free 1
       have bc9:=(zu BX9).c1
       have g9l:=(World.ownsRow.lt o9 g9 rfl).1
       have gs9:=(zu GR9).size
       have KC:u9.cell? ⟨gi,0,none⟩=some (.int .i64 r0)∧u9.cell? ⟨gi,1,none⟩=some (.int .i64 r1):=⟨gr9.cell KB.1 (fun e=>by have:=BL _ e.symm;simp only at this;omega),gr9.cell KB.2 (fun e=>by have:=BL _ e.symm;simp only at this;omega)⟩
       have SB:=(zu BX9).set1 (.slice (some ⟨g9,0,none⟩) (i+1) c9)
       have SB2:=zh SB
       have KD:(u9.setCell ⟨w.heap.size+1,1,none⟩ (.slice (some ⟨g9,0,none⟩) (i+1) c9)).cell? ⟨gi,0,none⟩=some (.int .i64 r0)∧(u9.setCell ⟨w.heap.size+1,1,none⟩ (.slice (some ⟨g9,0,none⟩) (i+1) c9)).cell? ⟨gi,1,none⟩=some (.int .i64 r1):=⟨(kcell SB.2 0 (show gi<u9.heap.size from by omega) gi2).trans KC.1,(kcell SB.2 1 (show gi<u9.heap.size from by omega) gi2).trans KC.2⟩
       clear o9 SB
       refine hK.out _ _ KC (fun hHeld=>?_)
       clear hK K
       try simp only[oX110,Act.put,zA,zB,zC]
       refine tk 11 oX111 (.pointer (some ⟨w.heap.size+1,1,none⟩)) rfl (by kernel_rfl) (fun _ _ _ h=>h) (by rfl) (fun w hSw=>?_) hHeld ?_
       ·(try dsimp only at hSw)
        unfold oX111
        go_simp
       try simp only[oX111,Act.put,zA,zB,zC]
       refine wpAnyH_ready (rs:=[12]) (by kernel_rfl) (by simp) ?_
       refine AllReadyH.cons (o:=oX112) rfl (fun K hK=>?_) AllReadyH.nil
       unfold oX112
       go_simp
       refine hK.out _ _ KD (fun hHeld=>?_)
       clear hK K
       try simp only[oX112,Act.put,zA,zB,zC]
       refine wpAnyH_done (by kernel_rfl) ?_ _
       clear K0 KB KC KD gr9 bc bcD bcA bc9 fr9
       have GRS:=zh (grow_grow (zu GR9) (zu SB2).2)
       have BXS:=zh (zu SB2).1
       have OWS:=zh (row_kept (zu O9) (zu SB2).2 (by omega))
       clear SB2
       go_wp2
       go_roundw
       case rel=>exact⟨i+1,c9,some ⟨g9,0,none⟩,by go_num,by omega,GRS,BXS,zh (by have h:=zu OWS;rw[zu TK,flat_p];exact h)⟩
       case measure=>simp[intOf];omega
     ·have e:i=rs.length:=by omega
      subst e
      have OE:=zu OW
      rw[List.take_length] at OE
      have OE2:=row_base OE (show w.heap.size+4≤u.heap.size from us)
      rw[show rs.length=(rs.map r2).length by simp] at OE2
      have BE:=zu BX
      rw[show rs.length=(rs.map r2).length by simp] at BE
      obtain⟨⟨k0,k1,k2,k3,k4⟩,kr,kb,ks,kw,km⟩:=(zu HM1).rest (zu GR)
      have HM2:=zh (show Mv w wr (⟨x.aa,x.ca,a,c,x.ab,x.cb,x.al,x.cl,x.ats,x.ct,⟨x.b.ac,rs.map r2,x.b.bs,x.b.ls,x.b.ts,x.b.lot⟩⟩:Ix) from⟨BE,kr,k0,OE2,k2,k3,k4,kw,km,kb,ks,⟨(zu HM1).n.1,by rw[List.length_map];omega,(zu HM1).n.2.2.1,(zu HM1).n.2.2.2.1,(zu HM1).n.2.2.2.2⟩⟩)
      have EM2:=zh (show Emp 2 (⟨x.aa,x.ca,a,c,x.ab,x.cb,x.al,x.cl,x.ats,x.ct,⟨x.b.ac,rs.map r2,x.b.bs,x.b.ls,x.b.ts,x.b.lot⟩⟩:Ix) from⟨fun h=>absurd h (by omega),fun h=>absurd h (by omega),fun _=>(zu EM).z2 (by omega),fun _=>(zu EM).z3 (by omega),fun _=>(zu EM).z4 (by omega)⟩)
      clear OE OE2 BE k0 k1 k2 k3 k4 kr kb ks kw km
      go_wp2
      go_roundw
      case rel=>exact⟨2,p1,_,rfl,rfl,by omega,FIN,HM2,EM2⟩
      case measure=>simp[intOf]
  ·have NX:(if(rowsN xs p 3 160).2.2=true then readF xs 2 (rowsN xs p 3 160).2.1 (putRows 2 (rowsN xs p 3 160).1 x.b) else none)=fin:=zu FIN
   have HN:=zh NX
   clear NX FIN
   have RI:=zh (rowsN_in (xs:=xs) (p:=p) (wide:=3) (most:=160) (by omega))
   have RB:=zh (rowsN_all (xs:=xs) (p:=p) (wide:=3) (most:=160))
   have SR:=zh (fun u hg (hr:AtBO u gl oz xs)=>sRows u gl cl xs p 3 160 h20 (by omega) (by omega) hg hr)
   generalize rowsN xs p 3 160=y at *
   obtain⟨rs,p1,ok⟩:=y
   have K0:wr.cell? ⟨w.heap.size+2,2,none⟩=some (.int .i64 3)∧wr.cell? ⟨w.heap.size+3,2,none⟩=some (.int .i64 160):=⟨(zu HM).wc.2.2.1,(zu HM).mc.2.2.1⟩
   go_wp2_with fail
   refine wp_region_held_drew (S:=(fun w'=>w'.cell? ⟨w.heap.size+2,2,none⟩=some (.int .i64 3)∧w'.cell? ⟨w.heap.size+3,2,none⟩=some (.int .i64 160))) (by kernel_rfl) K0 (fun hHeld=>?_)
   refine tk 0 oW20 (.slice (some ⟨gl,oz,none⟩) xs.length cl) rfl (by kernel_rfl) (fun _ _ _ h=>h) (by rfl) (fun w hSw=>?_) hHeld ?_
   ·(try dsimp only at hSw)
    unfold oW20
    go_simp
   try simp only[oW20,Act.put,zA,zB,zC]
   refine tk 1 oW21 (.int .i64 p) rfl (by kernel_rfl) (fun _ _ _ h=>h) (by rfl) (fun w hSw=>?_) hHeld ?_
   ·(try dsimp only at hSw)
    unfold oW21
    go_simp
   try simp only[oW21,Act.put,zA,zB,zC]
   refine tk 2 oW22 (.slice (some ⟨w.heap.size+2,0,none⟩) 5 5) rfl (by kernel_rfl) (fun _ _ _ h=>h) (by rfl) (fun w hSw=>?_) hHeld ?_
   ·(try dsimp only at hSw)
    unfold oW22
    go_simp
   try simp only[oW22,Act.put,zA,zB,zC]
   refine tk 3 oW23 (.int .i64 2) rfl (by kernel_rfl) (fun _ _ _ h=>h) (by rfl) (fun w hSw=>?_) hHeld ?_
   ·(try dsimp only at hSw)
    unfold oW23
    go_simp
   try simp only[oW23,Act.put,zA,zB,zC]
   refine tk 4 oW24 (.pointer (some ⟨w.heap.size+2,2,none⟩)) rfl (by kernel_rfl) (fun _ _ _ h=>h) (by rfl) (fun w hSw=>?_) hHeld ?_
   ·(try dsimp only at hSw)
    unfold oW24
    go_simp
   try simp only[oW24,Act.put,zA,zB,zC]
   refine tk 5 oW25 (.int .i64 3) rfl (by kernel_rfl) (fun _ _ _ h=>h) (by rfl) (fun w hSw=>?_) hHeld ?_
   ·(try dsimp only at hSw)
    unfold oW25
    go_simp
   try simp only[oW25,Act.put,zA,zB,zC]
   refine tk 6 oW26 (.slice (some ⟨w.heap.size+3,0,none⟩) 5 5) rfl (by kernel_rfl) (fun _ _ _ h=>h) (by rfl) (fun w hSw=>?_) hHeld ?_
   ·(try dsimp only at hSw)
    unfold oW26
    go_simp
   try simp only[oW26,Act.put,zA,zB,zC]
   refine tk 7 oW27 (.int .i64 2) rfl (by kernel_rfl) (fun _ _ _ h=>h) (by rfl) (fun w hSw=>?_) hHeld ?_
   ·(try dsimp only at hSw)
    unfold oW27
    go_simp
   try simp only[oW27,Act.put,zA,zB,zC]
   refine tk 8 oW28 (.pointer (some ⟨w.heap.size+3,2,none⟩)) rfl (by kernel_rfl) (fun _ _ _ h=>h) (by rfl) (fun w hSw=>?_) hHeld ?_
   ·(try dsimp only at hSw)
    unfold oW28
    go_simp
   try simp only[oW28,Act.put,zA,zB,zC]
   refine tk 9 oW29 (.int .i64 160) rfl (by kernel_rfl) (fun _ _ _ h=>h) (by rfl) (fun w hSw=>?_) hHeld ?_
   ·(try dsimp only at hSw)
    unfold oW29
    go_simp
   try simp only[oW29,Act.put,zA,zB,zC]
   refine wpAnyH_ready (rs:=[10]) (by kernel_rfl) (by simp) ?_
   refine AllReadyH.cons (o:=oW210) rfl (fun K hK=>?_) AllReadyH.nil
   unfold oW210
   go_simp
   go_wp2_with fail
   refine((zu SR) wr.drew (show gl<wr.heap.size from by have:=(zu HM).b.size;have:=zu HG;omega) ((zu R).below (zu HM).b.drew (zu HG))).mono ?_
   rintro e u ⟨gr,cr,rfl,lr0,lr1,ra,b1⟩
   have b2:Below wr.heap.size wr u:=⟨b1.os,b1.tape,b1.output,b1.size,b1.block⟩
   have HM1:=zh ((zu HM).step b2)
   have K1:u.cell? ⟨w.heap.size+2,2,none⟩=some (.int .i64 3)∧u.cell? ⟨w.heap.size+3,2,none⟩=some (.int .i64 160):=⟨(zu HM1).wc.2.2.1,(zu HM1).mc.2.2.1⟩
   have RA:=zh (RowAt.lo ra (show w.heap.size+4≤wr.heap.size from(zu HM).s))
   have LR:=zh (show w.heap.size+4≤gr∧gr<u.heap.size from⟨Nat.le_trans (zu HM).s lr0,lr1⟩)
   clear b1 b2 ra lr0 lr1 SR
   go_wp2_with fail
   refine hK.out _ _ K1 (fun hHeld=>?_)
   clear hK K
   try simp only[oW210,Act.put,zA,zB,zC]
   refine tk 11 oW211 (.tuple #[.slice (some ⟨gr,0,none⟩) rs.length cr,.int .i64 p1,.bool ok]) rfl (by kernel_rfl) (fun _ _ _ h=>h) (by rfl) (fun w hSw=>?_) hHeld ?_
   ·(try dsimp only at hSw)
    unfold oW211
    go_simp
   try simp only[oW211,Act.put,zA,zB,zC]
   refine tk 12 oW212 (.slice (some ⟨gr,0,none⟩) rs.length cr) rfl (by kernel_rfl) (fun _ _ _ h=>h) (by rfl) (fun w hSw=>?_) hHeld ?_
   ·(try dsimp only at hSw)
    unfold oW212
    go_simp
   try simp only[oW212,Act.put,zA,zB,zC]
   refine tk 13 oW213 (.int .i64 p1) rfl (by kernel_rfl) (fun _ _ _ h=>h) (by rfl) (fun w hSw=>?_) hHeld ?_
   ·(try dsimp only at hSw)
    unfold oW213
    go_simp
   try simp only[oW213,Act.put,zA,zB,zC]
   refine tk 14 oW214 (.bool ok) rfl (by kernel_rfl) (fun _ _ _ h=>h) (by rfl) (fun w hSw=>?_) hHeld ?_
   ·(try dsimp only at hSw)
    unfold oW214
    go_simp
   try simp only[oW214,Act.put,zA,zB,zC]
   refine tk 15 oW215 (.slice (some ⟨gr,0,none⟩) rs.length cr) rfl (by kernel_rfl) (fun _ _ _ h=>h) (by rfl) (fun w hSw=>?_) hHeld ?_
   ·(try dsimp only at hSw)
    unfold oW215
    go_simp
   try simp only[oW215,Act.put,zA,zB,zC]
   refine tk 16 oW216 (.int .i64 p1) rfl (by kernel_rfl) (fun _ _ _ h=>h) (by rfl) (fun w hSw=>?_) hHeld ?_
   ·(try dsimp only at hSw)
    unfold oW216
    go_simp
   try simp only[oW216,Act.put,zA,zB,zC]
   refine tk 17 oW217 (.bool ok) rfl (by kernel_rfl) (fun _ _ _ h=>h) (by rfl) (fun w hSw=>?_) hHeld ?_
   ·(try dsimp only at hSw)
    unfold oW217
    go_simp
   try simp only[oW217,Act.put,zA,zB,zC]
   refine wpAnyH_done (by kernel_rfl) ?_ _
   clear K0 K1 HM
   cases ok with
   |false=>
    have F:=zu HN
    rw[if_neg (by simp)] at F
    subst F
    have RX:=zh (zu HM1).rx
    obtain⟨q0,q1,q2,q3,q4,q5,z0,z1,z2,z3,z4,z5⟩:=Box.all (zu RX)
    have ul:=(zu RX).lt.2
    go_wp2
    have SX:=six (zu RX) (.slice none 0 0) (.slice none 0 0) (.slice none 0 0) (.slice none 0 0) (.slice none 0 0) (.int .i64 0)
    have p0:=SX.c0
    have p1':=SX.c1
    have p2:=SX.c2
    have p3:=SX.c3
    have p4:=SX.c4
    have p5:=SX.c5
    (try simp only[Exit.inBlock,Exit.then])
    refine bodyPost_ret (v:= .tuple #[.agg #[.slice none 0 0,.slice none 0 0,.slice none 0 0,.slice none 0 0,.slice none 0 0,.int .i64 0],.bool false]) (by simp[results,Tryz.results18,go_sem,p0,p1',p2,p3,p4,p5]) rfl ?_
    exact .no rfl (below_six (zu HM1).b _ _ _ _ _ _)
   |true=>
    have F:=zu HN
    rw[if_pos rfl] at F
    have FIN:=zh F
    clear F HN
    obtain⟨rw0,rl⟩:=(zu RI) rfl
    have RW:=zh rw0
    have RF:=zh ((zu RB) rfl)
    clear RI RB rw0
    have us:=(zu HM1).s
    have Z:=(zu EM).z2 (by omega)
    have OX:=(zu HM1).bx
    rw[Z.1,Z.2.1,Z.2.2] at OX
    have BX0:=zh OX
    clear OX Z
    go_wp2
    go_loopw [12] (fun j wr=>∃(i c:Nat) (a:Option Addr),j= .int .i64 i∧i≤rs.length∧Hid (u.grownBy wr (some (w.heap.size+1)))∧Hid (Box wr w.heap.size (w.heap.size+1) (.slice x.aa x.b.ac.length x.ca) (.slice x.ai x.b.ic.length x.ci) (.slice a i c) (.slice x.al x.b.ls.length x.cl) (.slice x.ats x.b.ts.length x.ct) (.int .i64 0))∧Hid (wr.ownsRow u.heap.size 78 3 (.slice a i c) i (Triples.flat3 ((rs.take i).map r3)))) (fun j _=>rs.length-(intOf j).toNat)
    case atStart=>exact⟨0,0,none,rfl,by omega,zh (World.grownBy.refl _ _),BX0,zh (World.ownsRow_nil u u.heap.size _ _)⟩
    case round=>
     clear BX0
     obtain⟨i,c,a,rfl,hi,GR,BX,OW⟩:=hrel
     by_cases t:i<rs.length
     ·have ti:(i:Int)<rs.length:=by omega
      obtain⟨gi,ci,gl0,rc,gi1,ga⟩:=(zu RA) i t
      have RWI:=(zu RW) (rs.getD i []) (by simp[List.getD,t])
      rw[RWI] at rc
      have LRU:=zu LR
      have rc1:=(kcell (zu GR) i LRU.2 (by omega)).trans rc
      have gi2:gi≠w.heap.size+1:=by omega
      have e0:=(kcell (zu GR) 0 gi1 gi2).trans (ga 0 (by rw[RWI];omega))
      have e1:=(kcell (zu GR) 1 gi1 gi2).trans (ga 1 (by rw[RWI];omega))
      have e2:=(kcell (zu GR) 2 gi1 gi2).trans (ga 2 (by rw[RWI];omega))
      have TK:=zh (show(rs.take (i+1)).map r3=(rs.take i).map r3++[((rs.getD i []).getD 0 0,(rs.getD i []).getD 1 0,(rs.getD i []).getD 2 0-1000000000000000)] from by rw[List.take_succ_eq_append_getElem t,List.map_append];simp[List.getD,t,r3])
      have am0:=mem_form (zu RF) t RWI (show 2<3 by omega)
      clear ga rc RWI LRU
      generalize (rs.getD i []).getD 0 0=r0 at *
      generalize (rs.getD i []).getD 1 0=r1 at *
      generalize (rs.getD i []).getD 2 0=r2 at *
      have am1:wrap64 (r2-1000000000000000)=r2-1000000000000000:=by rw[wrap64];omega
      have am2:IntKind.i64.wrap (r2-1000000000000000)=r2-1000000000000000:=by rw[IntKind.wrap_i64];omega
      have bc:=(zu BX).c2
      have gs:=(zu GR).size
      have K0:wr.cell? ⟨gi,0,none⟩=some (.int .i64 r0)∧wr.cell? ⟨gi,1,none⟩=some (.int .i64 r1)∧wr.cell? ⟨gi,2,none⟩=some (.int .i64 r2):=⟨e0,e1,e2⟩
      have KB:(wr.drew.alloc (.cells #[.int .i64 r0,.int .i64 r1,.int .i64 (r2-1000000000000000)] 78)).cell? ⟨gi,0,none⟩=some (.int .i64 r0)∧(wr.drew.alloc (.cells #[.int .i64 r0,.int .i64 r1,.int .i64 (r2-1000000000000000)] 78)).cell? ⟨gi,1,none⟩=some (.int .i64 r1)∧(wr.drew.alloc (.cells #[.int .i64 r0,.int .i64 r1,.int .i64 (r2-1000000000000000)] 78)).cell? ⟨gi,2,none⟩=some (.int .i64 r2):=⟨((one_more wr.drew (.cells #[.int .i64 r0,.int .i64 r1,.int .i64 (r2-1000000000000000)] 78)).cell (p:=⟨gi,0,none⟩) (show gi<wr.heap.size from by omega)).trans e0,((one_more wr.drew (.cells #[.int .i64 r0,.int .i64 r1,.int .i64 (r2-1000000000000000)] 78)).cell (p:=⟨gi,1,none⟩) (show gi<wr.heap.size from by omega)).trans e1,((one_more wr.drew (.cells #[.int .i64 r0,.int .i64 r1,.int .i64 (r2-1000000000000000)] 78)).cell (p:=⟨gi,2,none⟩) (show gi<wr.heap.size from by omega)).trans e2⟩
      have bcD:wr.drew.cell? ⟨w.heap.size+1,2,none⟩=some (.slice a i c):=bc
      have bcA:(wr.alloc (.cells #[.int .i64 r0,.int .i64 r1,.int .i64 (r2-1000000000000000)] 78)).cell? ⟨w.heap.size+1,2,none⟩=some (.slice a i c):=((one_more wr.drew (.cells #[.int .i64 r0,.int .i64 r1,.int .i64 (r2-1000000000000000)] 78)).cell (p:=⟨w.heap.size+1,2,none⟩) (show w.heap.size+1<wr.heap.size from by omega)).trans bc
      go_wp2_with fail
      refine wp_region_held_drew (S:=(fun w'=>w'.cell? ⟨gi,0,none⟩=some (.int .i64 r0)∧w'.cell? ⟨gi,1,none⟩=some (.int .i64 r1)∧w'.cell? ⟨gi,2,none⟩=some (.int .i64 r2))) (by kernel_rfl) K0 (fun hHeld=>?_)
      refine tk 0 oX20 (.pointer (some ⟨w.heap.size+1,2,none⟩)) rfl (by kernel_rfl) (fun _ _ _ h=>h) (by rfl) (fun w hSw=>?_) hHeld ?_
      ·(try dsimp only at hSw)
       unfold oX20
       go_simp
      try simp only[oX20,Act.put,zA,zB,zC]
      refine tk 2 oX22 (.slice (some ⟨gi,0,none⟩) 3 ci) rfl (by kernel_rfl) (fun _ _ _ h=>h) (by rfl) (fun w hSw=>?_) hHeld ?_
      ·(try dsimp only at hSw)
       unfold oX22
       go_simp
      try simp only[oX22,Act.put,zA,zB,zC]
      refine tk 3 oX23 (.pointer (some ⟨gi,0,none⟩)) rfl (by kernel_rfl) (fun _ _ _ h=>h) (by rfl) (fun w hSw=>?_) hHeld ?_
      ·(try dsimp only at hSw)
       unfold oX23
       go_simp
      try simp only[oX23,Act.put,zA,zB,zC]
      refine tk 4 oX24 (.int .i64 r0) rfl (by kernel_rfl) (fun _ _ _ h=>h) (by rfl) (fun w hSw=>?_) hHeld ?_
      ·(try dsimp only at hSw)
       unfold oX24
       go_simp
      try simp only[oX24,Act.put,zA,zB,zC]
      refine tk 5 oX25 (.slice (some ⟨gi,0,none⟩) 3 ci) rfl (by kernel_rfl) (fun _ _ _ h=>h) (by rfl) (fun w hSw=>?_) hHeld ?_
      ·(try dsimp only at hSw)
       unfold oX25
       go_simp
      try simp only[oX25,Act.put,zA,zB,zC]
      refine tk 6 oX26 (.pointer (some ⟨gi,1,none⟩)) rfl (by kernel_rfl) (fun _ _ _ h=>h) (by rfl) (fun w hSw=>?_) hHeld ?_
      ·(try dsimp only at hSw)
       unfold oX26
       go_simp
      try simp only[oX26,Act.put,zA,zB,zC]
      refine tk 7 oX27 (.int .i64 r1) rfl (by kernel_rfl) (fun _ _ _ h=>h) (by rfl) (fun w hSw=>?_) hHeld ?_
      ·(try dsimp only at hSw)
       unfold oX27
       go_simp
      try simp only[oX27,Act.put,zA,zB,zC]
      refine tk 8 oX28 (.slice (some ⟨gi,0,none⟩) 3 ci) rfl (by kernel_rfl) (fun _ _ _ h=>h) (by rfl) (fun w hSw=>?_) hHeld ?_
      ·(try dsimp only at hSw)
       unfold oX28
       go_simp
      try simp only[oX28,Act.put,zA,zB,zC]
      refine tk 9 oX29 (.pointer (some ⟨gi,2,none⟩)) rfl (by kernel_rfl) (fun _ _ _ h=>h) (by rfl) (fun w hSw=>?_) hHeld ?_
      ·(try dsimp only at hSw)
       unfold oX29
       go_simp
      try simp only[oX29,Act.put,zA,zB,zC]
      refine tk 10 oX210 (.int .i64 r2) rfl (by kernel_rfl) (fun _ _ _ h=>h) (by rfl) (fun w hSw=>?_) hHeld ?_
      ·(try dsimp only at hSw)
       unfold oX210
       go_simp
      try simp only[oX210,Act.put,zA,zB,zC]
      refine tk 11 oX211 (.int .i64 (r2-1000000000000000)) rfl (by kernel_rfl) (fun _ _ _ h=>h) (by rfl) (fun w hSw=>?_) hHeld ?_
      ·(try dsimp only at hSw)
       unfold oX211
       go_simp
      try simp only[oX211,Act.put,zA,zB,zC]
      refine tk 12 oX212 (.agg #[.int .i64 r0,.int .i64 r1,.int .i64 (r2-1000000000000000)]) rfl (by kernel_rfl) (fun _ _ _ h=>h) (by rfl) (fun w hSw=>?_) hHeld ?_
      ·(try dsimp only at hSw)
       unfold oX212
       go_simp
      try simp only[oX212,Act.put,zA,zB,zC]
      refine wpAnyH_ready (rs:=[1,13]) (by kernel_rfl) (by simp) ?_
      refine AllReadyH.cons (o:=oX21) rfl (fun K hK=>?_) (AllReadyH.cons (o:=oX213) rfl (fun K hK=>?_) AllReadyH.nil)
      ·unfold oX21
       go_simp
       refine hK.out _ _ K0 (fun hHeld=>?_)
       clear hK K
       try simp only[oX21,Act.put,zA,zB,zC]
       refine wpAnyH_ready (rs:=[13]) (by kernel_rfl) (by simp) ?_
       refine AllReadyH.cons (o:=oX213) rfl (fun K hK=>?_) AllReadyH.nil
       unfold oX213
       go_simp
       refine hK.out _ _ KB (fun hHeld=>?_)
       clear hK K
       try simp only[oX213,Act.put,zA,zB,zC]
       refine wpAnyH_ready (rs:=[14]) (by kernel_rfl) (by simp) ?_
       refine AllReadyH.cons (o:=oX214) rfl (fun K hK=>?_) AllReadyH.nil
       refine step_app (wr.drew.alloc (.cells #[.int .i64 r0,.int .i64 r1,.int .i64 (r2-1000000000000000)] 78)) (by rfl) _ _ 28 78 (by rfl) (.agg #[.int .i64 0,.int .i64 0,.int .i64 0]) 3 24 Tryz.underlying28 info_bs rfl (by decide) (by decide) u.heap.size (.slice a i c) i (Triples.flat3 ((rs.take i).map r3)) wr.drew.heap.size [.int .i64 r0,.int .i64 r1,.int .i64 (r2-1000000000000000)] (by rfl) (by rfl) (row_step (W:=wr.drew) (zu OW) (one_more wr.drew (.cells #[.int .i64 r0,.int .i64 r1,.int .i64 (r2-1000000000000000)] 78))) rfl (litm wr.drew _ _ _ (by rfl)) (by simp[Value.oneCell']) (by omega) (Nat.le_trans (show u.heap.size≤wr.drew.heap.size from gs) (by simp)) ?_
       intro g9 c9 u9 o9 gr9
       have BL:∀j,(Value.slice a i c).ownBlock=some j→u.heap.size≤j:=fun j hj=>(World.ownsRow.lt (zu OW) j hj).1
       have GR9:=zh (grow_app (zu GR) gr9 BL)
       have NG:some (w.heap.size+1)≠(Value.slice a i c).ownBlock:=fun e=>by have:=BL _ e.symm;omega
       have BX9:=zh (((show Box wr.drew w.heap.size (w.heap.size+1) (.slice x.aa x.b.ac.length x.ca) (.slice x.ai x.b.ic.length x.ci) (.slice a i c) (.slice x.al x.b.ls.length x.cl) (.slice x.ats x.b.ts.length x.ct) (.int .i64 0) from zu BX).below (one_more wr.drew (.cells #[.int .i64 r0,.int .i64 r1,.int .i64 (r2-1000000000000000)] 78)) (show w.heap.size+1<wr.heap.size from by omega)).kept gr9 NG)
       have O9:=zh o9
       have fr9:u9.frozen? ⟨w.heap.size+1,2,none⟩=false:=(zu BX9).free 2
       have bc9:=(zu BX9).c2
       have g9l:=(World.ownsRow.lt o9 g9 rfl).1
       have gs9:=(zu GR9).size
       have KC:u9.cell? ⟨gi,0,none⟩=some (.int .i64 r0)∧u9.cell? ⟨gi,1,none⟩=some (.int .i64 r1)∧u9.cell? ⟨gi,2,none⟩=some (.int .i64 r2):=⟨gr9.cell KB.1 (fun e=>by have:=BL _ e.symm;simp only at this;omega),gr9.cell KB.2.1 (fun e=>by have:=BL _ e.symm;simp only at this;omega),gr9.cell KB.2.2 (fun e=>by have:=BL _ e.symm;simp only at this;omega)⟩
       have SB:=(zu BX9).set2 (.slice (some ⟨g9,0,none⟩) (i+1) c9)
       have SB2:=zh SB
       have KD:(u9.setCell ⟨w.heap.size+1,2,none⟩ (.slice (some ⟨g9,0,none⟩) (i+1) c9)).cell? ⟨gi,0,none⟩=some (.int .i64 r0)∧(u9.setCell ⟨w.heap.size+1,2,none⟩ (.slice (some ⟨g9,0,none⟩) (i+1) c9)).cell? ⟨gi,1,none⟩=some (.int .i64 r1)∧(u9.setCell ⟨w.heap.size+1,2,none⟩ (.slice (some ⟨g9,0,none⟩) (i+1) c9)).cell? ⟨gi,2,none⟩=some (.int .i64 r2):=⟨(kcell SB.2 0 (show gi<u9.heap.size from by omega) gi2).trans KC.1,(kcell SB.2 1 (show gi<u9.heap.size from by omega) gi2).trans KC.2.1,(kcell SB.2 2 (show gi<u9.heap.size from by omega) gi2).trans KC.2.2⟩
       clear o9 SB
       refine hK.out _ _ KC (fun hHeld=>?_)
       clear hK K
       try simp only[oX214,Act.put,zA,zB,zC]
       refine tk 15 oX215 (.pointer (some ⟨w.heap.size+1,2,none⟩)) rfl (by kernel_rfl) (fun _ _ _ h=>h) (by rfl) (fun w hSw=>?_) hHeld ?_
       ·(try dsimp only at hSw)
        unfold oX215
        go_simp
       try simp only[oX215,Act.put,zA,zB,zC]
       refine wpAnyH_ready (rs:=[16]) (by kernel_rfl) (by simp) ?_
       refine AllReadyH.cons (o:=oX216) rfl (fun K hK=>?_) AllReadyH.nil
       unfold oX216
       go_simp
       refine hK.out _ _ KD (fun hHeld=>?_)
       clear hK K
       try simp only[oX216,Act.put,zA,zB,zC]
       refine wpAnyH_done (by kernel_rfl) ?_ _
       clear K0 KB KC KD gr9 bc bcD bcA bc9 fr9
       have GRS:=zh (grow_grow (zu GR9) (zu SB2).2)
       have BXS:=zh (zu SB2).1
       have OWS:=zh (row_kept (zu O9) (zu SB2).2 (by omega))
       clear SB2
       go_wp2
       go_roundw
       case rel=>exact⟨i+1,c9,some ⟨g9,0,none⟩,by go_num,by omega,GRS,BXS,zh (by have h:=zu OWS;rw[zu TK,flat_t];exact h)⟩
       case measure=>simp[intOf];omega
      ·unfold oX213
       go_simp
       refine hK.out _ _ KB (fun hHeld=>?_)
       clear hK K
       try simp only[oX213,Act.put,zA,zB,zC]
       refine wpAnyH_ready (rs:=[1]) (by kernel_rfl) (by simp) ?_
       refine AllReadyH.cons (o:=oX21) rfl (fun K hK=>?_) AllReadyH.nil
       unfold oX21
       go_simp
       refine hK.out _ _ KB (fun hHeld=>?_)
       clear hK K
       try simp only[oX21,Act.put,zA,zB,zC]
       refine wpAnyH_ready (rs:=[14]) (by kernel_rfl) (by simp) ?_
       refine AllReadyH.cons (o:=oX214) rfl (fun K hK=>?_) AllReadyH.nil
       refine step_app (wr.drew.alloc (.cells #[.int .i64 r0,.int .i64 r1,.int .i64 (r2-1000000000000000)] 78)) (by rfl) _ _ 28 78 (by rfl) (.agg #[.int .i64 0,.int .i64 0,.int .i64 0]) 3 24 Tryz.underlying28 info_bs rfl (by decide) (by decide) u.heap.size (.slice a i c) i (Triples.flat3 ((rs.take i).map r3)) wr.drew.heap.size [.int .i64 r0,.int .i64 r1,.int .i64 (r2-1000000000000000)] (by rfl) (by rfl) (row_step (W:=wr.drew) (zu OW) (one_more wr.drew (.cells #[.int .i64 r0,.int .i64 r1,.int .i64 (r2-1000000000000000)] 78))) rfl (litm wr.drew _ _ _ (by rfl)) (by simp[Value.oneCell']) (by omega) (Nat.le_trans (show u.heap.size≤wr.drew.heap.size from gs) (by simp)) ?_
       intro g9 c9 u9 o9 gr9
       have BL:∀j,(Value.slice a i c).ownBlock=some j→u.heap.size≤j:=fun j hj=>(World.ownsRow.lt (zu OW) j hj).1
       have GR9:=zh (grow_app (zu GR) gr9 BL)
       have NG:some (w.heap.size+1)≠(Value.slice a i c).ownBlock:=fun e=>by have:=BL _ e.symm;omega
       have BX9:=zh (((show Box wr.drew w.heap.size (w.heap.size+1) (.slice x.aa x.b.ac.length x.ca) (.slice x.ai x.b.ic.length x.ci) (.slice a i c) (.slice x.al x.b.ls.length x.cl) (.slice x.ats x.b.ts.length x.ct) (.int .i64 0) from zu BX).below (one_more wr.drew (.cells #[.int .i64 r0,.int .i64 r1,.int .i64 (r2-1000000000000000)] 78)) (show w.heap.size+1<wr.heap.size from by omega)).kept gr9 NG)
       have O9:=zh o9
       have fr9:u9.frozen? ⟨w.heap.size+1,2,none⟩=false:=(zu BX9).free 2
       have bc9:=(zu BX9).c2
       have g9l:=(World.ownsRow.lt o9 g9 rfl).1
       have gs9:=(zu GR9).size
       have KC:u9.cell? ⟨gi,0,none⟩=some (.int .i64 r0)∧u9.cell? ⟨gi,1,none⟩=some (.int .i64 r1)∧u9.cell? ⟨gi,2,none⟩=some (.int .i64 r2):=⟨gr9.cell KB.1 (fun e=>by have:=BL _ e.symm;simp only at this;omega),gr9.cell KB.2.1 (fun e=>by have:=BL _ e.symm;simp only at this;omega),gr9.cell KB.2.2 (fun e=>by have:=BL _ e.symm;simp only at this;omega)⟩
       have SB:=(zu BX9).set2 (.slice (some ⟨g9,0,none⟩) (i+1) c9)
       have SB2:=zh SB
       have KD:(u9.setCell ⟨w.heap.size+1,2,none⟩ (.slice (some ⟨g9,0,none⟩) (i+1) c9)).cell? ⟨gi,0,none⟩=some (.int .i64 r0)∧(u9.setCell ⟨w.heap.size+1,2,none⟩ (.slice (some ⟨g9,0,none⟩) (i+1) c9)).cell? ⟨gi,1,none⟩=some (.int .i64 r1)∧(u9.setCell ⟨w.heap.size+1,2,none⟩ (.slice (some ⟨g9,0,none⟩) (i+1) c9)).cell? ⟨gi,2,none⟩=some (.int .i64 r2):=⟨(kcell SB.2 0 (show gi<u9.heap.size from by omega) gi2).trans KC.1,(kcell SB.2 1 (show gi<u9.heap.size from by omega) gi2).trans KC.2.1,(kcell SB.2 2 (show gi<u9.heap.size from by omega) gi2).trans KC.2.2⟩
       clear o9 SB
       refine hK.out _ _ KC (fun hHeld=>?_)
       clear hK K
       try simp only[oX214,Act.put,zA,zB,zC]
       refine tk 15 oX215 (.pointer (some ⟨w.heap.size+1,2,none⟩)) rfl (by kernel_rfl) (fun _ _ _ h=>h) (by rfl) (fun w hSw=>?_) hHeld ?_
       ·(try dsimp only at hSw)
        unfold oX215
        go_simp
       try simp only[oX215,Act.put,zA,zB,zC]
       refine wpAnyH_ready (rs:=[16]) (by kernel_rfl) (by simp) ?_
       refine AllReadyH.cons (o:=oX216) rfl (fun K hK=>?_) AllReadyH.nil
       unfold oX216
       go_simp
       refine hK.out _ _ KD (fun hHeld=>?_)
       clear hK K
       try simp only[oX216,Act.put,zA,zB,zC]
       refine wpAnyH_done (by kernel_rfl) ?_ _
       clear K0 KB KC KD gr9 bc bcD bcA bc9 fr9
       have GRS:=zh (grow_grow (zu GR9) (zu SB2).2)
       have BXS:=zh (zu SB2).1
       have OWS:=zh (row_kept (zu O9) (zu SB2).2 (by omega))
       clear SB2
       go_wp2
       go_roundw
       case rel=>exact⟨i+1,c9,some ⟨g9,0,none⟩,by go_num,by omega,GRS,BXS,zh (by have h:=zu OWS;rw[zu TK,flat_t];exact h)⟩
       case measure=>simp[intOf];omega
     ·have e:i=rs.length:=by omega
      subst e
      have OE:=zu OW
      rw[List.take_length] at OE
      have OE2:=row_base OE (show w.heap.size+4≤u.heap.size from us)
      rw[show rs.length=(rs.map r3).length by simp] at OE2
      have BE:=zu BX
      rw[show rs.length=(rs.map r3).length by simp] at BE
      obtain⟨⟨k0,k1,k2,k3,k4⟩,kr,kb,ks,kw,km⟩:=(zu HM1).rest (zu GR)
      have HM2:=zh (show Mv w wr (⟨x.aa,x.ca,x.ai,x.ci,a,c,x.al,x.cl,x.ats,x.ct,⟨x.b.ac,x.b.ic,rs.map r3,x.b.ls,x.b.ts,x.b.lot⟩⟩:Ix) from⟨BE,kr,k0,k1,OE2,k3,k4,kw,km,kb,ks,⟨(zu HM1).n.1,(zu HM1).n.2.1,by rw[List.length_map];omega,(zu HM1).n.2.2.2.1,(zu HM1).n.2.2.2.2⟩⟩)
      have EM2:=zh (show Emp 3 (⟨x.aa,x.ca,x.ai,x.ci,a,c,x.al,x.cl,x.ats,x.ct,⟨x.b.ac,x.b.ic,rs.map r3,x.b.ls,x.b.ts,x.b.lot⟩⟩:Ix) from⟨fun h=>absurd h (by omega),fun h=>absurd h (by omega),fun h=>absurd h (by omega),fun _=>(zu EM).z3 (by omega),fun _=>(zu EM).z4 (by omega)⟩)
      clear OE OE2 BE k0 k1 k2 k3 k4 kr kb ks kw km
      go_wp2
      go_roundw
      case rel=>exact⟨3,p1,_,rfl,rfl,by omega,FIN,HM2,EM2⟩
      case measure=>simp[intOf]
  ·have NX:(if(rowsN xs p 5 120).2.2=true then readF xs 1 (rowsN xs p 5 120).2.1 (putRows 3 (rowsN xs p 5 120).1 x.b) else none)=fin:=zu FIN
   have HN:=zh NX
   clear NX FIN
   have RI:=zh (rowsN_in (xs:=xs) (p:=p) (wide:=5) (most:=120) (by omega))
   have RB:=zh (rowsN_all (xs:=xs) (p:=p) (wide:=5) (most:=120))
   have SR:=zh (fun u hg (hr:AtBO u gl oz xs)=>sRows u gl cl xs p 5 120 h20 (by omega) (by omega) hg hr)
   generalize rowsN xs p 5 120=y at *
   obtain⟨rs,p1,ok⟩:=y
   have K0:wr.cell? ⟨w.heap.size+2,3,none⟩=some (.int .i64 5)∧wr.cell? ⟨w.heap.size+3,3,none⟩=some (.int .i64 120):=⟨(zu HM).wc.2.2.2.1,(zu HM).mc.2.2.2.1⟩
   go_wp2_with fail
   refine wp_region_held_drew (S:=(fun w'=>w'.cell? ⟨w.heap.size+2,3,none⟩=some (.int .i64 5)∧w'.cell? ⟨w.heap.size+3,3,none⟩=some (.int .i64 120))) (by kernel_rfl) K0 (fun hHeld=>?_)
   refine tk 0 oW30 (.slice (some ⟨gl,oz,none⟩) xs.length cl) rfl (by kernel_rfl) (fun _ _ _ h=>h) (by rfl) (fun w hSw=>?_) hHeld ?_
   ·(try dsimp only at hSw)
    unfold oW30
    go_simp
   try simp only[oW30,Act.put,zA,zB,zC]
   refine tk 1 oW31 (.int .i64 p) rfl (by kernel_rfl) (fun _ _ _ h=>h) (by rfl) (fun w hSw=>?_) hHeld ?_
   ·(try dsimp only at hSw)
    unfold oW31
    go_simp
   try simp only[oW31,Act.put,zA,zB,zC]
   refine tk 2 oW32 (.slice (some ⟨w.heap.size+2,0,none⟩) 5 5) rfl (by kernel_rfl) (fun _ _ _ h=>h) (by rfl) (fun w hSw=>?_) hHeld ?_
   ·(try dsimp only at hSw)
    unfold oW32
    go_simp
   try simp only[oW32,Act.put,zA,zB,zC]
   refine tk 3 oW33 (.int .i64 3) rfl (by kernel_rfl) (fun _ _ _ h=>h) (by rfl) (fun w hSw=>?_) hHeld ?_
   ·(try dsimp only at hSw)
    unfold oW33
    go_simp
   try simp only[oW33,Act.put,zA,zB,zC]
   refine tk 4 oW34 (.pointer (some ⟨w.heap.size+2,3,none⟩)) rfl (by kernel_rfl) (fun _ _ _ h=>h) (by rfl) (fun w hSw=>?_) hHeld ?_
   ·(try dsimp only at hSw)
    unfold oW34
    go_simp
   try simp only[oW34,Act.put,zA,zB,zC]
   refine tk 5 oW35 (.int .i64 5) rfl (by kernel_rfl) (fun _ _ _ h=>h) (by rfl) (fun w hSw=>?_) hHeld ?_
   ·(try dsimp only at hSw)
    unfold oW35
    go_simp
   try simp only[oW35,Act.put,zA,zB,zC]
   refine tk 6 oW36 (.slice (some ⟨w.heap.size+3,0,none⟩) 5 5) rfl (by kernel_rfl) (fun _ _ _ h=>h) (by rfl) (fun w hSw=>?_) hHeld ?_
   ·(try dsimp only at hSw)
    unfold oW36
    go_simp
   try simp only[oW36,Act.put,zA,zB,zC]
   refine tk 7 oW37 (.int .i64 3) rfl (by kernel_rfl) (fun _ _ _ h=>h) (by rfl) (fun w hSw=>?_) hHeld ?_
   ·(try dsimp only at hSw)
    unfold oW37
    go_simp
   try simp only[oW37,Act.put,zA,zB,zC]
   refine tk 8 oW38 (.pointer (some ⟨w.heap.size+3,3,none⟩)) rfl (by kernel_rfl) (fun _ _ _ h=>h) (by rfl) (fun w hSw=>?_) hHeld ?_
   ·(try dsimp only at hSw)
    unfold oW38
    go_simp
   try simp only[oW38,Act.put,zA,zB,zC]
   refine tk 9 oW39 (.int .i64 120) rfl (by kernel_rfl) (fun _ _ _ h=>h) (by rfl) (fun w hSw=>?_) hHeld ?_
   ·(try dsimp only at hSw)
    unfold oW39
    go_simp
   try simp only[oW39,Act.put,zA,zB,zC]
   refine wpAnyH_ready (rs:=[10]) (by kernel_rfl) (by simp) ?_
   refine AllReadyH.cons (o:=oW310) rfl (fun K hK=>?_) AllReadyH.nil
   unfold oW310
   go_simp
   go_wp2_with fail
   refine((zu SR) wr.drew (show gl<wr.heap.size from by have:=(zu HM).b.size;have:=zu HG;omega) ((zu R).below (zu HM).b.drew (zu HG))).mono ?_
   rintro e u ⟨gr,cr,rfl,lr0,lr1,ra,b1⟩
   have b2:Below wr.heap.size wr u:=⟨b1.os,b1.tape,b1.output,b1.size,b1.block⟩
   have HM1:=zh ((zu HM).step b2)
   have K1:u.cell? ⟨w.heap.size+2,3,none⟩=some (.int .i64 5)∧u.cell? ⟨w.heap.size+3,3,none⟩=some (.int .i64 120):=⟨(zu HM1).wc.2.2.2.1,(zu HM1).mc.2.2.2.1⟩
   have RA:=zh (RowAt.lo ra (show w.heap.size+4≤wr.heap.size from(zu HM).s))
   have LR:=zh (show w.heap.size+4≤gr∧gr<u.heap.size from⟨Nat.le_trans (zu HM).s lr0,lr1⟩)
   clear b1 b2 ra lr0 lr1 SR
   go_wp2_with fail
   refine hK.out _ _ K1 (fun hHeld=>?_)
   clear hK K
   try simp only[oW310,Act.put,zA,zB,zC]
   refine tk 11 oW311 (.tuple #[.slice (some ⟨gr,0,none⟩) rs.length cr,.int .i64 p1,.bool ok]) rfl (by kernel_rfl) (fun _ _ _ h=>h) (by rfl) (fun w hSw=>?_) hHeld ?_
   ·(try dsimp only at hSw)
    unfold oW311
    go_simp
   try simp only[oW311,Act.put,zA,zB,zC]
   refine tk 12 oW312 (.slice (some ⟨gr,0,none⟩) rs.length cr) rfl (by kernel_rfl) (fun _ _ _ h=>h) (by rfl) (fun w hSw=>?_) hHeld ?_
   ·(try dsimp only at hSw)
    unfold oW312
    go_simp
   try simp only[oW312,Act.put,zA,zB,zC]
   refine tk 13 oW313 (.int .i64 p1) rfl (by kernel_rfl) (fun _ _ _ h=>h) (by rfl) (fun w hSw=>?_) hHeld ?_
   ·(try dsimp only at hSw)
    unfold oW313
    go_simp
   try simp only[oW313,Act.put,zA,zB,zC]
   refine tk 14 oW314 (.bool ok) rfl (by kernel_rfl) (fun _ _ _ h=>h) (by rfl) (fun w hSw=>?_) hHeld ?_
   ·(try dsimp only at hSw)
    unfold oW314
    go_simp
   try simp only[oW314,Act.put,zA,zB,zC]
   refine tk 15 oW315 (.slice (some ⟨gr,0,none⟩) rs.length cr) rfl (by kernel_rfl) (fun _ _ _ h=>h) (by rfl) (fun w hSw=>?_) hHeld ?_
   ·(try dsimp only at hSw)
    unfold oW315
    go_simp
   try simp only[oW315,Act.put,zA,zB,zC]
   refine tk 16 oW316 (.int .i64 p1) rfl (by kernel_rfl) (fun _ _ _ h=>h) (by rfl) (fun w hSw=>?_) hHeld ?_
   ·(try dsimp only at hSw)
    unfold oW316
    go_simp
   try simp only[oW316,Act.put,zA,zB,zC]
   refine tk 17 oW317 (.bool ok) rfl (by kernel_rfl) (fun _ _ _ h=>h) (by rfl) (fun w hSw=>?_) hHeld ?_
   ·(try dsimp only at hSw)
    unfold oW317
    go_simp
   try simp only[oW317,Act.put,zA,zB,zC]
   refine wpAnyH_done (by kernel_rfl) ?_ _
   clear K0 K1 HM
   cases ok with
   |false=>
    have F:=zu HN
    rw[if_neg (by simp)] at F
    subst F
    have RX:=zh (zu HM1).rx
    obtain⟨q0,q1,q2,q3,q4,q5,z0,z1,z2,z3,z4,z5⟩:=Box.all (zu RX)
    have ul:=(zu RX).lt.2
    go_wp2
    have SX:=six (zu RX) (.slice none 0 0) (.slice none 0 0) (.slice none 0 0) (.slice none 0 0) (.slice none 0 0) (.int .i64 0)
    have p0:=SX.c0
    have p1':=SX.c1
    have p2:=SX.c2
    have p3:=SX.c3
    have p4:=SX.c4
    have p5:=SX.c5
    (try simp only[Exit.inBlock,Exit.then])
    refine bodyPost_ret (v:= .tuple #[.agg #[.slice none 0 0,.slice none 0 0,.slice none 0 0,.slice none 0 0,.slice none 0 0,.int .i64 0],.bool false]) (by simp[results,Tryz.results18,go_sem,p0,p1',p2,p3,p4,p5]) rfl ?_
    exact .no rfl (below_six (zu HM1).b _ _ _ _ _ _)
   |true=>
    have F:=zu HN
    rw[if_pos rfl] at F
    have FIN:=zh F
    clear F HN
    obtain⟨rw0,rl⟩:=(zu RI) rfl
    have RW:=zh rw0
    have RF:=zh ((zu RB) rfl)
    clear RI RB rw0
    have us:=(zu HM1).s
    have Z:=(zu EM).z3 (by omega)
    have OX:=(zu HM1).bx
    rw[Z.1,Z.2.1,Z.2.2] at OX
    have BX0:=zh OX
    clear OX Z
    go_wp2
    go_loopw [12] (fun j wr=>∃(i c:Nat) (a:Option Addr),j= .int .i64 i∧i≤rs.length∧Hid (u.grownBy wr (some (w.heap.size+1)))∧Hid (Box wr w.heap.size (w.heap.size+1) (.slice x.aa x.b.ac.length x.ca) (.slice x.ai x.b.ic.length x.ci) (.slice x.ab x.b.bs.length x.cb) (.slice a i c) (.slice x.ats x.b.ts.length x.ct) (.int .i64 0))∧Hid (wr.ownsRow u.heap.size 80 5 (.slice a i c) i (Tup5.flat5 ((rs.take i).map r5)))) (fun j _=>rs.length-(intOf j).toNat)
    case atStart=>exact⟨0,0,none,rfl,by omega,zh (World.grownBy.refl _ _),BX0,zh (World.ownsRow_nil u u.heap.size _ _)⟩
    case round=>
     clear BX0
     obtain⟨i,c,a,rfl,hi,GR,BX,OW⟩:=hrel
     by_cases t:i<rs.length
     ·have ti:(i:Int)<rs.length:=by omega
      obtain⟨gi,ci,gl0,rc,gi1,ga⟩:=(zu RA) i t
      have RWI:=(zu RW) (rs.getD i []) (by simp[List.getD,t])
      rw[RWI] at rc
      have LRU:=zu LR
      have rc1:=(kcell (zu GR) i LRU.2 (by omega)).trans rc
      have gi2:gi≠w.heap.size+1:=by omega
      have e0:=(kcell (zu GR) 0 gi1 gi2).trans (ga 0 (by rw[RWI];omega))
      have e1:=(kcell (zu GR) 1 gi1 gi2).trans (ga 1 (by rw[RWI];omega))
      have e2:=(kcell (zu GR) 2 gi1 gi2).trans (ga 2 (by rw[RWI];omega))
      have e3:=(kcell (zu GR) 3 gi1 gi2).trans (ga 3 (by rw[RWI];omega))
      have e4:=(kcell (zu GR) 4 gi1 gi2).trans (ga 4 (by rw[RWI];omega))
      have TK:=zh (show(rs.take (i+1)).map r5=(rs.take i).map r5++[((rs.getD i []).getD 0 0,(rs.getD i []).getD 1 0,(rs.getD i []).getD 2 0,(rs.getD i []).getD 3 0,(rs.getD i []).getD 4 0)] from by rw[List.take_succ_eq_append_getElem t,List.map_append];simp[List.getD,t,r5])
      clear ga rc RWI LRU
      generalize (rs.getD i []).getD 0 0=r0 at *
      generalize (rs.getD i []).getD 1 0=r1 at *
      generalize (rs.getD i []).getD 2 0=r2 at *
      generalize (rs.getD i []).getD 3 0=r3 at *
      generalize (rs.getD i []).getD 4 0=r4 at *
      have bc:=(zu BX).c3
      have gs:=(zu GR).size
      have K0:wr.cell? ⟨gi,0,none⟩=some (.int .i64 r0)∧wr.cell? ⟨gi,1,none⟩=some (.int .i64 r1)∧wr.cell? ⟨gi,2,none⟩=some (.int .i64 r2)∧wr.cell? ⟨gi,3,none⟩=some (.int .i64 r3)∧wr.cell? ⟨gi,4,none⟩=some (.int .i64 r4):=⟨e0,e1,e2,e3,e4⟩
      have KB:(wr.drew.alloc (.cells #[.int .i64 r0,.int .i64 r1,.int .i64 r2,.int .i64 r3,.int .i64 r4] 80)).cell? ⟨gi,0,none⟩=some (.int .i64 r0)∧(wr.drew.alloc (.cells #[.int .i64 r0,.int .i64 r1,.int .i64 r2,.int .i64 r3,.int .i64 r4] 80)).cell? ⟨gi,1,none⟩=some (.int .i64 r1)∧(wr.drew.alloc (.cells #[.int .i64 r0,.int .i64 r1,.int .i64 r2,.int .i64 r3,.int .i64 r4] 80)).cell? ⟨gi,2,none⟩=some (.int .i64 r2)∧(wr.drew.alloc (.cells #[.int .i64 r0,.int .i64 r1,.int .i64 r2,.int .i64 r3,.int .i64 r4] 80)).cell? ⟨gi,3,none⟩=some (.int .i64 r3)∧(wr.drew.alloc (.cells #[.int .i64 r0,.int .i64 r1,.int .i64 r2,.int .i64 r3,.int .i64 r4] 80)).cell? ⟨gi,4,none⟩=some (.int .i64 r4):=⟨((one_more wr.drew (.cells #[.int .i64 r0,.int .i64 r1,.int .i64 r2,.int .i64 r3,.int .i64 r4] 80)).cell (p:=⟨gi,0,none⟩) (show gi<wr.heap.size from by omega)).trans e0,((one_more wr.drew (.cells #[.int .i64 r0,.int .i64 r1,.int .i64 r2,.int .i64 r3,.int .i64 r4] 80)).cell (p:=⟨gi,1,none⟩) (show gi<wr.heap.size from by omega)).trans e1,((one_more wr.drew (.cells #[.int .i64 r0,.int .i64 r1,.int .i64 r2,.int .i64 r3,.int .i64 r4] 80)).cell (p:=⟨gi,2,none⟩) (show gi<wr.heap.size from by omega)).trans e2,((one_more wr.drew (.cells #[.int .i64 r0,.int .i64 r1,.int .i64 r2,.int .i64 r3,.int .i64 r4] 80)).cell (p:=⟨gi,3,none⟩) (show gi<wr.heap.size from by omega)).trans e3,((one_more wr.drew (.cells #[.int .i64 r0,.int .i64 r1,.int .i64 r2,.int .i64 r3,.int .i64 r4] 80)).cell (p:=⟨gi,4,none⟩) (show gi<wr.heap.size from by omega)).trans e4⟩
      have bcD:wr.drew.cell? ⟨w.heap.size+1,3,none⟩=some (.slice a i c):=bc
      have bcA:(wr.alloc (.cells #[.int .i64 r0,.int .i64 r1,.int .i64 r2,.int .i64 r3,.int .i64 r4] 80)).cell? ⟨w.heap.size+1,3,none⟩=some (.slice a i c):=((one_more wr.drew (.cells #[.int .i64 r0,.int .i64 r1,.int .i64 r2,.int .i64 r3,.int .i64 r4] 80)).cell (p:=⟨w.heap.size+1,3,none⟩) (show w.heap.size+1<wr.heap.size from by omega)).trans bc
      go_wp2_with fail
      refine wp_region_held_drew (S:=(fun w'=>w'.cell? ⟨gi,0,none⟩=some (.int .i64 r0)∧w'.cell? ⟨gi,1,none⟩=some (.int .i64 r1)∧w'.cell? ⟨gi,2,none⟩=some (.int .i64 r2)∧w'.cell? ⟨gi,3,none⟩=some (.int .i64 r3)∧w'.cell? ⟨gi,4,none⟩=some (.int .i64 r4))) (by kernel_rfl) K0 (fun hHeld=>?_)
      refine tk 0 oX30 (.pointer (some ⟨w.heap.size+1,3,none⟩)) rfl (by kernel_rfl) (fun _ _ _ h=>h) (by rfl) (fun w hSw=>?_) hHeld ?_
      ·(try dsimp only at hSw)
       unfold oX30
       go_simp
      try simp only[oX30,Act.put,zA,zB,zC]
      refine tk 2 oX32 (.slice (some ⟨gi,0,none⟩) 5 ci) rfl (by kernel_rfl) (fun _ _ _ h=>h) (by rfl) (fun w hSw=>?_) hHeld ?_
      ·(try dsimp only at hSw)
       unfold oX32
       go_simp
      try simp only[oX32,Act.put,zA,zB,zC]
      refine tk 3 oX33 (.pointer (some ⟨gi,0,none⟩)) rfl (by kernel_rfl) (fun _ _ _ h=>h) (by rfl) (fun w hSw=>?_) hHeld ?_
      ·(try dsimp only at hSw)
       unfold oX33
       go_simp
      try simp only[oX33,Act.put,zA,zB,zC]
      refine tk 4 oX34 (.int .i64 r0) rfl (by kernel_rfl) (fun _ _ _ h=>h) (by rfl) (fun w hSw=>?_) hHeld ?_
      ·(try dsimp only at hSw)
       unfold oX34
       go_simp
      try simp only[oX34,Act.put,zA,zB,zC]
      refine tk 5 oX35 (.slice (some ⟨gi,0,none⟩) 5 ci) rfl (by kernel_rfl) (fun _ _ _ h=>h) (by rfl) (fun w hSw=>?_) hHeld ?_
      ·(try dsimp only at hSw)
       unfold oX35
       go_simp
      try simp only[oX35,Act.put,zA,zB,zC]
      refine tk 6 oX36 (.pointer (some ⟨gi,1,none⟩)) rfl (by kernel_rfl) (fun _ _ _ h=>h) (by rfl) (fun w hSw=>?_) hHeld ?_
      ·(try dsimp only at hSw)
       unfold oX36
       go_simp
      try simp only[oX36,Act.put,zA,zB,zC]
      refine tk 7 oX37 (.int .i64 r1) rfl (by kernel_rfl) (fun _ _ _ h=>h) (by rfl) (fun w hSw=>?_) hHeld ?_
      ·(try dsimp only at hSw)
       unfold oX37
       go_simp
      try simp only[oX37,Act.put,zA,zB,zC]
      refine tk 8 oX38 (.slice (some ⟨gi,0,none⟩) 5 ci) rfl (by kernel_rfl) (fun _ _ _ h=>h) (by rfl) (fun w hSw=>?_) hHeld ?_
      ·(try dsimp only at hSw)
       unfold oX38
       go_simp
      try simp only[oX38,Act.put,zA,zB,zC]
      refine tk 9 oX39 (.pointer (some ⟨gi,2,none⟩)) rfl (by kernel_rfl) (fun _ _ _ h=>h) (by rfl) (fun w hSw=>?_) hHeld ?_
      ·(try dsimp only at hSw)
       unfold oX39
       go_simp
      try simp only[oX39,Act.put,zA,zB,zC]
      refine tk 10 oX310 (.int .i64 r2) rfl (by kernel_rfl) (fun _ _ _ h=>h) (by rfl) (fun w hSw=>?_) hHeld ?_
      ·(try dsimp only at hSw)
       unfold oX310
       go_simp
      try simp only[oX310,Act.put,zA,zB,zC]
      refine tk 11 oX311 (.slice (some ⟨gi,0,none⟩) 5 ci) rfl (by kernel_rfl) (fun _ _ _ h=>h) (by rfl) (fun w hSw=>?_) hHeld ?_
      ·(try dsimp only at hSw)
       unfold oX311
       go_simp
      try simp only[oX311,Act.put,zA,zB,zC]
      refine tk 12 oX312 (.pointer (some ⟨gi,3,none⟩)) rfl (by kernel_rfl) (fun _ _ _ h=>h) (by rfl) (fun w hSw=>?_) hHeld ?_
      ·(try dsimp only at hSw)
       unfold oX312
       go_simp
      try simp only[oX312,Act.put,zA,zB,zC]
      refine tk 13 oX313 (.int .i64 r3) rfl (by kernel_rfl) (fun _ _ _ h=>h) (by rfl) (fun w hSw=>?_) hHeld ?_
      ·(try dsimp only at hSw)
       unfold oX313
       go_simp
      try simp only[oX313,Act.put,zA,zB,zC]
      refine tk 14 oX314 (.slice (some ⟨gi,0,none⟩) 5 ci) rfl (by kernel_rfl) (fun _ _ _ h=>h) (by rfl) (fun w hSw=>?_) hHeld ?_
      ·(try dsimp only at hSw)
       unfold oX314
       go_simp
      try simp only[oX314,Act.put,zA,zB,zC]
      refine tk 15 oX315 (.pointer (some ⟨gi,4,none⟩)) rfl (by kernel_rfl) (fun _ _ _ h=>h) (by rfl) (fun w hSw=>?_) hHeld ?_
      ·(try dsimp only at hSw)
       unfold oX315
       go_simp
      try simp only[oX315,Act.put,zA,zB,zC]
      refine tk 16 oX316 (.int .i64 r4) rfl (by kernel_rfl) (fun _ _ _ h=>h) (by rfl) (fun w hSw=>?_) hHeld ?_
      ·(try dsimp only at hSw)
       unfold oX316
       go_simp
      try simp only[oX316,Act.put,zA,zB,zC]
      refine tk 17 oX317 (.agg #[.int .i64 r0,.int .i64 r1,.int .i64 r2,.int .i64 r3,.int .i64 r4]) rfl (by kernel_rfl) (fun _ _ _ h=>h) (by rfl) (fun w hSw=>?_) hHeld ?_
      ·(try dsimp only at hSw)
       unfold oX317
       go_simp
      try simp only[oX317,Act.put,zA,zB,zC]
      refine wpAnyH_ready (rs:=[1,18]) (by kernel_rfl) (by simp) ?_
      refine AllReadyH.cons (o:=oX31) rfl (fun K hK=>?_) (AllReadyH.cons (o:=oX318) rfl (fun K hK=>?_) AllReadyH.nil)
      ·unfold oX31
       go_simp
       refine hK.out _ _ K0 (fun hHeld=>?_)
       clear hK K
       try simp only[oX31,Act.put,zA,zB,zC]
       refine wpAnyH_ready (rs:=[18]) (by kernel_rfl) (by simp) ?_
       refine AllReadyH.cons (o:=oX318) rfl (fun K hK=>?_) AllReadyH.nil
       unfold oX318
       go_simp
       refine hK.out _ _ KB (fun hHeld=>?_)
       clear hK K
       try simp only[oX318,Act.put,zA,zB,zC]
       refine wpAnyH_ready (rs:=[19]) (by kernel_rfl) (by simp) ?_
       refine AllReadyH.cons (o:=oX319) rfl (fun K hK=>?_) AllReadyH.nil
       refine step_app (wr.drew.alloc (.cells #[.int .i64 r0,.int .i64 r1,.int .i64 r2,.int .i64 r3,.int .i64 r4] 80)) (by rfl) _ _ 29 80 (by rfl) (.agg #[.int .i64 0,.int .i64 0,.int .i64 0,.int .i64 0,.int .i64 0]) 5 40 Tryz.underlying29 info_ls rfl (by decide) (by decide) u.heap.size (.slice a i c) i (Tup5.flat5 ((rs.take i).map r5)) wr.drew.heap.size [.int .i64 r0,.int .i64 r1,.int .i64 r2,.int .i64 r3,.int .i64 r4] (by rfl) (by rfl) (row_step (W:=wr.drew) (zu OW) (one_more wr.drew (.cells #[.int .i64 r0,.int .i64 r1,.int .i64 r2,.int .i64 r3,.int .i64 r4] 80))) rfl (litm wr.drew _ _ _ (by rfl)) (by simp[Value.oneCell']) (by omega) (Nat.le_trans (show u.heap.size≤wr.drew.heap.size from gs) (by simp)) ?_
       intro g9 c9 u9 o9 gr9
       have BL:∀j,(Value.slice a i c).ownBlock=some j→u.heap.size≤j:=fun j hj=>(World.ownsRow.lt (zu OW) j hj).1
       have GR9:=zh (grow_app (zu GR) gr9 BL)
       have NG:some (w.heap.size+1)≠(Value.slice a i c).ownBlock:=fun e=>by have:=BL _ e.symm;omega
       have BX9:=zh (((show Box wr.drew w.heap.size (w.heap.size+1) (.slice x.aa x.b.ac.length x.ca) (.slice x.ai x.b.ic.length x.ci) (.slice x.ab x.b.bs.length x.cb) (.slice a i c) (.slice x.ats x.b.ts.length x.ct) (.int .i64 0) from zu BX).below (one_more wr.drew (.cells #[.int .i64 r0,.int .i64 r1,.int .i64 r2,.int .i64 r3,.int .i64 r4] 80)) (show w.heap.size+1<wr.heap.size from by omega)).kept gr9 NG)
       have O9:=zh o9
       have fr9:u9.frozen? ⟨w.heap.size+1,3,none⟩=false:=(zu BX9).free 3
       have bc9:=(zu BX9).c3
       have g9l:=(World.ownsRow.lt o9 g9 rfl).1
       have gs9:=(zu GR9).size
       have KC:u9.cell? ⟨gi,0,none⟩=some (.int .i64 r0)∧u9.cell? ⟨gi,1,none⟩=some (.int .i64 r1)∧u9.cell? ⟨gi,2,none⟩=some (.int .i64 r2)∧u9.cell? ⟨gi,3,none⟩=some (.int .i64 r3)∧u9.cell? ⟨gi,4,none⟩=some (.int .i64 r4):=⟨gr9.cell KB.1 (fun e=>by have:=BL _ e.symm;simp only at this;omega),gr9.cell KB.2.1 (fun e=>by have:=BL _ e.symm;simp only at this;omega),gr9.cell KB.2.2.1 (fun e=>by have:=BL _ e.symm;simp only at this;omega),gr9.cell KB.2.2.2.1 (fun e=>by have:=BL _ e.symm;simp only at this;omega),gr9.cell KB.2.2.2.2 (fun e=>by have:=BL _ e.symm;simp only at this;omega)⟩
       have SB:=(zu BX9).set3 (.slice (some ⟨g9,0,none⟩) (i+1) c9)
       have SB2:=zh SB
       have KD:(u9.setCell ⟨w.heap.size+1,3,none⟩ (.slice (some ⟨g9,0,none⟩) (i+1) c9)).cell? ⟨gi,0,none⟩=some (.int .i64 r0)∧(u9.setCell ⟨w.heap.size+1,3,none⟩ (.slice (some ⟨g9,0,none⟩) (i+1) c9)).cell? ⟨gi,1,none⟩=some (.int .i64 r1)∧(u9.setCell ⟨w.heap.size+1,3,none⟩ (.slice (some ⟨g9,0,none⟩) (i+1) c9)).cell? ⟨gi,2,none⟩=some (.int .i64 r2)∧(u9.setCell ⟨w.heap.size+1,3,none⟩ (.slice (some ⟨g9,0,none⟩) (i+1) c9)).cell? ⟨gi,3,none⟩=some (.int .i64 r3)∧(u9.setCell ⟨w.heap.size+1,3,none⟩ (.slice (some ⟨g9,0,none⟩) (i+1) c9)).cell? ⟨gi,4,none⟩=some (.int .i64 r4):=⟨(kcell SB.2 0 (show gi<u9.heap.size from by omega) gi2).trans KC.1,(kcell SB.2 1 (show gi<u9.heap.size from by omega) gi2).trans KC.2.1,(kcell SB.2 2 (show gi<u9.heap.size from by omega) gi2).trans KC.2.2.1,(kcell SB.2 3 (show gi<u9.heap.size from by omega) gi2).trans KC.2.2.2.1,(kcell SB.2 4 (show gi<u9.heap.size from by omega) gi2).trans KC.2.2.2.2⟩
       clear o9 SB
       refine hK.out _ _ KC (fun hHeld=>?_)
       clear hK K
       try simp only[oX319,Act.put,zA,zB,zC]
       refine tk 20 oX320 (.pointer (some ⟨w.heap.size+1,3,none⟩)) rfl (by kernel_rfl) (fun _ _ _ h=>h) (by rfl) (fun w hSw=>?_) hHeld ?_
       ·(try dsimp only at hSw)
        unfold oX320
        go_simp
       try simp only[oX320,Act.put,zA,zB,zC]
       refine wpAnyH_ready (rs:=[21]) (by kernel_rfl) (by simp) ?_
       refine AllReadyH.cons (o:=oX321) rfl (fun K hK=>?_) AllReadyH.nil
       unfold oX321
       go_simp
       refine hK.out _ _ KD (fun hHeld=>?_)
       clear hK K
       try simp only[oX321,Act.put,zA,zB,zC]
       refine wpAnyH_done (by kernel_rfl) ?_ _
       clear K0 KB KC KD gr9 bc bcD bcA bc9 fr9
       have GRS:=zh (grow_grow (zu GR9) (zu SB2).2)
       have BXS:=zh (zu SB2).1
       have OWS:=zh (row_kept (zu O9) (zu SB2).2 (by omega))
       clear SB2
       go_wp2
       go_roundw
       case rel=>exact⟨i+1,c9,some ⟨g9,0,none⟩,by go_num,by omega,GRS,BXS,zh (by have h:=zu OWS;rw[zu TK,flat_f];exact h)⟩
       case measure=>simp[intOf];omega
      ·unfold oX318
       go_simp
       refine hK.out _ _ KB (fun hHeld=>?_)
       clear hK K
       try simp only[oX318,Act.put,zA,zB,zC]
       refine wpAnyH_ready (rs:=[1]) (by kernel_rfl) (by simp) ?_
       refine AllReadyH.cons (o:=oX31) rfl (fun K hK=>?_) AllReadyH.nil
       unfold oX31
       go_simp
       refine hK.out _ _ KB (fun hHeld=>?_)
       clear hK K
       try simp only[oX31,Act.put,zA,zB,zC]
       refine wpAnyH_ready (rs:=[19]) (by kernel_rfl) (by simp) ?_
       refine AllReadyH.cons (o:=oX319) rfl (fun K hK=>?_) AllReadyH.nil
       refine step_app (wr.drew.alloc (.cells #[.int .i64 r0,.int .i64 r1,.int .i64 r2,.int .i64 r3,.int .i64 r4] 80)) (by rfl) _ _ 29 80 (by rfl) (.agg #[.int .i64 0,.int .i64 0,.int .i64 0,.int .i64 0,.int .i64 0]) 5 40 Tryz.underlying29 info_ls rfl (by decide) (by decide) u.heap.size (.slice a i c) i (Tup5.flat5 ((rs.take i).map r5)) wr.drew.heap.size [.int .i64 r0,.int .i64 r1,.int .i64 r2,.int .i64 r3,.int .i64 r4] (by rfl) (by rfl) (row_step (W:=wr.drew) (zu OW) (one_more wr.drew (.cells #[.int .i64 r0,.int .i64 r1,.int .i64 r2,.int .i64 r3,.int .i64 r4] 80))) rfl (litm wr.drew _ _ _ (by rfl)) (by simp[Value.oneCell']) (by omega) (Nat.le_trans (show u.heap.size≤wr.drew.heap.size from gs) (by simp)) ?_
       intro g9 c9 u9 o9 gr9
       have BL:∀j,(Value.slice a i c).ownBlock=some j→u.heap.size≤j:=fun j hj=>(World.ownsRow.lt (zu OW) j hj).1
       have GR9:=zh (grow_app (zu GR) gr9 BL)
       have NG:some (w.heap.size+1)≠(Value.slice a i c).ownBlock:=fun e=>by have:=BL _ e.symm;omega
       have BX9:=zh (((show Box wr.drew w.heap.size (w.heap.size+1) (.slice x.aa x.b.ac.length x.ca) (.slice x.ai x.b.ic.length x.ci) (.slice x.ab x.b.bs.length x.cb) (.slice a i c) (.slice x.ats x.b.ts.length x.ct) (.int .i64 0) from zu BX).below (one_more wr.drew (.cells #[.int .i64 r0,.int .i64 r1,.int .i64 r2,.int .i64 r3,.int .i64 r4] 80)) (show w.heap.size+1<wr.heap.size from by omega)).kept gr9 NG)
       have O9:=zh o9
       have fr9:u9.frozen? ⟨w.heap.size+1,3,none⟩=false:=(zu BX9).free 3
       have bc9:=(zu BX9).c3
       have g9l:=(World.ownsRow.lt o9 g9 rfl).1
       have gs9:=(zu GR9).size
       have KC:u9.cell? ⟨gi,0,none⟩=some (.int .i64 r0)∧u9.cell? ⟨gi,1,none⟩=some (.int .i64 r1)∧u9.cell? ⟨gi,2,none⟩=some (.int .i64 r2)∧u9.cell? ⟨gi,3,none⟩=some (.int .i64 r3)∧u9.cell? ⟨gi,4,none⟩=some (.int .i64 r4):=⟨gr9.cell KB.1 (fun e=>by have:=BL _ e.symm;simp only at this;omega),gr9.cell KB.2.1 (fun e=>by have:=BL _ e.symm;simp only at this;omega),gr9.cell KB.2.2.1 (fun e=>by have:=BL _ e.symm;simp only at this;omega),gr9.cell KB.2.2.2.1 (fun e=>by have:=BL _ e.symm;simp only at this;omega),gr9.cell KB.2.2.2.2 (fun e=>by have:=BL _ e.symm;simp only at this;omega)⟩
       have SB:=(zu BX9).set3 (.slice (some ⟨g9,0,none⟩) (i+1) c9)
       have SB2:=zh SB
       have KD:(u9.setCell ⟨w.heap.size+1,3,none⟩ (.slice (some ⟨g9,0,none⟩) (i+1) c9)).cell? ⟨gi,0,none⟩=some (.int .i64 r0)∧(u9.setCell ⟨w.heap.size+1,3,none⟩ (.slice (some ⟨g9,0,none⟩) (i+1) c9)).cell? ⟨gi,1,none⟩=some (.int .i64 r1)∧(u9.setCell ⟨w.heap.size+1,3,none⟩ (.slice (some ⟨g9,0,none⟩) (i+1) c9)).cell? ⟨gi,2,none⟩=some (.int .i64 r2)∧(u9.setCell ⟨w.heap.size+1,3,none⟩ (.slice (some ⟨g9,0,none⟩) (i+1) c9)).cell? ⟨gi,3,none⟩=some (.int .i64 r3)∧(u9.setCell ⟨w.heap.size+1,3,none⟩ (.slice (some ⟨g9,0,none⟩) (i+1) c9)).cell? ⟨gi,4,none⟩=some (.int .i64 r4):=⟨(kcell SB.2 0 (show gi<u9.heap.size from by omega) gi2).trans KC.1,(kcell SB.2 1 (show gi<u9.heap.size from by omega) gi2).trans KC.2.1,(kcell SB.2 2 (show gi<u9.heap.size from by omega) gi2).trans KC.2.2.1,(kcell SB.2 3 (show gi<u9.heap.size from by omega) gi2).trans KC.2.2.2.1,(kcell SB.2 4 (show gi<u9.heap.size from by omega) gi2).trans KC.2.2.2.2⟩
       clear o9 SB
       refine hK.out _ _ KC (fun hHeld=>?_)
       clear hK K
       try simp only[oX319,Act.put,zA,zB,zC]
       refine tk 20 oX320 (.pointer (some ⟨w.heap.size+1,3,none⟩)) rfl (by kernel_rfl) (fun _ _ _ h=>h) (by rfl) (fun w hSw=>?_) hHeld ?_
       ·(try dsimp only at hSw)
        unfold oX320
        go_simp
       try simp only[oX320,Act.put,zA,zB,zC]
       refine wpAnyH_ready (rs:=[21]) (by kernel_rfl) (by simp) ?_
       refine AllReadyH.cons (o:=oX321) rfl (fun K hK=>?_) AllReadyH.nil
       unfold oX321
       go_simp
       refine hK.out _ _ KD (fun hHeld=>?_)
       clear hK K
       try simp only[oX321,Act.put,zA,zB,zC]
       refine wpAnyH_done (by kernel_rfl) ?_ _
       clear K0 KB KC KD gr9 bc bcD bcA bc9 fr9
       have GRS:=zh (grow_grow (zu GR9) (zu SB2).2)
       have BXS:=zh (zu SB2).1
       have OWS:=zh (row_kept (zu O9) (zu SB2).2 (by omega))
       clear SB2
       go_wp2
       go_roundw
       case rel=>exact⟨i+1,c9,some ⟨g9,0,none⟩,by go_num,by omega,GRS,BXS,zh (by have h:=zu OWS;rw[zu TK,flat_f];exact h)⟩
       case measure=>simp[intOf];omega
     ·have e:i=rs.length:=by omega
      subst e
      have OE:=zu OW
      rw[List.take_length] at OE
      have OE2:=row_base OE (show w.heap.size+4≤u.heap.size from us)
      rw[show rs.length=(rs.map r5).length by simp] at OE2
      have BE:=zu BX
      rw[show rs.length=(rs.map r5).length by simp] at BE
      obtain⟨⟨k0,k1,k2,k3,k4⟩,kr,kb,ks,kw,km⟩:=(zu HM1).rest (zu GR)
      have HM2:=zh (show Mv w wr (⟨x.aa,x.ca,x.ai,x.ci,x.ab,x.cb,a,c,x.ats,x.ct,⟨x.b.ac,x.b.ic,x.b.bs,rs.map r5,x.b.ts,x.b.lot⟩⟩:Ix) from⟨BE,kr,k0,k1,k2,OE2,k4,kw,km,kb,ks,⟨(zu HM1).n.1,(zu HM1).n.2.1,(zu HM1).n.2.2.1,by rw[List.length_map];omega,(zu HM1).n.2.2.2.2⟩⟩)
      have EM2:=zh (show Emp 4 (⟨x.aa,x.ca,x.ai,x.ci,x.ab,x.cb,a,c,x.ats,x.ct,⟨x.b.ac,x.b.ic,x.b.bs,rs.map r5,x.b.ts,x.b.lot⟩⟩:Ix) from⟨fun h=>absurd h (by omega),fun h=>absurd h (by omega),fun h=>absurd h (by omega),fun h=>absurd h (by omega),fun _=>(zu EM).z4 (by omega)⟩)
      clear OE OE2 BE k0 k1 k2 k3 k4 kr kb ks kw km
      go_wp2
      go_roundw
      case rel=>exact⟨4,p1,_,rfl,rfl,by omega,FIN,HM2,EM2⟩
      case measure=>simp[intOf]
  ·have NX:(if(rowsN xs p 8 30).2.2=true then readF xs 0 (rowsN xs p 8 30).2.1 (putRows 4 (rowsN xs p 8 30).1 x.b) else none)=fin:=zu FIN
   have HN:=zh NX
   clear NX FIN
   have RI:=zh (rowsN_in (xs:=xs) (p:=p) (wide:=8) (most:=30) (by omega))
   have RB:=zh (rowsN_all (xs:=xs) (p:=p) (wide:=8) (most:=30))
   have SR:=zh (fun u hg (hr:AtBO u gl oz xs)=>sRows u gl cl xs p 8 30 h20 (by omega) (by omega) hg hr)
   generalize rowsN xs p 8 30=y at *
   obtain⟨rs,p1,ok⟩:=y
   have K0:wr.cell? ⟨w.heap.size+2,4,none⟩=some (.int .i64 8)∧wr.cell? ⟨w.heap.size+3,4,none⟩=some (.int .i64 30):=⟨(zu HM).wc.2.2.2.2,(zu HM).mc.2.2.2.2⟩
   go_wp2_with fail
   refine wp_region_held_drew (S:=(fun w'=>w'.cell? ⟨w.heap.size+2,4,none⟩=some (.int .i64 8)∧w'.cell? ⟨w.heap.size+3,4,none⟩=some (.int .i64 30))) (by kernel_rfl) K0 (fun hHeld=>?_)
   refine tk 0 oW40 (.slice (some ⟨gl,oz,none⟩) xs.length cl) rfl (by kernel_rfl) (fun _ _ _ h=>h) (by rfl) (fun w hSw=>?_) hHeld ?_
   ·(try dsimp only at hSw)
    unfold oW40
    go_simp
   try simp only[oW40,Act.put,zA,zB,zC]
   refine tk 1 oW41 (.int .i64 p) rfl (by kernel_rfl) (fun _ _ _ h=>h) (by rfl) (fun w hSw=>?_) hHeld ?_
   ·(try dsimp only at hSw)
    unfold oW41
    go_simp
   try simp only[oW41,Act.put,zA,zB,zC]
   refine tk 2 oW42 (.slice (some ⟨w.heap.size+2,0,none⟩) 5 5) rfl (by kernel_rfl) (fun _ _ _ h=>h) (by rfl) (fun w hSw=>?_) hHeld ?_
   ·(try dsimp only at hSw)
    unfold oW42
    go_simp
   try simp only[oW42,Act.put,zA,zB,zC]
   refine tk 3 oW43 (.int .i64 4) rfl (by kernel_rfl) (fun _ _ _ h=>h) (by rfl) (fun w hSw=>?_) hHeld ?_
   ·(try dsimp only at hSw)
    unfold oW43
    go_simp
   try simp only[oW43,Act.put,zA,zB,zC]
   refine tk 4 oW44 (.pointer (some ⟨w.heap.size+2,4,none⟩)) rfl (by kernel_rfl) (fun _ _ _ h=>h) (by rfl) (fun w hSw=>?_) hHeld ?_
   ·(try dsimp only at hSw)
    unfold oW44
    go_simp
   try simp only[oW44,Act.put,zA,zB,zC]
   refine tk 5 oW45 (.int .i64 8) rfl (by kernel_rfl) (fun _ _ _ h=>h) (by rfl) (fun w hSw=>?_) hHeld ?_
   ·(try dsimp only at hSw)
    unfold oW45
    go_simp
   try simp only[oW45,Act.put,zA,zB,zC]
   refine tk 6 oW46 (.slice (some ⟨w.heap.size+3,0,none⟩) 5 5) rfl (by kernel_rfl) (fun _ _ _ h=>h) (by rfl) (fun w hSw=>?_) hHeld ?_
   ·(try dsimp only at hSw)
    unfold oW46
    go_simp
   try simp only[oW46,Act.put,zA,zB,zC]
   refine tk 7 oW47 (.int .i64 4) rfl (by kernel_rfl) (fun _ _ _ h=>h) (by rfl) (fun w hSw=>?_) hHeld ?_
   ·(try dsimp only at hSw)
    unfold oW47
    go_simp
   try simp only[oW47,Act.put,zA,zB,zC]
   refine tk 8 oW48 (.pointer (some ⟨w.heap.size+3,4,none⟩)) rfl (by kernel_rfl) (fun _ _ _ h=>h) (by rfl) (fun w hSw=>?_) hHeld ?_
   ·(try dsimp only at hSw)
    unfold oW48
    go_simp
   try simp only[oW48,Act.put,zA,zB,zC]
   refine tk 9 oW49 (.int .i64 30) rfl (by kernel_rfl) (fun _ _ _ h=>h) (by rfl) (fun w hSw=>?_) hHeld ?_
   ·(try dsimp only at hSw)
    unfold oW49
    go_simp
   try simp only[oW49,Act.put,zA,zB,zC]
   refine wpAnyH_ready (rs:=[10]) (by kernel_rfl) (by simp) ?_
   refine AllReadyH.cons (o:=oW410) rfl (fun K hK=>?_) AllReadyH.nil
   unfold oW410
   go_simp
   go_wp2_with fail
   refine((zu SR) wr.drew (show gl<wr.heap.size from by have:=(zu HM).b.size;have:=zu HG;omega) ((zu R).below (zu HM).b.drew (zu HG))).mono ?_
   rintro e u ⟨gr,cr,rfl,lr0,lr1,ra,b1⟩
   have b2:Below wr.heap.size wr u:=⟨b1.os,b1.tape,b1.output,b1.size,b1.block⟩
   have HM1:=zh ((zu HM).step b2)
   have K1:u.cell? ⟨w.heap.size+2,4,none⟩=some (.int .i64 8)∧u.cell? ⟨w.heap.size+3,4,none⟩=some (.int .i64 30):=⟨(zu HM1).wc.2.2.2.2,(zu HM1).mc.2.2.2.2⟩
   have RA:=zh (RowAt.lo ra (show w.heap.size+4≤wr.heap.size from(zu HM).s))
   have LR:=zh (show w.heap.size+4≤gr∧gr<u.heap.size from⟨Nat.le_trans (zu HM).s lr0,lr1⟩)
   clear b1 b2 ra lr0 lr1 SR
   go_wp2_with fail
   refine hK.out _ _ K1 (fun hHeld=>?_)
   clear hK K
   try simp only[oW410,Act.put,zA,zB,zC]
   refine tk 11 oW411 (.tuple #[.slice (some ⟨gr,0,none⟩) rs.length cr,.int .i64 p1,.bool ok]) rfl (by kernel_rfl) (fun _ _ _ h=>h) (by rfl) (fun w hSw=>?_) hHeld ?_
   ·(try dsimp only at hSw)
    unfold oW411
    go_simp
   try simp only[oW411,Act.put,zA,zB,zC]
   refine tk 12 oW412 (.slice (some ⟨gr,0,none⟩) rs.length cr) rfl (by kernel_rfl) (fun _ _ _ h=>h) (by rfl) (fun w hSw=>?_) hHeld ?_
   ·(try dsimp only at hSw)
    unfold oW412
    go_simp
   try simp only[oW412,Act.put,zA,zB,zC]
   refine tk 13 oW413 (.int .i64 p1) rfl (by kernel_rfl) (fun _ _ _ h=>h) (by rfl) (fun w hSw=>?_) hHeld ?_
   ·(try dsimp only at hSw)
    unfold oW413
    go_simp
   try simp only[oW413,Act.put,zA,zB,zC]
   refine tk 14 oW414 (.bool ok) rfl (by kernel_rfl) (fun _ _ _ h=>h) (by rfl) (fun w hSw=>?_) hHeld ?_
   ·(try dsimp only at hSw)
    unfold oW414
    go_simp
   try simp only[oW414,Act.put,zA,zB,zC]
   refine tk 15 oW415 (.slice (some ⟨gr,0,none⟩) rs.length cr) rfl (by kernel_rfl) (fun _ _ _ h=>h) (by rfl) (fun w hSw=>?_) hHeld ?_
   ·(try dsimp only at hSw)
    unfold oW415
    go_simp
   try simp only[oW415,Act.put,zA,zB,zC]
   refine tk 16 oW416 (.int .i64 p1) rfl (by kernel_rfl) (fun _ _ _ h=>h) (by rfl) (fun w hSw=>?_) hHeld ?_
   ·(try dsimp only at hSw)
    unfold oW416
    go_simp
   try simp only[oW416,Act.put,zA,zB,zC]
   refine tk 17 oW417 (.bool ok) rfl (by kernel_rfl) (fun _ _ _ h=>h) (by rfl) (fun w hSw=>?_) hHeld ?_
   ·(try dsimp only at hSw)
    unfold oW417
    go_simp
   try simp only[oW417,Act.put,zA,zB,zC]
   refine wpAnyH_done (by kernel_rfl) ?_ _
   clear K0 K1 HM
   cases ok with
   |false=>
    have F:=zu HN
    rw[if_neg (by simp)] at F
    subst F
    have RX:=zh (zu HM1).rx
    obtain⟨q0,q1,q2,q3,q4,q5,z0,z1,z2,z3,z4,z5⟩:=Box.all (zu RX)
    have ul:=(zu RX).lt.2
    go_wp2
    have SX:=six (zu RX) (.slice none 0 0) (.slice none 0 0) (.slice none 0 0) (.slice none 0 0) (.slice none 0 0) (.int .i64 0)
    have p0:=SX.c0
    have p1':=SX.c1
    have p2:=SX.c2
    have p3:=SX.c3
    have p4:=SX.c4
    have p5:=SX.c5
    (try simp only[Exit.inBlock,Exit.then])
    refine bodyPost_ret (v:= .tuple #[.agg #[.slice none 0 0,.slice none 0 0,.slice none 0 0,.slice none 0 0,.slice none 0 0,.int .i64 0],.bool false]) (by simp[results,Tryz.results18,go_sem,p0,p1',p2,p3,p4,p5]) rfl ?_
    exact .no rfl (below_six (zu HM1).b _ _ _ _ _ _)
   |true=>
    have F:=zu HN
    rw[if_pos rfl] at F
    have FIN:=zh F
    clear F HN
    obtain⟨rw0,rl⟩:=(zu RI) rfl
    have RW:=zh rw0
    have RF:=zh ((zu RB) rfl)
    clear RI RB rw0
    have us:=(zu HM1).s
    have Z:=(zu EM).z4 (by omega)
    have OX:=(zu HM1).bx
    rw[Z.1,Z.2.1,Z.2.2] at OX
    have BX0:=zh OX
    clear OX Z
    go_wp2
    go_loopw [12] (fun j wr=>∃(i c:Nat) (a:Option Addr),j= .int .i64 i∧i≤rs.length∧Hid (u.grownBy wr (some (w.heap.size+1)))∧Hid (Box wr w.heap.size (w.heap.size+1) (.slice x.aa x.b.ac.length x.ca) (.slice x.ai x.b.ic.length x.ci) (.slice x.ab x.b.bs.length x.cb) (.slice x.al x.b.ls.length x.cl) (.slice a i c) (.int .i64 0))∧Hid (wr.ownsRow u.heap.size 82 8 (.slice a i c) i (Tup8.flat8 ((rs.take i).map r8)))) (fun j _=>rs.length-(intOf j).toNat)
    case atStart=>exact⟨0,0,none,rfl,by omega,zh (World.grownBy.refl _ _),BX0,zh (World.ownsRow_nil u u.heap.size _ _)⟩
    case round=>
     clear BX0
     obtain⟨i,c,a,rfl,hi,GR,BX,OW⟩:=hrel
     by_cases t:i<rs.length
     ·have ti:(i:Int)<rs.length:=by omega
      obtain⟨gi,ci,gl0,rc,gi1,ga⟩:=(zu RA) i t
      have RWI:=(zu RW) (rs.getD i []) (by simp[List.getD,t])
      rw[RWI] at rc
      have LRU:=zu LR
      have rc1:=(kcell (zu GR) i LRU.2 (by omega)).trans rc
      have gi2:gi≠w.heap.size+1:=by omega
      have e0:=(kcell (zu GR) 0 gi1 gi2).trans (ga 0 (by rw[RWI];omega))
      have e1:=(kcell (zu GR) 1 gi1 gi2).trans (ga 1 (by rw[RWI];omega))
      have e2:=(kcell (zu GR) 2 gi1 gi2).trans (ga 2 (by rw[RWI];omega))
      have e3:=(kcell (zu GR) 3 gi1 gi2).trans (ga 3 (by rw[RWI];omega))
      have e4:=(kcell (zu GR) 4 gi1 gi2).trans (ga 4 (by rw[RWI];omega))
      have e5:=(kcell (zu GR) 5 gi1 gi2).trans (ga 5 (by rw[RWI];omega))
      have e6:=(kcell (zu GR) 6 gi1 gi2).trans (ga 6 (by rw[RWI];omega))
      have e7:=(kcell (zu GR) 7 gi1 gi2).trans (ga 7 (by rw[RWI];omega))
      have TK:=zh (show(rs.take (i+1)).map r8=(rs.take i).map r8++[((rs.getD i []).getD 0 0,(rs.getD i []).getD 1 0,(rs.getD i []).getD 2 0,(rs.getD i []).getD 3 0,(rs.getD i []).getD 4 0,(rs.getD i []).getD 5 0,(rs.getD i []).getD 6 0,(rs.getD i []).getD 7 0)] from by rw[List.take_succ_eq_append_getElem t,List.map_append];simp[List.getD,t,r8])
      clear ga rc RWI LRU
      generalize (rs.getD i []).getD 0 0=r0 at *
      generalize (rs.getD i []).getD 1 0=r1 at *
      generalize (rs.getD i []).getD 2 0=r2 at *
      generalize (rs.getD i []).getD 3 0=r3 at *
      generalize (rs.getD i []).getD 4 0=r4 at *
      generalize (rs.getD i []).getD 5 0=r5 at *
      generalize (rs.getD i []).getD 6 0=r6 at *
      generalize (rs.getD i []).getD 7 0=r7 at *
      have bc:=(zu BX).c4
      have gs:=(zu GR).size
      have K0:wr.cell? ⟨gi,0,none⟩=some (.int .i64 r0)∧wr.cell? ⟨gi,1,none⟩=some (.int .i64 r1)∧wr.cell? ⟨gi,2,none⟩=some (.int .i64 r2)∧wr.cell? ⟨gi,3,none⟩=some (.int .i64 r3)∧wr.cell? ⟨gi,4,none⟩=some (.int .i64 r4)∧wr.cell? ⟨gi,5,none⟩=some (.int .i64 r5)∧wr.cell? ⟨gi,6,none⟩=some (.int .i64 r6)∧wr.cell? ⟨gi,7,none⟩=some (.int .i64 r7):=⟨e0,e1,e2,e3,e4,e5,e6,e7⟩
      have KB:(wr.drew.alloc (.cells #[.int .i64 r0,.int .i64 r1,.int .i64 r2,.int .i64 r3,.int .i64 r4,.int .i64 r5,.int .i64 r6,.int .i64 r7] 82)).cell? ⟨gi,0,none⟩=some (.int .i64 r0)∧(wr.drew.alloc (.cells #[.int .i64 r0,.int .i64 r1,.int .i64 r2,.int .i64 r3,.int .i64 r4,.int .i64 r5,.int .i64 r6,.int .i64 r7] 82)).cell? ⟨gi,1,none⟩=some (.int .i64 r1)∧(wr.drew.alloc (.cells #[.int .i64 r0,.int .i64 r1,.int .i64 r2,.int .i64 r3,.int .i64 r4,.int .i64 r5,.int .i64 r6,.int .i64 r7] 82)).cell? ⟨gi,2,none⟩=some (.int .i64 r2)∧(wr.drew.alloc (.cells #[.int .i64 r0,.int .i64 r1,.int .i64 r2,.int .i64 r3,.int .i64 r4,.int .i64 r5,.int .i64 r6,.int .i64 r7] 82)).cell? ⟨gi,3,none⟩=some (.int .i64 r3)∧(wr.drew.alloc (.cells #[.int .i64 r0,.int .i64 r1,.int .i64 r2,.int .i64 r3,.int .i64 r4,.int .i64 r5,.int .i64 r6,.int .i64 r7] 82)).cell? ⟨gi,4,none⟩=some (.int .i64 r4)∧(wr.drew.alloc (.cells #[.int .i64 r0,.int .i64 r1,.int .i64 r2,.int .i64 r3,.int .i64 r4,.int .i64 r5,.int .i64 r6,.int .i64 r7] 82)).cell? ⟨gi,5,none⟩=some (.int .i64 r5)∧(wr.drew.alloc (.cells #[.int .i64 r0,.int .i64 r1,.int .i64 r2,.int .i64 r3,.int .i64 r4,.int .i64 r5,.int .i64 r6,.int .i64 r7] 82)).cell? ⟨gi,6,none⟩=some (.int .i64 r6)∧(wr.drew.alloc (.cells #[.int .i64 r0,.int .i64 r1,.int .i64 r2,.int .i64 r3,.int .i64 r4,.int .i64 r5,.int .i64 r6,.int .i64 r7] 82)).cell? ⟨gi,7,none⟩=some (.int .i64 r7):=⟨((one_more wr.drew (.cells #[.int .i64 r0,.int .i64 r1,.int .i64 r2,.int .i64 r3,.int .i64 r4,.int .i64 r5,.int .i64 r6,.int .i64 r7] 82)).cell (p:=⟨gi,0,none⟩) (show gi<wr.heap.size from by omega)).trans e0,((one_more wr.drew (.cells #[.int .i64 r0,.int .i64 r1,.int .i64 r2,.int .i64 r3,.int .i64 r4,.int .i64 r5,.int .i64 r6,.int .i64 r7] 82)).cell (p:=⟨gi,1,none⟩) (show gi<wr.heap.size from by omega)).trans e1,((one_more wr.drew (.cells #[.int .i64 r0,.int .i64 r1,.int .i64 r2,.int .i64 r3,.int .i64 r4,.int .i64 r5,.int .i64 r6,.int .i64 r7] 82)).cell (p:=⟨gi,2,none⟩) (show gi<wr.heap.size from by omega)).trans e2,((one_more wr.drew (.cells #[.int .i64 r0,.int .i64 r1,.int .i64 r2,.int .i64 r3,.int .i64 r4,.int .i64 r5,.int .i64 r6,.int .i64 r7] 82)).cell (p:=⟨gi,3,none⟩) (show gi<wr.heap.size from by omega)).trans e3,((one_more wr.drew (.cells #[.int .i64 r0,.int .i64 r1,.int .i64 r2,.int .i64 r3,.int .i64 r4,.int .i64 r5,.int .i64 r6,.int .i64 r7] 82)).cell (p:=⟨gi,4,none⟩) (show gi<wr.heap.size from by omega)).trans e4,((one_more wr.drew (.cells #[.int .i64 r0,.int .i64 r1,.int .i64 r2,.int .i64 r3,.int .i64 r4,.int .i64 r5,.int .i64 r6,.int .i64 r7] 82)).cell (p:=⟨gi,5,none⟩) (show gi<wr.heap.size from by omega)).trans e5,((one_more wr.drew (.cells #[.int .i64 r0,.int .i64 r1,.int .i64 r2,.int .i64 r3,.int .i64 r4,.int .i64 r5,.int .i64 r6,.int .i64 r7] 82)).cell (p:=⟨gi,6,none⟩) (show gi<wr.heap.size from by omega)).trans e6,((one_more wr.drew (.cells #[.int .i64 r0,.int .i64 r1,.int .i64 r2,.int .i64 r3,.int .i64 r4,.int .i64 r5,.int .i64 r6,.int .i64 r7] 82)).cell (p:=⟨gi,7,none⟩) (show gi<wr.heap.size from by omega)).trans e7⟩
      have bcD:wr.drew.cell? ⟨w.heap.size+1,4,none⟩=some (.slice a i c):=bc
      have bcA:(wr.alloc (.cells #[.int .i64 r0,.int .i64 r1,.int .i64 r2,.int .i64 r3,.int .i64 r4,.int .i64 r5,.int .i64 r6,.int .i64 r7] 82)).cell? ⟨w.heap.size+1,4,none⟩=some (.slice a i c):=((one_more wr.drew (.cells #[.int .i64 r0,.int .i64 r1,.int .i64 r2,.int .i64 r3,.int .i64 r4,.int .i64 r5,.int .i64 r6,.int .i64 r7] 82)).cell (p:=⟨w.heap.size+1,4,none⟩) (show w.heap.size+1<wr.heap.size from by omega)).trans bc
      go_wp2_with fail
      refine wp_region_held_drew (S:=(fun w'=>w'.cell? ⟨gi,0,none⟩=some (.int .i64 r0)∧w'.cell? ⟨gi,1,none⟩=some (.int .i64 r1)∧w'.cell? ⟨gi,2,none⟩=some (.int .i64 r2)∧w'.cell? ⟨gi,3,none⟩=some (.int .i64 r3)∧w'.cell? ⟨gi,4,none⟩=some (.int .i64 r4)∧w'.cell? ⟨gi,5,none⟩=some (.int .i64 r5)∧w'.cell? ⟨gi,6,none⟩=some (.int .i64 r6)∧w'.cell? ⟨gi,7,none⟩=some (.int .i64 r7))) (by kernel_rfl) K0 (fun hHeld=>?_)
      refine tk 0 oX40 (.pointer (some ⟨w.heap.size+1,4,none⟩)) rfl (by kernel_rfl) (fun _ _ _ h=>h) (by rfl) (fun w hSw=>?_) hHeld ?_
      ·(try dsimp only at hSw)
       unfold oX40
       go_simp
      try simp only[oX40,Act.put,zA,zB,zC]
      refine tk 2 oX42 (.slice (some ⟨gi,0,none⟩) 8 ci) rfl (by kernel_rfl) (fun _ _ _ h=>h) (by rfl) (fun w hSw=>?_) hHeld ?_
      ·(try dsimp only at hSw)
       unfold oX42
       go_simp
      try simp only[oX42,Act.put,zA,zB,zC]
      refine tk 3 oX43 (.pointer (some ⟨gi,0,none⟩)) rfl (by kernel_rfl) (fun _ _ _ h=>h) (by rfl) (fun w hSw=>?_) hHeld ?_
      ·(try dsimp only at hSw)
       unfold oX43
       go_simp
      try simp only[oX43,Act.put,zA,zB,zC]
      refine tk 4 oX44 (.int .i64 r0) rfl (by kernel_rfl) (fun _ _ _ h=>h) (by rfl) (fun w hSw=>?_) hHeld ?_
      ·(try dsimp only at hSw)
       unfold oX44
       go_simp
      try simp only[oX44,Act.put,zA,zB,zC]
      refine tk 5 oX45 (.slice (some ⟨gi,0,none⟩) 8 ci) rfl (by kernel_rfl) (fun _ _ _ h=>h) (by rfl) (fun w hSw=>?_) hHeld ?_
      ·(try dsimp only at hSw)
       unfold oX45
       go_simp
      try simp only[oX45,Act.put,zA,zB,zC]
      refine tk 6 oX46 (.pointer (some ⟨gi,1,none⟩)) rfl (by kernel_rfl) (fun _ _ _ h=>h) (by rfl) (fun w hSw=>?_) hHeld ?_
      ·(try dsimp only at hSw)
       unfold oX46
       go_simp
      try simp only[oX46,Act.put,zA,zB,zC]
      refine tk 7 oX47 (.int .i64 r1) rfl (by kernel_rfl) (fun _ _ _ h=>h) (by rfl) (fun w hSw=>?_) hHeld ?_
      ·(try dsimp only at hSw)
       unfold oX47
       go_simp
      try simp only[oX47,Act.put,zA,zB,zC]
      refine tk 8 oX48 (.slice (some ⟨gi,0,none⟩) 8 ci) rfl (by kernel_rfl) (fun _ _ _ h=>h) (by rfl) (fun w hSw=>?_) hHeld ?_
      ·(try dsimp only at hSw)
       unfold oX48
       go_simp
      try simp only[oX48,Act.put,zA,zB,zC]
      refine tk 9 oX49 (.pointer (some ⟨gi,2,none⟩)) rfl (by kernel_rfl) (fun _ _ _ h=>h) (by rfl) (fun w hSw=>?_) hHeld ?_
      ·(try dsimp only at hSw)
       unfold oX49
       go_simp
      try simp only[oX49,Act.put,zA,zB,zC]
      refine tk 10 oX410 (.int .i64 r2) rfl (by kernel_rfl) (fun _ _ _ h=>h) (by rfl) (fun w hSw=>?_) hHeld ?_
      ·(try dsimp only at hSw)
       unfold oX410
       go_simp
      try simp only[oX410,Act.put,zA,zB,zC]
      refine tk 11 oX411 (.slice (some ⟨gi,0,none⟩) 8 ci) rfl (by kernel_rfl) (fun _ _ _ h=>h) (by rfl) (fun w hSw=>?_) hHeld ?_
      ·(try dsimp only at hSw)
       unfold oX411
       go_simp
      try simp only[oX411,Act.put,zA,zB,zC]
      refine tk 12 oX412 (.pointer (some ⟨gi,3,none⟩)) rfl (by kernel_rfl) (fun _ _ _ h=>h) (by rfl) (fun w hSw=>?_) hHeld ?_
      ·(try dsimp only at hSw)
       unfold oX412
       go_simp
      try simp only[oX412,Act.put,zA,zB,zC]
      refine tk 13 oX413 (.int .i64 r3) rfl (by kernel_rfl) (fun _ _ _ h=>h) (by rfl) (fun w hSw=>?_) hHeld ?_
      ·(try dsimp only at hSw)
       unfold oX413
       go_simp
      try simp only[oX413,Act.put,zA,zB,zC]
      refine tk 14 oX414 (.slice (some ⟨gi,0,none⟩) 8 ci) rfl (by kernel_rfl) (fun _ _ _ h=>h) (by rfl) (fun w hSw=>?_) hHeld ?_
      ·(try dsimp only at hSw)
       unfold oX414
       go_simp
      try simp only[oX414,Act.put,zA,zB,zC]
      refine tk 15 oX415 (.pointer (some ⟨gi,4,none⟩)) rfl (by kernel_rfl) (fun _ _ _ h=>h) (by rfl) (fun w hSw=>?_) hHeld ?_
      ·(try dsimp only at hSw)
       unfold oX415
       go_simp
      try simp only[oX415,Act.put,zA,zB,zC]
      refine tk 16 oX416 (.int .i64 r4) rfl (by kernel_rfl) (fun _ _ _ h=>h) (by rfl) (fun w hSw=>?_) hHeld ?_
      ·(try dsimp only at hSw)
       unfold oX416
       go_simp
      try simp only[oX416,Act.put,zA,zB,zC]
      refine tk 17 oX417 (.slice (some ⟨gi,0,none⟩) 8 ci) rfl (by kernel_rfl) (fun _ _ _ h=>h) (by rfl) (fun w hSw=>?_) hHeld ?_
      ·(try dsimp only at hSw)
       unfold oX417
       go_simp
      try simp only[oX417,Act.put,zA,zB,zC]
      refine tk 18 oX418 (.pointer (some ⟨gi,5,none⟩)) rfl (by kernel_rfl) (fun _ _ _ h=>h) (by rfl) (fun w hSw=>?_) hHeld ?_
      ·(try dsimp only at hSw)
       unfold oX418
       go_simp
      try simp only[oX418,Act.put,zA,zB,zC]
      refine tk 19 oX419 (.int .i64 r5) rfl (by kernel_rfl) (fun _ _ _ h=>h) (by rfl) (fun w hSw=>?_) hHeld ?_
      ·(try dsimp only at hSw)
       unfold oX419
       go_simp
      try simp only[oX419,Act.put,zA,zB,zC]
      refine tk 20 oX420 (.slice (some ⟨gi,0,none⟩) 8 ci) rfl (by kernel_rfl) (fun _ _ _ h=>h) (by rfl) (fun w hSw=>?_) hHeld ?_
      ·(try dsimp only at hSw)
       unfold oX420
       go_simp
      try simp only[oX420,Act.put,zA,zB,zC]
      refine tk 21 oX421 (.pointer (some ⟨gi,6,none⟩)) rfl (by kernel_rfl) (fun _ _ _ h=>h) (by rfl) (fun w hSw=>?_) hHeld ?_
      ·(try dsimp only at hSw)
       unfold oX421
       go_simp
      try simp only[oX421,Act.put,zA,zB,zC]
      refine tk 22 oX422 (.int .i64 r6) rfl (by kernel_rfl) (fun _ _ _ h=>h) (by rfl) (fun w hSw=>?_) hHeld ?_
      ·(try dsimp only at hSw)
       unfold oX422
       go_simp
      try simp only[oX422,Act.put,zA,zB,zC]
      refine tk 23 oX423 (.slice (some ⟨gi,0,none⟩) 8 ci) rfl (by kernel_rfl) (fun _ _ _ h=>h) (by rfl) (fun w hSw=>?_) hHeld ?_
      ·(try dsimp only at hSw)
       unfold oX423
       go_simp
      try simp only[oX423,Act.put,zA,zB,zC]
      refine tk 24 oX424 (.pointer (some ⟨gi,7,none⟩)) rfl (by kernel_rfl) (fun _ _ _ h=>h) (by rfl) (fun w hSw=>?_) hHeld ?_
      ·(try dsimp only at hSw)
       unfold oX424
       go_simp
      try simp only[oX424,Act.put,zA,zB,zC]
      refine tk 25 oX425 (.int .i64 r7) rfl (by kernel_rfl) (fun _ _ _ h=>h) (by rfl) (fun w hSw=>?_) hHeld ?_
      ·(try dsimp only at hSw)
       unfold oX425
       go_simp
      try simp only[oX425,Act.put,zA,zB,zC]
      refine tk 26 oX426 (.agg #[.int .i64 r0,.int .i64 r1,.int .i64 r2,.int .i64 r3,.int .i64 r4,.int .i64 r5,.int .i64 r6,.int .i64 r7]) rfl (by kernel_rfl) (fun _ _ _ h=>h) (by rfl) (fun w hSw=>?_) hHeld ?_
      ·(try dsimp only at hSw)
       unfold oX426
       go_simp
      try simp only[oX426,Act.put,zA,zB,zC]
      refine wpAnyH_ready (rs:=[1,27]) (by kernel_rfl) (by simp) ?_
      refine AllReadyH.cons (o:=oX41) rfl (fun K hK=>?_) (AllReadyH.cons (o:=oX427) rfl (fun K hK=>?_) AllReadyH.nil)
      ·unfold oX41
       go_simp
       refine hK.out _ _ K0 (fun hHeld=>?_)
       clear hK K
       try simp only[oX41,Act.put,zA,zB,zC]
       refine wpAnyH_ready (rs:=[27]) (by kernel_rfl) (by simp) ?_
       refine AllReadyH.cons (o:=oX427) rfl (fun K hK=>?_) AllReadyH.nil
       unfold oX427
       go_simp
       refine hK.out _ _ KB (fun hHeld=>?_)
       clear hK K
       try simp only[oX427,Act.put,zA,zB,zC]
       refine wpAnyH_ready (rs:=[28]) (by kernel_rfl) (by simp) ?_
       refine AllReadyH.cons (o:=oX428) rfl (fun K hK=>?_) AllReadyH.nil
       refine step_app (wr.drew.alloc (.cells #[.int .i64 r0,.int .i64 r1,.int .i64 r2,.int .i64 r3,.int .i64 r4,.int .i64 r5,.int .i64 r6,.int .i64 r7] 82)) (by rfl) _ _ 30 82 (by rfl) (.agg #[.int .i64 0,.int .i64 0,.int .i64 0,.int .i64 0,.int .i64 0,.int .i64 0,.int .i64 0,.int .i64 0]) 8 64 Tryz.underlying30 info_ts rfl (by decide) (by decide) u.heap.size (.slice a i c) i (Tup8.flat8 ((rs.take i).map r8)) wr.drew.heap.size [.int .i64 r0,.int .i64 r1,.int .i64 r2,.int .i64 r3,.int .i64 r4,.int .i64 r5,.int .i64 r6,.int .i64 r7] (by rfl) (by rfl) (row_step (W:=wr.drew) (zu OW) (one_more wr.drew (.cells #[.int .i64 r0,.int .i64 r1,.int .i64 r2,.int .i64 r3,.int .i64 r4,.int .i64 r5,.int .i64 r6,.int .i64 r7] 82))) rfl (litm wr.drew _ _ _ (by rfl)) (by simp[Value.oneCell']) (by omega) (Nat.le_trans (show u.heap.size≤wr.drew.heap.size from gs) (by simp)) ?_
       intro g9 c9 u9 o9 gr9
       have BL:∀j,(Value.slice a i c).ownBlock=some j→u.heap.size≤j:=fun j hj=>(World.ownsRow.lt (zu OW) j hj).1
       have GR9:=zh (grow_app (zu GR) gr9 BL)
       have NG:some (w.heap.size+1)≠(Value.slice a i c).ownBlock:=fun e=>by have:=BL _ e.symm;omega
       have BX9:=zh (((show Box wr.drew w.heap.size (w.heap.size+1) (.slice x.aa x.b.ac.length x.ca) (.slice x.ai x.b.ic.length x.ci) (.slice x.ab x.b.bs.length x.cb) (.slice x.al x.b.ls.length x.cl) (.slice a i c) (.int .i64 0) from zu BX).below (one_more wr.drew (.cells #[.int .i64 r0,.int .i64 r1,.int .i64 r2,.int .i64 r3,.int .i64 r4,.int .i64 r5,.int .i64 r6,.int .i64 r7] 82)) (show w.heap.size+1<wr.heap.size from by omega)).kept gr9 NG)
       have O9:=zh o9
       have fr9:u9.frozen? ⟨w.heap.size+1,4,none⟩=false:=(zu BX9).free 4
       have bc9:=(zu BX9).c4
       have g9l:=(World.ownsRow.lt o9 g9 rfl).1
       have gs9:=(zu GR9).size
       have KC:u9.cell? ⟨gi,0,none⟩=some (.int .i64 r0)∧u9.cell? ⟨gi,1,none⟩=some (.int .i64 r1)∧u9.cell? ⟨gi,2,none⟩=some (.int .i64 r2)∧u9.cell? ⟨gi,3,none⟩=some (.int .i64 r3)∧u9.cell? ⟨gi,4,none⟩=some (.int .i64 r4)∧u9.cell? ⟨gi,5,none⟩=some (.int .i64 r5)∧u9.cell? ⟨gi,6,none⟩=some (.int .i64 r6)∧u9.cell? ⟨gi,7,none⟩=some (.int .i64 r7):=⟨gr9.cell KB.1 (fun e=>by have:=BL _ e.symm;simp only at this;omega),gr9.cell KB.2.1 (fun e=>by have:=BL _ e.symm;simp only at this;omega),gr9.cell KB.2.2.1 (fun e=>by have:=BL _ e.symm;simp only at this;omega),gr9.cell KB.2.2.2.1 (fun e=>by have:=BL _ e.symm;simp only at this;omega),gr9.cell KB.2.2.2.2.1 (fun e=>by have:=BL _ e.symm;simp only at this;omega),gr9.cell KB.2.2.2.2.2.1 (fun e=>by have:=BL _ e.symm;simp only at this;omega),gr9.cell KB.2.2.2.2.2.2.1 (fun e=>by have:=BL _ e.symm;simp only at this;omega),gr9.cell KB.2.2.2.2.2.2.2 (fun e=>by have:=BL _ e.symm;simp only at this;omega)⟩
       have SB:=(zu BX9).set4 (.slice (some ⟨g9,0,none⟩) (i+1) c9)
       have SB2:=zh SB
       have KD:(u9.setCell ⟨w.heap.size+1,4,none⟩ (.slice (some ⟨g9,0,none⟩) (i+1) c9)).cell? ⟨gi,0,none⟩=some (.int .i64 r0)∧(u9.setCell ⟨w.heap.size+1,4,none⟩ (.slice (some ⟨g9,0,none⟩) (i+1) c9)).cell? ⟨gi,1,none⟩=some (.int .i64 r1)∧(u9.setCell ⟨w.heap.size+1,4,none⟩ (.slice (some ⟨g9,0,none⟩) (i+1) c9)).cell? ⟨gi,2,none⟩=some (.int .i64 r2)∧(u9.setCell ⟨w.heap.size+1,4,none⟩ (.slice (some ⟨g9,0,none⟩) (i+1) c9)).cell? ⟨gi,3,none⟩=some (.int .i64 r3)∧(u9.setCell ⟨w.heap.size+1,4,none⟩ (.slice (some ⟨g9,0,none⟩) (i+1) c9)).cell? ⟨gi,4,none⟩=some (.int .i64 r4)∧(u9.setCell ⟨w.heap.size+1,4,none⟩ (.slice (some ⟨g9,0,none⟩) (i+1) c9)).cell? ⟨gi,5,none⟩=some (.int .i64 r5)∧(u9.setCell ⟨w.heap.size+1,4,none⟩ (.slice (some ⟨g9,0,none⟩) (i+1) c9)).cell? ⟨gi,6,none⟩=some (.int .i64 r6)∧(u9.setCell ⟨w.heap.size+1,4,none⟩ (.slice (some ⟨g9,0,none⟩) (i+1) c9)).cell? ⟨gi,7,none⟩=some (.int .i64 r7):=⟨(kcell SB.2 0 (show gi<u9.heap.size from by omega) gi2).trans KC.1,(kcell SB.2 1 (show gi<u9.heap.size from by omega) gi2).trans KC.2.1,(kcell SB.2 2 (show gi<u9.heap.size from by omega) gi2).trans KC.2.2.1,(kcell SB.2 3 (show gi<u9.heap.size from by omega) gi2).trans KC.2.2.2.1,(kcell SB.2 4 (show gi<u9.heap.size from by omega) gi2).trans KC.2.2.2.2.1,(kcell SB.2 5 (show gi<u9.heap.size from by omega) gi2).trans KC.2.2.2.2.2.1,(kcell SB.2 6 (show gi<u9.heap.size from by omega) gi2).trans KC.2.2.2.2.2.2.1,(kcell SB.2 7 (show gi<u9.heap.size from by omega) gi2).trans KC.2.2.2.2.2.2.2⟩
       clear o9 SB
       refine hK.out _ _ KC (fun hHeld=>?_)
       clear hK K
       try simp only[oX428,Act.put,zA,zB,zC]
       refine tk 29 oX429 (.pointer (some ⟨w.heap.size+1,4,none⟩)) rfl (by kernel_rfl) (fun _ _ _ h=>h) (by rfl) (fun w hSw=>?_) hHeld ?_
       ·(try dsimp only at hSw)
        unfold oX429
        go_simp
       try simp only[oX429,Act.put,zA,zB,zC]
       refine wpAnyH_ready (rs:=[30]) (by kernel_rfl) (by simp) ?_
       refine AllReadyH.cons (o:=oX430) rfl (fun K hK=>?_) AllReadyH.nil
       unfold oX430
       go_simp
       refine hK.out _ _ KD (fun hHeld=>?_)
       clear hK K
       try simp only[oX430,Act.put,zA,zB,zC]
       refine wpAnyH_done (by kernel_rfl) ?_ _
       clear K0 KB KC KD gr9 bc bcD bcA bc9 fr9
       have GRS:=zh (grow_grow (zu GR9) (zu SB2).2)
       have BXS:=zh (zu SB2).1
       have OWS:=zh (row_kept (zu O9) (zu SB2).2 (by omega))
       clear SB2
       go_wp2
       go_roundw
       case rel=>exact⟨i+1,c9,some ⟨g9,0,none⟩,by go_num,by omega,GRS,BXS,zh (by have h:=zu OWS;rw[zu TK,flat_e];exact h)⟩
       case measure=>simp[intOf];omega
      ·unfold oX427
       go_simp
       refine hK.out _ _ KB (fun hHeld=>?_)
       clear hK K
       try simp only[oX427,Act.put,zA,zB,zC]
       refine wpAnyH_ready (rs:=[1]) (by kernel_rfl) (by simp) ?_
       refine AllReadyH.cons (o:=oX41) rfl (fun K hK=>?_) AllReadyH.nil
       unfold oX41
       go_simp
       refine hK.out _ _ KB (fun hHeld=>?_)
       clear hK K
       try simp only[oX41,Act.put,zA,zB,zC]
       refine wpAnyH_ready (rs:=[28]) (by kernel_rfl) (by simp) ?_
       refine AllReadyH.cons (o:=oX428) rfl (fun K hK=>?_) AllReadyH.nil
       refine step_app (wr.drew.alloc (.cells #[.int .i64 r0,.int .i64 r1,.int .i64 r2,.int .i64 r3,.int .i64 r4,.int .i64 r5,.int .i64 r6,.int .i64 r7] 82)) (by rfl) _ _ 30 82 (by rfl) (.agg #[.int .i64 0,.int .i64 0,.int .i64 0,.int .i64 0,.int .i64 0,.int .i64 0,.int .i64 0,.int .i64 0]) 8 64 Tryz.underlying30 info_ts rfl (by decide) (by decide) u.heap.size (.slice a i c) i (Tup8.flat8 ((rs.take i).map r8)) wr.drew.heap.size [.int .i64 r0,.int .i64 r1,.int .i64 r2,.int .i64 r3,.int .i64 r4,.int .i64 r5,.int .i64 r6,.int .i64 r7] (by rfl) (by rfl) (row_step (W:=wr.drew) (zu OW) (one_more wr.drew (.cells #[.int .i64 r0,.int .i64 r1,.int .i64 r2,.int .i64 r3,.int .i64 r4,.int .i64 r5,.int .i64 r6,.int .i64 r7] 82))) rfl (litm wr.drew _ _ _ (by rfl)) (by simp[Value.oneCell']) (by omega) (Nat.le_trans (show u.heap.size≤wr.drew.heap.size from gs) (by simp)) ?_
       intro g9 c9 u9 o9 gr9
       have BL:∀j,(Value.slice a i c).ownBlock=some j→u.heap.size≤j:=fun j hj=>(World.ownsRow.lt (zu OW) j hj).1
       have GR9:=zh (grow_app (zu GR) gr9 BL)
       have NG:some (w.heap.size+1)≠(Value.slice a i c).ownBlock:=fun e=>by have:=BL _ e.symm;omega
       have BX9:=zh (((show Box wr.drew w.heap.size (w.heap.size+1) (.slice x.aa x.b.ac.length x.ca) (.slice x.ai x.b.ic.length x.ci) (.slice x.ab x.b.bs.length x.cb) (.slice x.al x.b.ls.length x.cl) (.slice a i c) (.int .i64 0) from zu BX).below (one_more wr.drew (.cells #[.int .i64 r0,.int .i64 r1,.int .i64 r2,.int .i64 r3,.int .i64 r4,.int .i64 r5,.int .i64 r6,.int .i64 r7] 82)) (show w.heap.size+1<wr.heap.size from by omega)).kept gr9 NG)
       have O9:=zh o9
       have fr9:u9.frozen? ⟨w.heap.size+1,4,none⟩=false:=(zu BX9).free 4
       have bc9:=(zu BX9).c4
       have g9l:=(World.ownsRow.lt o9 g9 rfl).1
       have gs9:=(zu GR9).size
       have KC:u9.cell? ⟨gi,0,none⟩=some (.int .i64 r0)∧u9.cell? ⟨gi,1,none⟩=some (.int .i64 r1)∧u9.cell? ⟨gi,2,none⟩=some (.int .i64 r2)∧u9.cell? ⟨gi,3,none⟩=some (.int .i64 r3)∧u9.cell? ⟨gi,4,none⟩=some (.int .i64 r4)∧u9.cell? ⟨gi,5,none⟩=some (.int .i64 r5)∧u9.cell? ⟨gi,6,none⟩=some (.int .i64 r6)∧u9.cell? ⟨gi,7,none⟩=some (.int .i64 r7):=⟨gr9.cell KB.1 (fun e=>by have:=BL _ e.symm;simp only at this;omega),gr9.cell KB.2.1 (fun e=>by have:=BL _ e.symm;simp only at this;omega),gr9.cell KB.2.2.1 (fun e=>by have:=BL _ e.symm;simp only at this;omega),gr9.cell KB.2.2.2.1 (fun e=>by have:=BL _ e.symm;simp only at this;omega),gr9.cell KB.2.2.2.2.1 (fun e=>by have:=BL _ e.symm;simp only at this;omega),gr9.cell KB.2.2.2.2.2.1 (fun e=>by have:=BL _ e.symm;simp only at this;omega),gr9.cell KB.2.2.2.2.2.2.1 (fun e=>by have:=BL _ e.symm;simp only at this;omega),gr9.cell KB.2.2.2.2.2.2.2 (fun e=>by have:=BL _ e.symm;simp only at this;omega)⟩
       have SB:=(zu BX9).set4 (.slice (some ⟨g9,0,none⟩) (i+1) c9)
       have SB2:=zh SB
       have KD:(u9.setCell ⟨w.heap.size+1,4,none⟩ (.slice (some ⟨g9,0,none⟩) (i+1) c9)).cell? ⟨gi,0,none⟩=some (.int .i64 r0)∧(u9.setCell ⟨w.heap.size+1,4,none⟩ (.slice (some ⟨g9,0,none⟩) (i+1) c9)).cell? ⟨gi,1,none⟩=some (.int .i64 r1)∧(u9.setCell ⟨w.heap.size+1,4,none⟩ (.slice (some ⟨g9,0,none⟩) (i+1) c9)).cell? ⟨gi,2,none⟩=some (.int .i64 r2)∧(u9.setCell ⟨w.heap.size+1,4,none⟩ (.slice (some ⟨g9,0,none⟩) (i+1) c9)).cell? ⟨gi,3,none⟩=some (.int .i64 r3)∧(u9.setCell ⟨w.heap.size+1,4,none⟩ (.slice (some ⟨g9,0,none⟩) (i+1) c9)).cell? ⟨gi,4,none⟩=some (.int .i64 r4)∧(u9.setCell ⟨w.heap.size+1,4,none⟩ (.slice (some ⟨g9,0,none⟩) (i+1) c9)).cell? ⟨gi,5,none⟩=some (.int .i64 r5)∧(u9.setCell ⟨w.heap.size+1,4,none⟩ (.slice (some ⟨g9,0,none⟩) (i+1) c9)).cell? ⟨gi,6,none⟩=some (.int .i64 r6)∧(u9.setCell ⟨w.heap.size+1,4,none⟩ (.slice (some ⟨g9,0,none⟩) (i+1) c9)).cell? ⟨gi,7,none⟩=some (.int .i64 r7):=⟨(kcell SB.2 0 (show gi<u9.heap.size from by omega) gi2).trans KC.1,(kcell SB.2 1 (show gi<u9.heap.size from by omega) gi2).trans KC.2.1,(kcell SB.2 2 (show gi<u9.heap.size from by omega) gi2).trans KC.2.2.1,(kcell SB.2 3 (show gi<u9.heap.size from by omega) gi2).trans KC.2.2.2.1,(kcell SB.2 4 (show gi<u9.heap.size from by omega) gi2).trans KC.2.2.2.2.1,(kcell SB.2 5 (show gi<u9.heap.size from by omega) gi2).trans KC.2.2.2.2.2.1,(kcell SB.2 6 (show gi<u9.heap.size from by omega) gi2).trans KC.2.2.2.2.2.2.1,(kcell SB.2 7 (show gi<u9.heap.size from by omega) gi2).trans KC.2.2.2.2.2.2.2⟩
       clear o9 SB
       refine hK.out _ _ KC (fun hHeld=>?_)
       clear hK K
       try simp only[oX428,Act.put,zA,zB,zC]
       refine tk 29 oX429 (.pointer (some ⟨w.heap.size+1,4,none⟩)) rfl (by kernel_rfl) (fun _ _ _ h=>h) (by rfl) (fun w hSw=>?_) hHeld ?_
       ·(try dsimp only at hSw)
        unfold oX429
        go_simp
       try simp only[oX429,Act.put,zA,zB,zC]
       refine wpAnyH_ready (rs:=[30]) (by kernel_rfl) (by simp) ?_
       refine AllReadyH.cons (o:=oX430) rfl (fun K hK=>?_) AllReadyH.nil
       unfold oX430
       go_simp
       refine hK.out _ _ KD (fun hHeld=>?_)
       clear hK K
       try simp only[oX430,Act.put,zA,zB,zC]
       refine wpAnyH_done (by kernel_rfl) ?_ _
       clear K0 KB KC KD gr9 bc bcD bcA bc9 fr9
       have GRS:=zh (grow_grow (zu GR9) (zu SB2).2)
       have BXS:=zh (zu SB2).1
       have OWS:=zh (row_kept (zu O9) (zu SB2).2 (by omega))
       clear SB2
       go_wp2
       go_roundw
       case rel=>exact⟨i+1,c9,some ⟨g9,0,none⟩,by go_num,by omega,GRS,BXS,zh (by have h:=zu OWS;rw[zu TK,flat_e];exact h)⟩
       case measure=>simp[intOf];omega
     ·have e:i=rs.length:=by omega
      subst e
      have OE:=zu OW
      rw[List.take_length] at OE
      have OE2:=row_base OE (show w.heap.size+4≤u.heap.size from us)
      rw[show rs.length=(rs.map r8).length by simp] at OE2
      have BE:=zu BX
      rw[show rs.length=(rs.map r8).length by simp] at BE
      obtain⟨⟨k0,k1,k2,k3,k4⟩,kr,kb,ks,kw,km⟩:=(zu HM1).rest (zu GR)
      have HM2:=zh (show Mv w wr (⟨x.aa,x.ca,x.ai,x.ci,x.ab,x.cb,x.al,x.cl,a,c,⟨x.b.ac,x.b.ic,x.b.bs,x.b.ls,rs.map r8,x.b.lot⟩⟩:Ix) from⟨BE,kr,k0,k1,k2,k3,OE2,kw,km,kb,ks,⟨(zu HM1).n.1,(zu HM1).n.2.1,(zu HM1).n.2.2.1,(zu HM1).n.2.2.2.1,by rw[List.length_map];omega⟩⟩)
      have EM2:=zh (show Emp 5 (⟨x.aa,x.ca,x.ai,x.ci,x.ab,x.cb,x.al,x.cl,a,c,⟨x.b.ac,x.b.ic,x.b.bs,x.b.ls,rs.map r8,x.b.lot⟩⟩:Ix) from⟨fun h=>absurd h (by omega),fun h=>absurd h (by omega),fun h=>absurd h (by omega),fun h=>absurd h (by omega),fun h=>absurd h (by omega)⟩)
      clear OE OE2 BE k0 k1 k2 k3 k4 kr kb ks kw km
      go_wp2
      go_roundw
      case rel=>exact⟨5,p1,_,rfl,rfl,by omega,FIN,HM2,EM2⟩
      case measure=>simp[intOf]
  ·have F:some (p,x.b)=fin:=zu FIN
   subst F
   have SG:=zh (sGetNumO wr gl oz cl xs p h20 ((zu R).below (zu HM).b (zu HG)))
   have LT:=zh (getN_lt (xs:=xs) (p:=p))
   have EB:=zh (show endB xs (some (p,x.b))=endY (getN xs p) xs.length x.b from rfl)
   clear FIN EM
   generalize getN xs p=y at *
   obtain⟨n,e1,ok⟩:=y
   have RX:=zh (zu HM).rx
   have BX:=zh (zu HM).bx
   have b5:=(zu BX).c5
   have f5:=(zu BX).free 5
   go_wp2_with fail
   refine(zu SG).mono ?_
   rintro e u ⟨rfl,rfl⟩
   have SB:=zh ((zu BX).set5 (.int .i64 n))
   have RXS:=zh ((zu RX).kept (zu SB).2 (fun e=>by injection e with e;omega))
   have BS:=zh ((zu HM).b.setCell (p:=⟨w.heap.size+1,5,none⟩) (by show _≤w.heap.size+1;omega) (.int .i64 n))
   cases ok with
   |false=>
    have EN:=zh (show endB xs (some (p,x.b))=(zeroB,false) from by rw[zu EB,endY_no (by simp)])
    clear EB
    obtain⟨q0,q1,q2,q3,q4,q5,z0,z1,z2,z3,z4,z5⟩:=Box.all (zu RX)
    have ul:=(zu RX).lt.2
    go_wp2
    have SX:=six (zu RXS) (.slice none 0 0) (.slice none 0 0) (.slice none 0 0) (.slice none 0 0) (.slice none 0 0) (.int .i64 0)
    have p0:=SX.c0
    have p1':=SX.c1
    have p2:=SX.c2
    have p3:=SX.c3
    have p4:=SX.c4
    have p5:=SX.c5
    (try simp only[Exit.inBlock,Exit.then])
    refine bodyPost_ret (v:= .tuple #[.agg #[.slice none 0 0,.slice none 0 0,.slice none 0 0,.slice none 0 0,.slice none 0 0,.int .i64 0],.bool false]) (by simp[results,Tryz.results18,go_sem,p0,p1',p2,p3,p4,p5]) rfl ?_
    rw[zu EN]
    exact .no rfl (below_six (zu BS) _ _ _ _ _ _)
   |true=>
    by_cases q:e1=xs.length
    case neg=>
     have EN:=zh (show endB xs (some (p,x.b))=(zeroB,false) from by rw[zu EB,endY_no (fun h=>q h.2.1)])
     clear EB
     have qn:(e1 !=(xs.length:Int))=true:=by simpa using q
     obtain⟨q0,q1,q2,q3,q4,q5,z0,z1,z2,z3,z4,z5⟩:=Box.all (zu RX)
     have ul:=(zu RX).lt.2
     go_wp2
     have SX:=six (zu RXS) (.slice none 0 0) (.slice none 0 0) (.slice none 0 0) (.slice none 0 0) (.slice none 0 0) (.int .i64 0)
     have p0:=SX.c0
     have p1':=SX.c1
     have p2:=SX.c2
     have p3:=SX.c3
     have p4:=SX.c4
     have p5:=SX.c5
     (try simp only[Exit.inBlock,Exit.then])
     refine bodyPost_ret (v:= .tuple #[.agg #[.slice none 0 0,.slice none 0 0,.slice none 0 0,.slice none 0 0,.slice none 0 0,.int .i64 0],.bool false]) (by simp[results,Tryz.results18,go_sem,p0,p1',p2,p3,p4,p5]) rfl ?_
     rw[zu EN]
     exact .no rfl (below_six (zu BS) _ _ _ _ _ _)
    have qn:(e1 !=(xs.length:Int))=false:=by simp[q]
    obtain⟨⟨k0,k1,k2,k3,k4⟩,kr,kb,ks,kw,km⟩:=(zu HM).rest (zu SB).2
    have RV:=zh (show RdV (u.setCell ⟨w.heap.size+1,5,none⟩ (.int .i64 n)) (⟨x.aa,x.ca,x.ai,x.ci,x.ab,x.cb,x.al,x.cl,x.ats,x.ct,withLot x.b n⟩:Ix) from rd_lot k0 k1 k2 k3 k4 (zu HM).n)
    have KK:=zh (And.intro k0 (And.intro k1 (And.intro k2 (And.intro k3 k4))))
    clear k0 k1 k2 k3 k4 kr kb ks kw km
    obtain⟨okb,OKB⟩:=says_of (Ok (withLot x.b n))
    have HO:=zh OKB
    have g0:=(zu SB).1.c0
    have g1:=(zu SB).1.c1
    have g2:=(zu SB).1.c2
    have g3:=(zu SB).1.c3
    have g4:=(zu SB).1.c4
    have g5:=(zu SB).1.c5
    have SO:=zh (SBooksOkV13.sBooksOkV (u.setCell ⟨w.heap.size+1,5,none⟩ (.int .i64 n)) (⟨x.aa,x.ca,x.ai,x.ci,x.ab,x.cb,x.al,x.cl,x.ats,x.ct,withLot x.b n⟩:Ix) okb (zu RV) OKB)
    have SZ:=zh (show w.heap.size+4≤(u.setCell ⟨w.heap.size+1,5,none⟩ (.int .i64 n)).heap.size from Nat.le_trans ws (zu SB).2.size)
    have BS2:=zh (show Below w.heap.size w (u.setCell ⟨w.heap.size+1,5,none⟩ (.int .i64 n)) from zu BS)
    clear OKB
    go_wp2_with fail
    refine(zu SO).mono ?_
    rintro e v ⟨rfl,bb⟩
    have vs:=bb.size
    have sz:=zu SZ
    have RXV:=zh ((zu RXS).below bb (by omega))
    have BXV:=zh ((zu SB).1.below bb (by omega))
    have BV:=zh ((zu BS2).trans (bb.mono (by omega)))
    have BBH:=zh bb
    clear bb g0 g1 g2 g3 g4 g5 b5 f5 SO
    obtain⟨q0,q1,q2,q3,q4,q5,z0,z1,z2,z3,z4,z5⟩:=Box.all (zu RXV)
    have ul:=(zu RXV).lt.2
    cases okb with
    |false=>
     have EN:=zh (show endB xs (some (p,x.b))=(zeroB,false) from by rw[zu EB,endY_no (fun h=>(zu HO).no h.2.2)])
     clear EB
     go_wp2
     have SX:=six (zu RXV) (.slice none 0 0) (.slice none 0 0) (.slice none 0 0) (.slice none 0 0) (.slice none 0 0) (.int .i64 0)
     have p0:=SX.c0
     have p1':=SX.c1
     have p2:=SX.c2
     have p3:=SX.c3
     have p4:=SX.c4
     have p5:=SX.c5
     (try simp only[Exit.inBlock,Exit.then])
     refine bodyPost_ret (v:= .tuple #[.agg #[.slice none 0 0,.slice none 0 0,.slice none 0 0,.slice none 0 0,.slice none 0 0,.int .i64 0],.bool false]) (by simp[results,Tryz.results18,go_sem,p0,p1',p2,p3,p4,p5]) rfl ?_
     rw[zu EN]
     exact .no rfl (below_six (zu BV) _ _ _ _ _ _)
    |true=>
     have EN:=zh (show endB xs (some (p,x.b))=(withLot x.b n,true) from by rw[zu EB,endY_yes ⟨rfl,q,(zu HO).yes⟩])
     clear EB
     have g0:=(zu BXV).c0
     have g1:=(zu BXV).c1
     have g2:=(zu BXV).c2
     have g3:=(zu BXV).c3
     have g4:=(zu BXV).c4
     have g5:=(zu BXV).c5
     go_wp2
     have SX:=six (zu RXV) (.slice x.aa x.b.ac.length x.ca) (.slice x.ai x.b.ic.length x.ci) (.slice x.ab x.b.bs.length x.cb) (.slice x.al x.b.ls.length x.cl) (.slice x.ats x.b.ts.length x.ct) (.int .i64 n)
     have SG6:=six_grown (zu RXV) (.slice x.aa x.b.ac.length x.ca) (.slice x.ai x.b.ic.length x.ci) (.slice x.ab x.b.bs.length x.cb) (.slice x.al x.b.ls.length x.cl) (.slice x.ats x.b.ts.length x.ct) (.int .i64 n)
     have p0:=SX.c0
     have p1':=SX.c1
     have p2:=SX.c2
     have p3:=SX.c3
     have p4:=SX.c4
     have p5:=SX.c5
     obtain⟨k0,k1,k2,k3,k4⟩:=zu KK
     have b2:=zu BBH
     (try simp only[Exit.inBlock,Exit.then])
     refine bodyPost_ret (v:= .tuple #[.agg #[.slice x.aa x.b.ac.length x.ca,.slice x.ai x.b.ic.length x.ci,.slice x.ab x.b.bs.length x.cb,.slice x.al x.b.ls.length x.cl,.slice x.ats x.b.ts.length x.ct,.int .i64 n],.bool true]) (by simp[results,Tryz.results18,go_sem,p0,p1',p2,p3,p4,p5]) rfl ?_
     rw[zu EN]
     exact .yes (⟨x.aa,x.ca,x.ai,x.ci,x.ab,x.cb,x.al,x.cl,x.ats,x.ct,withLot x.b n⟩:Ix) rfl rfl (rd_lot (row_kept (row_step k0 b2) SG6 (by omega)) (row_kept (row_step k1 b2) SG6 (by omega)) (row_kept (row_step k2 b2) SG6 (by omega)) (row_kept (row_step k3 b2) SG6 (by omega)) (row_kept (row_step k4 b2) SG6 (by omega)) (zu HM).n) (below_six (zu BV) _ _ _ _ _ _)
end
end SRead13
end Go.Proofs.YtagmnociflkhcaaGreatDoor
