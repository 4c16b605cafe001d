/- Texts of one proof, one behind the other: IBalsFit, BHelp, BkEq, ITradesFit. -/
import Derived.Test.YtagmnociflkhcaaGreatDoorRows
import Derived.Test.YtagmnociflkhcaaGreatDoorCards
import Derived.Test.YtagmnociflkhcaaGreatDoorTie
import Derived.Test.YtagmnociflkhcaaGreatDoorQL0
import Derived.Test.YtagmnociflkhcaaGreatDoorQL6
import Derived.Test.YtagmnociflkhcaaGreatDoorQL9
import Derived.Test.YtagmnociflkhcaaGreatDoorQL11
import Derived.Test.YtagmnociflkhcaaGreatDoorQL12
import Derived.Test.YtagmnociflkhcaaGreatDoorQL13
set_option linter.unusedVariables false
set_option linter.unusedSimpArgs false
open Go.ChangeShapes Go.WideShapes Go.ChangeAt Go.RowKit
set_option maxRecDepth 100000
set_option maxHeartbeats 32000000
namespace Go.Proofs.YtagmnociflkhcaaGreatDoor
namespace IBalsFit
open BMem Bks IRead IHave ITrade ILists
open Lots (Says says_of NoOk)
open Bals (T3 el3 val sumI)
open Triples (At3 Holds3)
theorem all_one{p:Int→Prop}{y:Int}{b:Bool}(h:Says b (p y)):Says b (∀z∈[y],p z):=by
 constructor
 ·intro e z hz
  simp at hz
  subst hz
  exact h.1 e
 ·intro e
  exact h.2 (e y (by simp))
structure St(w W:World)(x:Bx):Prop where
 r:Rd W x
 c:Cl W w.heap.size x
 b:Below w.heap.size w W
 s:w.heap.size<W.heap.size
theorem St.step{w W W':World}{x:Bx}(h:St w W x)(k:Below W.heap.size W W'):St w W' x:=
 ⟨h.r.below k,h.c.below k h.s,h.b.trans (k.mono (Nat.le_of_lt h.s)),Nat.lt_of_lt_of_le h.s k.size⟩
theorem St.start{w:World}{x:Bx}(h:Rd w x)(e:TypeId):St w (w.alloc (.cells #[.slice (some ⟨x.ga,0,none⟩) x.b.ac.length x.ca,.slice (some ⟨x.gi,0,none⟩) x.b.ic.length x.ci,.slice (some ⟨x.gb,0,none⟩) x.b.bs.length x.cb,.slice (some ⟨x.gl,0,none⟩) x.b.ls.length x.cl,.slice (some ⟨x.gt,0,none⟩) x.b.ts.length x.ct,.int .i64 x.b.lot] e)) x:=
 ⟨h.alloc _,boxed w x e,(Below.refl w.heap.size w).alloc (Nat.le_refl _) _,by simp⟩
theorem one_more(w:World)(o:Obj):Below w.heap.size w (w.alloc o):=(Below.refl _ _).alloc (Nat.le_refl _) _
end IBalsFit
namespace BHelp
open BMem Bks ILists
open IBalsFit (St one_more)
structure Ix where
 aa:Option Addr
 ca:Nat
 ai:Option Addr
 ci:Nat
 ab:Option Addr
 cb:Nat
 al:Option Addr
 cl:Nat
 ats:Option Addr
 ct:Nat
 b:Bk
structure RdI(w:World)(y:Ix):Prop where
 ra:Pairs.Reads w y.aa y.b.ac
 ri:Pairs.Reads w y.ai y.b.ic
 rb:Triples.Reads3 w y.ab y.b.bs
 rl:Tup5.Reads5 w y.al y.b.ls
 rt:Tup8.Reads8 w y.ats y.b.ts
theorem RdI.below{w w':World}{y:Ix}(h:RdI w y)(k:Below w.heap.size w w'):RdI w' y:=
 ⟨h.ra.below k,h.ri.below k,h.rb.below k,h.rl.below k,h.rt.below k⟩
structure ClI(w:World)(g:Nat)(y:Ix):Prop where
 c0:w.cell? ⟨g,0,none⟩=some (.slice y.aa y.b.ac.length y.ca)
 c1:w.cell? ⟨g,1,none⟩=some (.slice y.ai y.b.ic.length y.ci)
 c2:w.cell? ⟨g,2,none⟩=some (.slice y.ab y.b.bs.length y.cb)
 c3:w.cell? ⟨g,3,none⟩=some (.slice y.al y.b.ls.length y.cl)
 c4:w.cell? ⟨g,4,none⟩=some (.slice y.ats y.b.ts.length y.ct)
 c5:w.cell? ⟨g,5,none⟩=some (.int .i64 y.b.lot)
theorem ClI.below{w w':World}{B g:Nat}{y:Ix}(h:ClI w g y)(k:Below B w w')(hg:g<B):ClI w' g y:=
 ⟨(k.cell (p:=⟨g,0,none⟩) hg).trans h.c0,(k.cell (p:=⟨g,1,none⟩) hg).trans h.c1,(k.cell (p:=⟨g,2,none⟩) hg).trans h.c2,(k.cell (p:=⟨g,3,none⟩) hg).trans h.c3,(k.cell (p:=⟨g,4,none⟩) hg).trans h.c4,(k.cell (p:=⟨g,5,none⟩) hg).trans h.c5⟩
theorem row_block{w w':World}{base:Nat}{e:TypeId}{size:Nat}{g n cap:Nat}{xs:List Value}(h:w.ownsRow base e size (.slice (some ⟨g,0,none⟩) n cap) n xs)(hb:w'.heap[g]?=w.heap[g]?):w'.ownsRow base e size (.slice (some ⟨g,0,none⟩) n cap) n xs:=by
 refine⟨h.1,?_⟩
 rcases h.2 with⟨h1,_⟩|⟨g',c,cur,h1,h2,h3,h4⟩
 ·simp at h1
 ·obtain⟨e,_⟩:g=g'∧cap=c:=by simpa using h1
  subst e
  exact .inr ⟨g,c,cur,h1,h2,hb.trans h3,h4⟩
def Up(x:Bx)(N:Nat):Prop:=x.ga<N∧x.gi<N∧x.gb<N∧x.gl<N∧x.gt<N
def Lo(x:Bx)(N:Nat):Prop:=N≤x.ga∧N≤x.gi∧N≤x.gb∧N≤x.gl∧N≤x.gt
theorem ow_up{w:World}{base:Nat}{x:Bx}(h:Ow w base x):Up x w.heap.size:=⟨h.oa.lt.2,h.oi.lt.2,h.ob.lt.2,h.ol.lt.2,h.ot.lt.2⟩
structure Turn(x:Bx)(w w':World):Prop where
 os:w'.os=w.os
 tape:w'.tape=w.tape
 output:w'.output=w.output
 size:w.heap.size≤w'.heap.size
 block:∀k,k<w.heap.size→k≠x.ga→k≠x.gi→k≠x.gb→k≠x.gl→k≠x.gt→w'.heap[k]?=w.heap[k]?
theorem Turn.refl(x:Bx)(w:World):Turn x w w:=⟨rfl,rfl,rfl,Nat.le_refl _,fun _ _ _ _ _ _ _=>rfl⟩
theorem Turn.grown{x:Bx}{w u v:World}{g:Nat}(h:Turn x w u)(k:u.grownBy v (some g))(hg:g=x.ga∨g=x.gi∨g=x.gb∨g=x.gl∨g=x.gt):Turn x w v:=
 ⟨k.os.trans h.os,k.tape.trans h.tape,k.output.trans h.output,Nat.le_trans h.size k.size,fun j hj a b c d e=>(k.block j (Nat.lt_of_lt_of_le hj h.size) (fun q=>by injection q with q;omega)).trans (h.block j hj a b c d e)⟩
theorem Turn.alloc{x:Bx}{w u:World}(h:Turn x w u)(o:Obj):Turn x w (u.alloc o):=
 ⟨h.os,h.tape,h.output,by have:=h.size;simp;omega,fun j hj a b c d e=>(Below.heap_alloc u o j (Nat.lt_of_lt_of_le hj h.size)).trans (h.block j hj a b c d e)⟩
theorem Turn.below{x:Bx}{w u:World}{B:Nat}(h:Turn x w u)(hB:B≤w.heap.size)(lo:Lo x B):Below B w u:=
 ⟨h.os,h.tape,h.output,h.size,fun k hk=>h.block k (by omega) (by have:=lo.1;omega) (by have:=lo.2.1;omega) (by have:=lo.2.2.1;omega) (by have:=lo.2.2.2.1;omega) (by have:=lo.2.2.2.2;omega)⟩
theorem Turn.ow{x y:Bx}{w u:World}{base:Nat}(h:Turn x w u)(k:Ow w base y)(ap:(∃N,Up x N∧Lo y N)∨∃N,Lo x N∧Up y N):Ow u base y:=by
 have hu:=ow_up k
 have all:∀g,(g=y.ga∨g=y.gi∨g=y.gb∨g=y.gl∨g=y.gt)→u.heap[g]?=w.heap[g]?:=by
  intro g hg
  refine h.block g ?_ ?_ ?_ ?_ ?_ ?_
  ·unfold Up at hu;omega
  all_goals
   rcases ap with⟨N,a,b⟩|⟨N,a,b⟩
   ·unfold Up at a;unfold Lo at b;omega
   ·unfold Lo at a;unfold Up at b;omega
 exact⟨row_block k.oa (all _ (by simp)),row_block k.oi (all _ (by simp)),row_block k.ob (all _ (by simp)),row_block k.ol (all _ (by simp)),row_block k.ot (all _ (by simp))⟩
structure TB(w W:World)(y:Ix)(v0 v1 v2 v3 v4 v5:Value):Prop where
 b:Below w.heap.size w W
 ci:ClI W w.heap.size y
 o:Box W w.heap.size (w.heap.size+1+1) v0 v1 v2 v3 v4 v5
 r:Box W w.heap.size (w.heap.size+1) (.slice none 0 0) (.slice none 0 0) (.slice none 0 0) (.slice none 0 0) (.slice none 0 0) (.int .i64 0)
section
variable {w W W':World} {y:Ix} {v0 v1 v2 v3 v4 v5:Value}
theorem TB.call(h:TB w W y v0 v1 v2 v3 v4 v5)(k:Below W.heap.size W W'):TB w W' y v0 v1 v2 v3 v4 v5:=by
 have l:=h.o.lt
 exact⟨h.b.trans (k.mono h.b.size),h.ci.below k (by omega),h.o.below k (by omega),h.r.below k (by omega)⟩
theorem TB.set0(h:TB w W y v0 v1 v2 v3 v4 v5)(u:Value):TB w (W.setCell ⟨w.heap.size+1+1,0,none⟩ u) y u v1 v2 v3 v4 v5:=by
 obtain⟨b,g⟩:=h.o.set0 u
 have n0:some w.heap.size≠some (w.heap.size+1+1):=fun e=>by injection e;omega
 exact⟨h.b.setCell (by simp;omega) u,⟨g.cell h.ci.c0 n0,g.cell h.ci.c1 n0,g.cell h.ci.c2 n0,g.cell h.ci.c3 n0,g.cell h.ci.c4 n0,g.cell h.ci.c5 n0⟩,b,h.r.kept g (fun e=>by injection e;omega)⟩
theorem TB.set1(h:TB w W y v0 v1 v2 v3 v4 v5)(u:Value):TB w (W.setCell ⟨w.heap.size+1+1,1,none⟩ u) y v0 u v2 v3 v4 v5:=by
 obtain⟨b,g⟩:=h.o.set1 u
 have n0:some w.heap.size≠some (w.heap.size+1+1):=fun e=>by injection e;omega
 exact⟨h.b.setCell (by simp;omega) u,⟨g.cell h.ci.c0 n0,g.cell h.ci.c1 n0,g.cell h.ci.c2 n0,g.cell h.ci.c3 n0,g.cell h.ci.c4 n0,g.cell h.ci.c5 n0⟩,b,h.r.kept g (fun e=>by injection e;omega)⟩
theorem TB.set2(h:TB w W y v0 v1 v2 v3 v4 v5)(u:Value):TB w (W.setCell ⟨w.heap.size+1+1,2,none⟩ u) y v0 v1 u v3 v4 v5:=by
 obtain⟨b,g⟩:=h.o.set2 u
 have n0:some w.heap.size≠some (w.heap.size+1+1):=fun e=>by injection e;omega
 exact⟨h.b.setCell (by simp;omega) u,⟨g.cell h.ci.c0 n0,g.cell h.ci.c1 n0,g.cell h.ci.c2 n0,g.cell h.ci.c3 n0,g.cell h.ci.c4 n0,g.cell h.ci.c5 n0⟩,b,h.r.kept g (fun e=>by injection e;omega)⟩
theorem TB.set3(h:TB w W y v0 v1 v2 v3 v4 v5)(u:Value):TB w (W.setCell ⟨w.heap.size+1+1,3,none⟩ u) y v0 v1 v2 u v4 v5:=by
 obtain⟨b,g⟩:=h.o.set3 u
 have n0:some w.heap.size≠some (w.heap.size+1+1):=fun e=>by injection e;omega
 exact⟨h.b.setCell (by simp;omega) u,⟨g.cell h.ci.c0 n0,g.cell h.ci.c1 n0,g.cell h.ci.c2 n0,g.cell h.ci.c3 n0,g.cell h.ci.c4 n0,g.cell h.ci.c5 n0⟩,b,h.r.kept g (fun e=>by injection e;omega)⟩
theorem TB.set4(h:TB w W y v0 v1 v2 v3 v4 v5)(u:Value):TB w (W.setCell ⟨w.heap.size+1+1,4,none⟩ u) y v0 v1 v2 v3 u v5:=by
 obtain⟨b,g⟩:=h.o.set4 u
 have n0:some w.heap.size≠some (w.heap.size+1+1):=fun e=>by injection e;omega
 exact⟨h.b.setCell (by simp;omega) u,⟨g.cell h.ci.c0 n0,g.cell h.ci.c1 n0,g.cell h.ci.c2 n0,g.cell h.ci.c3 n0,g.cell h.ci.c4 n0,g.cell h.ci.c5 n0⟩,b,h.r.kept g (fun e=>by injection e;omega)⟩
theorem TB.set5(h:TB w W y v0 v1 v2 v3 v4 v5)(u:Value):TB w (W.setCell ⟨w.heap.size+1+1,5,none⟩ u) y v0 v1 v2 v3 v4 u:=by
 obtain⟨b,g⟩:=h.o.set5 u
 have n0:some w.heap.size≠some (w.heap.size+1+1):=fun e=>by injection e;omega
 exact⟨h.b.setCell (by simp;omega) u,⟨g.cell h.ci.c0 n0,g.cell h.ci.c1 n0,g.cell h.ci.c2 n0,g.cell h.ci.c3 n0,g.cell h.ci.c4 n0,g.cell h.ci.c5 n0⟩,b,h.r.kept g (fun e=>by injection e;omega)⟩
end
end BHelp
namespace BkEq
open BMem Bks ILists BHelp
open IBalsFit (St one_more)
structure Two(w W:World)(x y:Bx):Prop where
 rx:Rd W x
 ry:Rd W y
 cx:Cl W w.heap.size x
 cy:Cl W (w.heap.size+1) y
 b:Below w.heap.size w W
 s:w.heap.size+1<W.heap.size
theorem Two.step{w W W':World}{x y:Bx}(h:Two w W x y)(k:Below W.heap.size W W'):Two w W' x y:=
 ⟨h.rx.below k,h.ry.below k,h.cx.below k (by have:=h.s;omega),h.cy.below k h.s,h.b.trans (k.mono h.b.size),Nat.lt_of_lt_of_le h.s k.size⟩
theorem Two.start{w:World}{x y:Bx}(hx:Rd w x)(hy:Rd w y)(e:TypeId):Two w ((w.alloc (.cells #[.slice (some ⟨x.ga,0,none⟩) x.b.ac.length x.ca,.slice (some ⟨x.gi,0,none⟩) x.b.ic.length x.ci,.slice (some ⟨x.gb,0,none⟩) x.b.bs.length x.cb,.slice (some ⟨x.gl,0,none⟩) x.b.ls.length x.cl,.slice (some ⟨x.gt,0,none⟩) x.b.ts.length x.ct,.int .i64 x.b.lot] e)).alloc (.cells #[.slice (some ⟨y.ga,0,none⟩) y.b.ac.length y.ca,.slice (some ⟨y.gi,0,none⟩) y.b.ic.length y.ci,.slice (some ⟨y.gb,0,none⟩) y.b.bs.length y.cb,.slice (some ⟨y.gl,0,none⟩) y.b.ls.length y.cl,.slice (some ⟨y.gt,0,none⟩) y.b.ts.length y.ct,.int .i64 y.b.lot] e)) x y:=by
 have c:=boxed (w.alloc (.cells #[.slice (some ⟨x.ga,0,none⟩) x.b.ac.length x.ca,.slice (some ⟨x.gi,0,none⟩) x.b.ic.length x.ci,.slice (some ⟨x.gb,0,none⟩) x.b.bs.length x.cb,.slice (some ⟨x.gl,0,none⟩) x.b.ls.length x.cl,.slice (some ⟨x.gt,0,none⟩) x.b.ts.length x.ct,.int .i64 x.b.lot] e)) y e
 have c':Cl ((w.alloc (.cells #[.slice (some ⟨x.ga,0,none⟩) x.b.ac.length x.ca,.slice (some ⟨x.gi,0,none⟩) x.b.ic.length x.ci,.slice (some ⟨x.gb,0,none⟩) x.b.bs.length x.cb,.slice (some ⟨x.gl,0,none⟩) x.b.ls.length x.cl,.slice (some ⟨x.gt,0,none⟩) x.b.ts.length x.ct,.int .i64 x.b.lot] e)).alloc (.cells #[.slice (some ⟨y.ga,0,none⟩) y.b.ac.length y.ca,.slice (some ⟨y.gi,0,none⟩) y.b.ic.length y.ci,.slice (some ⟨y.gb,0,none⟩) y.b.bs.length y.cb,.slice (some ⟨y.gl,0,none⟩) y.b.ls.length y.cl,.slice (some ⟨y.gt,0,none⟩) y.b.ts.length y.ct,.int .i64 y.b.lot] e)) (w.heap.size+1) y:=by simpa using c
 exact⟨(hx.alloc _).alloc _,(hy.alloc _).alloc _,(boxed w x e).below (one_more _ _) (by simp),c',((Below.refl w.heap.size w).alloc (Nat.le_refl _) _).alloc (by simp) _,by simp⟩
def e1(b:Bk):Int:=1+2*(b.ac.length:Int)
def e2(b:Bk):Int:=e1 b+2*(b.ic.length:Int)
def e3(b:Bk):Int:=e2 b+3*(b.bs.length:Int)
def e4(b:Bk):Int:=e3 b+5*(b.ls.length:Int)
def e5(b:Bk):Int:=e4 b+8*(b.ts.length:Int)
theorem e_bd{b:Bk}(h:Small b):(1≤e1 b∧e1 b≤100000000)∧(1≤e2 b∧e2 b≤100000000)∧(1≤e3 b∧e3 b≤100000000)∧(1≤e4 b∧e4 b≤100000000)∧(1≤e5 b∧e5 b≤100000000):=by
 obtain⟨h1,h2,h3,h4,h5⟩:=h
 unfold e5 e4 e3 e2 e1
 omega
structure OwM(w:World)(base:Nat)(x:Bx):Prop where
 oa:Pairs.Own 75 w base x.ga x.b.ac.length x.ca (AccountMark.marks 1 x.b.ac.length)
 oi:Pairs.Own 76 w base x.gi x.b.ic.length x.ci (InstrMark.marks (e1 x.b) x.b.ic.length)
 ob:Triples.Own3 78 w base x.gb x.b.bs.length x.cb (BalHelp.marks (e2 x.b) x.b.bs.length)
 ol:Tup5.Own5 80 w base x.gl x.b.ls.length x.cl (LotHelp.marks (e3 x.b) x.b.ls.length)
 ot:Tup8.Own8 82 w base x.gt x.b.ts.length x.ct (TradeHelp.marks (e4 x.b) x.b.ts.length)
theorem OwM.below{w w':World}{base:Nat}{x:Bx}(h:OwM w base x)(k:Below w.heap.size w w'):OwM w' base x:=
 ⟨h.oa.below k h.oa.lt.2,h.oi.below k h.oi.lt.2,h.ob.below k h.ob.lt.2,h.ol.below k h.ol.lt.2,h.ot.below k h.ot.lt.2⟩
end BkEq
namespace ITradesFit
open BMem Bks IRead IHave ITrade ILists IBalsFit IIndex8
open Lots (Says says_of NoOk)
open Tup8 (T8 el8 At8 Holds8)
noncomputable def unfitB (b:Bk) (t:T8):Bool:= @decide (¬TradeFit b t) (Classical.propDecidable _)
theorem unfit_says(b:Bk)(t:T8):Says (!(unfitB b t)) (TradeFit b t):=by
 unfold unfitB
 by_cases h:TradeFit b t
 ·rw[@decide_eq_false _ (Classical.propDecidable _) (fun n:¬TradeFit b t=>n h)]
  exact⟨fun _=>h,fun _=>rfl⟩
 ·rw[@decide_eq_true _ (Classical.propDecidable _) h]
  exact⟨fun e=>Bool.noConfusion e,fun e=>absurd e h⟩
end ITradesFit
end Go.Proofs.YtagmnociflkhcaaGreatDoor
