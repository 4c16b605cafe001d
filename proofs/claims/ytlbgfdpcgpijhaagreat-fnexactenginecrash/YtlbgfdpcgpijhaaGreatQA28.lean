/- Texts of one proof. -/
import Derived.Test.YtlbgfdpcgpijhaaGreatQA16
import Derived.Test.YtlbgfdpcgpijhaaGreatQA22
import Derived.Test.YtlbgfdpcgpijhaaGreatQA27
open Go.ChangeShapes Go.WideShapes Go.ChangeAt Go.RowKit
set_option linter.unusedVariables false
set_option linter.unusedSimpArgs false
set_option maxRecDepth 100000
set_option maxHeartbeats 32000000
namespace Go.Proofs.YtlbgfdpcgpijhaaGreat
namespace BMemV13
open BMem Bks BHelp
open Lots (Says says_of NoOk ownL restL)
open Bals (T3 el3 val sumI)
open Tup5 (T5 el5)
open Tup8 (T8 el8)
open IBalsFit (one_more)
open Pairs (below_drewN)
structure RdV(w:World)(x:Ix):Prop where
 ea:x.b.ac.length≠0→∃g,x.aa=some ⟨g,0,none⟩
 ra:∀g,x.aa=some ⟨g,0,none⟩→g<w.heap.size∧Pairs.At w g x.b.ac
 na:x.b.ac.length≤1048576
 ei:x.b.ic.length≠0→∃g,x.ai=some ⟨g,0,none⟩
 ri:∀g,x.ai=some ⟨g,0,none⟩→g<w.heap.size∧Pairs.At w g x.b.ic
 ni:x.b.ic.length≤1048576
 eb:x.b.bs.length≠0→∃g,x.ab=some ⟨g,0,none⟩
 rb:∀g,x.ab=some ⟨g,0,none⟩→g<w.heap.size∧Triples.At3 w g x.b.bs
 nb:x.b.bs.length≤1048576
 el:x.b.ls.length≠0→∃g,x.al=some ⟨g,0,none⟩
 rl:∀g,x.al=some ⟨g,0,none⟩→g<w.heap.size∧Tup5.At5 w g x.b.ls
 nl:x.b.ls.length≤1048576
 et:x.b.ts.length≠0→∃g,x.ats=some ⟨g,0,none⟩
 rt:∀g,x.ats=some ⟨g,0,none⟩→g<w.heap.size∧Tup8.At8 w g x.b.ts
 nt:x.b.ts.length≤1048576
theorem RdV.below{w w':World}{x:Ix}(h:RdV w x)(k:Below w.heap.size w w'):RdV w' x:=
 ⟨h.ea,fun g e=>⟨Nat.lt_of_lt_of_le (h.ra g e).1 k.size,(h.ra g e).2.below k (h.ra g e).1⟩,h.na,h.ei,fun g e=>⟨Nat.lt_of_lt_of_le (h.ri g e).1 k.size,(h.ri g e).2.below k (h.ri g e).1⟩,h.ni,h.eb,fun g e=>⟨Nat.lt_of_lt_of_le (h.rb g e).1 k.size,(h.rb g e).2.below k (h.rb g e).1⟩,h.nb,h.el,fun g e=>⟨Nat.lt_of_lt_of_le (h.rl g e).1 k.size,(h.rl g e).2.below k (h.rl g e).1⟩,h.nl,h.et,fun g e=>⟨Nat.lt_of_lt_of_le (h.rt g e).1 k.size,(h.rt g e).2.below k (h.rt g e).1⟩,h.nt⟩
structure ClV(w:World)(g:Nat)(x:Ix):Prop where
 c0:w.cell? ⟨g,0,none⟩=some (.slice x.aa x.b.ac.length x.ca)
 c1:w.cell? ⟨g,1,none⟩=some (.slice x.ai x.b.ic.length x.ci)
 c2:w.cell? ⟨g,2,none⟩=some (.slice x.ab x.b.bs.length x.cb)
 c3:w.cell? ⟨g,3,none⟩=some (.slice x.al x.b.ls.length x.cl)
 c4:w.cell? ⟨g,4,none⟩=some (.slice x.ats x.b.ts.length x.ct)
 c5:w.cell? ⟨g,5,none⟩=some (.int .i64 x.b.lot)
theorem ClV.below{w w':World}{B g:Nat}{x:Ix}(h:ClV w g x)(k:Below B w w')(hg:g<B):ClV w' g x:=
 ⟨(k.cell (p:=⟨g,0,none⟩) hg).trans h.c0,(k.cell (p:=⟨g,1,none⟩) hg).trans h.c1,(k.cell (p:=⟨g,2,none⟩) hg).trans h.c2,(k.cell (p:=⟨g,3,none⟩) hg).trans h.c3,(k.cell (p:=⟨g,4,none⟩) hg).trans h.c4,(k.cell (p:=⟨g,5,none⟩) hg).trans h.c5⟩
structure StV(w W:World)(x:Ix):Prop where
 r:RdV W x
 c:ClV W w.heap.size x
 b:Below w.heap.size w W
 s:w.heap.size<W.heap.size
theorem StV.step{w W W':World}{x:Ix}(h:StV w W x)(k:Below W.heap.size W W'):StV w W' x:=
 ⟨h.r.below k,h.c.below k h.s,h.b.trans (k.mono (Nat.le_of_lt h.s)),Nat.lt_of_lt_of_le h.s k.size⟩
theorem StV.start{w:World}{x:Ix}(h:RdV w x)(e:TypeId):StV w (w.alloc (.cells #[.slice x.aa x.b.ac.length x.ca,.slice x.ai x.b.ic.length x.ci,.slice x.ab x.b.bs.length x.cb,.slice x.al x.b.ls.length x.cl,.slice x.ats x.b.ts.length x.ct,.int .i64 x.b.lot] e)) x:=
 ⟨h.below (one_more _ _),⟨by simp,by simp,by simp,by simp,by simp,by simp⟩,(Below.refl w.heap.size w).alloc (Nat.le_refl _) _,by simp⟩
theorem okA0(w:World)(a:Option Addr)(c:Nat):Calls Tryz.prog 68 #[.slice a 0 c] w fun e w'=>e= .returned (.bool true)∧w'=w:=by
 go_enter Tryz.func68,Tryz.ntmps68
 go_wp2
 go_loopw [3] (fun i wr=>i= .int .i64 0∧wr=w) (fun _ _=>0)
 case atStart=>exact⟨rfl,rfl⟩
 case round=>
  obtain⟨rfl,rfl⟩:=hrel
  go_wp2
  go_ret
  exact⟨rfl,rfl⟩
theorem okI0(w:World)(a:Option Addr)(c:Nat):Calls Tryz.prog 69 #[.slice a 0 c] w fun e w'=>e= .returned (.bool true)∧w'=w:=by
 go_enter Tryz.func69,Tryz.ntmps69
 go_wp2
 go_loopw [3] (fun i wr=>i= .int .i64 0∧wr=w) (fun _ _=>0)
 case atStart=>exact⟨rfl,rfl⟩
 case round=>
  obtain⟨rfl,rfl⟩:=hrel
  go_wp2
  go_ret
  exact⟨rfl,rfl⟩
theorem kindA0(w:World)(a:Option Addr)(c:Nat)(no:Int):Calls Tryz.prog 75 #[.slice a 0 c,.int .i64 no] w fun e w'=>e= .returned (.int .i64 0)∧w'=w:=by
 go_enter Tryz.func75,Tryz.ntmps75
 go_wp2
 go_loopw [5] (fun i wr=>i= .int .i64 0∧wr=w) (fun _ _=>0)
 case atStart=>exact⟨rfl,rfl⟩
 case round=>
  obtain⟨rfl,rfl⟩:=hrel
  go_wp2
  go_ret
  exact⟨rfl,rfl⟩
theorem kindI0(w:World)(a:Option Addr)(c:Nat)(no:Int):Calls Tryz.prog 76 #[.slice a 0 c,.int .i64 no] w fun e w'=>e= .returned (.int .i64 0)∧w'=w:=by
 go_enter Tryz.func76,Tryz.ntmps76
 go_wp2
 go_loopw [5] (fun i wr=>i= .int .i64 0∧wr=w) (fun _ _=>0)
 case atStart=>exact⟨rfl,rfl⟩
 case round=>
  obtain⟨rfl,rfl⟩:=hrel
  go_wp2
  go_ret
  exact⟨rfl,rfl⟩
theorem okB0(w:World)(a:Option Addr)(c:Nat):Calls Tryz.prog 70 #[.slice a 0 c] w fun e w'=>e= .returned (.bool true)∧w'=w:=by
 go_enter Tryz.func70,Tryz.ntmps70
 go_wp2
 go_loopw [3,4] (fun i _ wr=>i= .int .i64 0∧wr=w) (fun _ _ _=>0)
 case atStart=>exact⟨rfl,rfl⟩
 case round=>
  obtain⟨rfl,rfl⟩:=hrel
  go_wp2
  go_ret
  exact⟨rfl,rfl⟩
theorem okL0(w:World)(a:Option Addr)(c:Nat):Calls Tryz.prog 71 #[.slice a 0 c] w fun e w'=>e= .returned (.bool true)∧w'=w:=by
 go_enter Tryz.func71,Tryz.ntmps71
 go_wp2
 go_loopw [3,4,5,6] (fun _ _ i _ wr=>i= .int .i64 0∧wr=w) (fun _ _ _ _ _=>0)
 case atStart=>exact⟨rfl,rfl⟩
 case round=>
  obtain⟨rfl,rfl⟩:=hrel
  go_wp2
  go_ret
  exact⟨rfl,rfl⟩
theorem okT0(w:World)(a:Option Addr)(c:Nat):Calls Tryz.prog 72 #[.slice a 0 c] w fun e w'=>e= .returned (.bool true)∧w'=w:=by
 go_enter Tryz.func72,Tryz.ntmps72
 go_wp2
 go_loopw [3] (fun i wr=>i= .int .i64 0∧wr=w) (fun _ _=>0)
 case atStart=>exact⟨rfl,rfl⟩
 case round=>
  obtain⟨rfl,rfl⟩:=hrel
  go_wp2
  go_ret
  exact⟨rfl,rfl⟩
theorem of0(w:World)(a:Option Addr)(c:Nat)(p q:Int):Calls Tryz.prog 139 #[.slice a 0 c,.int .i64 p,.int .i64 q] w fun e w'=>e= .returned (.int .i64 0)∧w'=w:=by
 go_enter Tryz.func139,Tryz.ntmps139
 go_wp2
 go_loopw [7] (fun i wr=>i= .int .i64 0∧wr=w) (fun _ _=>0)
 case atStart=>exact⟨rfl,rfl⟩
 case round=>
  obtain⟨rfl,rfl⟩:=hrel
  go_wp2
  go_ret
  exact⟨rfl,rfl⟩
theorem split0(w:World)(a:Option Addr)(c:Nat)(p q:Int):Calls Tryz.prog 137 #[.slice a 0 c,.int .i64 p,.int .i64 q] w fun e w'=>∃g1 c1 g2 c2,e= .returned (.tuple #[.slice (some ⟨g1,0,none⟩) 0 c1,.slice (some ⟨g2,0,none⟩) 0 c2])∧Tup5.Own5 113 w' w.heap.size g1 0 c1 []∧Below w.heap.size w w':=by
 have O1:=zh (show Tup5.Own5 113 ((w.alloc (.cells #[] 113)).alloc (.cells #[] 113)) w.heap.size w.heap.size 0 0 [] from World.ownsRow.alloc (World.ownsRow_lit w #[] 0 (Nat.le_refl _) (by decide) rfl) _)
 have B1:=zh ((one_more w (.cells #[] 113)).alloc (by simp) (.cells #[] 113))
 go_enter Tryz.func137,Tryz.ntmps137
 go_wp2
 go_loopw [8,9,10] (fun l m i wr=>l= .slice (some ⟨w.heap.size,0,none⟩) 0 0∧m= .slice (some ⟨w.heap.size+1,0,none⟩) 0 0∧i= .int .i64 0∧wr=((w.alloc (.cells #[] 113)).alloc (.cells #[] 113))) (fun _ _ _ _=>0)
 case atStart=>exact⟨rfl,rfl,rfl,rfl⟩
 case round=>
  obtain⟨rfl,rfl,rfl,rfl⟩:=hrel
  go_wp2
  go_ret2
  exact⟨w.heap.size,0,_,0,rfl,zu O1,zu B1⟩
theorem sKindA(w:World)(x:Ix)(no r:Int)(h:RdV w x)(hr:Chart.Right 20 4 x.b.ac)(hk:kindOf x.b.ac no=r):
  Calls Tryz.prog 75 #[.slice x.aa x.b.ac.length x.ca,.int .i64 no] w fun e w'=>e= .returned (.int .i64 r)∧Below w.heap.size w w':=by
 by_cases z:x.b.ac.length=0
 ·rw[z]
  have e:r=0:=by rw[←hk,List.eq_nil_of_length_eq_zero z];rfl
  exact(kindA0 w x.aa x.ca no).mono fun e' w' ⟨h1,h2⟩=>⟨by rw[h1,e],by rw[h2];exact Below.refl _ _⟩
 ·obtain⟨g,eg⟩:=h.ea z
  rw[eg]
  exact(AccountSOk.sKind w g _ x.ca x.b.ac no rfl h.na (h.ra g eg).2).mono fun e w' ⟨r',h1,h2,q,h3⟩=>⟨by rw[h2,kind_is hr h1,hk],by rw[h3];exact below_drewN (Below.refl _ _) q⟩
theorem sKindI(w:World)(x:Ix)(no r:Int)(h:RdV w x)(hr:Chart.Right 8 2 x.b.ic)(hk:kindOf x.b.ic no=r):
  Calls Tryz.prog 76 #[.slice x.ai x.b.ic.length x.ci,.int .i64 no] w fun e w'=>e= .returned (.int .i64 r)∧Below w.heap.size w w':=by
 by_cases z:x.b.ic.length=0
 ·rw[z]
  have e:r=0:=by rw[←hk,List.eq_nil_of_length_eq_zero z];rfl
  exact(kindI0 w x.ai x.ci no).mono fun e' w' ⟨h1,h2⟩=>⟨by rw[h1,e],by rw[h2];exact Below.refl _ _⟩
 ·obtain⟨g,eg⟩:=h.ei z
  rw[eg]
  exact(InstrSOk.sKind w g _ x.ci x.b.ic no rfl h.ni (h.ri g eg).2).mono fun e w' ⟨r',h1,h2,q,h3⟩=>⟨by rw[h2,kind_is hr h1,hk],by rw[h3];exact below_drewN (Below.refl _ _) q⟩
theorem sOksA(w:World)(x:Ix)(ok:Bool)(h:RdV w x)(hok:Chart.Says ok 20 4 x.b.ac):Calls Tryz.prog 68 #[.slice x.aa x.b.ac.length x.ca] w fun e w'=>e= .returned (.bool ok)∧Below w.heap.size w w':=by
 by_cases z:x.b.ac.length=0
 ·rw[z]
  have e:ok=true:=hok.2 ⟨by omega,fun i hi=>absurd hi (by omega)⟩
  exact(okA0 w x.aa x.ca).mono fun e' w' ⟨h1,h2⟩=>⟨by rw[h1,e],by rw[h2];exact Below.refl _ _⟩
 ·obtain⟨g,eg⟩:=h.ea z
  rw[eg]
  exact(AccountSOk.sOk w g _ x.ca x.b.ac ok rfl h.na (h.ra g eg).2 hok).mono fun e w' ⟨h1,q,h2⟩=>⟨h1,by rw[h2];exact below_drewN (Below.refl _ _) q⟩
theorem sOksI(w:World)(x:Ix)(ok:Bool)(h:RdV w x)(hok:Chart.Says ok 8 2 x.b.ic):Calls Tryz.prog 69 #[.slice x.ai x.b.ic.length x.ci] w fun e w'=>e= .returned (.bool ok)∧Below w.heap.size w w':=by
 by_cases z:x.b.ic.length=0
 ·rw[z]
  have e:ok=true:=hok.2 ⟨by omega,fun i hi=>absurd hi (by omega)⟩
  exact(okI0 w x.ai x.ci).mono fun e' w' ⟨h1,h2⟩=>⟨by rw[h1,e],by rw[h2];exact Below.refl _ _⟩
 ·obtain⟨g,eg⟩:=h.ei z
  rw[eg]
  exact(InstrSOk.sOk w g _ x.ci x.b.ic ok rfl h.ni (h.ri g eg).2 hok).mono fun e w' ⟨h1,q,h2⟩=>⟨h1,by rw[h2];exact below_drewN (Below.refl _ _) q⟩
theorem sOksB(w:World)(x:Ix)(ok:Bool)(h:RdV w x)(hok:Bals.Says ok (Bals.Right x.b.bs)):Calls Tryz.prog 70 #[.slice x.ab x.b.bs.length x.cb] w fun e w'=>e= .returned (.bool ok)∧Below w.heap.size w w':=by
 by_cases z:x.b.bs.length=0
 ·rw[z]
  have e:ok=true:=hok.of ⟨by omega,fun i hi=>absurd hi (by omega)⟩
  exact(okB0 w x.ab x.cb).mono fun e' w' ⟨h1,h2⟩=>⟨by rw[h1,e],by rw[h2];exact Below.refl _ _⟩
 ·obtain⟨g,eg⟩:=h.eb z
  rw[eg]
  exact SOk3.sOk w g _ x.cb x.b.bs ok rfl h.nb (h.rb g eg).1 (h.rb g eg).2 hok
theorem sOksL(w:World)(x:Ix)(ok:Bool)(h:RdV w x)(hok:Says ok (Lots.Right x.b.ls)):Calls Tryz.prog 71 #[.slice x.al x.b.ls.length x.cl] w fun e w'=>e= .returned (.bool ok)∧Below w.heap.size w w':=by
 by_cases z:x.b.ls.length=0
 ·rw[z]
  have e:ok=true:=hok.of ⟨by omega,fun i hi=>absurd hi (by omega),fun a i=>by rw[List.eq_nil_of_length_eq_zero z];simp[Lots.qtyOf,Lots.costOf]⟩
  exact(okL0 w x.al x.cl).mono fun e' w' ⟨h1,h2⟩=>⟨by rw[h1,e],by rw[h2];exact Below.refl _ _⟩
 ·obtain⟨g,eg⟩:=h.el z
  rw[eg]
  exact SOk5.sOk w g _ x.cl x.b.ls ok rfl h.nl (h.rl g eg).1 (h.rl g eg).2 hok
theorem sOksT(w:World)(x:Ix)(ok:Bool)(h:RdV w x)(hok:Says ok (TRight x.b.ts)):Calls Tryz.prog 72 #[.slice x.ats x.b.ts.length x.ct] w fun e w'=>e= .returned (.bool ok)∧Below w.heap.size w w':=by
 by_cases z:x.b.ts.length=0
 ·rw[z]
  have e:ok=true:=hok.of ⟨by omega,fun i hi=>absurd hi (by omega)⟩
  exact(okT0 w x.ats x.ct).mono fun e' w' ⟨h1,h2⟩=>⟨by rw[h1,e],by rw[h2];exact Below.refl _ _⟩
 ·obtain⟨g,eg⟩:=h.et z
  rw[eg]
  exact ITrade.sOk w g _ x.ct x.b.ts ok rfl h.nt (h.rt g eg).1 (h.rt g eg).2 hok
theorem sOfV(w:World)(x:Ix)(p q:Int)(h:RdV w x):Calls Tryz.prog 139 #[.slice x.ab x.b.bs.length x.cb,.int .i64 p,.int .i64 q] w fun e w'=>e= .returned (.int .i64 (val x.b.bs p q))∧w'=w:=by
 by_cases z:x.b.bs.length=0
 ·rw[z,List.eq_nil_of_length_eq_zero z]
  exact of0 w x.ab x.cb p q
 ·obtain⟨g,eg⟩:=h.eb z
  rw[eg]
  exact Look.sOf w g _ x.cb x.b.bs p q rfl h.nb (h.rb g eg).2
theorem sSplitV(w:World)(x:Ix)(p q:Int)(h:RdV w x)(h20:x.b.ls.length≤100000):Calls Tryz.prog 137 #[.slice x.al x.b.ls.length x.cl,.int .i64 p,.int .i64 q] w fun e w'=>∃g1 c1 g2 n2 c2,e= .returned (.tuple #[.slice (some ⟨g1,0,none⟩) (ownL x.b.ls p q).length c1,.slice (some ⟨g2,0,none⟩) n2 c2])∧Tup5.Own5 113 w' w.heap.size g1 (ownL x.b.ls p q).length c1 (ownL x.b.ls p q)∧Below w.heap.size w w':=by
 by_cases z:x.b.ls.length=0
 ·rw[z,List.eq_nil_of_length_eq_zero z]
  exact(split0 w x.al x.cl p q).mono fun e w' ⟨g1,c1,g2,c2,h1,h2,h3⟩=>⟨g1,c1,g2,0,c2,h1,h2,h3⟩
 ·obtain⟨g,eg⟩:=h.el z
  rw[eg]
  exact(SSplit.sSplit w g _ x.cl x.b.ls p q rfl h20 (h.rl g eg).1 (h.rl g eg).2).mono fun e w' ⟨g1,c1,g2,c2,h1,h2,_,_,h3⟩=>⟨g1,c1,g2,_,c2,h1,h2,h3⟩
end BMemV13
namespace SRead13L
theorem row_step{W W':World}{base:Nat}{e:TypeId}{m:Nat}{v:Value}{n:Nat}{vs:List Value}(h:W.ownsRow base e m v n vs)(k:Below W.heap.size W W'):W'.ownsRow base e m v n vs:=
 World.ownsRow.kept h (row:=none) ⟨k.os,k.tape,k.output,k.size,fun i hi _=>k.block i hi⟩ (by
  cases hb:v.ownBlock with
  |none=>exact .inl rfl
  |some g=>exact .inr (by simp))
theorem addr_of{W:World}{base:Nat}{e:TypeId}{m n c:Nat}{a:Option Addr}{vs:List Value}(h:W.ownsRow base e m (.slice a n c) n vs):(n≠0→∃g,a=some ⟨g,0,none⟩)∧∀g,a=some ⟨g,0,none⟩→g<W.heap.size:=by
 refine⟨fun hn=>?_,fun g e=>(World.ownsRow.lt h g (by rw[e];rfl)).2⟩
 rcases h.2 with⟨h1,_⟩|⟨g,c',cur,h1,_⟩
 ·have:n=0:=by simp at h1;omega
  exact absurd this hn
 ·have:a=some ⟨g,0,none⟩∧c=c':=by simpa using h1
  exact⟨g,this.1⟩
end SRead13L
namespace VB13
open BMem Bks BHelp BkEq BMemV13
open SRead13L (row_step)
open IBalsFit (one_more)
theorem other{W W':World}{base base':Nat}{e e':TypeId}{m m':Nat}{v v':Value}{n n':Nat}{vs vs':List Value}(h:W.ownsRow base e m v n vs)(k:W.ownsRow base' e' m' v' n' vs')(ne:e≠e')(g:W.grownBy W' v'.ownBlock):W'.ownsRow base e m v n vs:=
 World.ownsRow.kept h g (by
  cases hb:v.ownBlock with
  |none=>exact .inl rfl
  |some b=>
   refine .inr (fun eq=>?_)
   rcases h.2 with⟨h1,_⟩|⟨b1,c1,cur1,h1,_,h2,_⟩
   ·rw[h1] at hb;simp[Value.ownBlock] at hb
   ·rcases k.2 with⟨k1,_⟩|⟨b2,c2,cur2,k1,_,k2,_⟩
    ·rw[k1] at eq;simp[Value.ownBlock] at eq
    ·rw[h1] at hb
     rw[k1] at eq
     have e1:b1=b:=by simpa[Value.ownBlock] using hb
     have e2:b=b2:=by simpa[Value.ownBlock] using eq
     subst e1 e2
     rw[h2] at k2
     injection k2 with k2
     injection k2 with _ k2
     exact ne k2)
structure OwV(w:World)(base:Nat)(x:Ix):Prop where
 oa:w.ownsRow base 108 2 (.slice x.aa x.b.ac.length x.ca) x.b.ac.length (Pairs.flat x.b.ac)
 oi:w.ownsRow base 109 2 (.slice x.ai x.b.ic.length x.ci) x.b.ic.length (Pairs.flat x.b.ic)
 ob:w.ownsRow base 111 3 (.slice x.ab x.b.bs.length x.cb) x.b.bs.length (Triples.flat3 x.b.bs)
 ol:w.ownsRow base 113 5 (.slice x.al x.b.ls.length x.cl) x.b.ls.length (Tup5.flat5 x.b.ls)
 ot:w.ownsRow base 115 8 (.slice x.ats x.b.ts.length x.ct) x.b.ts.length (Tup8.flat8 x.b.ts)
structure OwMV(w:World)(base:Nat)(x:Ix):Prop where
 oa:w.ownsRow base 108 2 (.slice x.aa x.b.ac.length x.ca) x.b.ac.length (Pairs.flat (AccountMark.marks 1 x.b.ac.length))
 oi:w.ownsRow base 109 2 (.slice x.ai x.b.ic.length x.ci) x.b.ic.length (Pairs.flat (InstrMark.marks (e1 x.b) x.b.ic.length))
 ob:w.ownsRow base 111 3 (.slice x.ab x.b.bs.length x.cb) x.b.bs.length (Triples.flat3 (BalHelp.marks (e2 x.b) x.b.bs.length))
 ol:w.ownsRow base 113 5 (.slice x.al x.b.ls.length x.cl) x.b.ls.length (Tup5.flat5 (LotHelp.marks (e3 x.b) x.b.ls.length))
 ot:w.ownsRow base 115 8 (.slice x.ats x.b.ts.length x.ct) x.b.ts.length (Tup8.flat8 (TradeHelp.marks (e4 x.b) x.b.ts.length))
structure TurnV(x:Ix)(w w':World):Prop where
 os:w'.os=w.os
 tape:w'.tape=w.tape
 output:w'.output=w.output
 size:w.heap.size≤w'.heap.size
 block:∀k,k<w.heap.size→some k≠(.slice x.aa x.b.ac.length x.ca:Value).ownBlock→some k≠(.slice x.ai x.b.ic.length x.ci:Value).ownBlock→some k≠(.slice x.ab x.b.bs.length x.cb:Value).ownBlock→some k≠(.slice x.al x.b.ls.length x.cl:Value).ownBlock→some k≠(.slice x.ats x.b.ts.length x.ct:Value).ownBlock→w'.heap[k]?=w.heap[k]?
theorem TurnV.grown{x:Ix}{w u v:World}{row:Option Nat}(h:TurnV x w u)(k:u.grownBy v row)(hg:row=(.slice x.aa x.b.ac.length x.ca:Value).ownBlock∨row=(.slice x.ai x.b.ic.length x.ci:Value).ownBlock∨row=(.slice x.ab x.b.bs.length x.cb:Value).ownBlock∨row=(.slice x.al x.b.ls.length x.cl:Value).ownBlock∨row=(.slice x.ats x.b.ts.length x.ct:Value).ownBlock):TurnV x w v:=
 ⟨k.os.trans h.os,k.tape.trans h.tape,k.output.trans h.output,Nat.le_trans h.size k.size,fun j hj a b c d e=>(k.block j (Nat.lt_of_lt_of_le hj h.size) (fun q=>by
  rcases hg with r|r|r|r|r
  ·exact a (q.trans r)
  ·exact b (q.trans r)
  ·exact c (q.trans r)
  ·exact d (q.trans r)
  ·exact e (q.trans r))).trans (h.block j hj a b c d e)⟩
theorem TurnV.of{x:Ix}{w w':World}(h:Below w.heap.size w w'):TurnV x w w':=⟨h.os,h.tape,h.output,h.size,fun j hj _ _ _ _ _=>h.block j hj⟩
theorem TurnV.below{x:Ix}{w w':World}{base:Nat}(h:TurnV x w w')(o:OwV w base x)(hb:base≤w.heap.size):Below base w w':=
 ⟨h.os,h.tape,h.output,h.size,fun j hj=>h.block j (by omega) (fun e=>by have:=(World.ownsRow.lt o.oa j e.symm).1;omega) (fun e=>by have:=(World.ownsRow.lt o.oi j e.symm).1;omega) (fun e=>by have:=(World.ownsRow.lt o.ob j e.symm).1;omega) (fun e=>by have:=(World.ownsRow.lt o.ol j e.symm).1;omega) (fun e=>by have:=(World.ownsRow.lt o.ot j e.symm).1;omega)⟩
theorem OwV.step{w w':World}{base:Nat}{x:Ix}(h:OwV w base x)(k:Below w.heap.size w w'):OwV w' base x:=⟨row_step h.oa k,row_step h.oi k,row_step h.ob k,row_step h.ol k,row_step h.ot k⟩
theorem OwMV.step{w w':World}{base:Nat}{x:Ix}(h:OwMV w base x)(k:Below w.heap.size w w'):OwMV w' base x:=⟨row_step h.oa k,row_step h.oi k,row_step h.ob k,row_step h.ol k,row_step h.ot k⟩
theorem OwV.rd{w:World}{base:Nat}{x:Ix}(h:OwV w base x)(hn:Small x.b):RdV w x:=by
 obtain⟨n1,n2,n3,n4,n5⟩:=hn
 refine⟨(SRead13L.addr_of h.oa).1,fun g e=>⟨(SRead13L.addr_of h.oa).2 g e,?_⟩,n1,(SRead13L.addr_of h.oi).1,fun g e=>⟨(SRead13L.addr_of h.oi).2 g e,?_⟩,n2,(SRead13L.addr_of h.ob).1,fun g e=>⟨(SRead13L.addr_of h.ob).2 g e,?_⟩,n3,(SRead13L.addr_of h.ol).1,fun g e=>⟨(SRead13L.addr_of h.ol).2 g e,?_⟩,n4,(SRead13L.addr_of h.ot).1,fun g e=>⟨(SRead13L.addr_of h.ot).2 g e,?_⟩,n5⟩
 ·have o:=h.oa
  rw[e] at o
  exact Pairs.Own.at o
 ·have o:=h.oi
  rw[e] at o
  exact Pairs.Own.at o
 ·have o:=h.ob
  rw[e] at o
  exact Triples.Own3.at o
 ·have o:=h.ol
  rw[e] at o
  exact Tup5.Own5.at o
 ·have o:=h.ot
  rw[e] at o
  exact Tup8.Own8.at o
theorem eqNAccount(w:World)(a1 a2:Option Addr)(c1 c2:Nat):Calls Tryz.prog 97 #[.slice a1 0 c1,.slice a2 0 c2] w fun e w'=>e= .returned (.bool true)∧w'=w:=by
 go_enter Tryz.func97,Tryz.ntmps97
 go_wp2
 go_loopw [5] (fun j wr=>j= .int .i64 0∧wr=w) (fun _ _=>0)
 case atStart=>exact⟨rfl,rfl⟩
 case round=>
  obtain⟨rfl,rfl⟩:=hrel
  go_wp2
  go_ret
  exact⟨rfl,rfl⟩
theorem markNAccount(w:World)(a:Option Addr)(c:Nat)(s:Int):Calls Tryz.prog 103 #[.slice a 0 c,.int .i64 s] w fun e w'=>e= .returned (.int .i64 s)∧w'=w:=by
 go_enter Tryz.func103,Tryz.ntmps103
 go_wp2
 go_loopw [1,5] (fun m j wr=>m= .int .i64 s∧j= .int .i64 0∧wr=w) (fun _ _ _=>0)
 case atStart=>exact⟨rfl,rfl,rfl⟩
 case round=>
  obtain⟨rfl,rfl,rfl⟩:=hrel
  go_wp2
  go_ret
  exact⟨rfl,rfl⟩
theorem heldNAccount(w:World)(a:Option Addr)(c:Nat)(s:Int):Calls Tryz.prog 109 #[.slice a 0 c,.int .i64 s] w fun e w'=>e= .returned (.int .i64 s)∧w'=w:=by
 go_enter Tryz.func109,Tryz.ntmps109
 go_wp2
 go_loopw [1,5] (fun m j wr=>m= .int .i64 s∧j= .int .i64 0∧wr=w) (fun _ _ _=>0)
 case atStart=>exact⟨rfl,rfl,rfl⟩
 case round=>
  obtain⟨rfl,rfl,rfl⟩:=hrel
  go_wp2
  go_ret
  exact⟨rfl,rfl⟩
theorem eqAccount(w:World)(x y:Ix)(hb:y.b=x.b)(hx:RdV w x)(hy:RdV w y):Calls Tryz.prog 97 #[.slice x.aa x.b.ac.length x.ca,.slice y.aa x.b.ac.length y.ca] w fun e w'=>e= .returned (.bool true)∧Below w.heap.size w w':=by
 by_cases z:x.b.ac.length=0
 ·rw[z]
  exact(eqNAccount w _ _ _ _).mono fun e w' ⟨h1,h2⟩=>⟨h1,by rw[h2];exact Below.refl _ _⟩
 ·obtain⟨g1,e1⟩:=hx.ea z
  obtain⟨g2,e2⟩:=hy.ea (by rw[hb];exact z)
  have a1:=hx.ra g1 e1
  have a2:=hy.ra g2 e2
  rw[hb] at a2
  rw[e1,e2]
  exact AccountHelp.eqS w g1 g2 _ _ _ x.b.ac rfl hx.na a1.1 a2.1 a1.2 a2.2
theorem markAccount(w:World)(base n c:Nat)(a:Option Addr)(s:Int)(ps:List (Int×Int))(h20:n≤1048576)(s0:0≤s)(s1:s≤100000000)(ho:w.ownsRow base 108 2 (.slice a n c) n (Pairs.flat ps)):
  Calls Tryz.prog 103 #[.slice a n c,.int .i64 s] w fun e w'=>e= .returned (.int .i64 (s+2*(n:Int)))∧w'.ownsRow base 108 2 (.slice a n c) n (Pairs.flat (AccountMark.marks s n))∧w.grownBy w' (Value.slice a n c).ownBlock:=by
 have ho':=ho
 rcases ho.2 with⟨h1,h2⟩|⟨g,c',cur,h1,_⟩
 ·obtain⟨rfl,_,rfl⟩:a=none∧n=0∧c=0:=by simpa using h1
  subst h2
  exact(markNAccount w _ _ s).mono fun e w' ⟨q1,q2⟩=>⟨by rw[q1];simp,by rw[q2];exact World.ownsRow_nil w base _ _,by rw[q2];exact World.grownBy.refl _ _⟩
 ·obtain⟨rfl,rfl⟩:a=some ⟨g,0,none⟩∧c=c':=by simpa using h1
  exact AccountMark.markS w base g n c s ps h20 s0 s1 ho'
theorem heldAccount(w:World)(base n c:Nat)(a:Option Addr)(s:Int)(h20:n≤1048576)(s0:0≤s)(s1:s≤100000000)(ho:w.ownsRow base 108 2 (.slice a n c) n (Pairs.flat (AccountMark.marks s n))):
  Calls Tryz.prog 109 #[.slice a n c,.int .i64 s] w fun e w'=>e= .returned (.int .i64 (s+2*(n:Int)))∧w'=w:=by
 have ho':=ho
 rcases ho.2 with⟨h1,h2⟩|⟨g,c',cur,h1,_⟩
 ·obtain⟨rfl,_,rfl⟩:a=none∧n=0∧c=0:=by simpa using h1
  subst h2
  exact(heldNAccount w _ _ s).mono fun e w' ⟨q1,q2⟩=>⟨by rw[q1];simp,q2⟩
 ·obtain⟨rfl,rfl⟩:a=some ⟨g,0,none⟩∧c=c':=by simpa using h1
  exact AccountMark.heldS w g n c s h20 s0 s1 (Pairs.Own.at ho')
theorem eqNInstr(w:World)(a1 a2:Option Addr)(c1 c2:Nat):Calls Tryz.prog 98 #[.slice a1 0 c1,.slice a2 0 c2] w fun e w'=>e= .returned (.bool true)∧w'=w:=by
 go_enter Tryz.func98,Tryz.ntmps98
 go_wp2
 go_loopw [5] (fun j wr=>j= .int .i64 0∧wr=w) (fun _ _=>0)
 case atStart=>exact⟨rfl,rfl⟩
 case round=>
  obtain⟨rfl,rfl⟩:=hrel
  go_wp2
  go_ret
  exact⟨rfl,rfl⟩
theorem markNInstr(w:World)(a:Option Addr)(c:Nat)(s:Int):Calls Tryz.prog 104 #[.slice a 0 c,.int .i64 s] w fun e w'=>e= .returned (.int .i64 s)∧w'=w:=by
 go_enter Tryz.func104,Tryz.ntmps104
 go_wp2
 go_loopw [1,5] (fun m j wr=>m= .int .i64 s∧j= .int .i64 0∧wr=w) (fun _ _ _=>0)
 case atStart=>exact⟨rfl,rfl,rfl⟩
 case round=>
  obtain⟨rfl,rfl,rfl⟩:=hrel
  go_wp2
  go_ret
  exact⟨rfl,rfl⟩
theorem heldNInstr(w:World)(a:Option Addr)(c:Nat)(s:Int):Calls Tryz.prog 110 #[.slice a 0 c,.int .i64 s] w fun e w'=>e= .returned (.int .i64 s)∧w'=w:=by
 go_enter Tryz.func110,Tryz.ntmps110
 go_wp2
 go_loopw [1,5] (fun m j wr=>m= .int .i64 s∧j= .int .i64 0∧wr=w) (fun _ _ _=>0)
 case atStart=>exact⟨rfl,rfl,rfl⟩
 case round=>
  obtain⟨rfl,rfl,rfl⟩:=hrel
  go_wp2
  go_ret
  exact⟨rfl,rfl⟩
theorem eqInstr(w:World)(x y:Ix)(hb:y.b=x.b)(hx:RdV w x)(hy:RdV w y):Calls Tryz.prog 98 #[.slice x.ai x.b.ic.length x.ci,.slice y.ai x.b.ic.length y.ci] w fun e w'=>e= .returned (.bool true)∧Below w.heap.size w w':=by
 by_cases z:x.b.ic.length=0
 ·rw[z]
  exact(eqNInstr w _ _ _ _).mono fun e w' ⟨h1,h2⟩=>⟨h1,by rw[h2];exact Below.refl _ _⟩
 ·obtain⟨g1,e1⟩:=hx.ei z
  obtain⟨g2,e2⟩:=hy.ei (by rw[hb];exact z)
  have a1:=hx.ri g1 e1
  have a2:=hy.ri g2 e2
  rw[hb] at a2
  rw[e1,e2]
  exact InstrHelp.eqS w g1 g2 _ _ _ x.b.ic rfl hx.ni a1.1 a2.1 a1.2 a2.2
theorem markInstr(w:World)(base n c:Nat)(a:Option Addr)(s:Int)(ps:List (Int×Int))(h20:n≤1048576)(s0:0≤s)(s1:s≤100000000)(ho:w.ownsRow base 109 2 (.slice a n c) n (Pairs.flat ps)):
  Calls Tryz.prog 104 #[.slice a n c,.int .i64 s] w fun e w'=>e= .returned (.int .i64 (s+2*(n:Int)))∧w'.ownsRow base 109 2 (.slice a n c) n (Pairs.flat (InstrMark.marks s n))∧w.grownBy w' (Value.slice a n c).ownBlock:=by
 have ho':=ho
 rcases ho.2 with⟨h1,h2⟩|⟨g,c',cur,h1,_⟩
 ·obtain⟨rfl,_,rfl⟩:a=none∧n=0∧c=0:=by simpa using h1
  subst h2
  exact(markNInstr w _ _ s).mono fun e w' ⟨q1,q2⟩=>⟨by rw[q1];simp,by rw[q2];exact World.ownsRow_nil w base _ _,by rw[q2];exact World.grownBy.refl _ _⟩
 ·obtain⟨rfl,rfl⟩:a=some ⟨g,0,none⟩∧c=c':=by simpa using h1
  exact InstrMark.markS w base g n c s ps h20 s0 s1 ho'
theorem heldInstr(w:World)(base n c:Nat)(a:Option Addr)(s:Int)(h20:n≤1048576)(s0:0≤s)(s1:s≤100000000)(ho:w.ownsRow base 109 2 (.slice a n c) n (Pairs.flat (InstrMark.marks s n))):
  Calls Tryz.prog 110 #[.slice a n c,.int .i64 s] w fun e w'=>e= .returned (.int .i64 (s+2*(n:Int)))∧w'=w:=by
 have ho':=ho
 rcases ho.2 with⟨h1,h2⟩|⟨g,c',cur,h1,_⟩
 ·obtain⟨rfl,_,rfl⟩:a=none∧n=0∧c=0:=by simpa using h1
  subst h2
  exact(heldNInstr w _ _ s).mono fun e w' ⟨q1,q2⟩=>⟨by rw[q1];simp,q2⟩
 ·obtain⟨rfl,rfl⟩:a=some ⟨g,0,none⟩∧c=c':=by simpa using h1
  exact InstrMark.heldS w g n c s h20 s0 s1 (Pairs.Own.at ho')
theorem eqNBal(w:World)(a1 a2:Option Addr)(c1 c2:Nat):Calls Tryz.prog 99 #[.slice a1 0 c1,.slice a2 0 c2] w fun e w'=>e= .returned (.bool true)∧w'=w:=by
 go_enter Tryz.func99,Tryz.ntmps99
 go_wp2
 go_loopw [5] (fun j wr=>j= .int .i64 0∧wr=w) (fun _ _=>0)
 case atStart=>exact⟨rfl,rfl⟩
 case round=>
  obtain⟨rfl,rfl⟩:=hrel
  go_wp2
  go_ret
  exact⟨rfl,rfl⟩
theorem markNBal(w:World)(a:Option Addr)(c:Nat)(s:Int):Calls Tryz.prog 105 #[.slice a 0 c,.int .i64 s] w fun e w'=>e= .returned (.int .i64 s)∧w'=w:=by
 go_enter Tryz.func105,Tryz.ntmps105
 go_wp2
 go_loopw [1,5] (fun m j wr=>m= .int .i64 s∧j= .int .i64 0∧wr=w) (fun _ _ _=>0)
 case atStart=>exact⟨rfl,rfl,rfl⟩
 case round=>
  obtain⟨rfl,rfl,rfl⟩:=hrel
  go_wp2
  go_ret
  exact⟨rfl,rfl⟩
theorem heldNBal(w:World)(a:Option Addr)(c:Nat)(s:Int):Calls Tryz.prog 111 #[.slice a 0 c,.int .i64 s] w fun e w'=>e= .returned (.int .i64 s)∧w'=w:=by
 go_enter Tryz.func111,Tryz.ntmps111
 go_wp2
 go_loopw [1,5] (fun m j wr=>m= .int .i64 s∧j= .int .i64 0∧wr=w) (fun _ _ _=>0)
 case atStart=>exact⟨rfl,rfl,rfl⟩
 case round=>
  obtain⟨rfl,rfl,rfl⟩:=hrel
  go_wp2
  go_ret
  exact⟨rfl,rfl⟩
theorem eqBal(w:World)(x y:Ix)(hb:y.b=x.b)(hx:RdV w x)(hy:RdV w y):Calls Tryz.prog 99 #[.slice x.ab x.b.bs.length x.cb,.slice y.ab x.b.bs.length y.cb] w fun e w'=>e= .returned (.bool true)∧Below w.heap.size w w':=by
 by_cases z:x.b.bs.length=0
 ·rw[z]
  exact(eqNBal w _ _ _ _).mono fun e w' ⟨h1,h2⟩=>⟨h1,by rw[h2];exact Below.refl _ _⟩
 ·obtain⟨g1,e1⟩:=hx.eb z
  obtain⟨g2,e2⟩:=hy.eb (by rw[hb];exact z)
  have a1:=hx.rb g1 e1
  have a2:=hy.rb g2 e2
  rw[hb] at a2
  rw[e1,e2]
  exact BalHelp.eqS w g1 g2 _ _ _ x.b.bs rfl hx.nb a1.1 a2.1 a1.2 a2.2
theorem markBal(w:World)(base n c:Nat)(a:Option Addr)(s:Int)(ps:List Bals.T3)(h20:n≤1048576)(s0:0≤s)(s1:s≤100000000)(ho:w.ownsRow base 111 3 (.slice a n c) n (Triples.flat3 ps)):
  Calls Tryz.prog 105 #[.slice a n c,.int .i64 s] w fun e w'=>e= .returned (.int .i64 (s+3*(n:Int)))∧w'.ownsRow base 111 3 (.slice a n c) n (Triples.flat3 (BalHelp.marks s n))∧w.grownBy w' (Value.slice a n c).ownBlock:=by
 have ho':=ho
 rcases ho.2 with⟨h1,h2⟩|⟨g,c',cur,h1,_⟩
 ·obtain⟨rfl,_,rfl⟩:a=none∧n=0∧c=0:=by simpa using h1
  subst h2
  exact(markNBal w _ _ s).mono fun e w' ⟨q1,q2⟩=>⟨by rw[q1];simp,by rw[q2];exact World.ownsRow_nil w base _ _,by rw[q2];exact World.grownBy.refl _ _⟩
 ·obtain⟨rfl,rfl⟩:a=some ⟨g,0,none⟩∧c=c':=by simpa using h1
  exact BalHelp.markS w base g n c s ps h20 s0 s1 ho'
theorem heldBal(w:World)(base n c:Nat)(a:Option Addr)(s:Int)(h20:n≤1048576)(s0:0≤s)(s1:s≤100000000)(ho:w.ownsRow base 111 3 (.slice a n c) n (Triples.flat3 (BalHelp.marks s n))):
  Calls Tryz.prog 111 #[.slice a n c,.int .i64 s] w fun e w'=>e= .returned (.int .i64 (s+3*(n:Int)))∧w'=w:=by
 have ho':=ho
 rcases ho.2 with⟨h1,h2⟩|⟨g,c',cur,h1,_⟩
 ·obtain⟨rfl,_,rfl⟩:a=none∧n=0∧c=0:=by simpa using h1
  subst h2
  exact(heldNBal w _ _ s).mono fun e w' ⟨q1,q2⟩=>⟨by rw[q1];simp,q2⟩
 ·obtain⟨rfl,rfl⟩:a=some ⟨g,0,none⟩∧c=c':=by simpa using h1
  exact BalHeld.heldS w g n c s h20 s0 s1 (Triples.Own3.at ho')
theorem eqNLot(w:World)(a1 a2:Option Addr)(c1 c2:Nat):Calls Tryz.prog 100 #[.slice a1 0 c1,.slice a2 0 c2] w fun e w'=>e= .returned (.bool true)∧w'=w:=by
 go_enter Tryz.func100,Tryz.ntmps100
 go_wp2
 go_loopw [5] (fun j wr=>j= .int .i64 0∧wr=w) (fun _ _=>0)
 case atStart=>exact⟨rfl,rfl⟩
 case round=>
  obtain⟨rfl,rfl⟩:=hrel
  go_wp2
  go_ret
  exact⟨rfl,rfl⟩
theorem markNLot(w:World)(a:Option Addr)(c:Nat)(s:Int):Calls Tryz.prog 106 #[.slice a 0 c,.int .i64 s] w fun e w'=>e= .returned (.int .i64 s)∧w'=w:=by
 go_enter Tryz.func106,Tryz.ntmps106
 go_wp2
 go_loopw [1,5] (fun m j wr=>m= .int .i64 s∧j= .int .i64 0∧wr=w) (fun _ _ _=>0)
 case atStart=>exact⟨rfl,rfl,rfl⟩
 case round=>
  obtain⟨rfl,rfl,rfl⟩:=hrel
  go_wp2
  go_ret
  exact⟨rfl,rfl⟩
theorem heldNLot(w:World)(a:Option Addr)(c:Nat)(s:Int):Calls Tryz.prog 112 #[.slice a 0 c,.int .i64 s] w fun e w'=>e= .returned (.int .i64 s)∧w'=w:=by
 go_enter Tryz.func112,Tryz.ntmps112
 go_wp2
 go_loopw [1,5] (fun m j wr=>m= .int .i64 s∧j= .int .i64 0∧wr=w) (fun _ _ _=>0)
 case atStart=>exact⟨rfl,rfl,rfl⟩
 case round=>
  obtain⟨rfl,rfl,rfl⟩:=hrel
  go_wp2
  go_ret
  exact⟨rfl,rfl⟩
theorem eqLot(w:World)(x y:Ix)(hb:y.b=x.b)(hx:RdV w x)(hy:RdV w y):Calls Tryz.prog 100 #[.slice x.al x.b.ls.length x.cl,.slice y.al x.b.ls.length y.cl] w fun e w'=>e= .returned (.bool true)∧Below w.heap.size w w':=by
 by_cases z:x.b.ls.length=0
 ·rw[z]
  exact(eqNLot w _ _ _ _).mono fun e w' ⟨h1,h2⟩=>⟨h1,by rw[h2];exact Below.refl _ _⟩
 ·obtain⟨g1,e1⟩:=hx.el z
  obtain⟨g2,e2⟩:=hy.el (by rw[hb];exact z)
  have a1:=hx.rl g1 e1
  have a2:=hy.rl g2 e2
  rw[hb] at a2
  rw[e1,e2]
  exact LotHelp.eqS w g1 g2 _ _ _ x.b.ls rfl hx.nl a1.1 a2.1 a1.2 a2.2
theorem markLot(w:World)(base n c:Nat)(a:Option Addr)(s:Int)(ps:List Tup5.T5)(h20:n≤1048576)(s0:0≤s)(s1:s≤100000000)(ho:w.ownsRow base 113 5 (.slice a n c) n (Tup5.flat5 ps)):
  Calls Tryz.prog 106 #[.slice a n c,.int .i64 s] w fun e w'=>e= .returned (.int .i64 (s+5*(n:Int)))∧w'.ownsRow base 113 5 (.slice a n c) n (Tup5.flat5 (LotHelp.marks s n))∧w.grownBy w' (Value.slice a n c).ownBlock:=by
 have ho':=ho
 rcases ho.2 with⟨h1,h2⟩|⟨g,c',cur,h1,_⟩
 ·obtain⟨rfl,_,rfl⟩:a=none∧n=0∧c=0:=by simpa using h1
  subst h2
  exact(markNLot w _ _ s).mono fun e w' ⟨q1,q2⟩=>⟨by rw[q1];simp,by rw[q2];exact World.ownsRow_nil w base _ _,by rw[q2];exact World.grownBy.refl _ _⟩
 ·obtain⟨rfl,rfl⟩:a=some ⟨g,0,none⟩∧c=c':=by simpa using h1
  exact LotHelp.markS w base g n c s ps h20 s0 s1 ho'
theorem heldLot(w:World)(base n c:Nat)(a:Option Addr)(s:Int)(h20:n≤1048576)(s0:0≤s)(s1:s≤100000000)(ho:w.ownsRow base 113 5 (.slice a n c) n (Tup5.flat5 (LotHelp.marks s n))):
  Calls Tryz.prog 112 #[.slice a n c,.int .i64 s] w fun e w'=>e= .returned (.int .i64 (s+5*(n:Int)))∧w'=w:=by
 have ho':=ho
 rcases ho.2 with⟨h1,h2⟩|⟨g,c',cur,h1,_⟩
 ·obtain⟨rfl,_,rfl⟩:a=none∧n=0∧c=0:=by simpa using h1
  subst h2
  exact(heldNLot w _ _ s).mono fun e w' ⟨q1,q2⟩=>⟨by rw[q1];simp,q2⟩
 ·obtain⟨rfl,rfl⟩:a=some ⟨g,0,none⟩∧c=c':=by simpa using h1
  exact LotHeld.heldS w g n c s h20 s0 s1 (Tup5.Own5.at ho')
theorem eqNTrade(w:World)(a1 a2:Option Addr)(c1 c2:Nat):Calls Tryz.prog 101 #[.slice a1 0 c1,.slice a2 0 c2] w fun e w'=>e= .returned (.bool true)∧w'=w:=by
 go_enter Tryz.func101,Tryz.ntmps101
 go_wp2
 go_loopw [5] (fun j wr=>j= .int .i64 0∧wr=w) (fun _ _=>0)
 case atStart=>exact⟨rfl,rfl⟩
 case round=>
  obtain⟨rfl,rfl⟩:=hrel
  go_wp2
  go_ret
  exact⟨rfl,rfl⟩
theorem markNTrade(w:World)(a:Option Addr)(c:Nat)(s:Int):Calls Tryz.prog 107 #[.slice a 0 c,.int .i64 s] w fun e w'=>e= .returned (.int .i64 s)∧w'=w:=by
 go_enter Tryz.func107,Tryz.ntmps107
 go_wp2
 go_loopw [1,5] (fun m j wr=>m= .int .i64 s∧j= .int .i64 0∧wr=w) (fun _ _ _=>0)
 case atStart=>exact⟨rfl,rfl,rfl⟩
 case round=>
  obtain⟨rfl,rfl,rfl⟩:=hrel
  go_wp2
  go_ret
  exact⟨rfl,rfl⟩
theorem heldNTrade(w:World)(a:Option Addr)(c:Nat)(s:Int):Calls Tryz.prog 113 #[.slice a 0 c,.int .i64 s] w fun e w'=>e= .returned (.int .i64 s)∧w'=w:=by
 go_enter Tryz.func113,Tryz.ntmps113
 go_wp2
 go_loopw [1,5] (fun m j wr=>m= .int .i64 s∧j= .int .i64 0∧wr=w) (fun _ _ _=>0)
 case atStart=>exact⟨rfl,rfl,rfl⟩
 case round=>
  obtain⟨rfl,rfl,rfl⟩:=hrel
  go_wp2
  go_ret
  exact⟨rfl,rfl⟩
theorem eqTrade(w:World)(x y:Ix)(hb:y.b=x.b)(hx:RdV w x)(hy:RdV w y):Calls Tryz.prog 101 #[.slice x.ats x.b.ts.length x.ct,.slice y.ats x.b.ts.length y.ct] w fun e w'=>e= .returned (.bool true)∧Below w.heap.size w w':=by
 by_cases z:x.b.ts.length=0
 ·rw[z]
  exact(eqNTrade w _ _ _ _).mono fun e w' ⟨h1,h2⟩=>⟨h1,by rw[h2];exact Below.refl _ _⟩
 ·obtain⟨g1,e1⟩:=hx.et z
  obtain⟨g2,e2⟩:=hy.et (by rw[hb];exact z)
  have a1:=hx.rt g1 e1
  have a2:=hy.rt g2 e2
  rw[hb] at a2
  rw[e1,e2]
  exact TradeHelp.eqS w g1 g2 _ _ _ x.b.ts rfl hx.nt a1.1 a2.1 a1.2 a2.2
theorem markTrade(w:World)(base n c:Nat)(a:Option Addr)(s:Int)(ps:List Tup8.T8)(h20:n≤1048576)(s0:0≤s)(s1:s≤100000000)(ho:w.ownsRow base 115 8 (.slice a n c) n (Tup8.flat8 ps)):
  Calls Tryz.prog 107 #[.slice a n c,.int .i64 s] w fun e w'=>e= .returned (.int .i64 (s+8*(n:Int)))∧w'.ownsRow base 115 8 (.slice a n c) n (Tup8.flat8 (TradeHelp.marks s n))∧w.grownBy w' (Value.slice a n c).ownBlock:=by
 have ho':=ho
 rcases ho.2 with⟨h1,h2⟩|⟨g,c',cur,h1,_⟩
 ·obtain⟨rfl,_,rfl⟩:a=none∧n=0∧c=0:=by simpa using h1
  subst h2
  exact(markNTrade w _ _ s).mono fun e w' ⟨q1,q2⟩=>⟨by rw[q1];simp,by rw[q2];exact World.ownsRow_nil w base _ _,by rw[q2];exact World.grownBy.refl _ _⟩
 ·obtain⟨rfl,rfl⟩:a=some ⟨g,0,none⟩∧c=c':=by simpa using h1
  exact TradeHelp.markS w base g n c s ps h20 s0 s1 ho'
theorem heldTrade(w:World)(base n c:Nat)(a:Option Addr)(s:Int)(h20:n≤1048576)(s0:0≤s)(s1:s≤100000000)(ho:w.ownsRow base 115 8 (.slice a n c) n (Tup8.flat8 (TradeHelp.marks s n))):
  Calls Tryz.prog 113 #[.slice a n c,.int .i64 s] w fun e w'=>e= .returned (.int .i64 (s+8*(n:Int)))∧w'=w:=by
 have ho':=ho
 rcases ho.2 with⟨h1,h2⟩|⟨g,c',cur,h1,_⟩
 ·obtain⟨rfl,_,rfl⟩:a=none∧n=0∧c=0:=by simpa using h1
  subst h2
  exact(heldNTrade w _ _ s).mono fun e w' ⟨q1,q2⟩=>⟨by rw[q1];simp,q2⟩
 ·obtain⟨rfl,rfl⟩:a=some ⟨g,0,none⟩∧c=c':=by simpa using h1
  exact TradeHeld.heldS w g n c s h20 s0 s1 (Tup8.Own8.at ho')
structure TwoV(w W:World)(x y:Ix):Prop where
 rx:RdV W x
 ry:RdV W y
 cx:ClV W w.heap.size x
 cy:ClV W (w.heap.size+1) y
 b:Below w.heap.size w W
 s:w.heap.size+1<W.heap.size
theorem TwoV.step{w W W':World}{x y:Ix}(h:TwoV w W x y)(k:Below W.heap.size W W'):TwoV w W' x y:=
 ⟨h.rx.below k,h.ry.below k,h.cx.below k (by have:=h.s;omega),h.cy.below k h.s,h.b.trans (k.mono h.b.size),Nat.lt_of_lt_of_le h.s k.size⟩
theorem boxedV(w:World)(x:Ix)(e:TypeId):ClV (w.alloc (.cells #[.slice x.aa x.b.ac.length x.ca,.slice x.ai x.b.ic.length x.ci,.slice x.ab x.b.bs.length x.cb,.slice x.al x.b.ls.length x.cl,.slice x.ats x.b.ts.length x.ct,.int .i64 x.b.lot] e)) w.heap.size x:=⟨by simp,by simp,by simp,by simp,by simp,by simp⟩
theorem TwoV.start{w:World}{x y:Ix}(hx:RdV w x)(hy:RdV w y)(e:TypeId):TwoV w ((w.alloc (.cells #[.slice x.aa x.b.ac.length x.ca,.slice x.ai x.b.ic.length x.ci,.slice x.ab x.b.bs.length x.cb,.slice x.al x.b.ls.length x.cl,.slice x.ats x.b.ts.length x.ct,.int .i64 x.b.lot] e)).alloc (.cells #[.slice y.aa y.b.ac.length y.ca,.slice y.ai y.b.ic.length y.ci,.slice y.ab y.b.bs.length y.cb,.slice y.al y.b.ls.length y.cl,.slice y.ats y.b.ts.length y.ct,.int .i64 y.b.lot] e)) x y:=by
 have c:=boxedV (w.alloc (.cells #[.slice x.aa x.b.ac.length x.ca,.slice x.ai x.b.ic.length x.ci,.slice x.ab x.b.bs.length x.cb,.slice x.al x.b.ls.length x.cl,.slice x.ats x.b.ts.length x.ct,.int .i64 x.b.lot] e)) y e
 have s:(w.alloc (.cells #[.slice x.aa x.b.ac.length x.ca,.slice x.ai x.b.ic.length x.ci,.slice x.ab x.b.bs.length x.cb,.slice x.al x.b.ls.length x.cl,.slice x.ats x.b.ts.length x.ct,.int .i64 x.b.lot] e)).heap.size=w.heap.size+1:=by simp
 rw[s] at c
 have b1:=one_more w (.cells #[.slice x.aa x.b.ac.length x.ca,.slice x.ai x.b.ic.length x.ci,.slice x.ab x.b.bs.length x.cb,.slice x.al x.b.ls.length x.cl,.slice x.ats x.b.ts.length x.ct,.int .i64 x.b.lot] e)
 have b2:=one_more (w.alloc (.cells #[.slice x.aa x.b.ac.length x.ca,.slice x.ai x.b.ic.length x.ci,.slice x.ab x.b.bs.length x.cb,.slice x.al x.b.ls.length x.cl,.slice x.ats x.b.ts.length x.ct,.int .i64 x.b.lot] e)) (.cells #[.slice y.aa y.b.ac.length y.ca,.slice y.ai y.b.ic.length y.ci,.slice y.ab y.b.bs.length y.cb,.slice y.al y.b.ls.length y.cl,.slice y.ats y.b.ts.length y.ct,.int .i64 y.b.lot] e)
 exact⟨(hx.below b1).below b2,(hy.below b1).below b2,(boxedV w x e).below b2 (by simp),c,b1.trans (b2.mono b1.size),by simp⟩
theorem eqBV(w:World)(x y:Ix)(hb:y.b=x.b)(hx:RdV w x)(hy:RdV w y):
  Calls Tryz.prog 39 #[.agg #[.slice x.aa x.b.ac.length x.ca,.slice x.ai x.b.ic.length x.ci,.slice x.ab x.b.bs.length x.cb,.slice x.al x.b.ls.length x.cl,.slice x.ats x.b.ts.length x.ct,.int .i64 x.b.lot],.agg #[.slice y.aa y.b.ac.length y.ca,.slice y.ai y.b.ic.length y.ci,.slice y.ab y.b.bs.length y.cb,.slice y.al y.b.ls.length y.cl,.slice y.ats y.b.ts.length y.ct,.int .i64 y.b.lot]] w fun e w'=>e= .returned (.bool true)∧Below w.heap.size w w':=by
 have T0:=zh (TwoV.start hx hy 45)
 have HB:=zh hb
 obtain⟨aa,ca,ai,ci,ab,cb,al,cl,ats,ct,b⟩:=y
 obtain rfl:b=x.b:=hb
 clear hx hy
 go_enter Tryz.func39,Tryz.ntmps39
 go_wp2_with fail
 refine(eqAccount _ x ⟨aa,ca,ai,ci,ab,cb,al,cl,ats,ct,x.b⟩ rfl (zu T0).rx (zu T0).ry).mono ?_
 rintro e w1 ⟨rfl,bb⟩
 have T1:=zh ((zu T0).step bb)
 clear bb
 have p1:=(zu T1).cx.c1
 have r1:=(zu T1).cy.c1
 go_wp2_with fail
 refine(eqInstr _ x ⟨aa,ca,ai,ci,ab,cb,al,cl,ats,ct,x.b⟩ rfl (zu T1).rx (zu T1).ry).mono ?_
 rintro e w2 ⟨rfl,bb⟩
 have T2:=zh ((zu T1).step bb)
 clear bb
 have p2:=(zu T2).cx.c2
 have r2:=(zu T2).cy.c2
 go_wp2_with fail
 refine(eqBal _ x ⟨aa,ca,ai,ci,ab,cb,al,cl,ats,ct,x.b⟩ rfl (zu T2).rx (zu T2).ry).mono ?_
 rintro e w3 ⟨rfl,bb⟩
 have T3:=zh ((zu T2).step bb)
 clear bb
 have p3:=(zu T3).cx.c3
 have r3:=(zu T3).cy.c3
 go_wp2_with fail
 refine(eqLot _ x ⟨aa,ca,ai,ci,ab,cb,al,cl,ats,ct,x.b⟩ rfl (zu T3).rx (zu T3).ry).mono ?_
 rintro e w4 ⟨rfl,bb⟩
 have T4:=zh ((zu T3).step bb)
 clear bb
 have p4:=(zu T4).cx.c4
 have r4:=(zu T4).cy.c4
 go_wp2_with fail
 refine(eqTrade _ x ⟨aa,ca,ai,ci,ab,cb,al,cl,ats,ct,x.b⟩ rfl (zu T4).rx (zu T4).ry).mono ?_
 rintro e w5 ⟨rfl,bb⟩
 have T5:=zh ((zu T4).step bb)
 clear bb
 have p5:=(zu T5).cx.c5
 have r5:=(zu T5).cy.c5
 go_wp2
 go_ret
 exact⟨rfl,(zu T5).b⟩
end VB13
namespace LawR13
open BMem Bks BHelp BkEq BMemV13 VB13
open IBalsFit (one_more)
open SRead13L (row_step)
structure Kx(W:World)(g:Nat)(x:Ix):Prop where
 c:ClV W g x
 lt:g<W.heap.size
theorem Kx.made(w:World)(x:Ix)(e:TypeId):Kx (w.alloc (.cells #[.slice x.aa x.b.ac.length x.ca,.slice x.ai x.b.ic.length x.ci,.slice x.ab x.b.bs.length x.cb,.slice x.al x.b.ls.length x.cl,.slice x.ats x.b.ts.length x.ct,.int .i64 x.b.lot] e)) w.heap.size x:=⟨boxedV w x e,by simp⟩
theorem Kx.step{W W':World}{g:Nat}{x:Ix}(h:Kx W g x)(k:Below W.heap.size W W'):Kx W' g x:=⟨h.c.below k h.lt,Nat.lt_of_lt_of_le h.lt k.size⟩
theorem Kx.kept{W W':World}{g:Nat}{x:Ix}{row:Option Nat}(h:Kx W g x)(k:W.grownBy W' row)(ne:some g≠row):Kx W' g x:=
 ⟨⟨k.cell h.c.c0 ne,k.cell h.c.c1 ne,k.cell h.c.c2 ne,k.cell h.c.c3 ne,k.cell h.c.c4 ne,k.cell h.c.c5 ne⟩,Nat.lt_of_lt_of_le h.lt k.size⟩
theorem Kx.turn{W W':World}{g:Nat}{x y:Ix}(h:Kx W g x)(k:TurnV y W W')(n0:some g≠(.slice y.aa y.b.ac.length y.ca:Value).ownBlock)(n1:some g≠(.slice y.ai y.b.ic.length y.ci:Value).ownBlock)(n2:some g≠(.slice y.ab y.b.bs.length y.cb:Value).ownBlock)(n3:some g≠(.slice y.al y.b.ls.length y.cl:Value).ownBlock)(n4:some g≠(.slice y.ats y.b.ts.length y.ct:Value).ownBlock):Kx W' g x:=by
 have e:W'.heap[g]?=W.heap[g]?:=k.block g h.lt n0 n1 n2 n3 n4
 have q:∀i,W'.cell? ⟨g,i,none⟩=W.cell? ⟨g,i,none⟩:=fun i=>World.cell?_of_block (w:=W) e
 exact⟨⟨(q 0).trans h.c.c0,(q 1).trans h.c.c1,(q 2).trans h.c.c2,(q 3).trans h.c.c3,(q 4).trans h.c.c4,(q 5).trans h.c.c5⟩,Nat.lt_of_lt_of_le h.lt k.size⟩
def UpV(x:Ix)(N:Nat):Prop:=(∀g,x.aa=some ⟨g,0,none⟩→g<N)∧(∀g,x.ai=some ⟨g,0,none⟩→g<N)∧(∀g,x.ab=some ⟨g,0,none⟩→g<N)∧(∀g,x.al=some ⟨g,0,none⟩→g<N)∧(∀g,x.ats=some ⟨g,0,none⟩→g<N)
theorem up_mono{x:Ix}{N M:Nat}(h:UpV x N)(k:N≤M):UpV x M:=⟨fun g e=>Nat.lt_of_lt_of_le (h.1 g e) k,fun g e=>Nat.lt_of_lt_of_le (h.2.1 g e) k,fun g e=>Nat.lt_of_lt_of_le (h.2.2.1 g e) k,fun g e=>Nat.lt_of_lt_of_le (h.2.2.2.1 g e) k,fun g e=>Nat.lt_of_lt_of_le (h.2.2.2.2 g e) k⟩
theorem rd_low{W W':World}{x:Ix}{N:Nat}(h:RdV W x)(u:UpV x N)(k:Below N W W'):RdV W' x:=
 ⟨h.ea,fun g e=>⟨Nat.lt_of_lt_of_le (h.ra g e).1 k.size,(h.ra g e).2.below k (u.1 g e)⟩,h.na,h.ei,fun g e=>⟨Nat.lt_of_lt_of_le (h.ri g e).1 k.size,(h.ri g e).2.below k (u.2.1 g e)⟩,h.ni,h.eb,fun g e=>⟨Nat.lt_of_lt_of_le (h.rb g e).1 k.size,(h.rb g e).2.below k (u.2.2.1 g e)⟩,h.nb,h.el,fun g e=>⟨Nat.lt_of_lt_of_le (h.rl g e).1 k.size,(h.rl g e).2.below k (u.2.2.2.1 g e)⟩,h.nl,h.et,fun g e=>⟨Nat.lt_of_lt_of_le (h.rt g e).1 k.size,(h.rt g e).2.below k (u.2.2.2.2 g e)⟩,h.nt⟩
end LawR13
namespace SCopy
open BMem Bks ILists Copy
open BHelp (row_block row_apart row_store)
open IBalsFit (one_more)
theorem wpl_append{P:Program}{ops:Array Oper}{rest:List Oper}{o:Oper}{a:Act}{u w':World}{Q:Exit→Act→World→Prop}(hgd:o.guard=none)(s x:Operand)(T:TypeId)(ho:o.op= .call {callee:= .builtin .append,args:= #[s,x],argTypes:= #[T,T]}){vs vx v':Value}(hs:a.eval s=vs)(hx:a.eval x=vx)
  (hr:(Builtin.append_ #[T,T] o.type #[vs,vx]).run P u= .ok v' w')(h:wpList P ops Q rest (a.put o.dst v') w'):wpList P ops Q (o::rest) a u:=
 wpList_plain hgd fun K hK=>wpo_append s x T ho hs hx hr (hK _ _ h)
theorem empty_made(W:World)(base:Nat)(e:TypeId)(size g:Nat)(hg:g=W.heap.size)(hb:base≤g):(W.alloc (.cells #[] e)).ownsRow base e size (.slice (some ⟨g,0,none⟩) 0 0) 0 []:=by
 subst hg
 exact World.ownsRow_made W #[] 0 hb (by unfold maxLen;omega) (by simp)
theorem row_kept{w w':World}{base:Nat}{e:TypeId}{size g n cap g0:Nat}{xs:List Value}(h:w.ownsRow base e size (.slice (some ⟨g,0,none⟩) n cap) n xs)(k:w.grownBy w' (some g0))(ne:g≠g0):w'.ownsRow base e size (.slice (some ⟨g,0,none⟩) n cap) n xs:=
 h.kept k (Or.inr (fun e=>ne (by simpa[Value.ownBlock] using e)))
structure TC(w W:World)(x:Bx)(v0 v1 v2 v3 v4 v5:Value):Prop where
 b:Below w.heap.size w W
 c:Cl W w.heap.size x
 o:Box W w.heap.size (w.heap.size+1+1) v0 v1 v2 v3 v4 v5
 r:Box W w.heap.size (w.heap.size+1) (.slice none 0 0) (.slice none 0 0) (.slice none 0 0) (.slice none 0 0) (.slice none 0 0) (.int .i64 0)
section
variable {w W W':World} {x:Bx} {v0 v1 v2 v3 v4 v5:Value}
theorem TC.call(h:TC w W x v0 v1 v2 v3 v4 v5)(k:Below W.heap.size W W'):TC w W' x v0 v1 v2 v3 v4 v5:=by
 have l:=h.o.lt
 exact⟨h.b.trans (k.mono h.b.size),h.c.below k (by omega),h.o.below k (by omega),h.r.below k (by omega)⟩
theorem TC.grown{g:Nat}(h:TC w W x v0 v1 v2 v3 v4 v5)(k:W.grownBy W' (some g))(hg:w.heap.size+3≤g):TC w W' x v0 v1 v2 v3 v4 v5:=by
 have n0:some w.heap.size≠some g:=fun e=>by injection e;omega
 exact⟨h.b.grown k h.b.size (fun j e=>by injection e;omega),⟨k.cell h.c.c0 n0,k.cell h.c.c1 n0,k.cell h.c.c2 n0,k.cell h.c.c3 n0,k.cell h.c.c4 n0,k.cell h.c.c5 n0⟩,h.o.kept k (fun e=>by injection e;omega),h.r.kept k (fun e=>by injection e;omega)⟩
theorem TC.set0(h:TC w W x v0 v1 v2 v3 v4 v5)(u:Value):TC w (W.setCell ⟨w.heap.size+1+1,0,none⟩ u) x u v1 v2 v3 v4 v5:=by
 obtain⟨b,g⟩:=h.o.set0 u
 have n0:some w.heap.size≠some (w.heap.size+1+1):=fun e=>by injection e;omega
 exact⟨h.b.setCell (by simp;omega) u,⟨g.cell h.c.c0 n0,g.cell h.c.c1 n0,g.cell h.c.c2 n0,g.cell h.c.c3 n0,g.cell h.c.c4 n0,g.cell h.c.c5 n0⟩,b,h.r.kept g (fun e=>by injection e;omega)⟩
theorem TC.set1(h:TC w W x v0 v1 v2 v3 v4 v5)(u:Value):TC w (W.setCell ⟨w.heap.size+1+1,1,none⟩ u) x v0 u v2 v3 v4 v5:=by
 obtain⟨b,g⟩:=h.o.set1 u
 have n0:some w.heap.size≠some (w.heap.size+1+1):=fun e=>by injection e;omega
 exact⟨h.b.setCell (by simp;omega) u,⟨g.cell h.c.c0 n0,g.cell h.c.c1 n0,g.cell h.c.c2 n0,g.cell h.c.c3 n0,g.cell h.c.c4 n0,g.cell h.c.c5 n0⟩,b,h.r.kept g (fun e=>by injection e;omega)⟩
theorem TC.set2(h:TC w W x v0 v1 v2 v3 v4 v5)(u:Value):TC w (W.setCell ⟨w.heap.size+1+1,2,none⟩ u) x v0 v1 u v3 v4 v5:=by
 obtain⟨b,g⟩:=h.o.set2 u
 have n0:some w.heap.size≠some (w.heap.size+1+1):=fun e=>by injection e;omega
 exact⟨h.b.setCell (by simp;omega) u,⟨g.cell h.c.c0 n0,g.cell h.c.c1 n0,g.cell h.c.c2 n0,g.cell h.c.c3 n0,g.cell h.c.c4 n0,g.cell h.c.c5 n0⟩,b,h.r.kept g (fun e=>by injection e;omega)⟩
theorem TC.set3(h:TC w W x v0 v1 v2 v3 v4 v5)(u:Value):TC w (W.setCell ⟨w.heap.size+1+1,3,none⟩ u) x v0 v1 v2 u v4 v5:=by
 obtain⟨b,g⟩:=h.o.set3 u
 have n0:some w.heap.size≠some (w.heap.size+1+1):=fun e=>by injection e;omega
 exact⟨h.b.setCell (by simp;omega) u,⟨g.cell h.c.c0 n0,g.cell h.c.c1 n0,g.cell h.c.c2 n0,g.cell h.c.c3 n0,g.cell h.c.c4 n0,g.cell h.c.c5 n0⟩,b,h.r.kept g (fun e=>by injection e;omega)⟩
theorem TC.set4(h:TC w W x v0 v1 v2 v3 v4 v5)(u:Value):TC w (W.setCell ⟨w.heap.size+1+1,4,none⟩ u) x v0 v1 v2 v3 u v5:=by
 obtain⟨b,g⟩:=h.o.set4 u
 have n0:some w.heap.size≠some (w.heap.size+1+1):=fun e=>by injection e;omega
 exact⟨h.b.setCell (by simp;omega) u,⟨g.cell h.c.c0 n0,g.cell h.c.c1 n0,g.cell h.c.c2 n0,g.cell h.c.c3 n0,g.cell h.c.c4 n0,g.cell h.c.c5 n0⟩,b,h.r.kept g (fun e=>by injection e;omega)⟩
theorem TC.set5(h:TC w W x v0 v1 v2 v3 v4 v5)(u:Value):TC w (W.setCell ⟨w.heap.size+1+1,5,none⟩ u) x v0 v1 v2 v3 v4 u:=by
 obtain⟨b,g⟩:=h.o.set5 u
 have n0:some w.heap.size≠some (w.heap.size+1+1):=fun e=>by injection e;omega
 exact⟨h.b.setCell (by simp;omega) u,⟨g.cell h.c.c0 n0,g.cell h.c.c1 n0,g.cell h.c.c2 n0,g.cell h.c.c3 n0,g.cell h.c.c4 n0,g.cell h.c.c5 n0⟩,b,h.r.kept g (fun e=>by injection e;omega)⟩
end
theorem sCopy(w:World)(x:Bx)(h:Rd w x):
  Calls Tryz.prog 47 #[.agg #[.slice (some ⟨x.ga,0,none⟩) x.b.ac.length x.ca,.slice (some ⟨x.gi,0,none⟩) x.b.ic.length x.ci,.slice (some ⟨x.gb,0,none⟩) x.b.bs.length x.cb,.slice (some ⟨x.gl,0,none⟩) x.b.ls.length x.cl,.slice (some ⟨x.gt,0,none⟩) x.b.ts.length x.ct,.int .i64 x.b.lot]] w fun e w'=>∃z:Bx,z.b=x.b∧e= .returned (.agg #[.slice (some ⟨z.ga,0,none⟩) z.b.ac.length z.ca,.slice (some ⟨z.gi,0,none⟩) z.b.ic.length z.ci,.slice (some ⟨z.gb,0,none⟩) z.b.bs.length z.cb,.slice (some ⟨z.gl,0,none⟩) z.b.ls.length z.cl,.slice (some ⟨z.gt,0,none⟩) z.b.ts.length z.ct,.int .i64 z.b.lot])∧Ow w' w.heap.size z∧Below w.heap.size w w':=by
 have H:=zh h
 have na:=h.na
 have ni:=h.ni
 have nb:=h.nb
 have nl:=h.nl
 have nt:=h.nt
 have T0:=zh (show TC w (((w.alloc (.cells #[.slice (some ⟨x.ga,0,none⟩) x.b.ac.length x.ca,.slice (some ⟨x.gi,0,none⟩) x.b.ic.length x.ci,.slice (some ⟨x.gb,0,none⟩) x.b.bs.length x.cb,.slice (some ⟨x.gl,0,none⟩) x.b.ls.length x.cl,.slice (some ⟨x.gt,0,none⟩) x.b.ts.length x.ct,.int .i64 x.b.lot] 45)).alloc (.cells #[.slice none 0 0,.slice none 0 0,.slice none 0 0,.slice none 0 0,.slice none 0 0,.int .i64 0] 45)).alloc (.cells #[.slice none 0 0,.slice none 0 0,.slice none 0 0,.slice none 0 0,.slice none 0 0,.int .i64 x.b.lot] 45)) x (.slice none 0 0) (.slice none 0 0) (.slice none 0 0) (.slice none 0 0) (.slice none 0 0) (.int .i64 x.b.lot) from by
  have b2:Below (w.alloc (.cells #[.slice (some ⟨x.ga,0,none⟩) x.b.ac.length x.ca,.slice (some ⟨x.gi,0,none⟩) x.b.ic.length x.ci,.slice (some ⟨x.gb,0,none⟩) x.b.bs.length x.cb,.slice (some ⟨x.gl,0,none⟩) x.b.ls.length x.cl,.slice (some ⟨x.gt,0,none⟩) x.b.ts.length x.ct,.int .i64 x.b.lot] 45)).heap.size (w.alloc (.cells #[.slice (some ⟨x.ga,0,none⟩) x.b.ac.length x.ca,.slice (some ⟨x.gi,0,none⟩) x.b.ic.length x.ci,.slice (some ⟨x.gb,0,none⟩) x.b.bs.length x.cb,.slice (some ⟨x.gl,0,none⟩) x.b.ls.length x.cl,.slice (some ⟨x.gt,0,none⟩) x.b.ts.length x.ct,.int .i64 x.b.lot] 45)) (((w.alloc (.cells #[.slice (some ⟨x.ga,0,none⟩) x.b.ac.length x.ca,.slice (some ⟨x.gi,0,none⟩) x.b.ic.length x.ci,.slice (some ⟨x.gb,0,none⟩) x.b.bs.length x.cb,.slice (some ⟨x.gl,0,none⟩) x.b.ls.length x.cl,.slice (some ⟨x.gt,0,none⟩) x.b.ts.length x.ct,.int .i64 x.b.lot] 45)).alloc (.cells #[.slice none 0 0,.slice none 0 0,.slice none 0 0,.slice none 0 0,.slice none 0 0,.int .i64 0] 45)).alloc (.cells #[.slice none 0 0,.slice none 0 0,.slice none 0 0,.slice none 0 0,.slice none 0 0,.int .i64 x.b.lot] 45)):=((Below.refl _ _).alloc (Nat.le_refl _) _).alloc (by simp) _
  exact⟨((Below.refl w.heap.size w).alloc (Nat.le_refl _) _).trans (b2.mono (by simp)),(boxed w x 45).below b2 (by simp),Box.made _ _ _ _ _ _ (by simp;omega) (by simp),(Box.made (w:=w.alloc (.cells #[.slice (some ⟨x.ga,0,none⟩) x.b.ac.length x.ca,.slice (some ⟨x.gi,0,none⟩) x.b.ic.length x.ci,.slice (some ⟨x.gb,0,none⟩) x.b.bs.length x.cb,.slice (some ⟨x.gl,0,none⟩) x.b.ls.length x.cl,.slice (some ⟨x.gt,0,none⟩) x.b.ts.length x.ct,.int .i64 x.b.lot] 45)) (g:=w.heap.size+1) _ _ _ _ _ _ (by simp) (by simp)).below (one_more _ _) (by simp)⟩)
 clear h
 have A0:=zh ((zu T0).call (one_more _ (.cells #[] 108)))
 have z0:w.heap.size+3≤w.heap.size+1+1+1:=by have:=(zu T0).o.lt;simp at this⊢;try omega
 obtain⟨g0,c0',w1,hr0,ow0,gr0,_⟩:=copyAccount ((((w.alloc (.cells #[.slice (some ⟨x.ga,0,none⟩) x.b.ac.length x.ca,.slice (some ⟨x.gi,0,none⟩) x.b.ic.length x.ci,.slice (some ⟨x.gb,0,none⟩) x.b.bs.length x.cb,.slice (some ⟨x.gl,0,none⟩) x.b.ls.length x.cl,.slice (some ⟨x.gt,0,none⟩) x.b.ts.length x.ct,.int .i64 x.b.lot] 45)).alloc (.cells #[.slice none 0 0,.slice none 0 0,.slice none 0 0,.slice none 0 0,.slice none 0 0,.int .i64 0] 45)).alloc (.cells #[.slice none 0 0,.slice none 0 0,.slice none 0 0,.slice none 0 0,.slice none 0 0,.int .i64 x.b.lot] 45)).alloc (.cells #[] 108)) (w.heap.size+3) (w.heap.size+1+1+1) 0 (empty_made (((w.alloc (.cells #[.slice (some ⟨x.ga,0,none⟩) x.b.ac.length x.ca,.slice (some ⟨x.gi,0,none⟩) x.b.ic.length x.ci,.slice (some ⟨x.gb,0,none⟩) x.b.bs.length x.cb,.slice (some ⟨x.gl,0,none⟩) x.b.ls.length x.cl,.slice (some ⟨x.gt,0,none⟩) x.b.ts.length x.ct,.int .i64 x.b.lot] 45)).alloc (.cells #[.slice none 0 0,.slice none 0 0,.slice none 0 0,.slice none 0 0,.slice none 0 0,.int .i64 0] 45)).alloc (.cells #[.slice none 0 0,.slice none 0 0,.slice none 0 0,.slice none 0 0,.slice none 0 0,.int .i64 x.b.lot] 45)) _ _ _ _ (by simp) z0) 39 x.ga x.ca x.b.ac ((zu H).below (zu A0).b).ra na (by have:=(zu A0).o.lt;omega)
 have G0:=zh ((zu A0).grown gr0 z0)
 have O0:=zh (show Pairs.Own 108 w1 (w.heap.size+3) g0 x.b.ac.length c0' x.b.ac from ow0)
 have T1:=zh ((zu G0).set0 (.slice (some ⟨g0,0,none⟩) x.b.ac.length c0'))
 have p0:=(zu G0).o.c0
 have f0:=(zu G0).o.free 0
 have A1:=zh ((zu T1).call (one_more _ (.cells #[] 109)))
 have z1:w.heap.size+3≤w1.heap.size:=by have:=(zu T1).o.lt;simp[World.setCell] at this⊢;try omega
 obtain⟨g1,c1',w2,hr1,ow1,gr1,_⟩:=copyInstr ((w1.setCell ⟨w.heap.size+1+1,0,none⟩ (.slice (some ⟨g0,0,none⟩) x.b.ac.length c0')).alloc (.cells #[] 109)) (w.heap.size+3) (w1.heap.size) 0 (empty_made (w1.setCell ⟨w.heap.size+1+1,0,none⟩ (.slice (some ⟨g0,0,none⟩) x.b.ac.length c0')) _ _ _ _ (by simp[World.setCell]) z1) 40 x.gi x.ci x.b.ic ((zu H).below (zu A1).b).ri ni (by have:=(zu A1).o.lt;omega)
 have G1:=zh ((zu A1).grown gr1 z1)
 have O1:=zh (show Pairs.Own 109 w2 (w.heap.size+3) g1 x.b.ic.length c1' x.b.ic from ow1)
 replace O0:=zh (show Pairs.Own 108 w2 (w.heap.size+3) g0 x.b.ac.length c0' x.b.ac from row_kept (World.ownsRow.alloc (row_store (zu O0) (a:=⟨w.heap.size+1+1,0,none⟩) (by simp) (.slice (some ⟨g0,0,none⟩) x.b.ac.length c0')) _) gr1 (by have h1:=World.ownsRow.lt (zu O0) g0 rfl;omega))
 have T2:=zh ((zu G1).set1 (.slice (some ⟨g1,0,none⟩) x.b.ic.length c1'))
 have p1:=(zu G1).o.c1
 have f1:=(zu G1).o.free 1
 have s1:=(zu A1).c.c1
 have A2:=zh ((zu T2).call (one_more _ (.cells #[] 111)))
 have z2:w.heap.size+3≤w2.heap.size:=by have:=(zu T2).o.lt;simp[World.setCell] at this⊢;try omega
 obtain⟨g2,c2',w3,hr2,ow2,gr2,_⟩:=copyBal ((w2.setCell ⟨w.heap.size+1+1,1,none⟩ (.slice (some ⟨g1,0,none⟩) x.b.ic.length c1')).alloc (.cells #[] 111)) (w.heap.size+3) (w2.heap.size) 0 (empty_made (w2.setCell ⟨w.heap.size+1+1,1,none⟩ (.slice (some ⟨g1,0,none⟩) x.b.ic.length c1')) _ _ _ _ (by simp[World.setCell]) z2) 41 x.gb x.cb x.b.bs ((zu H).below (zu A2).b).rb nb (by have:=(zu A2).o.lt;omega)
 have G2:=zh ((zu A2).grown gr2 z2)
 have O2:=zh (show Triples.Own3 111 w3 (w.heap.size+3) g2 x.b.bs.length c2' x.b.bs from ow2)
 replace O0:=zh (show Pairs.Own 108 w3 (w.heap.size+3) g0 x.b.ac.length c0' x.b.ac from row_kept (World.ownsRow.alloc (row_store (zu O0) (a:=⟨w.heap.size+1+1,1,none⟩) (by simp) (.slice (some ⟨g1,0,none⟩) x.b.ic.length c1')) _) gr2 (by have h1:=World.ownsRow.lt (zu O0) g0 rfl;omega))
 replace O1:=zh (show Pairs.Own 109 w3 (w.heap.size+3) g1 x.b.ic.length c1' x.b.ic from row_kept (World.ownsRow.alloc (row_store (zu O1) (a:=⟨w.heap.size+1+1,1,none⟩) (by simp) (.slice (some ⟨g1,0,none⟩) x.b.ic.length c1')) _) gr2 (by have h1:=World.ownsRow.lt (zu O1) g1 rfl;omega))
 have T3:=zh ((zu G2).set2 (.slice (some ⟨g2,0,none⟩) x.b.bs.length c2'))
 have p2:=(zu G2).o.c2
 have f2:=(zu G2).o.free 2
 have s2:=(zu A2).c.c2
 have A3:=zh ((zu T3).call (one_more _ (.cells #[] 113)))
 have z3:w.heap.size+3≤w3.heap.size:=by have:=(zu T3).o.lt;simp[World.setCell] at this⊢;try omega
 obtain⟨g3,c3',w4,hr3,ow3,gr3,_⟩:=copyLot ((w3.setCell ⟨w.heap.size+1+1,2,none⟩ (.slice (some ⟨g2,0,none⟩) x.b.bs.length c2')).alloc (.cells #[] 113)) (w.heap.size+3) (w3.heap.size) 0 (empty_made (w3.setCell ⟨w.heap.size+1+1,2,none⟩ (.slice (some ⟨g2,0,none⟩) x.b.bs.length c2')) _ _ _ _ (by simp[World.setCell]) z3) 42 x.gl x.cl x.b.ls ((zu H).below (zu A3).b).rl nl (by have:=(zu A3).o.lt;omega)
 have G3:=zh ((zu A3).grown gr3 z3)
 have O3:=zh (show Tup5.Own5 113 w4 (w.heap.size+3) g3 x.b.ls.length c3' x.b.ls from ow3)
 replace O0:=zh (show Pairs.Own 108 w4 (w.heap.size+3) g0 x.b.ac.length c0' x.b.ac from row_kept (World.ownsRow.alloc (row_store (zu O0) (a:=⟨w.heap.size+1+1,2,none⟩) (by simp) (.slice (some ⟨g2,0,none⟩) x.b.bs.length c2')) _) gr3 (by have h1:=World.ownsRow.lt (zu O0) g0 rfl;omega))
 replace O1:=zh (show Pairs.Own 109 w4 (w.heap.size+3) g1 x.b.ic.length c1' x.b.ic from row_kept (World.ownsRow.alloc (row_store (zu O1) (a:=⟨w.heap.size+1+1,2,none⟩) (by simp) (.slice (some ⟨g2,0,none⟩) x.b.bs.length c2')) _) gr3 (by have h1:=World.ownsRow.lt (zu O1) g1 rfl;omega))
 replace O2:=zh (show Triples.Own3 111 w4 (w.heap.size+3) g2 x.b.bs.length c2' x.b.bs from row_kept (World.ownsRow.alloc (row_store (zu O2) (a:=⟨w.heap.size+1+1,2,none⟩) (by simp) (.slice (some ⟨g2,0,none⟩) x.b.bs.length c2')) _) gr3 (by have h1:=World.ownsRow.lt (zu O2) g2 rfl;omega))
 have T4:=zh ((zu G3).set3 (.slice (some ⟨g3,0,none⟩) x.b.ls.length c3'))
 have p3:=(zu G3).o.c3
 have f3:=(zu G3).o.free 3
 have s3:=(zu A3).c.c3
 have A4:=zh ((zu T4).call (one_more _ (.cells #[] 115)))
 have z4:w.heap.size+3≤w4.heap.size:=by have:=(zu T4).o.lt;simp[World.setCell] at this⊢;try omega
 obtain⟨g4,c4',w5,hr4,ow4,gr4,_⟩:=copyTrade ((w4.setCell ⟨w.heap.size+1+1,3,none⟩ (.slice (some ⟨g3,0,none⟩) x.b.ls.length c3')).alloc (.cells #[] 115)) (w.heap.size+3) (w4.heap.size) 0 (empty_made (w4.setCell ⟨w.heap.size+1+1,3,none⟩ (.slice (some ⟨g3,0,none⟩) x.b.ls.length c3')) _ _ _ _ (by simp[World.setCell]) z4) 43 x.gt x.ct x.b.ts ((zu H).below (zu A4).b).rt nt (by have:=(zu A4).o.lt;omega)
 have G4:=zh ((zu A4).grown gr4 z4)
 have O4:=zh (show Tup8.Own8 115 w5 (w.heap.size+3) g4 x.b.ts.length c4' x.b.ts from ow4)
 replace O0:=zh (show Pairs.Own 108 w5 (w.heap.size+3) g0 x.b.ac.length c0' x.b.ac from row_kept (World.ownsRow.alloc (row_store (zu O0) (a:=⟨w.heap.size+1+1,3,none⟩) (by simp) (.slice (some ⟨g3,0,none⟩) x.b.ls.length c3')) _) gr4 (by have h1:=World.ownsRow.lt (zu O0) g0 rfl;omega))
 replace O1:=zh (show Pairs.Own 109 w5 (w.heap.size+3) g1 x.b.ic.length c1' x.b.ic from row_kept (World.ownsRow.alloc (row_store (zu O1) (a:=⟨w.heap.size+1+1,3,none⟩) (by simp) (.slice (some ⟨g3,0,none⟩) x.b.ls.length c3')) _) gr4 (by have h1:=World.ownsRow.lt (zu O1) g1 rfl;omega))
 replace O2:=zh (show Triples.Own3 111 w5 (w.heap.size+3) g2 x.b.bs.length c2' x.b.bs from row_kept (World.ownsRow.alloc (row_store (zu O2) (a:=⟨w.heap.size+1+1,3,none⟩) (by simp) (.slice (some ⟨g3,0,none⟩) x.b.ls.length c3')) _) gr4 (by have h1:=World.ownsRow.lt (zu O2) g2 rfl;omega))
 replace O3:=zh (show Tup5.Own5 113 w5 (w.heap.size+3) g3 x.b.ls.length c3' x.b.ls from row_kept (World.ownsRow.alloc (row_store (zu O3) (a:=⟨w.heap.size+1+1,3,none⟩) (by simp) (.slice (some ⟨g3,0,none⟩) x.b.ls.length c3')) _) gr4 (by have h1:=World.ownsRow.lt (zu O3) g3 rfl;omega))
 have T5:=zh ((zu G4).set4 (.slice (some ⟨g4,0,none⟩) x.b.ts.length c4'))
 have p4:=(zu G4).o.c4
 have f4:=(zu G4).o.free 4
 have s4:=(zu A4).c.c4
 clear p4
 have o0:=(zu G4).o.c0
 have r0:=(zu G4).r.c0
 have u0:=(zu G4).r.free 0
 have o1:=(zu G4).o.c1
 have r1:=(zu G4).r.c1
 have u1:=(zu G4).r.free 1
 have o2:=(zu G4).o.c2
 have r2:=(zu G4).r.c2
 have u2:=(zu G4).r.free 2
 have o3:=(zu G4).o.c3
 have r3:=(zu G4).r.c3
 have u3:=(zu G4).r.free 3
 have o4:=(zu G4).o.c4
 have r4:=(zu G4).r.c4
 have u4:=(zu G4).r.free 4
 have o5:=(zu G4).o.c5
 have r5:=(zu G4).r.c5
 have u5:=(zu G4).r.free 5
 have B5:=zh (zu T5).b
 clear gr0 gr1 gr2 gr3 gr4 ow0 ow1 ow2 ow3 ow4
 go_enter Tryz.func47,Tryz.ntmps47
 go_wp2_with (first|(at_builtin;refine wpl_append rfl (.tmp 7) (.tmp 9) 39 rfl rfl rfl hr0 ?_)|(at_builtin;refine wpl_append rfl (.tmp 12) (.tmp 14) 40 rfl rfl rfl hr1 ?_)|(at_builtin;refine wpl_append rfl (.tmp 17) (.tmp 19) 41 rfl rfl rfl hr2 ?_)|(at_builtin;refine wpl_append rfl (.tmp 22) (.tmp 24) 42 rfl rfl rfl hr3 ?_)|(at_builtin;refine wpl_append rfl (.tmp 27) (.tmp 29) 43 rfl rfl rfl hr4 ?_))
 refine bodyPost_ret (v:= .agg #[.slice (some ⟨g0,0,none⟩) x.b.ac.length c0',.slice (some ⟨g1,0,none⟩) x.b.ic.length c1',.slice (some ⟨g2,0,none⟩) x.b.bs.length c2',.slice (some ⟨g3,0,none⟩) x.b.ls.length c3',.slice (some ⟨g4,0,none⟩) x.b.ts.length c4',.int .i64 x.b.lot]) (by simp[results,Tryz.results47,go_sem,r0,r1,r2,r3,r4,r5]) rfl ⟨⟨g0,c0',g1,c1',g2,c2',g3,c3',g4,c4',x.b⟩,rfl,rfl,?_,?_⟩
 ·exact Ow.rebase (base:=w.heap.size+3) ⟨(row_store (row_store (row_store (row_store (row_store (row_store (row_store (zu O0) (a:=⟨w.heap.size+1+1,4,none⟩) (by simp) _) (a:=⟨w.heap.size+1,0,none⟩) (by simp) _) (a:=⟨w.heap.size+1,1,none⟩) (by simp) _) (a:=⟨w.heap.size+1,2,none⟩) (by simp) _) (a:=⟨w.heap.size+1,3,none⟩) (by simp) _) (a:=⟨w.heap.size+1,4,none⟩) (by simp) _) (a:=⟨w.heap.size+1,5,none⟩) (by simp) _),(row_store (row_store (row_store (row_store (row_store (row_store (row_store (zu O1) (a:=⟨w.heap.size+1+1,4,none⟩) (by simp) _) (a:=⟨w.heap.size+1,0,none⟩) (by simp) _) (a:=⟨w.heap.size+1,1,none⟩) (by simp) _) (a:=⟨w.heap.size+1,2,none⟩) (by simp) _) (a:=⟨w.heap.size+1,3,none⟩) (by simp) _) (a:=⟨w.heap.size+1,4,none⟩) (by simp) _) (a:=⟨w.heap.size+1,5,none⟩) (by simp) _),(row_store (row_store (row_store (row_store (row_store (row_store (row_store (zu O2) (a:=⟨w.heap.size+1+1,4,none⟩) (by simp) _) (a:=⟨w.heap.size+1,0,none⟩) (by simp) _) (a:=⟨w.heap.size+1,1,none⟩) (by simp) _) (a:=⟨w.heap.size+1,2,none⟩) (by simp) _) (a:=⟨w.heap.size+1,3,none⟩) (by simp) _) (a:=⟨w.heap.size+1,4,none⟩) (by simp) _) (a:=⟨w.heap.size+1,5,none⟩) (by simp) _),(row_store (row_store (row_store (row_store (row_store (row_store (row_store (zu O3) (a:=⟨w.heap.size+1+1,4,none⟩) (by simp) _) (a:=⟨w.heap.size+1,0,none⟩) (by simp) _) (a:=⟨w.heap.size+1,1,none⟩) (by simp) _) (a:=⟨w.heap.size+1,2,none⟩) (by simp) _) (a:=⟨w.heap.size+1,3,none⟩) (by simp) _) (a:=⟨w.heap.size+1,4,none⟩) (by simp) _) (a:=⟨w.heap.size+1,5,none⟩) (by simp) _),(row_store (row_store (row_store (row_store (row_store (row_store (row_store (zu O4) (a:=⟨w.heap.size+1+1,4,none⟩) (by simp) _) (a:=⟨w.heap.size+1,0,none⟩) (by simp) _) (a:=⟨w.heap.size+1,1,none⟩) (by simp) _) (a:=⟨w.heap.size+1,2,none⟩) (by simp) _) (a:=⟨w.heap.size+1,3,none⟩) (by simp) _) (a:=⟨w.heap.size+1,4,none⟩) (by simp) _) (a:=⟨w.heap.size+1,5,none⟩) (by simp) _)⟩ (by omega)
 ·exact(((((((zu B5).setCell (p:=⟨w.heap.size+1,0,none⟩) (by simp) _).setCell (p:=⟨w.heap.size+1,1,none⟩) (by simp) _).setCell (p:=⟨w.heap.size+1,2,none⟩) (by simp) _).setCell (p:=⟨w.heap.size+1,3,none⟩) (by simp) _).setCell (p:=⟨w.heap.size+1,4,none⟩) (by simp) _).setCell (p:=⟨w.heap.size+1,5,none⟩) (by simp) _)
end SCopy
namespace SBalsV13
open BMem Bks BHelp BMemV13
open IBalsFit (one_more)
open Lots (Says says_of NoOk)
open Bals (T3 el3 val sumI)
theorem sBals(w:World)(x:Ix)(b:Bool)(h:RdV w x)(hl:Lists x.b)(hb:Says b (BalsFit x.b)):
  Calls Tryz.prog 73 #[.agg #[.slice x.aa x.b.ac.length x.ca,.slice x.ai x.b.ic.length x.ci,.slice x.ab x.b.bs.length x.cb,.slice x.al x.b.ls.length x.cl,.slice x.ats x.b.ts.length x.ct,.int .i64 x.b.lot]] w fun e w'=>e= .returned (.bool b)∧Below w.heap.size w w':=by
 have T:=zh hb
 have L:=zh hl
 have S0:=zh (StV.start h 45)
 have nb:=h.nb
 clear hb hl h
 go_enter Tryz.func73,Tryz.ntmps73
 go_wp2
 go_loopw [3] (fun i wr=>∃(k:Nat),k≤x.b.bs.length∧i= .int .i64 k∧StV w wr x∧Hid (∀j,j<k→BalFit x.b (el3 x.b.bs j)∧sumI x.b.bs (el3 x.b.bs j).2.1=0)) (fun i _=>x.b.bs.length-(intOf i).toNat)
 case atStart=>exact⟨0,by omega,rfl,zu S0,zh (fun i hi=>absurd hi (by omega))⟩
 case round=>
  obtain⟨k,hk,rfl,hS,HG⟩:=hrel
  clear S0
  by_cases t:k<x.b.bs.length
  ·obtain⟨gb,eb⟩:=hS.r.eb (by omega)
   obtain⟨d0,d1,d2⟩:=(hS.r.rb gb eb).2 k t
   have EB:=zh eb
   obtain⟨c0,c1,c2,c3,c4,c5⟩:=hS.c
   rw[eb] at c2
   clear eb
   have BAD:=zh (show ¬(BalFit x.b (el3 x.b.bs k)∧sumI x.b.bs (el3 x.b.bs k).2.1=0)→b=false from fun hr=>(zu T).not (fun r=>hr ⟨r.1 k t,r.2 _⟩))
   have GOOD:=zh (show(BalFit x.b (el3 x.b.bs k)∧sumI x.b.bs (el3 x.b.bs k).2.1=0)→∀i,i<k+1→BalFit x.b (el3 x.b.bs i)∧sumI x.b.bs (el3 x.b.bs i).2.1=0 from fun hr i hi=>by
    by_cases e:i=k
    ·subst e;exact hr
    ·exact(zu HG) i (by omega))
   have FIT:=zh (show BalFit x.b (el3 x.b.bs k)↔kindOf x.b.ac (el3 x.b.bs k).1≠0∧kindOf x.b.ic (el3 x.b.bs k).2.1≠0∧¬(kindOf x.b.ac (el3 x.b.bs k).1=1∧(el3 x.b.bs k).2.2<0) from Iff.rfl)
   have wz:=hS.s
   have S1:=zh (hS.step (one_more wr (.cells #[.int .i64 (el3 x.b.bs k).1,.int .i64 (el3 x.b.bs k).2.1,.int .i64 (el3 x.b.bs k).2.2] 111)))
   clear hS
   generalize BalFit x.b (el3 x.b.bs k)=FP at *
   generalize (el3 x.b.bs k).1=y0 at *
   generalize (el3 x.b.bs k).2.1=y1 at *
   generalize (el3 x.b.bs k).2.2=y2 at *
   generalize hK:kindOf x.b.ac y0=K at *
   generalize hJ:kindOf x.b.ic y1=J at *
   have HK:=zh hK
   have HJ:=zh hJ
   clear hK hJ
   go_wp2_with fail
   refine(sKindA _ x y0 K (zu S1).r (zu L).1 (zu HK)).mono ?_
   rintro e w1 ⟨rfl,bb⟩
   have S2:=zh ((zu S1).step bb)
   have f0:w1.cell? ⟨wr.heap.size,0,none⟩=some (.int .i64 y0):=(bb.cell (p:=⟨wr.heap.size,0,none⟩) (by simp)).trans (by simp)
   have f1:w1.cell? ⟨wr.heap.size,1,none⟩=some (.int .i64 y1):=(bb.cell (p:=⟨wr.heap.size,1,none⟩) (by simp)).trans (by simp)
   have f2:w1.cell? ⟨wr.heap.size,2,none⟩=some (.int .i64 y2):=(bb.cell (p:=⟨wr.heap.size,2,none⟩) (by simp)).trans (by simp)
   have z1:wr.heap.size<w1.heap.size:=by have:=bb.size;simp at this;omega
   clear bb c0 c1 c2 c3 c4 c5 d0 d1 d2
   obtain⟨c0,c1,c2,c3,c4,c5⟩:=(zu S2).c
   by_cases q0:K=0
   ·have F:=zh ((zu BAD) (fun hh=>((zu FIT).1 hh.1).1 q0))
    have hq:(K==0)=true:=by simp[q0]
    clear BAD GOOD FIT T q0
    go_wp2
    go_ret
    exact⟨by rw[zu F];rfl,(zu S2).b⟩
   have hq0:(K==0)=false:=by simp[q0]
   have Q0:=zh q0
   clear q0
   go_wp2_with fail
   refine(sKindI _ x y1 J (zu S2).r (zu L).2.1 (zu HJ)).mono ?_
   rintro e w2 ⟨rfl,bb⟩
   have S3:=zh ((zu S2).step bb)
   replace f0:w2.cell? ⟨wr.heap.size,0,none⟩=some (.int .i64 y0):=(bb.cell (p:=⟨wr.heap.size,0,none⟩) z1).trans f0
   replace f1:w2.cell? ⟨wr.heap.size,1,none⟩=some (.int .i64 y1):=(bb.cell (p:=⟨wr.heap.size,1,none⟩) z1).trans f1
   replace f2:w2.cell? ⟨wr.heap.size,2,none⟩=some (.int .i64 y2):=(bb.cell (p:=⟨wr.heap.size,2,none⟩) z1).trans f2
   have z2:wr.heap.size<w2.heap.size:=Nat.lt_of_lt_of_le z1 bb.size
   clear bb c0 c1 c2 c3 c4 c5
   obtain⟨c0,c1,c2,c3,c4,c5⟩:=(zu S3).c
   rw[zu EB] at c2
   by_cases q1:J=0
   ·have F:=zh ((zu BAD) (fun hh=>((zu FIT).1 hh.1).2.1 q1))
    have hq:(J==0)=true:=by simp[q1]
    clear BAD GOOD FIT T q1
    go_wp2
    go_ret
    exact⟨by rw[zu F];rfl,(zu S3).b⟩
   have hq1:(J==0)=false:=by simp[q1]
   have Q1:=zh q1
   clear q1
   by_cases q2:K=1
   ·have hq2:(K==1)=true:=by simp[q2]
    by_cases q3:y2<0
    ·have F:=zh ((zu BAD) (fun hh=>((zu FIT).1 hh.1).2.2 ⟨q2,q3⟩))
     clear BAD GOOD FIT T q2
     go_wp2
     go_ret
     exact⟨by rw[zu F];rfl,(zu S3).b⟩
    have FP':=zh ((zu FIT).2 ⟨zu Q0,zu Q1,fun r=>q3 r.2⟩)
    have hq3:decide (y2<0)=false:=decide_eq_false q3
    clear q2 q3 FIT
    obtain⟨r,c,hs⟩:=Look.sum_is x.b.bs y1
    have Z:=zh (sum_zero (zu L).2.2.1 hs)
    have HS:=zh hs
    clear hs
    go_wp2_with fail
    refine(Look.sSum _ gb _ x.cb x.b.bs y1 r c rfl nb ((zu S3).r.rb gb (zu EB)).1 ((zu S3).r.rb gb (zu EB)).2 (zu HS)).mono ?_
    rintro e w3 ⟨rfl,bb⟩
    have S4:=zh ((zu S3).step bb)
    clear bb c0 c1 c2 c3 c4 c5 f0 f1 f2
    cases c
    ·have F:=zh ((zu BAD) (fun e=>by have:=(zu Z).2 e.2;cases this.1))
     clear BAD GOOD T
     go_wp2
     go_ret
     exact⟨by rw[zu F];rfl,(zu S4).b⟩
    by_cases q:r=0
    ·have G:=zh ((zu GOOD) ⟨zu FP',(zu Z).1 ⟨rfl,q⟩⟩)
     have hq:(r !=0)=false:=by simp[q]
     clear BAD GOOD q
     go_wp2
     go_roundw
     case rel=>exact⟨k+1,by omega,by go_num,zu S4,G⟩
     case measure=>simp[intOf];omega
    ·have F:=zh ((zu BAD) (fun e=>q ((zu Z).2 e.2).2))
     have hq:(r !=0)=true:=by simp[q]
     clear BAD GOOD T q
     go_wp2
     go_ret
     exact⟨by rw[zu F];rfl,(zu S4).b⟩
   ·have hq2:(K==1)=false:=by simp[q2]
    have FP':=zh ((zu FIT).2 ⟨zu Q0,zu Q1,fun r=>q2 r.1⟩)
    clear q2 FIT
    obtain⟨r,c,hs⟩:=Look.sum_is x.b.bs y1
    have Z:=zh (sum_zero (zu L).2.2.1 hs)
    have HS:=zh hs
    clear hs
    go_wp2_with fail
    refine(Look.sSum _ gb _ x.cb x.b.bs y1 r c rfl nb ((zu S3).r.rb gb (zu EB)).1 ((zu S3).r.rb gb (zu EB)).2 (zu HS)).mono ?_
    rintro e w3 ⟨rfl,bb⟩
    have S4:=zh ((zu S3).step bb)
    clear bb c0 c1 c2 c3 c4 c5 f0 f1 f2
    cases c
    ·have F:=zh ((zu BAD) (fun e=>by have:=(zu Z).2 e.2;cases this.1))
     clear BAD GOOD T
     go_wp2
     go_ret
     exact⟨by rw[zu F];rfl,(zu S4).b⟩
    by_cases q:r=0
    ·have G:=zh ((zu GOOD) ⟨zu FP',(zu Z).1 ⟨rfl,q⟩⟩)
     have hq:(r !=0)=false:=by simp[q]
     clear BAD GOOD q
     go_wp2
     go_roundw
     case rel=>exact⟨k+1,by omega,by go_num,zu S4,G⟩
     case measure=>simp[intOf];omega
    ·have F:=zh ((zu BAD) (fun e=>q ((zu Z).2 e.2).2))
     have hq:(r !=0)=true:=by simp[q]
     clear BAD GOOD T q
     go_wp2
     go_ret
     exact⟨by rw[zu F];rfl,(zu S4).b⟩
  ·have F:=zh ((zu T).of (bals_spec (fun j hj=>(zu HG) j (by omega))))
   obtain⟨c0,c1,c2,c3,c4,c5⟩:=hS.c
   have S1:=zh hS
   clear hS
   go_wp2
   go_ret
   exact⟨by rw[zu F];rfl,(zu S1).b⟩
end SBalsV13
namespace SLotsV13
open BMem Bks BHelp BMemV13
open IBalsFit (one_more)
open Lots (Says says_of NoOk ownL restL)
open Bals (T3 el3 val sumI)
open Tup5 (T5 el5)
open Takes (sumQ)
theorem below_of_drew{w w':World}(h:Below w.drew.heap.size w.drew w'):Below w.heap.size w w':=⟨h.os,h.tape,h.output,h.size,h.block⟩
theorem rd_drew{w:World}{x:Ix}(h:RdV w x):RdV w.drew x:=⟨h.ea,h.ra,h.na,h.ei,h.ri,h.ni,h.eb,h.rb,h.nb,h.el,h.rl,h.nl,h.et,h.rt,h.nt⟩
def Even(b:Bk)(j k:Nat):Prop:=(Chart.el b.ac j).2=1→(Chart.el b.ic k).2=2→sumQ (ownL b.ls (Chart.el b.ac j).1 (Chart.el b.ic k).1)=val b.bs (Chart.el b.ac j).1 (Chart.el b.ic k).1
theorem sLots(w:World)(x:Ix)(b:Bool)(h:RdV w x)(hl:Lists x.b)(hb:Says b (LotsFit x.b)):
  Calls Tryz.prog 74 #[.agg #[.slice x.aa x.b.ac.length x.ca,.slice x.ai x.b.ic.length x.ci,.slice x.ab x.b.bs.length x.cb,.slice x.al x.b.ls.length x.cl,.slice x.ats x.b.ts.length x.ct,.int .i64 x.b.lot]] w fun e w'=>e= .returned (.bool b)∧Below w.heap.size w w':=by
 have T:=zh hb
 have L:=zh hl
 have S0:=zh (StV.start h 45)
 have nl:=h.nl
 have na:=h.na
 have ni:=h.ni
 have nb:=h.nb
 have n120:x.b.ls.length≤120:=hl.2.2.2.1.1
 clear hb hl h
 go_enter Tryz.func74,Tryz.ntmps74
 go_wp2
 go_loopw [3] (fun i wr=>∃(k:Nat),k≤x.b.ls.length∧i= .int .i64 k∧StV w wr x∧Hid (∀j,j<k→LotFit x.b (el5 x.b.ls j))) (fun i _=>x.b.ls.length-(intOf i).toNat)
 case atStart=>exact⟨0,by omega,rfl,zu S0,zh (fun i hi=>absurd hi (by omega))⟩
 case round=>
  obtain⟨k,hk,rfl,hS,HG⟩:=hrel
  clear S0
  by_cases t:k<x.b.ls.length
  ·obtain⟨gL,eL⟩:=hS.r.el (by omega)
   obtain⟨d0,d1,d2,d3,d4⟩:=(hS.r.rl gL eL).2 k t
   obtain⟨c0,c1,c2,c3,c4,c5⟩:=hS.c
   rw[eL] at c3
   clear eL
   have BAD:=zh (show ¬LotFit x.b (el5 x.b.ls k)→b=false from fun hr=>(zu T).not (fun r=>hr (r.1 k t)))
   have GOOD:=zh (show LotFit x.b (el5 x.b.ls k)→∀i,i<k+1→LotFit x.b (el5 x.b.ls i) from fun hr i hi=>by
    by_cases e:i=k
    ·subst e;exact hr
    ·exact(zu HG) i (by omega))
   have FIT:=zh (show LotFit x.b (el5 x.b.ls k)↔kindOf x.b.ac (el5 x.b.ls k).1=1∧kindOf x.b.ic (el5 x.b.ls k).2.1=2∧(el5 x.b.ls k).2.2.1≤x.b.lot from Iff.rfl)
   have wz:=hS.s
   have S1:=zh (hS.step (one_more wr (.cells #[.int .i64 (el5 x.b.ls k).1,.int .i64 (el5 x.b.ls k).2.1,.int .i64 (el5 x.b.ls k).2.2.1,.int .i64 (el5 x.b.ls k).2.2.2.1,.int .i64 (el5 x.b.ls k).2.2.2.2] 113)))
   clear hS
   generalize LotFit x.b (el5 x.b.ls k)=FP at *
   generalize (el5 x.b.ls k).1=y0 at *
   generalize (el5 x.b.ls k).2.1=y1 at *
   generalize (el5 x.b.ls k).2.2.1=y2 at *
   generalize (el5 x.b.ls k).2.2.2.1=y3 at *
   generalize (el5 x.b.ls k).2.2.2.2=y4 at *
   generalize hK:kindOf x.b.ac y0=K at *
   generalize hJ:kindOf x.b.ic y1=J at *
   have HK:=zh hK
   have HJ:=zh hJ
   clear hK hJ
   go_wp2_with fail
   refine(sKindA _ x y0 K (zu S1).r (zu L).1 (zu HK)).mono ?_
   rintro e w1 ⟨rfl,bb⟩
   have S2:=zh ((zu S1).step bb)
   have f1:w1.cell? ⟨wr.heap.size,1,none⟩=some (.int .i64 y1):=(bb.cell (p:=⟨wr.heap.size,1,none⟩) (by simp)).trans (by simp)
   have f2:w1.cell? ⟨wr.heap.size,2,none⟩=some (.int .i64 y2):=(bb.cell (p:=⟨wr.heap.size,2,none⟩) (by simp)).trans (by simp)
   have z1:wr.heap.size<w1.heap.size:=by have:=bb.size;simp at this;omega
   clear bb c0 c1 c2 c3 c4 c5 d0 d1 d2 d3 d4
   obtain⟨c0,c1,c2,c3,c4,c5⟩:=(zu S2).c
   by_cases q0:K=1
   ·have hq0:(K !=1)=false:=by simp[q0]
    have Q0:=zh q0
    clear q0
    go_wp2_with fail
    refine(sKindI _ x y1 J (zu S2).r (zu L).2.1 (zu HJ)).mono ?_
    rintro e w2 ⟨rfl,bb⟩
    have S3:=zh ((zu S2).step bb)
    replace f2:w2.cell? ⟨wr.heap.size,2,none⟩=some (.int .i64 y2):=(bb.cell (p:=⟨wr.heap.size,2,none⟩) z1).trans f2
    clear bb c0 c1 c2 c3 c4 c5
    obtain⟨c0,c1,c2,c3,c4,c5⟩:=(zu S3).c
    by_cases q1:J=2
    ·have hq1:(J !=2)=false:=by simp[q1]
     by_cases q2:y2>x.b.lot
     ·have F:=zh ((zu BAD) (fun hh=>by have:=((zu FIT).1 hh).2.2;omega))
      clear BAD GOOD FIT T q1
      go_wp2
      go_ret
      exact⟨by rw[zu F];rfl,(zu S3).b⟩
     ·have G:=zh ((zu GOOD) ((zu FIT).2 ⟨zu Q0,q1,by omega⟩))
      have hq2:decide (y2>x.b.lot)=false:=decide_eq_false q2
      clear BAD GOOD FIT q1 q2
      go_wp2
      go_roundw
      case rel=>exact⟨k+1,by omega,by go_num,zu S3,G⟩
      case measure=>simp[intOf];omega
    ·have F:=zh ((zu BAD) (fun hh=>q1 ((zu FIT).1 hh).2.1))
     have hq1:(J !=2)=true:=by simp[q1]
     clear BAD GOOD FIT T q1
     go_wp2
     go_ret
     exact⟨by rw[zu F];rfl,(zu S3).b⟩
   ·have F:=zh ((zu BAD) (fun hh=>q0 ((zu FIT).1 hh).1))
    have hq:(K !=1)=true:=by simp[q0]
    clear BAD GOOD FIT T q0
    go_wp2
    go_ret
    exact⟨by rw[zu F];rfl,(zu S2).b⟩
  ·have ALL:=zh (show ∀j,j<x.b.ls.length→LotFit x.b (el5 x.b.ls j) from fun j hj=>(zu HG) j (by omega))
   have IFF:=zh (lots_spec (zu L).1 (zu L).2.1 (zu ALL))
   obtain⟨c0,c1,c2,c3,c4,c5⟩:=hS.c
   have S1:=zh hS
   clear hS HG
   go_wp2
   go_loopw [5] (fun i wr=>∃(j:Nat),j≤x.b.ac.length∧i= .int .i64 j∧StV w wr x∧Hid (∀j',j'<j→∀k,k<x.b.ic.length→Even x.b j' k)) (fun i _=>x.b.ac.length-(intOf i).toNat)
   case atStart=>exact⟨0,by omega,rfl,zu S1,zh (fun i hi=>absurd hi (by omega))⟩
   case round=>
    clear c0 c1 c2 c3 c4 c5 S1 hk t
    obtain⟨j,hj,rfl,hS,HG⟩:=hrel
    obtain⟨c0,c1,c2,c3,c4,c5⟩:=hS.c
    have S1:=zh hS
    clear hS
    by_cases t:j<x.b.ac.length
    ·go_wp2
     go_loopw [6] (fun i wr=>∃(k:Nat),k≤x.b.ic.length∧i= .int .i64 k∧StV w wr x∧Hid (∀k',k'<k→Even x.b j k')) (fun i _=>x.b.ic.length-(intOf i).toNat)
     case atStart=>exact⟨0,by omega,rfl,zu S1,zh (fun i hi=>absurd hi (by omega))⟩
     case round=>
      clear c0 c1 c2 c3 c4 c5 S1
      obtain⟨k,hk,rfl,hS,HK⟩:=hrel
      obtain⟨c0,c1,c2,c3,c4,c5⟩:=hS.c
      by_cases u:k<x.b.ic.length
      ·obtain⟨gA,eA⟩:=hS.r.ea (by omega)
       obtain⟨gI,eI⟩:=hS.r.ei (by omega)
       obtain⟨a0,a1⟩:=(hS.r.ra gA eA).2 j t
       obtain⟨i0,i1⟩:=(hS.r.ri gI eI).2 k u
       rw[eA] at c0
       rw[eI] at c1
       have EA:=zh eA
       have EI:=zh eI
       clear eA eI
       have S2:=zh hS
       have wz:=hS.s
       clear hS
       have BAD:=zh (show ¬Even x.b j k→b=false from fun hr=>(zu T).not (fun r=>hr (((zu IFF).1 r) j t k u)))
       have GOOD:=zh (show Even x.b j k→∀i,i<k+1→Even x.b j i from fun hr i hi=>by
        by_cases e:i=k
        ·subst e;exact hr
        ·exact(zu HK) i (by omega))
       have DEF:=zh (show Even x.b j k↔((Chart.el x.b.ac j).2=1→(Chart.el x.b.ic k).2=2→sumQ (ownL x.b.ls (Chart.el x.b.ac j).1 (Chart.el x.b.ic k).1)=val x.b.bs (Chart.el x.b.ac j).1 (Chart.el x.b.ic k).1) from Iff.rfl)
       generalize Even x.b j k=EP at *
       generalize (Chart.el x.b.ac j).1=y0 at *
       generalize (Chart.el x.b.ac j).2=y1 at *
       generalize (Chart.el x.b.ic k).1=z0 at *
       generalize (Chart.el x.b.ic k).2=z1 at *
       by_cases q0:y1=1
       ·by_cases q1:z1=2
        ·have DEF2:=zh (show EP↔sumQ (ownL x.b.ls y0 z0)=val x.b.bs y0 z0 from(zu DEF).trans ⟨fun hh=>hh q0 q1,fun hh _ _=>hh⟩)
         have hq0:(y1==1)=true:=by simp[q0]
         have hq1:(z1==2)=true:=by simp[q1]
         have kj:(0:Int)≤(j:Int):=by omega
         have kj2:(j:Int)<(x.b.ac.length:Int):=by omega
         have kk:(0:Int)≤(k:Int):=by omega
         have kk2:(k:Int)<(x.b.ic.length:Int):=by omega
         clear DEF q0 q1
         go_wp2_with fail
         have ga:=((zu S2).r.ra gA (zu EA)).1
         have gi:=((zu S2).r.ri gI (zu EI)).1
         go_region_held3 (fun w'=>w'.cell? ⟨w.heap.size,0,none⟩=some (.slice (some ⟨gA,0,none⟩) x.b.ac.length x.ca)∧w'.cell? ⟨w.heap.size,1,none⟩=some (.slice (some ⟨gI,0,none⟩) x.b.ic.length x.ci)∧w'.cell? ⟨w.heap.size,2,none⟩=some (.slice x.ab x.b.bs.length x.cb)∧w'.cell? ⟨w.heap.size,3,none⟩=some (.slice x.al x.b.ls.length x.cl)∧w'.cell? ⟨gA,j*2,none⟩=some (.int .i64 y0)∧w'.cell? ⟨gI,k*2,none⟩=some (.int .i64 z0)) (go_keep)
          (first|(go_at_call 137;refine(sSplitV wr.drew x y0 z0 (rd_drew (zu S2).r) (by omega)).mono ?_;rintro e w3 ⟨g1,k1,g2,n2,k2,rfl,o1,bb⟩;have bW:Below wr.heap.size wr w3:=below_of_drew bb;have pc0:w3.cell? ⟨w.heap.size,0,none⟩=some (.slice (some ⟨gA,0,none⟩) x.b.ac.length x.ca):=(bW.cell (p:=⟨w.heap.size,0,none⟩) wz).trans c0;have pc1:w3.cell? ⟨w.heap.size,1,none⟩=some (.slice (some ⟨gI,0,none⟩) x.b.ic.length x.ci):=(bW.cell (p:=⟨w.heap.size,1,none⟩) wz).trans c1;have pc2:w3.cell? ⟨w.heap.size,2,none⟩=some (.slice x.ab x.b.bs.length x.cb):=(bW.cell (p:=⟨w.heap.size,2,none⟩) wz).trans c2;have pc3:w3.cell? ⟨w.heap.size,3,none⟩=some (.slice x.al x.b.ls.length x.cl):=(bW.cell (p:=⟨w.heap.size,3,none⟩) wz).trans c3;have pa0:w3.cell? ⟨gA,j*2,none⟩=some (.int .i64 y0):=(bW.cell (p:=⟨gA,j*2,none⟩) ga).trans a0;have pi0:w3.cell? ⟨gI,k*2,none⟩=some (.int .i64 z0):=(bW.cell (p:=⟨gI,k*2,none⟩) gi).trans i0))
         have S3:=zh ((zu S2).step bW)
         have O1:=zh o1
         have l1:=o1.lt.2
         clear c0 c1 c2 c3 c4 c5 a0 a1 i0 i1 bb bW o1
         obtain⟨ps1,ps2,ps3⟩:=Takes.own_pos (zu L).2.2.2.1 y0 z0
         have P1:=zh ps1
         have n1:(ownL x.b.ls y0 z0).length≤1048576:=Nat.le_trans (List.length_filter_le _ _) nl
         have w3z:=(zu S3).s
         have ga3:=((zu S3).r.ra gA (zu EA)).1
         have gi3:=((zu S3).r.ri gI (zu EI)).1
         clear ps1 ps3
         generalize hQ:sumQ (ownL x.b.ls y0 z0)=QV at *
         generalize hV:val x.b.bs y0 z0=VV at *
         have HQ:=zh hQ
         have HV:=zh hV
         clear hQ hV
         go_wp2_with fail
         go_region_held3 (fun w'=>w'.cell? ⟨w.heap.size,0,none⟩=some (.slice (some ⟨gA,0,none⟩) x.b.ac.length x.ca)∧w'.cell? ⟨w.heap.size,1,none⟩=some (.slice (some ⟨gI,0,none⟩) x.b.ic.length x.ci)∧w'.cell? ⟨w.heap.size,2,none⟩=some (.slice x.ab x.b.bs.length x.cb)∧w'.cell? ⟨w.heap.size,3,none⟩=some (.slice x.al x.b.ls.length x.cl)∧w'.cell? ⟨gA,j*2,none⟩=some (.int .i64 y0)∧w'.cell? ⟨gI,k*2,none⟩=some (.int .i64 z0)) (go_keep)
          (first|(go_at_call 138;refine(SSplit.sQty w3.drew g1 _ k1 (ownL x.b.ls y0 z0) rfl n1 (zu O1).at (zu P1) (by rw[zu HQ];exact ps2)).mono ?_;rintro e w4 ⟨he,bb⟩;rw[zu HQ] at he;subst he;have bW:Below w3.heap.size w3 w4:=below_of_drew bb;have qc0:w4.cell? ⟨w.heap.size,0,none⟩=some (.slice (some ⟨gA,0,none⟩) x.b.ac.length x.ca):=(bW.cell (p:=⟨w.heap.size,0,none⟩) w3z).trans pc0;have qc1:w4.cell? ⟨w.heap.size,1,none⟩=some (.slice (some ⟨gI,0,none⟩) x.b.ic.length x.ci):=(bW.cell (p:=⟨w.heap.size,1,none⟩) w3z).trans pc1;have qc2:w4.cell? ⟨w.heap.size,2,none⟩=some (.slice x.ab x.b.bs.length x.cb):=(bW.cell (p:=⟨w.heap.size,2,none⟩) w3z).trans pc2;have qc3:w4.cell? ⟨w.heap.size,3,none⟩=some (.slice x.al x.b.ls.length x.cl):=(bW.cell (p:=⟨w.heap.size,3,none⟩) w3z).trans pc3;have qa0:w4.cell? ⟨gA,j*2,none⟩=some (.int .i64 y0):=(bW.cell (p:=⟨gA,j*2,none⟩) ga3).trans pa0;have qi0:w4.cell? ⟨gI,k*2,none⟩=some (.int .i64 z0):=(bW.cell (p:=⟨gI,k*2,none⟩) gi3).trans pi0)|(go_at_call 139;refine(sOfV w4 x y0 z0 ((zu S3).r.below bW)).mono ?_;rintro e w5 ⟨he,rfl⟩;rw[zu HV] at he;subst he))
         have S4:=zh ((zu S3).step bW)
         clear bb bW qc0 qc1 qc2 qc3 qa0 qi0 pc0 pc1 pc2 pc3 pa0 pi0
         by_cases q2:QV=VV
         ·have G:=zh ((zu GOOD) ((zu DEF2).2 q2))
          have hq2:(QV !=VV)=false:=by simp[q2]
          clear BAD GOOD DEF2 q2
          go_wp2
          go_roundw
          case rel=>exact⟨k+1,by omega,by go_num,zu S4,G⟩
          case measure=>simp[intOf];omega
         ·have F:=zh ((zu BAD) (fun hh=>q2 ((zu DEF2).1 hh)))
          have hq2:(QV !=VV)=true:=by simp[q2]
          clear BAD GOOD DEF2 T q2
          go_wp2
          go_ret
          exact⟨by rw[zu F];rfl,(zu S4).b⟩
        ·have G:=zh ((zu GOOD) ((zu DEF).2 (fun _ e=>absurd e q1)))
         have hq0:(y1==1)=true:=by simp[q0]
         have hq1:(z1==2)=false:=by simp[q1]
         clear BAD GOOD DEF q0 q1
         go_wp2
         go_roundw
         case rel=>exact⟨k+1,by omega,by go_num,zu S2,G⟩
         case measure=>simp[intOf];omega
       ·have G:=zh ((zu GOOD) ((zu DEF).2 (fun e _=>absurd e q0)))
        have hq0:(y1==1)=false:=by simp[q0]
        clear BAD GOOD DEF q0
        go_wp2
        go_roundw
        case rel=>exact⟨k+1,by omega,by go_num,zu S2,G⟩
        case measure=>simp[intOf];omega
      ·have G:=zh (show ∀j',j'<j+1→∀k,k<x.b.ic.length→Even x.b j' k from fun j' hj' k' hk'=>by
        by_cases e:j'=j
        ·subst e;exact(zu HK) k' (by omega)
        ·exact(zu HG) j' (by omega) k' hk')
       have S2:=zh hS
       clear hS
       go_wp2
       go_roundw
       case rel=>exact⟨j+1,by omega,by go_num,zu S2,G⟩
       case measure=>simp[intOf];omega
    ·have F:=zh ((zu T).of ((zu IFF).2 (fun j' hj' k hk=>(zu HG) j' (by omega) k hk)))
     go_wp2
     go_ret
     exact⟨by rw[zu F];rfl,(zu S1).b⟩
end SLotsV13
namespace SBooksOkV13
open BMem Bks BHelp BMemV13 SBalsV13 SLotsV13
open IBalsFit (one_more)
open Lots (Says says_of NoOk)
open Tup8 (T8 el8)
theorem sBooksOkV(w:World)(x:Ix)(b:Bool)(h:RdV w x)(hb:Says b (Ok x.b)):
  Calls Tryz.prog 27 #[.agg #[.slice x.aa x.b.ac.length x.ca,.slice x.ai x.b.ic.length x.ci,.slice x.ab x.b.bs.length x.cb,.slice x.al x.b.ls.length x.cl,.slice x.ats x.b.ts.length x.ct,.int .i64 x.b.lot]] w fun e w'=>e= .returned (.bool b)∧Below w.heap.size w w':=by
 have T:=zh hb
 have S0:=zh (StV.start h 45)
 have nb:=h.nb
 have nl:=h.nl
 have nt:=h.nt
 obtain⟨b0,h0⟩:=Chart.says_of 20 4 x.b.ac
 obtain⟨b1,h1⟩:=Chart.says_of 8 2 x.b.ic
 obtain⟨b2,h2⟩:=Bals.says_of (Bals.Right x.b.bs)
 obtain⟨b3,h3⟩:=says_of (Lots.Right x.b.ls)
 obtain⟨b4,h4⟩:=says_of (TRight x.b.ts)
 obtain⟨b5,h5⟩:=says_of (0≤x.b.lot∧x.b.lot≤1000000000)
 obtain⟨b6,h6⟩:=says_of (BalsFit x.b)
 obtain⟨b7,h7⟩:=says_of (LotsFit x.b)
 have H0:=zh h0
 have H1:=zh h1
 have H2:=zh h2
 have H3:=zh h3
 have H4:=zh h4
 have H5:=zh h5
 have H6:=zh h6
 have H7:=zh h7
 clear hb h h0 h1 h2 h3 h4 h5 h6 h7
 go_enter Tryz.func27,Tryz.ntmps27
 go_wp2_with fail
 refine(sOksA _ x b0 (zu S0).r (zu H0)).mono ?_
 rintro e w1 ⟨rfl,bb⟩
 have S1:=zh ((zu S0).step bb)
 clear bb
 obtain⟨c0,c1,c2,c3,c4,c5⟩:=(zu S1).c
 cases b0
 ·have F:=zh ((zu T).not (fun hh=>(zu H0).no hh.1.1))
  clear T
  go_wp2
  go_ret
  exact⟨by rw[zu F];rfl,(zu S1).b⟩
 go_wp2_with fail
 refine(sOksI _ x b1 (zu S1).r (zu H1)).mono ?_
 rintro e w2 ⟨rfl,bb⟩
 have S2:=zh ((zu S1).step bb)
 clear bb
 clear c0 c1 c2 c3 c4 c5
 obtain⟨c0,c1,c2,c3,c4,c5⟩:=(zu S2).c
 cases b1
 ·have F:=zh ((zu T).not (fun hh=>(zu H1).no hh.1.2.1))
  clear T
  go_wp2
  go_ret
  exact⟨by rw[zu F];rfl,(zu S2).b⟩
 go_wp2_with fail
 refine(sOksB _ x b2 (zu S2).r (zu H2)).mono ?_
 rintro e w3 ⟨rfl,bb⟩
 have S3:=zh ((zu S2).step bb)
 clear bb
 clear c0 c1 c2 c3 c4 c5
 obtain⟨c0,c1,c2,c3,c4,c5⟩:=(zu S3).c
 cases b2
 ·have F:=zh ((zu T).not (fun hh=>(zu H2).no hh.1.2.2.1))
  clear T
  go_wp2
  go_ret
  exact⟨by rw[zu F];rfl,(zu S3).b⟩
 go_wp2_with fail
 refine(sOksL _ x b3 (zu S3).r (zu H3)).mono ?_
 rintro e w4 ⟨rfl,bb⟩
 have S4:=zh ((zu S3).step bb)
 clear bb
 clear c0 c1 c2 c3 c4 c5
 obtain⟨c0,c1,c2,c3,c4,c5⟩:=(zu S4).c
 cases b3
 ·have F:=zh ((zu T).not (fun hh=>(zu H3).no hh.1.2.2.2.1))
  clear T
  go_wp2
  go_ret
  exact⟨by rw[zu F];rfl,(zu S4).b⟩
 go_wp2_with fail
 refine(sOksT _ x b4 (zu S4).r (zu H4)).mono ?_
 rintro e w5 ⟨rfl,bb⟩
 have S5:=zh ((zu S4).step bb)
 clear bb
 clear c0 c1 c2 c3 c4 c5
 obtain⟨c0,c1,c2,c3,c4,c5⟩:=(zu S5).c
 cases b4
 ·have F:=zh ((zu T).not (fun hh=>(zu H4).no hh.1.2.2.2.2.1))
  clear T
  go_wp2
  go_ret
  exact⟨by rw[zu F];rfl,(zu S5).b⟩
 go_wp2_with fail
 refine(SOk5.sIn x.b.lot 0 1000000000 b5 _ (zu H5)).mono ?_
 rintro e w6 ⟨rfl,rfl⟩
 have S6:=S5
 cases b5
 ·have F:=zh ((zu T).not (fun hh=>(zu H5).no hh.1.2.2.2.2.2))
  clear T
  go_wp2
  go_ret
  exact⟨by rw[zu F];rfl,(zu S6).b⟩
 have L:=zh (show Lists x.b from⟨(zu H0).yes,(zu H1).yes,(zu H2).yes,(zu H3).yes,(zu H4).yes,(zu H5).yes⟩)
 go_wp2_with fail
 refine(sBals _ x b6 (zu S6).r (zu L) (zu H6)).mono ?_
 rintro e w7 ⟨rfl,bb⟩
 have S7:=zh ((zu S6).step bb)
 clear bb
 clear c0 c1 c2 c3 c4 c5
 obtain⟨c0,c1,c2,c3,c4,c5⟩:=(zu S7).c
 cases b6
 ·have F:=zh ((zu T).not (fun hh=>(zu H6).no hh.2.1))
  clear T
  go_wp2
  go_ret
  exact⟨by rw[zu F];rfl,(zu S7).b⟩
 go_wp2_with fail
 refine(sLots _ x b7 (zu S7).r (zu L) (zu H7)).mono ?_
 rintro e w8 ⟨rfl,bb⟩
 have S8:=zh ((zu S7).step bb)
 clear bb
 clear c0 c1 c2 c3 c4 c5
 obtain⟨c0,c1,c2,c3,c4,c5⟩:=(zu S8).c
 cases b7
 ·have F:=zh ((zu T).not (fun hh=>(zu H7).no hh.2.2.1))
  clear T
  go_wp2
  go_ret
  exact⟨by rw[zu F];rfl,(zu S8).b⟩
 go_wp2
 go_loopw [3] (fun i wr=>∃(k:Nat),k≤x.b.ts.length∧i= .int .i64 k∧StV w wr x∧Hid (∀j,j<k→TradeFit x.b (el8 x.b.ts j))) (fun i _=>x.b.ts.length-(intOf i).toNat)
 case atStart=>exact⟨0,by omega,rfl,zu S8,zh (fun i hi=>absurd hi (by omega))⟩
 case round=>
  obtain⟨k,hk,rfl,hS,HG⟩:=hrel
  clear S0 S1 S2 S3 S4 S5 S6 S7 S8 c0 c1 c2 c3 c4 c5
  obtain⟨c0,c1,c2,c3,c4,c5⟩:=hS.c
  by_cases t:k<x.b.ts.length
  ·obtain⟨gT,eT⟩:=hS.r.et (by omega)
   obtain⟨d0,d1,d2,d3,d4,d5,d6,d7⟩:=(hS.r.rt gT eT).2 k t
   rw[eT] at c4
   clear eT
   have BAD:=zh (show ¬TradeFit x.b (el8 x.b.ts k)→b=false from fun hr=>(zu T).not (fun r=>hr (r.2.2.2 k t)))
   have GOOD:=zh (show TradeFit x.b (el8 x.b.ts k)→∀i,i<k+1→TradeFit x.b (el8 x.b.ts i) from fun hr i hi=>by
    by_cases e:i=k
    ·subst e;exact hr
    ·exact(zu HG) i (by omega))
   have FIT:=zh (show TradeFit x.b (el8 x.b.ts k)↔kindOf x.b.ac (el8 x.b.ts k).2.1=1∧kindOf x.b.ac (el8 x.b.ts k).2.2.1=1∧kindOf x.b.ic (el8 x.b.ts k).2.2.2.1=2∧kindOf x.b.ic (el8 x.b.ts k).2.2.2.2.2.1=1 from Iff.rfl)
   have wz:=hS.s
   have S1:=zh (hS.step (one_more wr (.cells #[.int .i64 (el8 x.b.ts k).1,.int .i64 (el8 x.b.ts k).2.1,.int .i64 (el8 x.b.ts k).2.2.1,.int .i64 (el8 x.b.ts k).2.2.2.1,.int .i64 (el8 x.b.ts k).2.2.2.2.1,.int .i64 (el8 x.b.ts k).2.2.2.2.2.1,.int .i64 (el8 x.b.ts k).2.2.2.2.2.2.1,.int .i64 (el8 x.b.ts k).2.2.2.2.2.2.2] 115)))
   clear hS
   generalize TradeFit x.b (el8 x.b.ts k)=FP at *
   generalize (el8 x.b.ts k).1=y0 at *
   generalize (el8 x.b.ts k).2.1=y1 at *
   generalize (el8 x.b.ts k).2.2.1=y2 at *
   generalize (el8 x.b.ts k).2.2.2.1=y3 at *
   generalize (el8 x.b.ts k).2.2.2.2.1=y4 at *
   generalize (el8 x.b.ts k).2.2.2.2.2.1=y5 at *
   generalize (el8 x.b.ts k).2.2.2.2.2.2.1=y6 at *
   generalize (el8 x.b.ts k).2.2.2.2.2.2.2=y7 at *
   generalize hK1:kindOf x.b.ac y1=K1 at *
   generalize hK2:kindOf x.b.ac y2=K2 at *
   generalize hK3:kindOf x.b.ic y3=K3 at *
   generalize hK4:kindOf x.b.ic y5=K4 at *
   have N1:=zh hK1
   have N2:=zh hK2
   have N3:=zh hK3
   have N4:=zh hK4
   clear hK1 hK2 hK3 hK4
   go_wp2_with fail
   refine(sKindA _ x y1 K1 (zu S1).r (zu L).1 (zu N1)).mono ?_
   rintro e v1 ⟨rfl,bb⟩
   have S2:=zh ((zu S1).step bb)
   have f2:v1.cell? ⟨wr.heap.size,2,none⟩=some (.int .i64 y2):=(bb.cell (p:=⟨wr.heap.size,2,none⟩) (by simp)).trans (by simp)
   have f3:v1.cell? ⟨wr.heap.size,3,none⟩=some (.int .i64 y3):=(bb.cell (p:=⟨wr.heap.size,3,none⟩) (by simp)).trans (by simp)
   have f5:v1.cell? ⟨wr.heap.size,5,none⟩=some (.int .i64 y5):=(bb.cell (p:=⟨wr.heap.size,5,none⟩) (by simp)).trans (by simp)
   have z1:wr.heap.size<v1.heap.size:=by have:=bb.size;simp at this;omega
   clear d0 d1 d2 d3 d4 d5 d6 d7
   clear bb c0 c1 c2 c3 c4 c5
   obtain⟨c0,c1,c2,c3,c4,c5⟩:=(zu S2).c
   by_cases q1:K1=1
   rotate_left
   ·have F:=zh ((zu BAD) (fun hh=>q1 ((zu FIT).1 hh).1))
    have hq:(K1 !=1)=true:=by simp[q1]
    clear BAD GOOD FIT T q1
    go_wp2
    go_ret
    exact⟨by rw[zu F];rfl,(zu S2).b⟩
   have hq1:(K1 !=1)=false:=by simp[q1]
   have Q1:=zh q1
   clear q1
   go_wp2_with fail
   refine(sKindA _ x y2 K2 (zu S2).r (zu L).1 (zu N2)).mono ?_
   rintro e v2 ⟨rfl,bb⟩
   have S3:=zh ((zu S2).step bb)
   replace f2:v2.cell? ⟨wr.heap.size,2,none⟩=some (.int .i64 y2):=(bb.cell (p:=⟨wr.heap.size,2,none⟩) z1).trans f2
   replace f3:v2.cell? ⟨wr.heap.size,3,none⟩=some (.int .i64 y3):=(bb.cell (p:=⟨wr.heap.size,3,none⟩) z1).trans f3
   replace f5:v2.cell? ⟨wr.heap.size,5,none⟩=some (.int .i64 y5):=(bb.cell (p:=⟨wr.heap.size,5,none⟩) z1).trans f5
   have z2:wr.heap.size<v2.heap.size:=Nat.lt_of_lt_of_le z1 bb.size
   clear bb c0 c1 c2 c3 c4 c5
   obtain⟨c0,c1,c2,c3,c4,c5⟩:=(zu S3).c
   by_cases q2:K2=1
   rotate_left
   ·have F:=zh ((zu BAD) (fun hh=>q2 ((zu FIT).1 hh).2.1))
    have hq:(K2 !=1)=true:=by simp[q2]
    clear BAD GOOD FIT T q2
    go_wp2
    go_ret
    exact⟨by rw[zu F];rfl,(zu S3).b⟩
   have hq2:(K2 !=1)=false:=by simp[q2]
   have Q2:=zh q2
   clear q2
   go_wp2_with fail
   refine(sKindI _ x y3 K3 (zu S3).r (zu L).2.1 (zu N3)).mono ?_
   rintro e v3 ⟨rfl,bb⟩
   have S4:=zh ((zu S3).step bb)
   replace f2:v3.cell? ⟨wr.heap.size,2,none⟩=some (.int .i64 y2):=(bb.cell (p:=⟨wr.heap.size,2,none⟩) z2).trans f2
   replace f3:v3.cell? ⟨wr.heap.size,3,none⟩=some (.int .i64 y3):=(bb.cell (p:=⟨wr.heap.size,3,none⟩) z2).trans f3
   replace f5:v3.cell? ⟨wr.heap.size,5,none⟩=some (.int .i64 y5):=(bb.cell (p:=⟨wr.heap.size,5,none⟩) z2).trans f5
   have z3:wr.heap.size<v3.heap.size:=Nat.lt_of_lt_of_le z2 bb.size
   clear bb c0 c1 c2 c3 c4 c5
   obtain⟨c0,c1,c2,c3,c4,c5⟩:=(zu S4).c
   by_cases q3:K3=2
   rotate_left
   ·have F:=zh ((zu BAD) (fun hh=>q3 ((zu FIT).1 hh).2.2.1))
    have hq:(K3 !=2)=true:=by simp[q3]
    clear BAD GOOD FIT T q3
    go_wp2
    go_ret
    exact⟨by rw[zu F];rfl,(zu S4).b⟩
   have hq3:(K3 !=2)=false:=by simp[q3]
   have Q3:=zh q3
   clear q3
   go_wp2_with fail
   refine(sKindI _ x y5 K4 (zu S4).r (zu L).2.1 (zu N4)).mono ?_
   rintro e v4 ⟨rfl,bb⟩
   have S5:=zh ((zu S4).step bb)
   clear bb c0 c1 c2 c3 c4 c5
   obtain⟨c0,c1,c2,c3,c4,c5⟩:=(zu S5).c
   by_cases q4:K4=1
   rotate_left
   ·have F:=zh ((zu BAD) (fun hh=>q4 ((zu FIT).1 hh).2.2.2))
    have hq:(K4 !=1)=true:=by simp[q4]
    clear BAD GOOD FIT T q4
    go_wp2
    go_ret
    exact⟨by rw[zu F];rfl,(zu S5).b⟩
   have hq4:(K4 !=1)=false:=by simp[q4]
   have Q4:=zh q4
   clear q4
   have G:=zh ((zu GOOD) ((zu FIT).2 ⟨zu Q1,zu Q2,zu Q3,zu Q4⟩))
   clear BAD GOOD FIT
   go_wp2
   go_roundw
   case rel=>exact⟨k+1,by omega,by go_num,zu S5,G⟩
   case measure=>simp[intOf];omega
  ·have F:=zh ((zu T).of ⟨zu L,(zu H6).yes,(zu H7).yes,fun j hj=>(zu HG) j (by omega)⟩)
   have S1:=zh hS
   clear hS
   go_wp2
   go_ret
   exact⟨by rw[zu F];rfl,(zu S1).b⟩
end SBooksOkV13
end Go.Proofs.YtlbgfdpcgpijhaaGreat
