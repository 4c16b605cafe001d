/- Texts of one proof, one behind the other: BMemV13, SRead13L, VB13, LawR13, LoadH16, SBalsV13, SLotsV13, SBooksOkV13. -/
import Derived.Test.YtagmnociflkhcaaGreatDoorRows
import Derived.Test.YtagmnociflkhcaaGreatDoorCards
import Derived.Test.YtagmnociflkhcaaGreatDoorTie
import Derived.Test.YtagmnociflkhcaaGreatDoorQL0
import Derived.Test.YtagmnociflkhcaaGreatDoorQL1
import Derived.Test.YtagmnociflkhcaaGreatDoorQL3
import Derived.Test.YtagmnociflkhcaaGreatDoorQL4
import Derived.Test.YtagmnociflkhcaaGreatDoorQL5
import Derived.Test.YtagmnociflkhcaaGreatDoorQL14
import Derived.Test.YtagmnociflkhcaaGreatDoorQL16
import Derived.Deep.RegionHeld3
set_option linter.unusedVariables false
set_option linter.unusedSimpArgs false
open Go.ChangeShapes Go.WideShapes Go.ChangeAt Go.RowKit
set_option maxRecDepth 100000
set_option maxHeartbeats 32000000
namespace Go.Proofs.YtagmnociflkhcaaGreatDoor
namespace BMemV13
open BMem Bks BHelp
open Lots (Says says_of NoOk ownL restL)
open Bals (T3 el3 val sumI)
open Tup5 (T5 el5)
open Tup8 (T8 el8)
open IBalsFit (one_more)
open Pairs (below_drewN)
structure RdV(w:World)(x:Ix):Prop where
 ea:x.b.ac.length≠0→∃g,x.aa=some ⟨g,0,none⟩
 ra:∀g,x.aa=some ⟨g,0,none⟩→g<w.heap.size∧Pairs.At w g x.b.ac
 na:x.b.ac.length≤1048576
 ei:x.b.ic.length≠0→∃g,x.ai=some ⟨g,0,none⟩
 ri:∀g,x.ai=some ⟨g,0,none⟩→g<w.heap.size∧Pairs.At w g x.b.ic
 ni:x.b.ic.length≤1048576
 eb:x.b.bs.length≠0→∃g,x.ab=some ⟨g,0,none⟩
 rb:∀g,x.ab=some ⟨g,0,none⟩→g<w.heap.size∧Triples.At3 w g x.b.bs
 nb:x.b.bs.length≤1048576
 el:x.b.ls.length≠0→∃g,x.al=some ⟨g,0,none⟩
 rl:∀g,x.al=some ⟨g,0,none⟩→g<w.heap.size∧Tup5.At5 w g x.b.ls
 nl:x.b.ls.length≤1048576
 et:x.b.ts.length≠0→∃g,x.ats=some ⟨g,0,none⟩
 rt:∀g,x.ats=some ⟨g,0,none⟩→g<w.heap.size∧Tup8.At8 w g x.b.ts
 nt:x.b.ts.length≤1048576
theorem RdV.below{w w':World}{x:Ix}(h:RdV w x)(k:Below w.heap.size w w'):RdV w' x:=
 ⟨h.ea,fun g e=>⟨Nat.lt_of_lt_of_le (h.ra g e).1 k.size,(h.ra g e).2.below k (h.ra g e).1⟩,h.na,h.ei,fun g e=>⟨Nat.lt_of_lt_of_le (h.ri g e).1 k.size,(h.ri g e).2.below k (h.ri g e).1⟩,h.ni,h.eb,fun g e=>⟨Nat.lt_of_lt_of_le (h.rb g e).1 k.size,(h.rb g e).2.below k (h.rb g e).1⟩,h.nb,h.el,fun g e=>⟨Nat.lt_of_lt_of_le (h.rl g e).1 k.size,(h.rl g e).2.below k (h.rl g e).1⟩,h.nl,h.et,fun g e=>⟨Nat.lt_of_lt_of_le (h.rt g e).1 k.size,(h.rt g e).2.below k (h.rt g e).1⟩,h.nt⟩
structure ClV(w:World)(g:Nat)(x:Ix):Prop where
 c0:w.cell? ⟨g,0,none⟩=some (.slice x.aa x.b.ac.length x.ca)
 c1:w.cell? ⟨g,1,none⟩=some (.slice x.ai x.b.ic.length x.ci)
 c2:w.cell? ⟨g,2,none⟩=some (.slice x.ab x.b.bs.length x.cb)
 c3:w.cell? ⟨g,3,none⟩=some (.slice x.al x.b.ls.length x.cl)
 c4:w.cell? ⟨g,4,none⟩=some (.slice x.ats x.b.ts.length x.ct)
 c5:w.cell? ⟨g,5,none⟩=some (.int .i64 x.b.lot)
theorem ClV.below{w w':World}{B g:Nat}{x:Ix}(h:ClV w g x)(k:Below B w w')(hg:g<B):ClV w' g x:=
 ⟨(k.cell (p:=⟨g,0,none⟩) hg).trans h.c0,(k.cell (p:=⟨g,1,none⟩) hg).trans h.c1,(k.cell (p:=⟨g,2,none⟩) hg).trans h.c2,(k.cell (p:=⟨g,3,none⟩) hg).trans h.c3,(k.cell (p:=⟨g,4,none⟩) hg).trans h.c4,(k.cell (p:=⟨g,5,none⟩) hg).trans h.c5⟩
structure StV(w W:World)(x:Ix):Prop where
 r:RdV W x
 c:ClV W w.heap.size x
 b:Below w.heap.size w W
 s:w.heap.size<W.heap.size
theorem StV.step{w W W':World}{x:Ix}(h:StV w W x)(k:Below W.heap.size W W'):StV w W' x:=
 ⟨h.r.below k,h.c.below k h.s,h.b.trans (k.mono (Nat.le_of_lt h.s)),Nat.lt_of_lt_of_le h.s k.size⟩
theorem StV.start{w:World}{x:Ix}(h:RdV w x)(e:TypeId):StV w (w.alloc (.cells #[.slice x.aa x.b.ac.length x.ca,.slice x.ai x.b.ic.length x.ci,.slice x.ab x.b.bs.length x.cb,.slice x.al x.b.ls.length x.cl,.slice x.ats x.b.ts.length x.ct,.int .i64 x.b.lot] e)) x:=
 ⟨h.below (one_more _ _),⟨by simp,by simp,by simp,by simp,by simp,by simp⟩,(Below.refl w.heap.size w).alloc (Nat.le_refl _) _,by simp⟩
theorem okA0(w:World)(a:Option Addr)(c:Nat):Calls Tryz.prog 66 #[.slice a 0 c] w fun e w'=>e= .returned (.bool true)∧w'=w:=by
 go_enter Tryz.func66,Tryz.ntmps66
 go_wp2
 go_loopw [3] (fun i wr=>i= .int .i64 0∧wr=w) (fun _ _=>0)
 case atStart=>exact⟨rfl,rfl⟩
 case round=>
  obtain⟨rfl,rfl⟩:=hrel
  go_wp2
  go_ret
  exact⟨rfl,rfl⟩
theorem okI0(w:World)(a:Option Addr)(c:Nat):Calls Tryz.prog 67 #[.slice a 0 c] w fun e w'=>e= .returned (.bool true)∧w'=w:=by
 go_enter Tryz.func67,Tryz.ntmps67
 go_wp2
 go_loopw [3] (fun i wr=>i= .int .i64 0∧wr=w) (fun _ _=>0)
 case atStart=>exact⟨rfl,rfl⟩
 case round=>
  obtain⟨rfl,rfl⟩:=hrel
  go_wp2
  go_ret
  exact⟨rfl,rfl⟩
theorem kindA0(w:World)(a:Option Addr)(c:Nat)(no:Int):Calls Tryz.prog 73 #[.slice a 0 c,.int .i64 no] w fun e w'=>e= .returned (.int .i64 0)∧w'=w:=by
 go_enter Tryz.func73,Tryz.ntmps73
 go_wp2
 go_loopw [5] (fun i wr=>i= .int .i64 0∧wr=w) (fun _ _=>0)
 case atStart=>exact⟨rfl,rfl⟩
 case round=>
  obtain⟨rfl,rfl⟩:=hrel
  go_wp2
  go_ret
  exact⟨rfl,rfl⟩
theorem kindI0(w:World)(a:Option Addr)(c:Nat)(no:Int):Calls Tryz.prog 74 #[.slice a 0 c,.int .i64 no] w fun e w'=>e= .returned (.int .i64 0)∧w'=w:=by
 go_enter Tryz.func74,Tryz.ntmps74
 go_wp2
 go_loopw [5] (fun i wr=>i= .int .i64 0∧wr=w) (fun _ _=>0)
 case atStart=>exact⟨rfl,rfl⟩
 case round=>
  obtain⟨rfl,rfl⟩:=hrel
  go_wp2
  go_ret
  exact⟨rfl,rfl⟩
theorem okB0(w:World)(a:Option Addr)(c:Nat):Calls Tryz.prog 68 #[.slice a 0 c] w fun e w'=>e= .returned (.bool true)∧w'=w:=by
 go_enter Tryz.func68,Tryz.ntmps68
 go_wp2
 go_loopw [3,4] (fun i _ wr=>i= .int .i64 0∧wr=w) (fun _ _ _=>0)
 case atStart=>exact⟨rfl,rfl⟩
 case round=>
  obtain⟨rfl,rfl⟩:=hrel
  go_wp2
  go_ret
  exact⟨rfl,rfl⟩
theorem okL0(w:World)(a:Option Addr)(c:Nat):Calls Tryz.prog 69 #[.slice a 0 c] w fun e w'=>e= .returned (.bool true)∧w'=w:=by
 go_enter Tryz.func69,Tryz.ntmps69
 go_wp2
 go_loopw [3,4,5,6] (fun _ _ i _ wr=>i= .int .i64 0∧wr=w) (fun _ _ _ _ _=>0)
 case atStart=>exact⟨rfl,rfl⟩
 case round=>
  obtain⟨rfl,rfl⟩:=hrel
  go_wp2
  go_ret
  exact⟨rfl,rfl⟩
theorem okT0(w:World)(a:Option Addr)(c:Nat):Calls Tryz.prog 70 #[.slice a 0 c] w fun e w'=>e= .returned (.bool true)∧w'=w:=by
 go_enter Tryz.func70,Tryz.ntmps70
 go_wp2
 go_loopw [3] (fun i wr=>i= .int .i64 0∧wr=w) (fun _ _=>0)
 case atStart=>exact⟨rfl,rfl⟩
 case round=>
  obtain⟨rfl,rfl⟩:=hrel
  go_wp2
  go_ret
  exact⟨rfl,rfl⟩
theorem of0(w:World)(a:Option Addr)(c:Nat)(p q:Int):Calls Tryz.prog 96 #[.slice a 0 c,.int .i64 p,.int .i64 q] w fun e w'=>e= .returned (.int .i64 0)∧w'=w:=by
 go_enter Tryz.func96,Tryz.ntmps96
 go_wp2
 go_loopw [7] (fun i wr=>i= .int .i64 0∧wr=w) (fun _ _=>0)
 case atStart=>exact⟨rfl,rfl⟩
 case round=>
  obtain⟨rfl,rfl⟩:=hrel
  go_wp2
  go_ret
  exact⟨rfl,rfl⟩
theorem split0(w:World)(a:Option Addr)(c:Nat)(p q:Int):Calls Tryz.prog 94 #[.slice a 0 c,.int .i64 p,.int .i64 q] w fun e w'=>∃g1 c1 g2 c2,e= .returned (.tuple #[.slice (some ⟨g1,0,none⟩) 0 c1,.slice (some ⟨g2,0,none⟩) 0 c2])∧Tup5.Own5 80 w' w.heap.size g1 0 c1 []∧Below w.heap.size w w':=by
 have O1:=zh (show Tup5.Own5 80 ((w.alloc (.cells #[] 80)).alloc (.cells #[] 80)) w.heap.size w.heap.size 0 0 [] from World.ownsRow.alloc (World.ownsRow_lit w #[] 0 (Nat.le_refl _) (by decide) rfl) _)
 have B1:=zh ((one_more w (.cells #[] 80)).alloc (by simp) (.cells #[] 80))
 go_enter Tryz.func94,Tryz.ntmps94
 go_wp2
 go_loopw [8,9,10] (fun l m i wr=>l= .slice (some ⟨w.heap.size,0,none⟩) 0 0∧m= .slice (some ⟨w.heap.size+1,0,none⟩) 0 0∧i= .int .i64 0∧wr=((w.alloc (.cells #[] 80)).alloc (.cells #[] 80))) (fun _ _ _ _=>0)
 case atStart=>exact⟨rfl,rfl,rfl,rfl⟩
 case round=>
  obtain⟨rfl,rfl,rfl,rfl⟩:=hrel
  go_wp2
  go_ret2
  exact⟨w.heap.size,0,_,0,rfl,zu O1,zu B1⟩
theorem sKindA(w:World)(x:Ix)(no r:Int)(h:RdV w x)(hr:Chart.Right 20 4 x.b.ac)(hk:kindOf x.b.ac no=r):
  Calls Tryz.prog 73 #[.slice x.aa x.b.ac.length x.ca,.int .i64 no] w fun e w'=>e= .returned (.int .i64 r)∧Below w.heap.size w w':=by
 by_cases z:x.b.ac.length=0
 ·rw[z]
  have e:r=0:=by rw[←hk,List.eq_nil_of_length_eq_zero z];rfl
  exact(kindA0 w x.aa x.ca no).mono fun e' w' ⟨h1,h2⟩=>⟨by rw[h1,e],by rw[h2];exact Below.refl _ _⟩
 ·obtain⟨g,eg⟩:=h.ea z
  rw[eg]
  exact(AccountSOk.sKind w g _ x.ca x.b.ac no rfl h.na (h.ra g eg).2).mono fun e w' ⟨r',h1,h2,q,h3⟩=>⟨by rw[h2,kind_is hr h1,hk],by rw[h3];exact below_drewN (Below.refl _ _) q⟩
theorem sKindI(w:World)(x:Ix)(no r:Int)(h:RdV w x)(hr:Chart.Right 8 2 x.b.ic)(hk:kindOf x.b.ic no=r):
  Calls Tryz.prog 74 #[.slice x.ai x.b.ic.length x.ci,.int .i64 no] w fun e w'=>e= .returned (.int .i64 r)∧Below w.heap.size w w':=by
 by_cases z:x.b.ic.length=0
 ·rw[z]
  have e:r=0:=by rw[←hk,List.eq_nil_of_length_eq_zero z];rfl
  exact(kindI0 w x.ai x.ci no).mono fun e' w' ⟨h1,h2⟩=>⟨by rw[h1,e],by rw[h2];exact Below.refl _ _⟩
 ·obtain⟨g,eg⟩:=h.ei z
  rw[eg]
  exact(InstrSOk.sKind w g _ x.ci x.b.ic no rfl h.ni (h.ri g eg).2).mono fun e w' ⟨r',h1,h2,q,h3⟩=>⟨by rw[h2,kind_is hr h1,hk],by rw[h3];exact below_drewN (Below.refl _ _) q⟩
theorem sOksA(w:World)(x:Ix)(ok:Bool)(h:RdV w x)(hok:Chart.Says ok 20 4 x.b.ac):Calls Tryz.prog 66 #[.slice x.aa x.b.ac.length x.ca] w fun e w'=>e= .returned (.bool ok)∧Below w.heap.size w w':=by
 by_cases z:x.b.ac.length=0
 ·rw[z]
  have e:ok=true:=hok.2 ⟨by omega,fun i hi=>absurd hi (by omega)⟩
  exact(okA0 w x.aa x.ca).mono fun e' w' ⟨h1,h2⟩=>⟨by rw[h1,e],by rw[h2];exact Below.refl _ _⟩
 ·obtain⟨g,eg⟩:=h.ea z
  rw[eg]
  exact(AccountSOk.sOk w g _ x.ca x.b.ac ok rfl h.na (h.ra g eg).2 hok).mono fun e w' ⟨h1,q,h2⟩=>⟨h1,by rw[h2];exact below_drewN (Below.refl _ _) q⟩
theorem sOksI(w:World)(x:Ix)(ok:Bool)(h:RdV w x)(hok:Chart.Says ok 8 2 x.b.ic):Calls Tryz.prog 67 #[.slice x.ai x.b.ic.length x.ci] w fun e w'=>e= .returned (.bool ok)∧Below w.heap.size w w':=by
 by_cases z:x.b.ic.length=0
 ·rw[z]
  have e:ok=true:=hok.2 ⟨by omega,fun i hi=>absurd hi (by omega)⟩
  exact(okI0 w x.ai x.ci).mono fun e' w' ⟨h1,h2⟩=>⟨by rw[h1,e],by rw[h2];exact Below.refl _ _⟩
 ·obtain⟨g,eg⟩:=h.ei z
  rw[eg]
  exact(InstrSOk.sOk w g _ x.ci x.b.ic ok rfl h.ni (h.ri g eg).2 hok).mono fun e w' ⟨h1,q,h2⟩=>⟨h1,by rw[h2];exact below_drewN (Below.refl _ _) q⟩
theorem sOksB(w:World)(x:Ix)(ok:Bool)(h:RdV w x)(hok:Bals.Says ok (Bals.Right x.b.bs)):Calls Tryz.prog 68 #[.slice x.ab x.b.bs.length x.cb] w fun e w'=>e= .returned (.bool ok)∧Below w.heap.size w w':=by
 by_cases z:x.b.bs.length=0
 ·rw[z]
  have e:ok=true:=hok.of ⟨by omega,fun i hi=>absurd hi (by omega)⟩
  exact(okB0 w x.ab x.cb).mono fun e' w' ⟨h1,h2⟩=>⟨by rw[h1,e],by rw[h2];exact Below.refl _ _⟩
 ·obtain⟨g,eg⟩:=h.eb z
  rw[eg]
  exact SOk3.sOk w g _ x.cb x.b.bs ok rfl h.nb (h.rb g eg).1 (h.rb g eg).2 hok
theorem sOksL(w:World)(x:Ix)(ok:Bool)(h:RdV w x)(hok:Says ok (Lots.Right x.b.ls)):Calls Tryz.prog 69 #[.slice x.al x.b.ls.length x.cl] w fun e w'=>e= .returned (.bool ok)∧Below w.heap.size w w':=by
 by_cases z:x.b.ls.length=0
 ·rw[z]
  have e:ok=true:=hok.of ⟨by omega,fun i hi=>absurd hi (by omega),fun a i=>by rw[List.eq_nil_of_length_eq_zero z];simp[Lots.qtyOf,Lots.costOf]⟩
  exact(okL0 w x.al x.cl).mono fun e' w' ⟨h1,h2⟩=>⟨by rw[h1,e],by rw[h2];exact Below.refl _ _⟩
 ·obtain⟨g,eg⟩:=h.el z
  rw[eg]
  exact SOk5.sOk w g _ x.cl x.b.ls ok rfl h.nl (h.rl g eg).1 (h.rl g eg).2 hok
theorem sOksT(w:World)(x:Ix)(ok:Bool)(h:RdV w x)(hok:Says ok (TRight x.b.ts)):Calls Tryz.prog 70 #[.slice x.ats x.b.ts.length x.ct] w fun e w'=>e= .returned (.bool ok)∧Below w.heap.size w w':=by
 by_cases z:x.b.ts.length=0
 ·rw[z]
  have e:ok=true:=hok.of ⟨by omega,fun i hi=>absurd hi (by omega)⟩
  exact(okT0 w x.ats x.ct).mono fun e' w' ⟨h1,h2⟩=>⟨by rw[h1,e],by rw[h2];exact Below.refl _ _⟩
 ·obtain⟨g,eg⟩:=h.et z
  rw[eg]
  exact ITrade.sOk w g _ x.ct x.b.ts ok rfl h.nt (h.rt g eg).1 (h.rt g eg).2 hok
theorem sOfV(w:World)(x:Ix)(p q:Int)(h:RdV w x):Calls Tryz.prog 96 #[.slice x.ab x.b.bs.length x.cb,.int .i64 p,.int .i64 q] w fun e w'=>e= .returned (.int .i64 (val x.b.bs p q))∧w'=w:=by
 by_cases z:x.b.bs.length=0
 ·rw[z,List.eq_nil_of_length_eq_zero z]
  exact of0 w x.ab x.cb p q
 ·obtain⟨g,eg⟩:=h.eb z
  rw[eg]
  exact Look.sOf w g _ x.cb x.b.bs p q rfl h.nb (h.rb g eg).2
theorem sSplitV(w:World)(x:Ix)(p q:Int)(h:RdV w x)(h20:x.b.ls.length≤100000):Calls Tryz.prog 94 #[.slice x.al x.b.ls.length x.cl,.int .i64 p,.int .i64 q] w fun e w'=>∃g1 c1 g2 n2 c2,e= .returned (.tuple #[.slice (some ⟨g1,0,none⟩) (ownL x.b.ls p q).length c1,.slice (some ⟨g2,0,none⟩) n2 c2])∧Tup5.Own5 80 w' w.heap.size g1 (ownL x.b.ls p q).length c1 (ownL x.b.ls p q)∧Below w.heap.size w w':=by
 by_cases z:x.b.ls.length=0
 ·rw[z,List.eq_nil_of_length_eq_zero z]
  exact(split0 w x.al x.cl p q).mono fun e w' ⟨g1,c1,g2,c2,h1,h2,h3⟩=>⟨g1,c1,g2,0,c2,h1,h2,h3⟩
 ·obtain⟨g,eg⟩:=h.el z
  rw[eg]
  exact(SSplit.sSplit w g _ x.cl x.b.ls p q rfl h20 (h.rl g eg).1 (h.rl g eg).2).mono fun e w' ⟨g1,c1,g2,c2,h1,h2,_,_,h3⟩=>⟨g1,c1,g2,_,c2,h1,h2,h3⟩
end BMemV13
namespace SRead13L
theorem row_step{W W':World}{base:Nat}{e:TypeId}{m:Nat}{v:Value}{n:Nat}{vs:List Value}(h:W.ownsRow base e m v n vs)(k:Below W.heap.size W W'):W'.ownsRow base e m v n vs:=
 World.ownsRow.kept h (row:=none) ⟨k.os,k.tape,k.output,k.size,fun i hi _=>k.block i hi⟩ (by
  cases hb:v.ownBlock with
  |none=>exact .inl rfl
  |some g=>exact .inr (by simp))
theorem addr_of{W:World}{base:Nat}{e:TypeId}{m n c:Nat}{a:Option Addr}{vs:List Value}(h:W.ownsRow base e m (.slice a n c) n vs):(n≠0→∃g,a=some ⟨g,0,none⟩)∧∀g,a=some ⟨g,0,none⟩→g<W.heap.size:=by
 refine⟨fun hn=>?_,fun g e=>(World.ownsRow.lt h g (by rw[e];rfl)).2⟩
 rcases h.2 with⟨h1,_⟩|⟨g,c',cur,h1,_⟩
 ·have:n=0:=by simp at h1;omega
  exact absurd this hn
 ·have:a=some ⟨g,0,none⟩∧c=c':=by simpa using h1
  exact⟨g,this.1⟩
end SRead13L
namespace VB13
open BMem Bks BHelp BkEq BMemV13
open SRead13L (row_step)
open IBalsFit (one_more)
theorem other{W W':World}{base base':Nat}{e e':TypeId}{m m':Nat}{v v':Value}{n n':Nat}{vs vs':List Value}(h:W.ownsRow base e m v n vs)(k:W.ownsRow base' e' m' v' n' vs')(ne:e≠e')(g:W.grownBy W' v'.ownBlock):W'.ownsRow base e m v n vs:=
 World.ownsRow.kept h g (by
  cases hb:v.ownBlock with
  |none=>exact .inl rfl
  |some b=>
   refine .inr (fun eq=>?_)
   rcases h.2 with⟨h1,_⟩|⟨b1,c1,cur1,h1,_,h2,_⟩
   ·rw[h1] at hb;simp[Value.ownBlock] at hb
   ·rcases k.2 with⟨k1,_⟩|⟨b2,c2,cur2,k1,_,k2,_⟩
    ·rw[k1] at eq;simp[Value.ownBlock] at eq
    ·rw[h1] at hb
     rw[k1] at eq
     have e1:b1=b:=by simpa[Value.ownBlock] using hb
     have e2:b=b2:=by simpa[Value.ownBlock] using eq
     subst e1 e2
     rw[h2] at k2
     injection k2 with k2
     injection k2 with _ k2
     exact ne k2)
structure OwV(w:World)(base:Nat)(x:Ix):Prop where
 oa:w.ownsRow base 75 2 (.slice x.aa x.b.ac.length x.ca) x.b.ac.length (Pairs.flat x.b.ac)
 oi:w.ownsRow base 76 2 (.slice x.ai x.b.ic.length x.ci) x.b.ic.length (Pairs.flat x.b.ic)
 ob:w.ownsRow base 78 3 (.slice x.ab x.b.bs.length x.cb) x.b.bs.length (Triples.flat3 x.b.bs)
 ol:w.ownsRow base 80 5 (.slice x.al x.b.ls.length x.cl) x.b.ls.length (Tup5.flat5 x.b.ls)
 ot:w.ownsRow base 82 8 (.slice x.ats x.b.ts.length x.ct) x.b.ts.length (Tup8.flat8 x.b.ts)
structure OwMV(w:World)(base:Nat)(x:Ix):Prop where
 oa:w.ownsRow base 75 2 (.slice x.aa x.b.ac.length x.ca) x.b.ac.length (Pairs.flat (AccountMark.marks 1 x.b.ac.length))
 oi:w.ownsRow base 76 2 (.slice x.ai x.b.ic.length x.ci) x.b.ic.length (Pairs.flat (InstrMark.marks (e1 x.b) x.b.ic.length))
 ob:w.ownsRow base 78 3 (.slice x.ab x.b.bs.length x.cb) x.b.bs.length (Triples.flat3 (BalHelp.marks (e2 x.b) x.b.bs.length))
 ol:w.ownsRow base 80 5 (.slice x.al x.b.ls.length x.cl) x.b.ls.length (Tup5.flat5 (LotHelp.marks (e3 x.b) x.b.ls.length))
 ot:w.ownsRow base 82 8 (.slice x.ats x.b.ts.length x.ct) x.b.ts.length (Tup8.flat8 (TradeHelp.marks (e4 x.b) x.b.ts.length))
structure TurnV(x:Ix)(w w':World):Prop where
 os:w'.os=w.os
 tape:w'.tape=w.tape
 output:w'.output=w.output
 size:w.heap.size≤w'.heap.size
 block:∀k,k<w.heap.size→some k≠(.slice x.aa x.b.ac.length x.ca:Value).ownBlock→some k≠(.slice x.ai x.b.ic.length x.ci:Value).ownBlock→some k≠(.slice x.ab x.b.bs.length x.cb:Value).ownBlock→some k≠(.slice x.al x.b.ls.length x.cl:Value).ownBlock→some k≠(.slice x.ats x.b.ts.length x.ct:Value).ownBlock→w'.heap[k]?=w.heap[k]?
theorem TurnV.grown{x:Ix}{w u v:World}{row:Option Nat}(h:TurnV x w u)(k:u.grownBy v row)(hg:row=(.slice x.aa x.b.ac.length x.ca:Value).ownBlock∨row=(.slice x.ai x.b.ic.length x.ci:Value).ownBlock∨row=(.slice x.ab x.b.bs.length x.cb:Value).ownBlock∨row=(.slice x.al x.b.ls.length x.cl:Value).ownBlock∨row=(.slice x.ats x.b.ts.length x.ct:Value).ownBlock):TurnV x w v:=
 ⟨k.os.trans h.os,k.tape.trans h.tape,k.output.trans h.output,Nat.le_trans h.size k.size,fun j hj a b c d e=>(k.block j (Nat.lt_of_lt_of_le hj h.size) (fun q=>by
  rcases hg with r|r|r|r|r
  ·exact a (q.trans r)
  ·exact b (q.trans r)
  ·exact c (q.trans r)
  ·exact d (q.trans r)
  ·exact e (q.trans r))).trans (h.block j hj a b c d e)⟩
theorem TurnV.of{x:Ix}{w w':World}(h:Below w.heap.size w w'):TurnV x w w':=⟨h.os,h.tape,h.output,h.size,fun j hj _ _ _ _ _=>h.block j hj⟩
theorem TurnV.below{x:Ix}{w w':World}{base:Nat}(h:TurnV x w w')(o:OwV w base x)(hb:base≤w.heap.size):Below base w w':=
 ⟨h.os,h.tape,h.output,h.size,fun j hj=>h.block j (by omega) (fun e=>by have:=(World.ownsRow.lt o.oa j e.symm).1;omega) (fun e=>by have:=(World.ownsRow.lt o.oi j e.symm).1;omega) (fun e=>by have:=(World.ownsRow.lt o.ob j e.symm).1;omega) (fun e=>by have:=(World.ownsRow.lt o.ol j e.symm).1;omega) (fun e=>by have:=(World.ownsRow.lt o.ot j e.symm).1;omega)⟩
theorem OwV.step{w w':World}{base:Nat}{x:Ix}(h:OwV w base x)(k:Below w.heap.size w w'):OwV w' base x:=⟨row_step h.oa k,row_step h.oi k,row_step h.ob k,row_step h.ol k,row_step h.ot k⟩
theorem OwMV.step{w w':World}{base:Nat}{x:Ix}(h:OwMV w base x)(k:Below w.heap.size w w'):OwMV w' base x:=⟨row_step h.oa k,row_step h.oi k,row_step h.ob k,row_step h.ol k,row_step h.ot k⟩
theorem OwV.rd{w:World}{base:Nat}{x:Ix}(h:OwV w base x)(hn:Small x.b):RdV w x:=by
 obtain⟨n1,n2,n3,n4,n5⟩:=hn
 refine⟨(SRead13L.addr_of h.oa).1,fun g e=>⟨(SRead13L.addr_of h.oa).2 g e,?_⟩,n1,(SRead13L.addr_of h.oi).1,fun g e=>⟨(SRead13L.addr_of h.oi).2 g e,?_⟩,n2,(SRead13L.addr_of h.ob).1,fun g e=>⟨(SRead13L.addr_of h.ob).2 g e,?_⟩,n3,(SRead13L.addr_of h.ol).1,fun g e=>⟨(SRead13L.addr_of h.ol).2 g e,?_⟩,n4,(SRead13L.addr_of h.ot).1,fun g e=>⟨(SRead13L.addr_of h.ot).2 g e,?_⟩,n5⟩
 ·have o:=h.oa
  rw[e] at o
  exact Pairs.Own.at o
 ·have o:=h.oi
  rw[e] at o
  exact Pairs.Own.at o
 ·have o:=h.ob
  rw[e] at o
  exact Triples.Own3.at o
 ·have o:=h.ol
  rw[e] at o
  exact Tup5.Own5.at o
 ·have o:=h.ot
  rw[e] at o
  exact Tup8.Own8.at o
theorem eqNAccount(w:World)(a1 a2:Option Addr)(c1 c2:Nat):Calls Tryz.prog 46 #[.slice a1 0 c1,.slice a2 0 c2] w fun e w'=>e= .returned (.bool true)∧w'=w:=by
 go_enter Tryz.func46,Tryz.ntmps46
 go_wp2
 go_loopw [5] (fun j wr=>j= .int .i64 0∧wr=w) (fun _ _=>0)
 case atStart=>exact⟨rfl,rfl⟩
 case round=>
  obtain⟨rfl,rfl⟩:=hrel
  go_wp2
  go_ret
  exact⟨rfl,rfl⟩
theorem markNAccount(w:World)(a:Option Addr)(c:Nat)(s:Int):Calls Tryz.prog 53 #[.slice a 0 c,.int .i64 s] w fun e w'=>e= .returned (.int .i64 s)∧w'=w:=by
 go_enter Tryz.func53,Tryz.ntmps53
 go_wp2
 go_loopw [1,5] (fun m j wr=>m= .int .i64 s∧j= .int .i64 0∧wr=w) (fun _ _ _=>0)
 case atStart=>exact⟨rfl,rfl,rfl⟩
 case round=>
  obtain⟨rfl,rfl,rfl⟩:=hrel
  go_wp2
  go_ret
  exact⟨rfl,rfl⟩
theorem heldNAccount(w:World)(a:Option Addr)(c:Nat)(s:Int):Calls Tryz.prog 58 #[.slice a 0 c,.int .i64 s] w fun e w'=>e= .returned (.int .i64 s)∧w'=w:=by
 go_enter Tryz.func58,Tryz.ntmps58
 go_wp2
 go_loopw [1,5] (fun m j wr=>m= .int .i64 s∧j= .int .i64 0∧wr=w) (fun _ _ _=>0)
 case atStart=>exact⟨rfl,rfl,rfl⟩
 case round=>
  obtain⟨rfl,rfl,rfl⟩:=hrel
  go_wp2
  go_ret
  exact⟨rfl,rfl⟩
theorem eqAccount(w:World)(x y:Ix)(hb:y.b=x.b)(hx:RdV w x)(hy:RdV w y):Calls Tryz.prog 46 #[.slice x.aa x.b.ac.length x.ca,.slice y.aa x.b.ac.length y.ca] w fun e w'=>e= .returned (.bool true)∧Below w.heap.size w w':=by
 by_cases z:x.b.ac.length=0
 ·rw[z]
  exact(eqNAccount w _ _ _ _).mono fun e w' ⟨h1,h2⟩=>⟨h1,by rw[h2];exact Below.refl _ _⟩
 ·obtain⟨g1,e1⟩:=hx.ea z
  obtain⟨g2,e2⟩:=hy.ea (by rw[hb];exact z)
  have a1:=hx.ra g1 e1
  have a2:=hy.ra g2 e2
  rw[hb] at a2
  rw[e1,e2]
  exact AccountHelp.eqS w g1 g2 _ _ _ x.b.ac rfl hx.na a1.1 a2.1 a1.2 a2.2
theorem markAccount(w:World)(base n c:Nat)(a:Option Addr)(s:Int)(ps:List (Int×Int))(h20:n≤1048576)(s0:0≤s)(s1:s≤100000000)(ho:w.ownsRow base 75 2 (.slice a n c) n (Pairs.flat ps)):
  Calls Tryz.prog 53 #[.slice a n c,.int .i64 s] w fun e w'=>e= .returned (.int .i64 (s+2*(n:Int)))∧w'.ownsRow base 75 2 (.slice a n c) n (Pairs.flat (AccountMark.marks s n))∧w.grownBy w' (Value.slice a n c).ownBlock:=by
 have ho':=ho
 rcases ho.2 with⟨h1,h2⟩|⟨g,c',cur,h1,_⟩
 ·obtain⟨rfl,_,rfl⟩:a=none∧n=0∧c=0:=by simpa using h1
  subst h2
  exact(markNAccount w _ _ s).mono fun e w' ⟨q1,q2⟩=>⟨by rw[q1];simp,by rw[q2];exact World.ownsRow_nil w base _ _,by rw[q2];exact World.grownBy.refl _ _⟩
 ·obtain⟨rfl,rfl⟩:a=some ⟨g,0,none⟩∧c=c':=by simpa using h1
  exact AccountMark.markS w base g n c s ps h20 s0 s1 ho'
theorem heldAccount(w:World)(base n c:Nat)(a:Option Addr)(s:Int)(h20:n≤1048576)(s0:0≤s)(s1:s≤100000000)(ho:w.ownsRow base 75 2 (.slice a n c) n (Pairs.flat (AccountMark.marks s n))):
  Calls Tryz.prog 58 #[.slice a n c,.int .i64 s] w fun e w'=>e= .returned (.int .i64 (s+2*(n:Int)))∧w'=w:=by
 have ho':=ho
 rcases ho.2 with⟨h1,h2⟩|⟨g,c',cur,h1,_⟩
 ·obtain⟨rfl,_,rfl⟩:a=none∧n=0∧c=0:=by simpa using h1
  subst h2
  exact(heldNAccount w _ _ s).mono fun e w' ⟨q1,q2⟩=>⟨by rw[q1];simp,q2⟩
 ·obtain⟨rfl,rfl⟩:a=some ⟨g,0,none⟩∧c=c':=by simpa using h1
  exact AccountMark.heldS w g n c s h20 s0 s1 (Pairs.Own.at ho')
theorem eqNInstr(w:World)(a1 a2:Option Addr)(c1 c2:Nat):Calls Tryz.prog 47 #[.slice a1 0 c1,.slice a2 0 c2] w fun e w'=>e= .returned (.bool true)∧w'=w:=by
 go_enter Tryz.func47,Tryz.ntmps47
 go_wp2
 go_loopw [5] (fun j wr=>j= .int .i64 0∧wr=w) (fun _ _=>0)
 case atStart=>exact⟨rfl,rfl⟩
 case round=>
  obtain⟨rfl,rfl⟩:=hrel
  go_wp2
  go_ret
  exact⟨rfl,rfl⟩
theorem markNInstr(w:World)(a:Option Addr)(c:Nat)(s:Int):Calls Tryz.prog 54 #[.slice a 0 c,.int .i64 s] w fun e w'=>e= .returned (.int .i64 s)∧w'=w:=by
 go_enter Tryz.func54,Tryz.ntmps54
 go_wp2
 go_loopw [1,5] (fun m j wr=>m= .int .i64 s∧j= .int .i64 0∧wr=w) (fun _ _ _=>0)
 case atStart=>exact⟨rfl,rfl,rfl⟩
 case round=>
  obtain⟨rfl,rfl,rfl⟩:=hrel
  go_wp2
  go_ret
  exact⟨rfl,rfl⟩
theorem heldNInstr(w:World)(a:Option Addr)(c:Nat)(s:Int):Calls Tryz.prog 59 #[.slice a 0 c,.int .i64 s] w fun e w'=>e= .returned (.int .i64 s)∧w'=w:=by
 go_enter Tryz.func59,Tryz.ntmps59
 go_wp2
 go_loopw [1,5] (fun m j wr=>m= .int .i64 s∧j= .int .i64 0∧wr=w) (fun _ _ _=>0)
 case atStart=>exact⟨rfl,rfl,rfl⟩
 case round=>
  obtain⟨rfl,rfl,rfl⟩:=hrel
  go_wp2
  go_ret
  exact⟨rfl,rfl⟩
theorem eqInstr(w:World)(x y:Ix)(hb:y.b=x.b)(hx:RdV w x)(hy:RdV w y):Calls Tryz.prog 47 #[.slice x.ai x.b.ic.length x.ci,.slice y.ai x.b.ic.length y.ci] w fun e w'=>e= .returned (.bool true)∧Below w.heap.size w w':=by
 by_cases z:x.b.ic.length=0
 ·rw[z]
  exact(eqNInstr w _ _ _ _).mono fun e w' ⟨h1,h2⟩=>⟨h1,by rw[h2];exact Below.refl _ _⟩
 ·obtain⟨g1,e1⟩:=hx.ei z
  obtain⟨g2,e2⟩:=hy.ei (by rw[hb];exact z)
  have a1:=hx.ri g1 e1
  have a2:=hy.ri g2 e2
  rw[hb] at a2
  rw[e1,e2]
  exact InstrHelp.eqS w g1 g2 _ _ _ x.b.ic rfl hx.ni a1.1 a2.1 a1.2 a2.2
theorem markInstr(w:World)(base n c:Nat)(a:Option Addr)(s:Int)(ps:List (Int×Int))(h20:n≤1048576)(s0:0≤s)(s1:s≤100000000)(ho:w.ownsRow base 76 2 (.slice a n c) n (Pairs.flat ps)):
  Calls Tryz.prog 54 #[.slice a n c,.int .i64 s] w fun e w'=>e= .returned (.int .i64 (s+2*(n:Int)))∧w'.ownsRow base 76 2 (.slice a n c) n (Pairs.flat (InstrMark.marks s n))∧w.grownBy w' (Value.slice a n c).ownBlock:=by
 have ho':=ho
 rcases ho.2 with⟨h1,h2⟩|⟨g,c',cur,h1,_⟩
 ·obtain⟨rfl,_,rfl⟩:a=none∧n=0∧c=0:=by simpa using h1
  subst h2
  exact(markNInstr w _ _ s).mono fun e w' ⟨q1,q2⟩=>⟨by rw[q1];simp,by rw[q2];exact World.ownsRow_nil w base _ _,by rw[q2];exact World.grownBy.refl _ _⟩
 ·obtain⟨rfl,rfl⟩:a=some ⟨g,0,none⟩∧c=c':=by simpa using h1
  exact InstrMark.markS w base g n c s ps h20 s0 s1 ho'
theorem heldInstr(w:World)(base n c:Nat)(a:Option Addr)(s:Int)(h20:n≤1048576)(s0:0≤s)(s1:s≤100000000)(ho:w.ownsRow base 76 2 (.slice a n c) n (Pairs.flat (InstrMark.marks s n))):
  Calls Tryz.prog 59 #[.slice a n c,.int .i64 s] w fun e w'=>e= .returned (.int .i64 (s+2*(n:Int)))∧w'=w:=by
 have ho':=ho
 rcases ho.2 with⟨h1,h2⟩|⟨g,c',cur,h1,_⟩
 ·obtain⟨rfl,_,rfl⟩:a=none∧n=0∧c=0:=by simpa using h1
  subst h2
  exact(heldNInstr w _ _ s).mono fun e w' ⟨q1,q2⟩=>⟨by rw[q1];simp,q2⟩
 ·obtain⟨rfl,rfl⟩:a=some ⟨g,0,none⟩∧c=c':=by simpa using h1
  exact InstrMark.heldS w g n c s h20 s0 s1 (Pairs.Own.at ho')
theorem eqNBal(w:World)(a1 a2:Option Addr)(c1 c2:Nat):Calls Tryz.prog 48 #[.slice a1 0 c1,.slice a2 0 c2] w fun e w'=>e= .returned (.bool true)∧w'=w:=by
 go_enter Tryz.func48,Tryz.ntmps48
 go_wp2
 go_loopw [5] (fun j wr=>j= .int .i64 0∧wr=w) (fun _ _=>0)
 case atStart=>exact⟨rfl,rfl⟩
 case round=>
  obtain⟨rfl,rfl⟩:=hrel
  go_wp2
  go_ret
  exact⟨rfl,rfl⟩
theorem markNBal(w:World)(a:Option Addr)(c:Nat)(s:Int):Calls Tryz.prog 55 #[.slice a 0 c,.int .i64 s] w fun e w'=>e= .returned (.int .i64 s)∧w'=w:=by
 go_enter Tryz.func55,Tryz.ntmps55
 go_wp2
 go_loopw [1,5] (fun m j wr=>m= .int .i64 s∧j= .int .i64 0∧wr=w) (fun _ _ _=>0)
 case atStart=>exact⟨rfl,rfl,rfl⟩
 case round=>
  obtain⟨rfl,rfl,rfl⟩:=hrel
  go_wp2
  go_ret
  exact⟨rfl,rfl⟩
theorem heldNBal(w:World)(a:Option Addr)(c:Nat)(s:Int):Calls Tryz.prog 60 #[.slice a 0 c,.int .i64 s] w fun e w'=>e= .returned (.int .i64 s)∧w'=w:=by
 go_enter Tryz.func60,Tryz.ntmps60
 go_wp2
 go_loopw [1,5] (fun m j wr=>m= .int .i64 s∧j= .int .i64 0∧wr=w) (fun _ _ _=>0)
 case atStart=>exact⟨rfl,rfl,rfl⟩
 case round=>
  obtain⟨rfl,rfl,rfl⟩:=hrel
  go_wp2
  go_ret
  exact⟨rfl,rfl⟩
theorem eqBal(w:World)(x y:Ix)(hb:y.b=x.b)(hx:RdV w x)(hy:RdV w y):Calls Tryz.prog 48 #[.slice x.ab x.b.bs.length x.cb,.slice y.ab x.b.bs.length y.cb] w fun e w'=>e= .returned (.bool true)∧Below w.heap.size w w':=by
 by_cases z:x.b.bs.length=0
 ·rw[z]
  exact(eqNBal w _ _ _ _).mono fun e w' ⟨h1,h2⟩=>⟨h1,by rw[h2];exact Below.refl _ _⟩
 ·obtain⟨g1,e1⟩:=hx.eb z
  obtain⟨g2,e2⟩:=hy.eb (by rw[hb];exact z)
  have a1:=hx.rb g1 e1
  have a2:=hy.rb g2 e2
  rw[hb] at a2
  rw[e1,e2]
  exact BalHelp.eqS w g1 g2 _ _ _ x.b.bs rfl hx.nb a1.1 a2.1 a1.2 a2.2
theorem markBal(w:World)(base n c:Nat)(a:Option Addr)(s:Int)(ps:List Bals.T3)(h20:n≤1048576)(s0:0≤s)(s1:s≤100000000)(ho:w.ownsRow base 78 3 (.slice a n c) n (Triples.flat3 ps)):
  Calls Tryz.prog 55 #[.slice a n c,.int .i64 s] w fun e w'=>e= .returned (.int .i64 (s+3*(n:Int)))∧w'.ownsRow base 78 3 (.slice a n c) n (Triples.flat3 (BalHelp.marks s n))∧w.grownBy w' (Value.slice a n c).ownBlock:=by
 have ho':=ho
 rcases ho.2 with⟨h1,h2⟩|⟨g,c',cur,h1,_⟩
 ·obtain⟨rfl,_,rfl⟩:a=none∧n=0∧c=0:=by simpa using h1
  subst h2
  exact(markNBal w _ _ s).mono fun e w' ⟨q1,q2⟩=>⟨by rw[q1];simp,by rw[q2];exact World.ownsRow_nil w base _ _,by rw[q2];exact World.grownBy.refl _ _⟩
 ·obtain⟨rfl,rfl⟩:a=some ⟨g,0,none⟩∧c=c':=by simpa using h1
  exact BalHelp.markS w base g n c s ps h20 s0 s1 ho'
theorem heldBal(w:World)(base n c:Nat)(a:Option Addr)(s:Int)(h20:n≤1048576)(s0:0≤s)(s1:s≤100000000)(ho:w.ownsRow base 78 3 (.slice a n c) n (Triples.flat3 (BalHelp.marks s n))):
  Calls Tryz.prog 60 #[.slice a n c,.int .i64 s] w fun e w'=>e= .returned (.int .i64 (s+3*(n:Int)))∧w'=w:=by
 have ho':=ho
 rcases ho.2 with⟨h1,h2⟩|⟨g,c',cur,h1,_⟩
 ·obtain⟨rfl,_,rfl⟩:a=none∧n=0∧c=0:=by simpa using h1
  subst h2
  exact(heldNBal w _ _ s).mono fun e w' ⟨q1,q2⟩=>⟨by rw[q1];simp,q2⟩
 ·obtain⟨rfl,rfl⟩:a=some ⟨g,0,none⟩∧c=c':=by simpa using h1
  exact BalHeld.heldS w g n c s h20 s0 s1 (Triples.Own3.at ho')
theorem eqNLot(w:World)(a1 a2:Option Addr)(c1 c2:Nat):Calls Tryz.prog 49 #[.slice a1 0 c1,.slice a2 0 c2] w fun e w'=>e= .returned (.bool true)∧w'=w:=by
 go_enter Tryz.func49,Tryz.ntmps49
 go_wp2
 go_loopw [5] (fun j wr=>j= .int .i64 0∧wr=w) (fun _ _=>0)
 case atStart=>exact⟨rfl,rfl⟩
 case round=>
  obtain⟨rfl,rfl⟩:=hrel
  go_wp2
  go_ret
  exact⟨rfl,rfl⟩
theorem markNLot(w:World)(a:Option Addr)(c:Nat)(s:Int):Calls Tryz.prog 56 #[.slice a 0 c,.int .i64 s] w fun e w'=>e= .returned (.int .i64 s)∧w'=w:=by
 go_enter Tryz.func56,Tryz.ntmps56
 go_wp2
 go_loopw [1,5] (fun m j wr=>m= .int .i64 s∧j= .int .i64 0∧wr=w) (fun _ _ _=>0)
 case atStart=>exact⟨rfl,rfl,rfl⟩
 case round=>
  obtain⟨rfl,rfl,rfl⟩:=hrel
  go_wp2
  go_ret
  exact⟨rfl,rfl⟩
theorem heldNLot(w:World)(a:Option Addr)(c:Nat)(s:Int):Calls Tryz.prog 61 #[.slice a 0 c,.int .i64 s] w fun e w'=>e= .returned (.int .i64 s)∧w'=w:=by
 go_enter Tryz.func61,Tryz.ntmps61
 go_wp2
 go_loopw [1,5] (fun m j wr=>m= .int .i64 s∧j= .int .i64 0∧wr=w) (fun _ _ _=>0)
 case atStart=>exact⟨rfl,rfl,rfl⟩
 case round=>
  obtain⟨rfl,rfl,rfl⟩:=hrel
  go_wp2
  go_ret
  exact⟨rfl,rfl⟩
theorem eqLot(w:World)(x y:Ix)(hb:y.b=x.b)(hx:RdV w x)(hy:RdV w y):Calls Tryz.prog 49 #[.slice x.al x.b.ls.length x.cl,.slice y.al x.b.ls.length y.cl] w fun e w'=>e= .returned (.bool true)∧Below w.heap.size w w':=by
 by_cases z:x.b.ls.length=0
 ·rw[z]
  exact(eqNLot w _ _ _ _).mono fun e w' ⟨h1,h2⟩=>⟨h1,by rw[h2];exact Below.refl _ _⟩
 ·obtain⟨g1,e1⟩:=hx.el z
  obtain⟨g2,e2⟩:=hy.el (by rw[hb];exact z)
  have a1:=hx.rl g1 e1
  have a2:=hy.rl g2 e2
  rw[hb] at a2
  rw[e1,e2]
  exact LotHelp.eqS w g1 g2 _ _ _ x.b.ls rfl hx.nl a1.1 a2.1 a1.2 a2.2
theorem markLot(w:World)(base n c:Nat)(a:Option Addr)(s:Int)(ps:List Tup5.T5)(h20:n≤1048576)(s0:0≤s)(s1:s≤100000000)(ho:w.ownsRow base 80 5 (.slice a n c) n (Tup5.flat5 ps)):
  Calls Tryz.prog 56 #[.slice a n c,.int .i64 s] w fun e w'=>e= .returned (.int .i64 (s+5*(n:Int)))∧w'.ownsRow base 80 5 (.slice a n c) n (Tup5.flat5 (LotHelp.marks s n))∧w.grownBy w' (Value.slice a n c).ownBlock:=by
 have ho':=ho
 rcases ho.2 with⟨h1,h2⟩|⟨g,c',cur,h1,_⟩
 ·obtain⟨rfl,_,rfl⟩:a=none∧n=0∧c=0:=by simpa using h1
  subst h2
  exact(markNLot w _ _ s).mono fun e w' ⟨q1,q2⟩=>⟨by rw[q1];simp,by rw[q2];exact World.ownsRow_nil w base _ _,by rw[q2];exact World.grownBy.refl _ _⟩
 ·obtain⟨rfl,rfl⟩:a=some ⟨g,0,none⟩∧c=c':=by simpa using h1
  exact LotHelp.markS w base g n c s ps h20 s0 s1 ho'
theorem heldLot(w:World)(base n c:Nat)(a:Option Addr)(s:Int)(h20:n≤1048576)(s0:0≤s)(s1:s≤100000000)(ho:w.ownsRow base 80 5 (.slice a n c) n (Tup5.flat5 (LotHelp.marks s n))):
  Calls Tryz.prog 61 #[.slice a n c,.int .i64 s] w fun e w'=>e= .returned (.int .i64 (s+5*(n:Int)))∧w'=w:=by
 have ho':=ho
 rcases ho.2 with⟨h1,h2⟩|⟨g,c',cur,h1,_⟩
 ·obtain⟨rfl,_,rfl⟩:a=none∧n=0∧c=0:=by simpa using h1
  subst h2
  exact(heldNLot w _ _ s).mono fun e w' ⟨q1,q2⟩=>⟨by rw[q1];simp,q2⟩
 ·obtain⟨rfl,rfl⟩:a=some ⟨g,0,none⟩∧c=c':=by simpa using h1
  exact LotHeld.heldS w g n c s h20 s0 s1 (Tup5.Own5.at ho')
theorem eqNTrade(w:World)(a1 a2:Option Addr)(c1 c2:Nat):Calls Tryz.prog 50 #[.slice a1 0 c1,.slice a2 0 c2] w fun e w'=>e= .returned (.bool true)∧w'=w:=by
 go_enter Tryz.func50,Tryz.ntmps50
 go_wp2
 go_loopw [5] (fun j wr=>j= .int .i64 0∧wr=w) (fun _ _=>0)
 case atStart=>exact⟨rfl,rfl⟩
 case round=>
  obtain⟨rfl,rfl⟩:=hrel
  go_wp2
  go_ret
  exact⟨rfl,rfl⟩
theorem markNTrade(w:World)(a:Option Addr)(c:Nat)(s:Int):Calls Tryz.prog 57 #[.slice a 0 c,.int .i64 s] w fun e w'=>e= .returned (.int .i64 s)∧w'=w:=by
 go_enter Tryz.func57,Tryz.ntmps57
 go_wp2
 go_loopw [1,5] (fun m j wr=>m= .int .i64 s∧j= .int .i64 0∧wr=w) (fun _ _ _=>0)
 case atStart=>exact⟨rfl,rfl,rfl⟩
 case round=>
  obtain⟨rfl,rfl,rfl⟩:=hrel
  go_wp2
  go_ret
  exact⟨rfl,rfl⟩
theorem heldNTrade(w:World)(a:Option Addr)(c:Nat)(s:Int):Calls Tryz.prog 62 #[.slice a 0 c,.int .i64 s] w fun e w'=>e= .returned (.int .i64 s)∧w'=w:=by
 go_enter Tryz.func62,Tryz.ntmps62
 go_wp2
 go_loopw [1,5] (fun m j wr=>m= .int .i64 s∧j= .int .i64 0∧wr=w) (fun _ _ _=>0)
 case atStart=>exact⟨rfl,rfl,rfl⟩
 case round=>
  obtain⟨rfl,rfl,rfl⟩:=hrel
  go_wp2
  go_ret
  exact⟨rfl,rfl⟩
theorem eqTrade(w:World)(x y:Ix)(hb:y.b=x.b)(hx:RdV w x)(hy:RdV w y):Calls Tryz.prog 50 #[.slice x.ats x.b.ts.length x.ct,.slice y.ats x.b.ts.length y.ct] w fun e w'=>e= .returned (.bool true)∧Below w.heap.size w w':=by
 by_cases z:x.b.ts.length=0
 ·rw[z]
  exact(eqNTrade w _ _ _ _).mono fun e w' ⟨h1,h2⟩=>⟨h1,by rw[h2];exact Below.refl _ _⟩
 ·obtain⟨g1,e1⟩:=hx.et z
  obtain⟨g2,e2⟩:=hy.et (by rw[hb];exact z)
  have a1:=hx.rt g1 e1
  have a2:=hy.rt g2 e2
  rw[hb] at a2
  rw[e1,e2]
  exact TradeHelp.eqS w g1 g2 _ _ _ x.b.ts rfl hx.nt a1.1 a2.1 a1.2 a2.2
theorem markTrade(w:World)(base n c:Nat)(a:Option Addr)(s:Int)(ps:List Tup8.T8)(h20:n≤1048576)(s0:0≤s)(s1:s≤100000000)(ho:w.ownsRow base 82 8 (.slice a n c) n (Tup8.flat8 ps)):
  Calls Tryz.prog 57 #[.slice a n c,.int .i64 s] w fun e w'=>e= .returned (.int .i64 (s+8*(n:Int)))∧w'.ownsRow base 82 8 (.slice a n c) n (Tup8.flat8 (TradeHelp.marks s n))∧w.grownBy w' (Value.slice a n c).ownBlock:=by
 have ho':=ho
 rcases ho.2 with⟨h1,h2⟩|⟨g,c',cur,h1,_⟩
 ·obtain⟨rfl,_,rfl⟩:a=none∧n=0∧c=0:=by simpa using h1
  subst h2
  exact(markNTrade w _ _ s).mono fun e w' ⟨q1,q2⟩=>⟨by rw[q1];simp,by rw[q2];exact World.ownsRow_nil w base _ _,by rw[q2];exact World.grownBy.refl _ _⟩
 ·obtain⟨rfl,rfl⟩:a=some ⟨g,0,none⟩∧c=c':=by simpa using h1
  exact TradeHelp.markS w base g n c s ps h20 s0 s1 ho'
theorem heldTrade(w:World)(base n c:Nat)(a:Option Addr)(s:Int)(h20:n≤1048576)(s0:0≤s)(s1:s≤100000000)(ho:w.ownsRow base 82 8 (.slice a n c) n (Tup8.flat8 (TradeHelp.marks s n))):
  Calls Tryz.prog 62 #[.slice a n c,.int .i64 s] w fun e w'=>e= .returned (.int .i64 (s+8*(n:Int)))∧w'=w:=by
 have ho':=ho
 rcases ho.2 with⟨h1,h2⟩|⟨g,c',cur,h1,_⟩
 ·obtain⟨rfl,_,rfl⟩:a=none∧n=0∧c=0:=by simpa using h1
  subst h2
  exact(heldNTrade w _ _ s).mono fun e w' ⟨q1,q2⟩=>⟨by rw[q1];simp,q2⟩
 ·obtain⟨rfl,rfl⟩:a=some ⟨g,0,none⟩∧c=c':=by simpa using h1
  exact TradeHeld.heldS w g n c s h20 s0 s1 (Tup8.Own8.at ho')
structure TwoV(w W:World)(x y:Ix):Prop where
 rx:RdV W x
 ry:RdV W y
 cx:ClV W w.heap.size x
 cy:ClV W (w.heap.size+1) y
 b:Below w.heap.size w W
 s:w.heap.size+1<W.heap.size
theorem TwoV.step{w W W':World}{x y:Ix}(h:TwoV w W x y)(k:Below W.heap.size W W'):TwoV w W' x y:=
 ⟨h.rx.below k,h.ry.below k,h.cx.below k (by have:=h.s;omega),h.cy.below k h.s,h.b.trans (k.mono h.b.size),Nat.lt_of_lt_of_le h.s k.size⟩
theorem boxedV(w:World)(x:Ix)(e:TypeId):ClV (w.alloc (.cells #[.slice x.aa x.b.ac.length x.ca,.slice x.ai x.b.ic.length x.ci,.slice x.ab x.b.bs.length x.cb,.slice x.al x.b.ls.length x.cl,.slice x.ats x.b.ts.length x.ct,.int .i64 x.b.lot] e)) w.heap.size x:=⟨by simp,by simp,by simp,by simp,by simp,by simp⟩
theorem TwoV.start{w:World}{x y:Ix}(hx:RdV w x)(hy:RdV w y)(e:TypeId):TwoV w ((w.alloc (.cells #[.slice x.aa x.b.ac.length x.ca,.slice x.ai x.b.ic.length x.ci,.slice x.ab x.b.bs.length x.cb,.slice x.al x.b.ls.length x.cl,.slice x.ats x.b.ts.length x.ct,.int .i64 x.b.lot] e)).alloc (.cells #[.slice y.aa y.b.ac.length y.ca,.slice y.ai y.b.ic.length y.ci,.slice y.ab y.b.bs.length y.cb,.slice y.al y.b.ls.length y.cl,.slice y.ats y.b.ts.length y.ct,.int .i64 y.b.lot] e)) x y:=by
 have c:=boxedV (w.alloc (.cells #[.slice x.aa x.b.ac.length x.ca,.slice x.ai x.b.ic.length x.ci,.slice x.ab x.b.bs.length x.cb,.slice x.al x.b.ls.length x.cl,.slice x.ats x.b.ts.length x.ct,.int .i64 x.b.lot] e)) y e
 have s:(w.alloc (.cells #[.slice x.aa x.b.ac.length x.ca,.slice x.ai x.b.ic.length x.ci,.slice x.ab x.b.bs.length x.cb,.slice x.al x.b.ls.length x.cl,.slice x.ats x.b.ts.length x.ct,.int .i64 x.b.lot] e)).heap.size=w.heap.size+1:=by simp
 rw[s] at c
 have b1:=one_more w (.cells #[.slice x.aa x.b.ac.length x.ca,.slice x.ai x.b.ic.length x.ci,.slice x.ab x.b.bs.length x.cb,.slice x.al x.b.ls.length x.cl,.slice x.ats x.b.ts.length x.ct,.int .i64 x.b.lot] e)
 have b2:=one_more (w.alloc (.cells #[.slice x.aa x.b.ac.length x.ca,.slice x.ai x.b.ic.length x.ci,.slice x.ab x.b.bs.length x.cb,.slice x.al x.b.ls.length x.cl,.slice x.ats x.b.ts.length x.ct,.int .i64 x.b.lot] e)) (.cells #[.slice y.aa y.b.ac.length y.ca,.slice y.ai y.b.ic.length y.ci,.slice y.ab y.b.bs.length y.cb,.slice y.al y.b.ls.length y.cl,.slice y.ats y.b.ts.length y.ct,.int .i64 y.b.lot] e)
 exact⟨(hx.below b1).below b2,(hy.below b1).below b2,(boxedV w x e).below b2 (by simp),c,b1.trans (b2.mono b1.size),by simp⟩
theorem eqBV(w:World)(x y:Ix)(hb:y.b=x.b)(hx:RdV w x)(hy:RdV w y):
  Calls Tryz.prog 25 #[.agg #[.slice x.aa x.b.ac.length x.ca,.slice x.ai x.b.ic.length x.ci,.slice x.ab x.b.bs.length x.cb,.slice x.al x.b.ls.length x.cl,.slice x.ats x.b.ts.length x.ct,.int .i64 x.b.lot],.agg #[.slice y.aa y.b.ac.length y.ca,.slice y.ai y.b.ic.length y.ci,.slice y.ab y.b.bs.length y.cb,.slice y.al y.b.ls.length y.cl,.slice y.ats y.b.ts.length y.ct,.int .i64 y.b.lot]] w fun e w'=>e= .returned (.bool true)∧Below w.heap.size w w':=by
 have T0:=zh (TwoV.start hx hy 32)
 have HB:=zh hb
 obtain⟨aa,ca,ai,ci,ab,cb,al,cl,ats,ct,b⟩:=y
 obtain rfl:b=x.b:=hb
 clear hx hy
 go_enter Tryz.func25,Tryz.ntmps25
 go_wp2_with fail
 refine(eqAccount _ x ⟨aa,ca,ai,ci,ab,cb,al,cl,ats,ct,x.b⟩ rfl (zu T0).rx (zu T0).ry).mono ?_
 rintro e w1 ⟨rfl,bb⟩
 have T1:=zh ((zu T0).step bb)
 clear bb
 have p1:=(zu T1).cx.c1
 have r1:=(zu T1).cy.c1
 go_wp2_with fail
 refine(eqInstr _ x ⟨aa,ca,ai,ci,ab,cb,al,cl,ats,ct,x.b⟩ rfl (zu T1).rx (zu T1).ry).mono ?_
 rintro e w2 ⟨rfl,bb⟩
 have T2:=zh ((zu T1).step bb)
 clear bb
 have p2:=(zu T2).cx.c2
 have r2:=(zu T2).cy.c2
 go_wp2_with fail
 refine(eqBal _ x ⟨aa,ca,ai,ci,ab,cb,al,cl,ats,ct,x.b⟩ rfl (zu T2).rx (zu T2).ry).mono ?_
 rintro e w3 ⟨rfl,bb⟩
 have T3:=zh ((zu T2).step bb)
 clear bb
 have p3:=(zu T3).cx.c3
 have r3:=(zu T3).cy.c3
 go_wp2_with fail
 refine(eqLot _ x ⟨aa,ca,ai,ci,ab,cb,al,cl,ats,ct,x.b⟩ rfl (zu T3).rx (zu T3).ry).mono ?_
 rintro e w4 ⟨rfl,bb⟩
 have T4:=zh ((zu T3).step bb)
 clear bb
 have p4:=(zu T4).cx.c4
 have r4:=(zu T4).cy.c4
 go_wp2_with fail
 refine(eqTrade _ x ⟨aa,ca,ai,ci,ab,cb,al,cl,ats,ct,x.b⟩ rfl (zu T4).rx (zu T4).ry).mono ?_
 rintro e w5 ⟨rfl,bb⟩
 have T5:=zh ((zu T4).step bb)
 clear bb
 have p5:=(zu T5).cx.c5
 have r5:=(zu T5).cy.c5
 go_wp2
 go_ret
 exact⟨rfl,(zu T5).b⟩
theorem markBV(w:World)(base:Nat)(x:Ix)(h:OwV w base x)(hb:base≤w.heap.size)(hs:Small x.b):
  Calls Tryz.prog 28 #[.agg #[.slice x.aa x.b.ac.length x.ca,.slice x.ai x.b.ic.length x.ci,.slice x.ab x.b.bs.length x.cb,.slice x.al x.b.ls.length x.cl,.slice x.ats x.b.ts.length x.ct,.int .i64 x.b.lot],.int .i64 1] w fun e w'=>e= .returned (.int .i64 (e5 x.b))∧OwMV w' base x∧TurnV x w w':=by
 obtain⟨⟨l1,u1⟩,⟨l2,u2⟩,⟨l3,u3⟩,⟨l4,u4⟩,⟨l5,u5⟩⟩:=e_bd hs
 obtain⟨na,ni,nb,nl,nt⟩:=hs
 have za:=zh (show some w.heap.size≠(Value.slice x.aa x.b.ac.length x.ca).ownBlock from fun e=>by have:=(World.ownsRow.lt h.oa _ e.symm).2;omega)
 have Oa:=zh (row_step h.oa (one_more w (.cells #[.slice x.aa x.b.ac.length x.ca,.slice x.ai x.b.ic.length x.ci,.slice x.ab x.b.bs.length x.cb,.slice x.al x.b.ls.length x.cl,.slice x.ats x.b.ts.length x.ct,.int .i64 x.b.lot] 32)))
 have zi:=zh (show some w.heap.size≠(Value.slice x.ai x.b.ic.length x.ci).ownBlock from fun e=>by have:=(World.ownsRow.lt h.oi _ e.symm).2;omega)
 have Oi:=zh (row_step h.oi (one_more w (.cells #[.slice x.aa x.b.ac.length x.ca,.slice x.ai x.b.ic.length x.ci,.slice x.ab x.b.bs.length x.cb,.slice x.al x.b.ls.length x.cl,.slice x.ats x.b.ts.length x.ct,.int .i64 x.b.lot] 32)))
 have zb:=zh (show some w.heap.size≠(Value.slice x.ab x.b.bs.length x.cb).ownBlock from fun e=>by have:=(World.ownsRow.lt h.ob _ e.symm).2;omega)
 have Ob:=zh (row_step h.ob (one_more w (.cells #[.slice x.aa x.b.ac.length x.ca,.slice x.ai x.b.ic.length x.ci,.slice x.ab x.b.bs.length x.cb,.slice x.al x.b.ls.length x.cl,.slice x.ats x.b.ts.length x.ct,.int .i64 x.b.lot] 32)))
 have zl:=zh (show some w.heap.size≠(Value.slice x.al x.b.ls.length x.cl).ownBlock from fun e=>by have:=(World.ownsRow.lt h.ol _ e.symm).2;omega)
 have Ol:=zh (row_step h.ol (one_more w (.cells #[.slice x.aa x.b.ac.length x.ca,.slice x.ai x.b.ic.length x.ci,.slice x.ab x.b.bs.length x.cb,.slice x.al x.b.ls.length x.cl,.slice x.ats x.b.ts.length x.ct,.int .i64 x.b.lot] 32)))
 have zt:=zh (show some w.heap.size≠(Value.slice x.ats x.b.ts.length x.ct).ownBlock from fun e=>by have:=(World.ownsRow.lt h.ot _ e.symm).2;omega)
 have Ot:=zh (row_step h.ot (one_more w (.cells #[.slice x.aa x.b.ac.length x.ca,.slice x.ai x.b.ic.length x.ci,.slice x.ab x.b.bs.length x.cb,.slice x.al x.b.ls.length x.cl,.slice x.ats x.b.ts.length x.ct,.int .i64 x.b.lot] 32)))
 have B0:=zh (show TurnV x w (w.alloc (.cells #[.slice x.aa x.b.ac.length x.ca,.slice x.ai x.b.ic.length x.ci,.slice x.ab x.b.bs.length x.cb,.slice x.al x.b.ls.length x.cl,.slice x.ats x.b.ts.length x.ct,.int .i64 x.b.lot] 32)) from TurnV.of (one_more _ _))
 have C0:=zh (boxedV w x 32)
 clear h
 go_enter Tryz.func28,Tryz.ntmps28
 go_wp2_with fail
 refine(markAccount _ base _ x.ca x.aa 1 x.b.ac na (by omega) (by omega) (zu Oa)).mono ?_
 rintro e w1 ⟨he,o,gr⟩
 replace he:e= .returned (.int .i64 (e1 x.b)):=he
 subst he
 have B1:=zh ((zu B0).grown gr (.inl rfl))
 have C1:=zh (show ClV w1 w.heap.size x from⟨gr.cell (zu C0).c0 (zu za),gr.cell (zu C0).c1 (zu za),gr.cell (zu C0).c2 (zu za),gr.cell (zu C0).c3 (zu za),gr.cell (zu C0).c4 (zu za),gr.cell (zu C0).c5 (zu za)⟩)
 have Ni:=zh (other (zu Oi) (zu Oa) (by decide) gr)
 have Nb:=zh (other (zu Ob) (zu Oa) (by decide) gr)
 have Nl:=zh (other (zu Ol) (zu Oa) (by decide) gr)
 have Nt:=zh (other (zu Ot) (zu Oa) (by decide) gr)
 replace Oa:=zh o
 replace Oi:=Ni
 clear Ni
 replace Ob:=Nb
 clear Nb
 replace Ol:=Nl
 clear Nl
 replace Ot:=Nt
 clear Nt
 clear o gr
 have p1:=(zu C1).c1
 go_wp2_with fail
 refine(markInstr _ base _ x.ci x.ai (e1 x.b) x.b.ic ni (by omega) (by omega) (zu Oi)).mono ?_
 rintro e w2 ⟨he,o,gr⟩
 replace he:e= .returned (.int .i64 (e2 x.b)):=he
 subst he
 have B2:=zh ((zu B1).grown gr (.inr (.inl rfl)))
 have C2:=zh (show ClV w2 w.heap.size x from⟨gr.cell (zu C1).c0 (zu zi),gr.cell (zu C1).c1 (zu zi),gr.cell (zu C1).c2 (zu zi),gr.cell (zu C1).c3 (zu zi),gr.cell (zu C1).c4 (zu zi),gr.cell (zu C1).c5 (zu zi)⟩)
 have Na:=zh (other (zu Oa) (zu Oi) (by decide) gr)
 have Nb:=zh (other (zu Ob) (zu Oi) (by decide) gr)
 have Nl:=zh (other (zu Ol) (zu Oi) (by decide) gr)
 have Nt:=zh (other (zu Ot) (zu Oi) (by decide) gr)
 replace Oi:=zh o
 replace Oa:=Na
 clear Na
 replace Ob:=Nb
 clear Nb
 replace Ol:=Nl
 clear Nl
 replace Ot:=Nt
 clear Nt
 clear o gr
 have p2:=(zu C2).c2
 go_wp2_with fail
 refine(markBal _ base _ x.cb x.ab (e2 x.b) x.b.bs nb (by omega) (by omega) (zu Ob)).mono ?_
 rintro e w3 ⟨he,o,gr⟩
 replace he:e= .returned (.int .i64 (e3 x.b)):=he
 subst he
 have B3:=zh ((zu B2).grown gr (.inr (.inr (.inl rfl))))
 have C3:=zh (show ClV w3 w.heap.size x from⟨gr.cell (zu C2).c0 (zu zb),gr.cell (zu C2).c1 (zu zb),gr.cell (zu C2).c2 (zu zb),gr.cell (zu C2).c3 (zu zb),gr.cell (zu C2).c4 (zu zb),gr.cell (zu C2).c5 (zu zb)⟩)
 have Na:=zh (other (zu Oa) (zu Ob) (by decide) gr)
 have Ni:=zh (other (zu Oi) (zu Ob) (by decide) gr)
 have Nl:=zh (other (zu Ol) (zu Ob) (by decide) gr)
 have Nt:=zh (other (zu Ot) (zu Ob) (by decide) gr)
 replace Ob:=zh o
 replace Oa:=Na
 clear Na
 replace Oi:=Ni
 clear Ni
 replace Ol:=Nl
 clear Nl
 replace Ot:=Nt
 clear Nt
 clear o gr
 have p3:=(zu C3).c3
 go_wp2_with fail
 refine(markLot _ base _ x.cl x.al (e3 x.b) x.b.ls nl (by omega) (by omega) (zu Ol)).mono ?_
 rintro e w4 ⟨he,o,gr⟩
 replace he:e= .returned (.int .i64 (e4 x.b)):=he
 subst he
 have B4:=zh ((zu B3).grown gr (.inr (.inr (.inr (.inl rfl)))))
 have C4:=zh (show ClV w4 w.heap.size x from⟨gr.cell (zu C3).c0 (zu zl),gr.cell (zu C3).c1 (zu zl),gr.cell (zu C3).c2 (zu zl),gr.cell (zu C3).c3 (zu zl),gr.cell (zu C3).c4 (zu zl),gr.cell (zu C3).c5 (zu zl)⟩)
 have Na:=zh (other (zu Oa) (zu Ol) (by decide) gr)
 have Ni:=zh (other (zu Oi) (zu Ol) (by decide) gr)
 have Nb:=zh (other (zu Ob) (zu Ol) (by decide) gr)
 have Nt:=zh (other (zu Ot) (zu Ol) (by decide) gr)
 replace Ol:=zh o
 replace Oa:=Na
 clear Na
 replace Oi:=Ni
 clear Ni
 replace Ob:=Nb
 clear Nb
 replace Ot:=Nt
 clear Nt
 clear o gr
 have p4:=(zu C4).c4
 go_wp2_with fail
 refine(markTrade _ base _ x.ct x.ats (e4 x.b) x.b.ts nt (by omega) (by omega) (zu Ot)).mono ?_
 rintro e w5 ⟨he,o,gr⟩
 replace he:e= .returned (.int .i64 (e5 x.b)):=he
 subst he
 have B5:=zh ((zu B4).grown gr (.inr (.inr (.inr (.inr rfl)))))
 have C5:=zh (show ClV w5 w.heap.size x from⟨gr.cell (zu C4).c0 (zu zt),gr.cell (zu C4).c1 (zu zt),gr.cell (zu C4).c2 (zu zt),gr.cell (zu C4).c3 (zu zt),gr.cell (zu C4).c4 (zu zt),gr.cell (zu C4).c5 (zu zt)⟩)
 have Na:=zh (other (zu Oa) (zu Ot) (by decide) gr)
 have Ni:=zh (other (zu Oi) (zu Ot) (by decide) gr)
 have Nb:=zh (other (zu Ob) (zu Ot) (by decide) gr)
 have Nl:=zh (other (zu Ol) (zu Ot) (by decide) gr)
 replace Ot:=zh o
 replace Oa:=Na
 clear Na
 replace Oi:=Ni
 clear Ni
 replace Ob:=Nb
 clear Nb
 replace Ol:=Nl
 clear Nl
 clear o gr
 go_wp2
 go_ret
 exact⟨rfl,⟨zu Oa,zu Oi,zu Ob,zu Ol,zu Ot⟩,zu B5⟩
theorem heldBV(w:World)(base:Nat)(x:Ix)(h:OwMV w base x)(hs:Small x.b):
  Calls Tryz.prog 29 #[.agg #[.slice x.aa x.b.ac.length x.ca,.slice x.ai x.b.ic.length x.ci,.slice x.ab x.b.bs.length x.cb,.slice x.al x.b.ls.length x.cl,.slice x.ats x.b.ts.length x.ct,.int .i64 x.b.lot],.int .i64 1] w fun e w'=>e= .returned (.int .i64 (e5 x.b))∧Below w.heap.size w w':=by
 obtain⟨⟨l1,u1⟩,⟨l2,u2⟩,⟨l3,u3⟩,⟨l4,u4⟩,⟨l5,u5⟩⟩:=e_bd hs
 obtain⟨na,ni,nb,nl,nt⟩:=hs
 have B0:=zh (one_more w (.cells #[.slice x.aa x.b.ac.length x.ca,.slice x.ai x.b.ic.length x.ci,.slice x.ab x.b.bs.length x.cb,.slice x.al x.b.ls.length x.cl,.slice x.ats x.b.ts.length x.ct,.int .i64 x.b.lot] 32))
 have H0:=zh (h.step (one_more w (.cells #[.slice x.aa x.b.ac.length x.ca,.slice x.ai x.b.ic.length x.ci,.slice x.ab x.b.bs.length x.cb,.slice x.al x.b.ls.length x.cl,.slice x.ats x.b.ts.length x.ct,.int .i64 x.b.lot] 32)))
 have t1:¬e1 x.b<0:=by omega
 have t2:¬e2 x.b<0:=by omega
 have t3:¬e3 x.b<0:=by omega
 have t4:¬e4 x.b<0:=by omega
 have t5:¬e5 x.b<0:=by omega
 clear h
 go_enter Tryz.func29,Tryz.ntmps29
 go_wp2_with fail
 refine(heldAccount _ base _ x.ca x.aa 1 na (by omega) (by omega) (zu H0).oa).mono ?_
 rintro e w1 ⟨he,rfl⟩
 replace he:e= .returned (.int .i64 (e1 x.b)):=he
 subst he
 go_wp2_with fail
 refine(heldInstr _ base _ x.ci x.ai (e1 x.b) ni (by omega) (by omega) (zu H0).oi).mono ?_
 rintro e w2 ⟨he,rfl⟩
 replace he:e= .returned (.int .i64 (e2 x.b)):=he
 subst he
 go_wp2_with fail
 refine(heldBal _ base _ x.cb x.ab (e2 x.b) nb (by omega) (by omega) (zu H0).ob).mono ?_
 rintro e w3 ⟨he,rfl⟩
 replace he:e= .returned (.int .i64 (e3 x.b)):=he
 subst he
 go_wp2_with fail
 refine(heldLot _ base _ x.cl x.al (e3 x.b) nl (by omega) (by omega) (zu H0).ol).mono ?_
 rintro e w4 ⟨he,rfl⟩
 replace he:e= .returned (.int .i64 (e4 x.b)):=he
 subst he
 go_wp2_with fail
 refine(heldTrade _ base _ x.ct x.ats (e4 x.b) nt (by omega) (by omega) (zu H0).ot).mono ?_
 rintro e w5 ⟨he,rfl⟩
 replace he:e= .returned (.int .i64 (e5 x.b)):=he
 subst he
 go_wp2
 go_ret
 exact⟨rfl,zu B0⟩
end VB13
namespace LawR13
open BMem Bks BHelp BkEq BMemV13 VB13
open IBalsFit (one_more)
open SRead13L (row_step)
structure Kx(W:World)(g:Nat)(x:Ix):Prop where
 c:ClV W g x
 lt:g<W.heap.size
theorem Kx.made(w:World)(x:Ix)(e:TypeId):Kx (w.alloc (.cells #[.slice x.aa x.b.ac.length x.ca,.slice x.ai x.b.ic.length x.ci,.slice x.ab x.b.bs.length x.cb,.slice x.al x.b.ls.length x.cl,.slice x.ats x.b.ts.length x.ct,.int .i64 x.b.lot] e)) w.heap.size x:=⟨boxedV w x e,by simp⟩
theorem Kx.step{W W':World}{g:Nat}{x:Ix}(h:Kx W g x)(k:Below W.heap.size W W'):Kx W' g x:=⟨h.c.below k h.lt,Nat.lt_of_lt_of_le h.lt k.size⟩
theorem Kx.kept{W W':World}{g:Nat}{x:Ix}{row:Option Nat}(h:Kx W g x)(k:W.grownBy W' row)(ne:some g≠row):Kx W' g x:=
 ⟨⟨k.cell h.c.c0 ne,k.cell h.c.c1 ne,k.cell h.c.c2 ne,k.cell h.c.c3 ne,k.cell h.c.c4 ne,k.cell h.c.c5 ne⟩,Nat.lt_of_lt_of_le h.lt k.size⟩
theorem Kx.turn{W W':World}{g:Nat}{x y:Ix}(h:Kx W g x)(k:TurnV y W W')(n0:some g≠(.slice y.aa y.b.ac.length y.ca:Value).ownBlock)(n1:some g≠(.slice y.ai y.b.ic.length y.ci:Value).ownBlock)(n2:some g≠(.slice y.ab y.b.bs.length y.cb:Value).ownBlock)(n3:some g≠(.slice y.al y.b.ls.length y.cl:Value).ownBlock)(n4:some g≠(.slice y.ats y.b.ts.length y.ct:Value).ownBlock):Kx W' g x:=by
 have e:W'.heap[g]?=W.heap[g]?:=k.block g h.lt n0 n1 n2 n3 n4
 have q:∀i,W'.cell? ⟨g,i,none⟩=W.cell? ⟨g,i,none⟩:=fun i=>World.cell?_of_block (w:=W) e
 exact⟨⟨(q 0).trans h.c.c0,(q 1).trans h.c.c1,(q 2).trans h.c.c2,(q 3).trans h.c.c3,(q 4).trans h.c.c4,(q 5).trans h.c.c5⟩,Nat.lt_of_lt_of_le h.lt k.size⟩
def UpV(x:Ix)(N:Nat):Prop:=(∀g,x.aa=some ⟨g,0,none⟩→g<N)∧(∀g,x.ai=some ⟨g,0,none⟩→g<N)∧(∀g,x.ab=some ⟨g,0,none⟩→g<N)∧(∀g,x.al=some ⟨g,0,none⟩→g<N)∧(∀g,x.ats=some ⟨g,0,none⟩→g<N)
theorem up_of{W:World}{x:Ix}(h:RdV W x):UpV x W.heap.size:=⟨fun g e=>(h.ra g e).1,fun g e=>(h.ri g e).1,fun g e=>(h.rb g e).1,fun g e=>(h.rl g e).1,fun g e=>(h.rt g e).1⟩
theorem up_mono{x:Ix}{N M:Nat}(h:UpV x N)(k:N≤M):UpV x M:=⟨fun g e=>Nat.lt_of_lt_of_le (h.1 g e) k,fun g e=>Nat.lt_of_lt_of_le (h.2.1 g e) k,fun g e=>Nat.lt_of_lt_of_le (h.2.2.1 g e) k,fun g e=>Nat.lt_of_lt_of_le (h.2.2.2.1 g e) k,fun g e=>Nat.lt_of_lt_of_le (h.2.2.2.2 g e) k⟩
theorem rd_low{W W':World}{x:Ix}{N:Nat}(h:RdV W x)(u:UpV x N)(k:Below N W W'):RdV W' x:=
 ⟨h.ea,fun g e=>⟨Nat.lt_of_lt_of_le (h.ra g e).1 k.size,(h.ra g e).2.below k (u.1 g e)⟩,h.na,h.ei,fun g e=>⟨Nat.lt_of_lt_of_le (h.ri g e).1 k.size,(h.ri g e).2.below k (u.2.1 g e)⟩,h.ni,h.eb,fun g e=>⟨Nat.lt_of_lt_of_le (h.rb g e).1 k.size,(h.rb g e).2.below k (u.2.2.1 g e)⟩,h.nb,h.el,fun g e=>⟨Nat.lt_of_lt_of_le (h.rl g e).1 k.size,(h.rl g e).2.below k (u.2.2.2.1 g e)⟩,h.nl,h.et,fun g e=>⟨Nat.lt_of_lt_of_le (h.rt g e).1 k.size,(h.rt g e).2.below k (u.2.2.2.2 g e)⟩,h.nt⟩
theorem not_own{W:World}{base:Nat}{x:Ix}{g:Nat}(h:OwV W base x)(hg:W.heap.size≤g):some g≠(.slice x.aa x.b.ac.length x.ca:Value).ownBlock∧some g≠(.slice x.ai x.b.ic.length x.ci:Value).ownBlock∧some g≠(.slice x.ab x.b.bs.length x.cb:Value).ownBlock∧some g≠(.slice x.al x.b.ls.length x.cl:Value).ownBlock∧some g≠(.slice x.ats x.b.ts.length x.ct:Value).ownBlock:=
 ⟨fun e=>by have:=(World.ownsRow.lt h.oa g e.symm).2;omega,fun e=>by have:=(World.ownsRow.lt h.oi g e.symm).2;omega,fun e=>by have:=(World.ownsRow.lt h.ob g e.symm).2;omega,fun e=>by have:=(World.ownsRow.lt h.ol g e.symm).2;omega,fun e=>by have:=(World.ownsRow.lt h.ot g e.symm).2;omega⟩
end LawR13
namespace LoadH16
open BMem Bks BHelp BkEq BMemV13 VB13
open SRead13L (row_step)
open IBalsFit (one_more)
open Bx16
structure SvV(w W:World)(g:Nat)(f:Int)(x:Ix):Prop where
 f:W.cell? ⟨g,0,none⟩=some (.int .i64 f)
 c0:W.cell? ⟨g,1,none⟩=some (.slice x.aa x.b.ac.length x.ca)
 c1:W.cell? ⟨g,2,none⟩=some (.slice x.ai x.b.ic.length x.ci)
 c2:W.cell? ⟨g,3,none⟩=some (.slice x.ab x.b.bs.length x.cb)
 c3:W.cell? ⟨g,4,none⟩=some (.slice x.al x.b.ls.length x.cl)
 c4:W.cell? ⟨g,5,none⟩=some (.slice x.ats x.b.ts.length x.ct)
 c5:W.cell? ⟨g,6,none⟩=some (.int .i64 x.b.lot)
 b:Below w.heap.size w W
 lt:g<W.heap.size
theorem SvV.step{w W W':World}{g:Nat}{f:Int}{x:Ix}(h:SvV w W g f x)(k:Below W.heap.size W W'):SvV w W' g f x:=
 ⟨(k.cell (p:=⟨g,0,none⟩) h.lt).trans h.f,(k.cell (p:=⟨g,1,none⟩) h.lt).trans h.c0,(k.cell (p:=⟨g,2,none⟩) h.lt).trans h.c1,(k.cell (p:=⟨g,3,none⟩) h.lt).trans h.c2,(k.cell (p:=⟨g,4,none⟩) h.lt).trans h.c3,(k.cell (p:=⟨g,5,none⟩) h.lt).trans h.c4,(k.cell (p:=⟨g,6,none⟩) h.lt).trans h.c5,h.b.trans (k.mono h.b.size),Nat.lt_of_lt_of_le h.lt k.size⟩
theorem SvV.made{w W:World}(x:Ix)(b:Below w.heap.size w W)(f:Int)(e:TypeId):SvV w (W.alloc (.cells #[.int .i64 f,.slice x.aa x.b.ac.length x.ca,.slice x.ai x.b.ic.length x.ci,.slice x.ab x.b.bs.length x.cb,.slice x.al x.b.ls.length x.cl,.slice x.ats x.b.ts.length x.ct,.int .i64 x.b.lot] e)) W.heap.size f x:=
 ⟨by simp,by simp,by simp,by simp,by simp,by simp,by simp,b.alloc b.size _,by simp⟩
theorem OwV.low{w w':World}{B:Nat}{x:Ix}(h:OwV w B x)(k:Below w.heap.size w w'):OwV w' B x:=h.step k
theorem eqSvV(w:World)(f:Int)(x y:Ix)(hb:y.b=x.b)(hx:RdV w x)(hy:RdV w y):
  Calls Tryz.prog 8 #[.agg #[.int .i64 f,.slice x.aa x.b.ac.length x.ca,.slice x.ai x.b.ic.length x.ci,.slice x.ab x.b.bs.length x.cb,.slice x.al x.b.ls.length x.cl,.slice x.ats x.b.ts.length x.ct,.int .i64 x.b.lot],.agg #[.int .i64 f,.slice y.aa y.b.ac.length y.ca,.slice y.ai y.b.ic.length y.ci,.slice y.ab y.b.bs.length y.cb,.slice y.al y.b.ls.length y.cl,.slice y.ats y.b.ts.length y.ct,.int .i64 y.b.lot]] w fun e w'=>e= .returned (.bool true)∧Below w.heap.size w w':=by
 have S1:=zh (SvV.made x (Below.refl _ w) f 34)
 have b2:=one_more (w.alloc (.cells #[.int .i64 f,.slice x.aa x.b.ac.length x.ca,.slice x.ai x.b.ic.length x.ci,.slice x.ab x.b.bs.length x.cb,.slice x.al x.b.ls.length x.cl,.slice x.ats x.b.ts.length x.ct,.int .i64 x.b.lot] 34)) (.cells #[.int .i64 f,.slice y.aa y.b.ac.length y.ca,.slice y.ai y.b.ic.length y.ci,.slice y.ab y.b.bs.length y.cb,.slice y.al y.b.ls.length y.cl,.slice y.ats y.b.ts.length y.ct,.int .i64 y.b.lot] 34)
 have S2:=zh ((zu S1).step b2)
 have t2:=SvV.made y (zu S1).b f 34
 rw[show(w.alloc (.cells #[.int .i64 f,.slice x.aa x.b.ac.length x.ca,.slice x.ai x.b.ic.length x.ci,.slice x.ab x.b.bs.length x.cb,.slice x.al x.b.ls.length x.cl,.slice x.ats x.b.ts.length x.ct,.int .i64 x.b.lot] 34)).heap.size=w.heap.size+1 by simp] at t2
 have T2:=zh t2
 have RX:=zh ((hx.below (one_more w (.cells #[.int .i64 f,.slice x.aa x.b.ac.length x.ca,.slice x.ai x.b.ic.length x.ci,.slice x.ab x.b.bs.length x.cb,.slice x.al x.b.ls.length x.cl,.slice x.ats x.b.ts.length x.ct,.int .i64 x.b.lot] 34))).below b2)
 have RY:=zh ((hy.below (one_more w (.cells #[.int .i64 f,.slice x.aa x.b.ac.length x.ca,.slice x.ai x.b.ic.length x.ci,.slice x.ab x.b.bs.length x.cb,.slice x.al x.b.ls.length x.cl,.slice x.ats x.b.ts.length x.ct,.int .i64 x.b.lot] 34))).below b2)
 clear b2 t2
 have c0:=(zu S2).f
 have d0:=(zu T2).f
 have c1:=(zu S2).c0
 have d1:=(zu T2).c0
 have c2:=(zu S2).c1
 have d2:=(zu T2).c1
 have c3:=(zu S2).c2
 have d3:=(zu T2).c2
 have c4:=(zu S2).c3
 have d4:=(zu T2).c3
 have c5:=(zu S2).c4
 have d5:=(zu T2).c4
 have c6:=(zu S2).c5
 have d6:=(zu T2).c5
 have ff:(f !=f)=false:=by simp
 have HB:=zh hb
 clear hx hy hb
 go_enter Tryz.func8,Tryz.ntmps8
 go_wp2_with fail
 refine(eqBV _ x y (zu HB) (zu RX) (zu RY)).mono ?_
 rintro e u ⟨rfl,bb⟩
 have B2:=zh ((zu S2).b.trans (bb.mono (zu S2).b.size))
 clear bb
 go_wp2
 go_ret
 exact⟨rfl,zu B2⟩
theorem TurnV.after{x:Ix}{w u v:World}(h:Below w.heap.size w u)(k:TurnV x u v):TurnV x w v:=
 ⟨k.os.trans h.os,k.tape.trans h.tape,k.output.trans h.output,Nat.le_trans h.size k.size,fun j hj a b c d e=>(k.block j (Nat.lt_of_lt_of_le hj h.size) a b c d e).trans (h.block j hj)⟩
theorem markSvV(w:World)(base:Nat)(f:Int)(x:Ix)(h:OwV w base x)(hb:base≤w.heap.size)(hs:Small x.b):
  Calls Tryz.prog 11 #[.agg #[.int .i64 f,.slice x.aa x.b.ac.length x.ca,.slice x.ai x.b.ic.length x.ci,.slice x.ab x.b.bs.length x.cb,.slice x.al x.b.ls.length x.cl,.slice x.ats x.b.ts.length x.ct,.int .i64 x.b.lot],.int .i64 1] w fun e w'=>e= .returned (.int .i64 (e5 x.b))∧OwMV w' base x∧TurnV x w w':=by
 have b1:=one_more w (.cells #[.int .i64 f,.slice x.aa x.b.ac.length x.ca,.slice x.ai x.b.ic.length x.ci,.slice x.ab x.b.bs.length x.cb,.slice x.al x.b.ls.length x.cl,.slice x.ats x.b.ts.length x.ct,.int .i64 x.b.lot] 34)
 have MK:=zh (markBV (w.alloc (.cells #[.int .i64 f,.slice x.aa x.b.ac.length x.ca,.slice x.ai x.b.ic.length x.ci,.slice x.ab x.b.bs.length x.cb,.slice x.al x.b.ls.length x.cl,.slice x.ats x.b.ts.length x.ct,.int .i64 x.b.lot] 34)) base x (h.step b1) (Nat.le_trans hb b1.size) hs)
 have C1:=zh (SvV.made x (Below.refl _ w) f 34)
 have BD:=zh (e_bd hs)
 have B1:=zh b1
 clear h hs b1
 have c0:=(zu C1).f
 have c1:=(zu C1).c0
 have c2:=(zu C1).c1
 have c3:=(zu C1).c2
 have c4:=(zu C1).c3
 have c5:=(zu C1).c4
 have c6:=(zu C1).c5
 go_enter Tryz.func11,Tryz.ntmps11
 go_wp2_with fail
 refine(zu MK).mono ?_
 rintro e u ⟨rfl,om,t⟩
 have T2:=zh (TurnV.after (zu B1) t)
 have OM:=zh om
 clear t om
 go_wp2
 go_ret
 exact⟨rfl,zu OM,zu T2⟩
theorem heldSvV(w:World)(base:Nat)(f:Int)(x:Ix)(h:OwMV w base x)(hs:Small x.b):
  Calls Tryz.prog 12 #[.agg #[.int .i64 f,.slice x.aa x.b.ac.length x.ca,.slice x.ai x.b.ic.length x.ci,.slice x.ab x.b.bs.length x.cb,.slice x.al x.b.ls.length x.cl,.slice x.ats x.b.ts.length x.ct,.int .i64 x.b.lot],.int .i64 1] w fun e w'=>e= .returned (.int .i64 (e5 x.b))∧Below w.heap.size w w':=by
 have b1:=one_more w (.cells #[.int .i64 f,.slice x.aa x.b.ac.length x.ca,.slice x.ai x.b.ic.length x.ci,.slice x.ab x.b.bs.length x.cb,.slice x.al x.b.ls.length x.cl,.slice x.ats x.b.ts.length x.ct,.int .i64 x.b.lot] 34)
 have MK:=zh (heldBV (w.alloc (.cells #[.int .i64 f,.slice x.aa x.b.ac.length x.ca,.slice x.ai x.b.ic.length x.ci,.slice x.ab x.b.bs.length x.cb,.slice x.al x.b.ls.length x.cl,.slice x.ats x.b.ts.length x.ct,.int .i64 x.b.lot] 34)) base x (h.step b1) hs)
 have C1:=zh (SvV.made x (Below.refl _ w) f 34)
 have BD:=(e_bd hs).2.2.2.2.1
 have tn:¬e5 x.b<0:=by omega
 clear h hs b1 BD
 have c0:=(zu C1).f
 have c1:=(zu C1).c0
 have c2:=(zu C1).c1
 have c3:=(zu C1).c2
 have c4:=(zu C1).c3
 have c5:=(zu C1).c4
 have c6:=(zu C1).c5
 go_enter Tryz.func12,Tryz.ntmps12
 go_wp2_with fail
 refine(zu MK).mono ?_
 rintro e u ⟨rfl,bb⟩
 have B2:=zh ((zu C1).b.trans (bb.mono (zu C1).b.size))
 clear bb
 go_wp2
 go_ret
 exact⟨rfl,zu B2⟩
end LoadH16
namespace SBalsV13
open BMem Bks BHelp BMemV13
open IBalsFit (one_more)
open Lots (Says says_of NoOk)
open Bals (T3 el3 val sumI)
theorem sBals(w:World)(x:Ix)(b:Bool)(h:RdV w x)(hl:Lists x.b)(hb:Says b (BalsFit x.b)):
  Calls Tryz.prog 71 #[.agg #[.slice x.aa x.b.ac.length x.ca,.slice x.ai x.b.ic.length x.ci,.slice x.ab x.b.bs.length x.cb,.slice x.al x.b.ls.length x.cl,.slice x.ats x.b.ts.length x.ct,.int .i64 x.b.lot]] w fun e w'=>e= .returned (.bool b)∧Below w.heap.size w w':=by
 have T:=zh hb
 have L:=zh hl
 have S0:=zh (StV.start h 32)
 have nb:=h.nb
 clear hb hl h
 go_enter Tryz.func71,Tryz.ntmps71
 go_wp2
 go_loopw [3] (fun i wr=>∃(k:Nat),k≤x.b.bs.length∧i= .int .i64 k∧StV w wr x∧Hid (∀j,j<k→BalFit x.b (el3 x.b.bs j)∧sumI x.b.bs (el3 x.b.bs j).2.1=0)) (fun i _=>x.b.bs.length-(intOf i).toNat)
 case atStart=>exact⟨0,by omega,rfl,zu S0,zh (fun i hi=>absurd hi (by omega))⟩
 case round=>
  obtain⟨k,hk,rfl,hS,HG⟩:=hrel
  clear S0
  by_cases t:k<x.b.bs.length
  ·obtain⟨gb,eb⟩:=hS.r.eb (by omega)
   obtain⟨d0,d1,d2⟩:=(hS.r.rb gb eb).2 k t
   have EB:=zh eb
   obtain⟨c0,c1,c2,c3,c4,c5⟩:=hS.c
   rw[eb] at c2
   clear eb
   have BAD:=zh (show ¬(BalFit x.b (el3 x.b.bs k)∧sumI x.b.bs (el3 x.b.bs k).2.1=0)→b=false from fun hr=>(zu T).not (fun r=>hr ⟨r.1 k t,r.2 _⟩))
   have GOOD:=zh (show(BalFit x.b (el3 x.b.bs k)∧sumI x.b.bs (el3 x.b.bs k).2.1=0)→∀i,i<k+1→BalFit x.b (el3 x.b.bs i)∧sumI x.b.bs (el3 x.b.bs i).2.1=0 from fun hr i hi=>by
    by_cases e:i=k
    ·subst e;exact hr
    ·exact(zu HG) i (by omega))
   have FIT:=zh (show BalFit x.b (el3 x.b.bs k)↔kindOf x.b.ac (el3 x.b.bs k).1≠0∧kindOf x.b.ic (el3 x.b.bs k).2.1≠0∧¬(kindOf x.b.ac (el3 x.b.bs k).1=1∧(el3 x.b.bs k).2.2<0) from Iff.rfl)
   have wz:=hS.s
   have S1:=zh (hS.step (one_more wr (.cells #[.int .i64 (el3 x.b.bs k).1,.int .i64 (el3 x.b.bs k).2.1,.int .i64 (el3 x.b.bs k).2.2] 78)))
   clear hS
   generalize BalFit x.b (el3 x.b.bs k)=FP at *
   generalize (el3 x.b.bs k).1=y0 at *
   generalize (el3 x.b.bs k).2.1=y1 at *
   generalize (el3 x.b.bs k).2.2=y2 at *
   generalize hK:kindOf x.b.ac y0=K at *
   generalize hJ:kindOf x.b.ic y1=J at *
   have HK:=zh hK
   have HJ:=zh hJ
   clear hK hJ
   go_wp2_with fail
   refine(sKindA _ x y0 K (zu S1).r (zu L).1 (zu HK)).mono ?_
   rintro e w1 ⟨rfl,bb⟩
   have S2:=zh ((zu S1).step bb)
   have f0:w1.cell? ⟨wr.heap.size,0,none⟩=some (.int .i64 y0):=(bb.cell (p:=⟨wr.heap.size,0,none⟩) (by simp)).trans (by simp)
   have f1:w1.cell? ⟨wr.heap.size,1,none⟩=some (.int .i64 y1):=(bb.cell (p:=⟨wr.heap.size,1,none⟩) (by simp)).trans (by simp)
   have f2:w1.cell? ⟨wr.heap.size,2,none⟩=some (.int .i64 y2):=(bb.cell (p:=⟨wr.heap.size,2,none⟩) (by simp)).trans (by simp)
   have z1:wr.heap.size<w1.heap.size:=by have:=bb.size;simp at this;omega
   clear bb c0 c1 c2 c3 c4 c5 d0 d1 d2
   obtain⟨c0,c1,c2,c3,c4,c5⟩:=(zu S2).c
   by_cases q0:K=0
   ·have F:=zh ((zu BAD) (fun hh=>((zu FIT).1 hh.1).1 q0))
    have hq:(K==0)=true:=by simp[q0]
    clear BAD GOOD FIT T q0
    go_wp2
    go_ret
    exact⟨by rw[zu F];rfl,(zu S2).b⟩
   have hq0:(K==0)=false:=by simp[q0]
   have Q0:=zh q0
   clear q0
   go_wp2_with fail
   refine(sKindI _ x y1 J (zu S2).r (zu L).2.1 (zu HJ)).mono ?_
   rintro e w2 ⟨rfl,bb⟩
   have S3:=zh ((zu S2).step bb)
   replace f0:w2.cell? ⟨wr.heap.size,0,none⟩=some (.int .i64 y0):=(bb.cell (p:=⟨wr.heap.size,0,none⟩) z1).trans f0
   replace f1:w2.cell? ⟨wr.heap.size,1,none⟩=some (.int .i64 y1):=(bb.cell (p:=⟨wr.heap.size,1,none⟩) z1).trans f1
   replace f2:w2.cell? ⟨wr.heap.size,2,none⟩=some (.int .i64 y2):=(bb.cell (p:=⟨wr.heap.size,2,none⟩) z1).trans f2
   have z2:wr.heap.size<w2.heap.size:=Nat.lt_of_lt_of_le z1 bb.size
   clear bb c0 c1 c2 c3 c4 c5
   obtain⟨c0,c1,c2,c3,c4,c5⟩:=(zu S3).c
   rw[zu EB] at c2
   by_cases q1:J=0
   ·have F:=zh ((zu BAD) (fun hh=>((zu FIT).1 hh.1).2.1 q1))
    have hq:(J==0)=true:=by simp[q1]
    clear BAD GOOD FIT T q1
    go_wp2
    go_ret
    exact⟨by rw[zu F];rfl,(zu S3).b⟩
   have hq1:(J==0)=false:=by simp[q1]
   have Q1:=zh q1
   clear q1
   by_cases q2:K=1
   ·have hq2:(K==1)=true:=by simp[q2]
    by_cases q3:y2<0
    ·have F:=zh ((zu BAD) (fun hh=>((zu FIT).1 hh.1).2.2 ⟨q2,q3⟩))
     clear BAD GOOD FIT T q2
     go_wp2
     go_ret
     exact⟨by rw[zu F];rfl,(zu S3).b⟩
    have FP':=zh ((zu FIT).2 ⟨zu Q0,zu Q1,fun r=>q3 r.2⟩)
    have hq3:decide (y2<0)=false:=decide_eq_false q3
    clear q2 q3 FIT
    obtain⟨r,c,hs⟩:=Look.sum_is x.b.bs y1
    have Z:=zh (sum_zero (zu L).2.2.1 hs)
    have HS:=zh hs
    clear hs
    go_wp2_with fail
    refine(Look.sSum _ gb _ x.cb x.b.bs y1 r c rfl nb ((zu S3).r.rb gb (zu EB)).1 ((zu S3).r.rb gb (zu EB)).2 (zu HS)).mono ?_
    rintro e w3 ⟨rfl,bb⟩
    have S4:=zh ((zu S3).step bb)
    clear bb c0 c1 c2 c3 c4 c5 f0 f1 f2
    cases c
    ·have F:=zh ((zu BAD) (fun e=>by have:=(zu Z).2 e.2;cases this.1))
     clear BAD GOOD T
     go_wp2
     go_ret
     exact⟨by rw[zu F];rfl,(zu S4).b⟩
    by_cases q:r=0
    ·have G:=zh ((zu GOOD) ⟨zu FP',(zu Z).1 ⟨rfl,q⟩⟩)
     have hq:(r !=0)=false:=by simp[q]
     clear BAD GOOD q
     go_wp2
     go_roundw
     case rel=>exact⟨k+1,by omega,by go_num,zu S4,G⟩
     case measure=>simp[intOf];omega
    ·have F:=zh ((zu BAD) (fun e=>q ((zu Z).2 e.2).2))
     have hq:(r !=0)=true:=by simp[q]
     clear BAD GOOD T q
     go_wp2
     go_ret
     exact⟨by rw[zu F];rfl,(zu S4).b⟩
   ·have hq2:(K==1)=false:=by simp[q2]
    have FP':=zh ((zu FIT).2 ⟨zu Q0,zu Q1,fun r=>q2 r.1⟩)
    clear q2 FIT
    obtain⟨r,c,hs⟩:=Look.sum_is x.b.bs y1
    have Z:=zh (sum_zero (zu L).2.2.1 hs)
    have HS:=zh hs
    clear hs
    go_wp2_with fail
    refine(Look.sSum _ gb _ x.cb x.b.bs y1 r c rfl nb ((zu S3).r.rb gb (zu EB)).1 ((zu S3).r.rb gb (zu EB)).2 (zu HS)).mono ?_
    rintro e w3 ⟨rfl,bb⟩
    have S4:=zh ((zu S3).step bb)
    clear bb c0 c1 c2 c3 c4 c5 f0 f1 f2
    cases c
    ·have F:=zh ((zu BAD) (fun e=>by have:=(zu Z).2 e.2;cases this.1))
     clear BAD GOOD T
     go_wp2
     go_ret
     exact⟨by rw[zu F];rfl,(zu S4).b⟩
    by_cases q:r=0
    ·have G:=zh ((zu GOOD) ⟨zu FP',(zu Z).1 ⟨rfl,q⟩⟩)
     have hq:(r !=0)=false:=by simp[q]
     clear BAD GOOD q
     go_wp2
     go_roundw
     case rel=>exact⟨k+1,by omega,by go_num,zu S4,G⟩
     case measure=>simp[intOf];omega
    ·have F:=zh ((zu BAD) (fun e=>q ((zu Z).2 e.2).2))
     have hq:(r !=0)=true:=by simp[q]
     clear BAD GOOD T q
     go_wp2
     go_ret
     exact⟨by rw[zu F];rfl,(zu S4).b⟩
  ·have F:=zh ((zu T).of (bals_spec (fun j hj=>(zu HG) j (by omega))))
   obtain⟨c0,c1,c2,c3,c4,c5⟩:=hS.c
   have S1:=zh hS
   clear hS
   go_wp2
   go_ret
   exact⟨by rw[zu F];rfl,(zu S1).b⟩
end SBalsV13
namespace SLotsV13
open BMem Bks BHelp BMemV13
open IBalsFit (one_more)
open Lots (Says says_of NoOk ownL restL)
open Bals (T3 el3 val sumI)
open Tup5 (T5 el5)
open Takes (sumQ)
theorem below_of_drew{w w':World}(h:Below w.drew.heap.size w.drew w'):Below w.heap.size w w':=⟨h.os,h.tape,h.output,h.size,h.block⟩
theorem rd_drew{w:World}{x:Ix}(h:RdV w x):RdV w.drew x:=⟨h.ea,h.ra,h.na,h.ei,h.ri,h.ni,h.eb,h.rb,h.nb,h.el,h.rl,h.nl,h.et,h.rt,h.nt⟩
def Even(b:Bk)(j k:Nat):Prop:=(Chart.el b.ac j).2=1→(Chart.el b.ic k).2=2→sumQ (ownL b.ls (Chart.el b.ac j).1 (Chart.el b.ic k).1)=val b.bs (Chart.el b.ac j).1 (Chart.el b.ic k).1
theorem sLots(w:World)(x:Ix)(b:Bool)(h:RdV w x)(hl:Lists x.b)(hb:Says b (LotsFit x.b)):
  Calls Tryz.prog 72 #[.agg #[.slice x.aa x.b.ac.length x.ca,.slice x.ai x.b.ic.length x.ci,.slice x.ab x.b.bs.length x.cb,.slice x.al x.b.ls.length x.cl,.slice x.ats x.b.ts.length x.ct,.int .i64 x.b.lot]] w fun e w'=>e= .returned (.bool b)∧Below w.heap.size w w':=by
 have T:=zh hb
 have L:=zh hl
 have S0:=zh (StV.start h 32)
 have nl:=h.nl
 have na:=h.na
 have ni:=h.ni
 have nb:=h.nb
 have n120:x.b.ls.length≤120:=hl.2.2.2.1.1
 clear hb hl h
 go_enter Tryz.func72,Tryz.ntmps72
 go_wp2
 go_loopw [3] (fun i wr=>∃(k:Nat),k≤x.b.ls.length∧i= .int .i64 k∧StV w wr x∧Hid (∀j,j<k→LotFit x.b (el5 x.b.ls j))) (fun i _=>x.b.ls.length-(intOf i).toNat)
 case atStart=>exact⟨0,by omega,rfl,zu S0,zh (fun i hi=>absurd hi (by omega))⟩
 case round=>
  obtain⟨k,hk,rfl,hS,HG⟩:=hrel
  clear S0
  by_cases t:k<x.b.ls.length
  ·obtain⟨gL,eL⟩:=hS.r.el (by omega)
   obtain⟨d0,d1,d2,d3,d4⟩:=(hS.r.rl gL eL).2 k t
   obtain⟨c0,c1,c2,c3,c4,c5⟩:=hS.c
   rw[eL] at c3
   clear eL
   have BAD:=zh (show ¬LotFit x.b (el5 x.b.ls k)→b=false from fun hr=>(zu T).not (fun r=>hr (r.1 k t)))
   have GOOD:=zh (show LotFit x.b (el5 x.b.ls k)→∀i,i<k+1→LotFit x.b (el5 x.b.ls i) from fun hr i hi=>by
    by_cases e:i=k
    ·subst e;exact hr
    ·exact(zu HG) i (by omega))
   have FIT:=zh (show LotFit x.b (el5 x.b.ls k)↔kindOf x.b.ac (el5 x.b.ls k).1=1∧kindOf x.b.ic (el5 x.b.ls k).2.1=2∧(el5 x.b.ls k).2.2.1≤x.b.lot from Iff.rfl)
   have wz:=hS.s
   have S1:=zh (hS.step (one_more wr (.cells #[.int .i64 (el5 x.b.ls k).1,.int .i64 (el5 x.b.ls k).2.1,.int .i64 (el5 x.b.ls k).2.2.1,.int .i64 (el5 x.b.ls k).2.2.2.1,.int .i64 (el5 x.b.ls k).2.2.2.2] 80)))
   clear hS
   generalize LotFit x.b (el5 x.b.ls k)=FP at *
   generalize (el5 x.b.ls k).1=y0 at *
   generalize (el5 x.b.ls k).2.1=y1 at *
   generalize (el5 x.b.ls k).2.2.1=y2 at *
   generalize (el5 x.b.ls k).2.2.2.1=y3 at *
   generalize (el5 x.b.ls k).2.2.2.2=y4 at *
   generalize hK:kindOf x.b.ac y0=K at *
   generalize hJ:kindOf x.b.ic y1=J at *
   have HK:=zh hK
   have HJ:=zh hJ
   clear hK hJ
   go_wp2_with fail
   refine(sKindA _ x y0 K (zu S1).r (zu L).1 (zu HK)).mono ?_
   rintro e w1 ⟨rfl,bb⟩
   have S2:=zh ((zu S1).step bb)
   have f1:w1.cell? ⟨wr.heap.size,1,none⟩=some (.int .i64 y1):=(bb.cell (p:=⟨wr.heap.size,1,none⟩) (by simp)).trans (by simp)
   have f2:w1.cell? ⟨wr.heap.size,2,none⟩=some (.int .i64 y2):=(bb.cell (p:=⟨wr.heap.size,2,none⟩) (by simp)).trans (by simp)
   have z1:wr.heap.size<w1.heap.size:=by have:=bb.size;simp at this;omega
   clear bb c0 c1 c2 c3 c4 c5 d0 d1 d2 d3 d4
   obtain⟨c0,c1,c2,c3,c4,c5⟩:=(zu S2).c
   by_cases q0:K=1
   ·have hq0:(K !=1)=false:=by simp[q0]
    have Q0:=zh q0
    clear q0
    go_wp2_with fail
    refine(sKindI _ x y1 J (zu S2).r (zu L).2.1 (zu HJ)).mono ?_
    rintro e w2 ⟨rfl,bb⟩
    have S3:=zh ((zu S2).step bb)
    replace f2:w2.cell? ⟨wr.heap.size,2,none⟩=some (.int .i64 y2):=(bb.cell (p:=⟨wr.heap.size,2,none⟩) z1).trans f2
    clear bb c0 c1 c2 c3 c4 c5
    obtain⟨c0,c1,c2,c3,c4,c5⟩:=(zu S3).c
    by_cases q1:J=2
    ·have hq1:(J !=2)=false:=by simp[q1]
     by_cases q2:y2>x.b.lot
     ·have F:=zh ((zu BAD) (fun hh=>by have:=((zu FIT).1 hh).2.2;omega))
      clear BAD GOOD FIT T q1
      go_wp2
      go_ret
      exact⟨by rw[zu F];rfl,(zu S3).b⟩
     ·have G:=zh ((zu GOOD) ((zu FIT).2 ⟨zu Q0,q1,by omega⟩))
      have hq2:decide (y2>x.b.lot)=false:=decide_eq_false q2
      clear BAD GOOD FIT q1 q2
      go_wp2
      go_roundw
      case rel=>exact⟨k+1,by omega,by go_num,zu S3,G⟩
      case measure=>simp[intOf];omega
    ·have F:=zh ((zu BAD) (fun hh=>q1 ((zu FIT).1 hh).2.1))
     have hq1:(J !=2)=true:=by simp[q1]
     clear BAD GOOD FIT T q1
     go_wp2
     go_ret
     exact⟨by rw[zu F];rfl,(zu S3).b⟩
   ·have F:=zh ((zu BAD) (fun hh=>q0 ((zu FIT).1 hh).1))
    have hq:(K !=1)=true:=by simp[q0]
    clear BAD GOOD FIT T q0
    go_wp2
    go_ret
    exact⟨by rw[zu F];rfl,(zu S2).b⟩
  ·have ALL:=zh (show ∀j,j<x.b.ls.length→LotFit x.b (el5 x.b.ls j) from fun j hj=>(zu HG) j (by omega))
   have IFF:=zh (lots_spec (zu L).1 (zu L).2.1 (zu ALL))
   obtain⟨c0,c1,c2,c3,c4,c5⟩:=hS.c
   have S1:=zh hS
   clear hS HG
   go_wp2
   go_loopw [5] (fun i wr=>∃(j:Nat),j≤x.b.ac.length∧i= .int .i64 j∧StV w wr x∧Hid (∀j',j'<j→∀k,k<x.b.ic.length→Even x.b j' k)) (fun i _=>x.b.ac.length-(intOf i).toNat)
   case atStart=>exact⟨0,by omega,rfl,zu S1,zh (fun i hi=>absurd hi (by omega))⟩
   case round=>
    clear c0 c1 c2 c3 c4 c5 S1 hk t
    obtain⟨j,hj,rfl,hS,HG⟩:=hrel
    obtain⟨c0,c1,c2,c3,c4,c5⟩:=hS.c
    have S1:=zh hS
    clear hS
    by_cases t:j<x.b.ac.length
    ·go_wp2
     go_loopw [6] (fun i wr=>∃(k:Nat),k≤x.b.ic.length∧i= .int .i64 k∧StV w wr x∧Hid (∀k',k'<k→Even x.b j k')) (fun i _=>x.b.ic.length-(intOf i).toNat)
     case atStart=>exact⟨0,by omega,rfl,zu S1,zh (fun i hi=>absurd hi (by omega))⟩
     case round=>
      clear c0 c1 c2 c3 c4 c5 S1
      obtain⟨k,hk,rfl,hS,HK⟩:=hrel
      obtain⟨c0,c1,c2,c3,c4,c5⟩:=hS.c
      by_cases u:k<x.b.ic.length
      ·obtain⟨gA,eA⟩:=hS.r.ea (by omega)
       obtain⟨gI,eI⟩:=hS.r.ei (by omega)
       obtain⟨a0,a1⟩:=(hS.r.ra gA eA).2 j t
       obtain⟨i0,i1⟩:=(hS.r.ri gI eI).2 k u
       rw[eA] at c0
       rw[eI] at c1
       have EA:=zh eA
       have EI:=zh eI
       clear eA eI
       have S2:=zh hS
       have wz:=hS.s
       clear hS
       have BAD:=zh (show ¬Even x.b j k→b=false from fun hr=>(zu T).not (fun r=>hr (((zu IFF).1 r) j t k u)))
       have GOOD:=zh (show Even x.b j k→∀i,i<k+1→Even x.b j i from fun hr i hi=>by
        by_cases e:i=k
        ·subst e;exact hr
        ·exact(zu HK) i (by omega))
       have DEF:=zh (show Even x.b j k↔((Chart.el x.b.ac j).2=1→(Chart.el x.b.ic k).2=2→sumQ (ownL x.b.ls (Chart.el x.b.ac j).1 (Chart.el x.b.ic k).1)=val x.b.bs (Chart.el x.b.ac j).1 (Chart.el x.b.ic k).1) from Iff.rfl)
       generalize Even x.b j k=EP at *
       generalize (Chart.el x.b.ac j).1=y0 at *
       generalize (Chart.el x.b.ac j).2=y1 at *
       generalize (Chart.el x.b.ic k).1=z0 at *
       generalize (Chart.el x.b.ic k).2=z1 at *
       by_cases q0:y1=1
       ·by_cases q1:z1=2
        ·have DEF2:=zh (show EP↔sumQ (ownL x.b.ls y0 z0)=val x.b.bs y0 z0 from(zu DEF).trans ⟨fun hh=>hh q0 q1,fun hh _ _=>hh⟩)
         have hq0:(y1==1)=true:=by simp[q0]
         have hq1:(z1==2)=true:=by simp[q1]
         have kj:(0:Int)≤(j:Int):=by omega
         have kj2:(j:Int)<(x.b.ac.length:Int):=by omega
         have kk:(0:Int)≤(k:Int):=by omega
         have kk2:(k:Int)<(x.b.ic.length:Int):=by omega
         clear DEF q0 q1
         go_wp2_with fail
         have ga:=((zu S2).r.ra gA (zu EA)).1
         have gi:=((zu S2).r.ri gI (zu EI)).1
         go_region_held3 (fun w'=>w'.cell? ⟨w.heap.size,0,none⟩=some (.slice (some ⟨gA,0,none⟩) x.b.ac.length x.ca)∧w'.cell? ⟨w.heap.size,1,none⟩=some (.slice (some ⟨gI,0,none⟩) x.b.ic.length x.ci)∧w'.cell? ⟨w.heap.size,2,none⟩=some (.slice x.ab x.b.bs.length x.cb)∧w'.cell? ⟨w.heap.size,3,none⟩=some (.slice x.al x.b.ls.length x.cl)∧w'.cell? ⟨gA,j*2,none⟩=some (.int .i64 y0)∧w'.cell? ⟨gI,k*2,none⟩=some (.int .i64 z0)) (go_keep)
          (first|(go_at_call 94;refine(sSplitV wr.drew x y0 z0 (rd_drew (zu S2).r) (by omega)).mono ?_;rintro e w3 ⟨g1,k1,g2,n2,k2,rfl,o1,bb⟩;have bW:Below wr.heap.size wr w3:=below_of_drew bb;have pc0:w3.cell? ⟨w.heap.size,0,none⟩=some (.slice (some ⟨gA,0,none⟩) x.b.ac.length x.ca):=(bW.cell (p:=⟨w.heap.size,0,none⟩) wz).trans c0;have pc1:w3.cell? ⟨w.heap.size,1,none⟩=some (.slice (some ⟨gI,0,none⟩) x.b.ic.length x.ci):=(bW.cell (p:=⟨w.heap.size,1,none⟩) wz).trans c1;have pc2:w3.cell? ⟨w.heap.size,2,none⟩=some (.slice x.ab x.b.bs.length x.cb):=(bW.cell (p:=⟨w.heap.size,2,none⟩) wz).trans c2;have pc3:w3.cell? ⟨w.heap.size,3,none⟩=some (.slice x.al x.b.ls.length x.cl):=(bW.cell (p:=⟨w.heap.size,3,none⟩) wz).trans c3;have pa0:w3.cell? ⟨gA,j*2,none⟩=some (.int .i64 y0):=(bW.cell (p:=⟨gA,j*2,none⟩) ga).trans a0;have pi0:w3.cell? ⟨gI,k*2,none⟩=some (.int .i64 z0):=(bW.cell (p:=⟨gI,k*2,none⟩) gi).trans i0))
         have S3:=zh ((zu S2).step bW)
         have O1:=zh o1
         have l1:=o1.lt.2
         clear c0 c1 c2 c3 c4 c5 a0 a1 i0 i1 bb bW o1
         obtain⟨ps1,ps2,ps3⟩:=Takes.own_pos (zu L).2.2.2.1 y0 z0
         have P1:=zh ps1
         have n1:(ownL x.b.ls y0 z0).length≤1048576:=Nat.le_trans (List.length_filter_le _ _) nl
         have w3z:=(zu S3).s
         have ga3:=((zu S3).r.ra gA (zu EA)).1
         have gi3:=((zu S3).r.ri gI (zu EI)).1
         clear ps1 ps3
         generalize hQ:sumQ (ownL x.b.ls y0 z0)=QV at *
         generalize hV:val x.b.bs y0 z0=VV at *
         have HQ:=zh hQ
         have HV:=zh hV
         clear hQ hV
         go_wp2_with fail
         go_region_held3 (fun w'=>w'.cell? ⟨w.heap.size,0,none⟩=some (.slice (some ⟨gA,0,none⟩) x.b.ac.length x.ca)∧w'.cell? ⟨w.heap.size,1,none⟩=some (.slice (some ⟨gI,0,none⟩) x.b.ic.length x.ci)∧w'.cell? ⟨w.heap.size,2,none⟩=some (.slice x.ab x.b.bs.length x.cb)∧w'.cell? ⟨w.heap.size,3,none⟩=some (.slice x.al x.b.ls.length x.cl)∧w'.cell? ⟨gA,j*2,none⟩=some (.int .i64 y0)∧w'.cell? ⟨gI,k*2,none⟩=some (.int .i64 z0)) (go_keep)
          (first|(go_at_call 95;refine(SSplit.sQty w3.drew g1 _ k1 (ownL x.b.ls y0 z0) rfl n1 (zu O1).at (zu P1) (by rw[zu HQ];exact ps2)).mono ?_;rintro e w4 ⟨he,bb⟩;rw[zu HQ] at he;subst he;have bW:Below w3.heap.size w3 w4:=below_of_drew bb;have qc0:w4.cell? ⟨w.heap.size,0,none⟩=some (.slice (some ⟨gA,0,none⟩) x.b.ac.length x.ca):=(bW.cell (p:=⟨w.heap.size,0,none⟩) w3z).trans pc0;have qc1:w4.cell? ⟨w.heap.size,1,none⟩=some (.slice (some ⟨gI,0,none⟩) x.b.ic.length x.ci):=(bW.cell (p:=⟨w.heap.size,1,none⟩) w3z).trans pc1;have qc2:w4.cell? ⟨w.heap.size,2,none⟩=some (.slice x.ab x.b.bs.length x.cb):=(bW.cell (p:=⟨w.heap.size,2,none⟩) w3z).trans pc2;have qc3:w4.cell? ⟨w.heap.size,3,none⟩=some (.slice x.al x.b.ls.length x.cl):=(bW.cell (p:=⟨w.heap.size,3,none⟩) w3z).trans pc3;have qa0:w4.cell? ⟨gA,j*2,none⟩=some (.int .i64 y0):=(bW.cell (p:=⟨gA,j*2,none⟩) ga3).trans pa0;have qi0:w4.cell? ⟨gI,k*2,none⟩=some (.int .i64 z0):=(bW.cell (p:=⟨gI,k*2,none⟩) gi3).trans pi0)|(go_at_call 96;refine(sOfV w4 x y0 z0 ((zu S3).r.below bW)).mono ?_;rintro e w5 ⟨he,rfl⟩;rw[zu HV] at he;subst he))
         have S4:=zh ((zu S3).step bW)
         clear bb bW qc0 qc1 qc2 qc3 qa0 qi0 pc0 pc1 pc2 pc3 pa0 pi0
         by_cases q2:QV=VV
         ·have G:=zh ((zu GOOD) ((zu DEF2).2 q2))
          have hq2:(QV !=VV)=false:=by simp[q2]
          clear BAD GOOD DEF2 q2
          go_wp2
          go_roundw
          case rel=>exact⟨k+1,by omega,by go_num,zu S4,G⟩
          case measure=>simp[intOf];omega
         ·have F:=zh ((zu BAD) (fun hh=>q2 ((zu DEF2).1 hh)))
          have hq2:(QV !=VV)=true:=by simp[q2]
          clear BAD GOOD DEF2 T q2
          go_wp2
          go_ret
          exact⟨by rw[zu F];rfl,(zu S4).b⟩
        ·have G:=zh ((zu GOOD) ((zu DEF).2 (fun _ e=>absurd e q1)))
         have hq0:(y1==1)=true:=by simp[q0]
         have hq1:(z1==2)=false:=by simp[q1]
         clear BAD GOOD DEF q0 q1
         go_wp2
         go_roundw
         case rel=>exact⟨k+1,by omega,by go_num,zu S2,G⟩
         case measure=>simp[intOf];omega
       ·have G:=zh ((zu GOOD) ((zu DEF).2 (fun e _=>absurd e q0)))
        have hq0:(y1==1)=false:=by simp[q0]
        clear BAD GOOD DEF q0
        go_wp2
        go_roundw
        case rel=>exact⟨k+1,by omega,by go_num,zu S2,G⟩
        case measure=>simp[intOf];omega
      ·have G:=zh (show ∀j',j'<j+1→∀k,k<x.b.ic.length→Even x.b j' k from fun j' hj' k' hk'=>by
        by_cases e:j'=j
        ·subst e;exact(zu HK) k' (by omega)
        ·exact(zu HG) j' (by omega) k' hk')
       have S2:=zh hS
       clear hS
       go_wp2
       go_roundw
       case rel=>exact⟨j+1,by omega,by go_num,zu S2,G⟩
       case measure=>simp[intOf];omega
    ·have F:=zh ((zu T).of ((zu IFF).2 (fun j' hj' k hk=>(zu HG) j' (by omega) k hk)))
     go_wp2
     go_ret
     exact⟨by rw[zu F];rfl,(zu S1).b⟩
end SLotsV13
namespace SBooksOkV13
open BMem Bks BHelp BMemV13 SBalsV13 SLotsV13
open IBalsFit (one_more)
open Lots (Says says_of NoOk)
open Tup8 (T8 el8)
theorem sBooksOkV(w:World)(x:Ix)(b:Bool)(h:RdV w x)(hb:Says b (Ok x.b)):
  Calls Tryz.prog 36 #[.agg #[.slice x.aa x.b.ac.length x.ca,.slice x.ai x.b.ic.length x.ci,.slice x.ab x.b.bs.length x.cb,.slice x.al x.b.ls.length x.cl,.slice x.ats x.b.ts.length x.ct,.int .i64 x.b.lot]] w fun e w'=>e= .returned (.bool b)∧Below w.heap.size w w':=by
 have T:=zh hb
 have S0:=zh (StV.start h 32)
 have nb:=h.nb
 have nl:=h.nl
 have nt:=h.nt
 obtain⟨b0,h0⟩:=Chart.says_of 20 4 x.b.ac
 obtain⟨b1,h1⟩:=Chart.says_of 8 2 x.b.ic
 obtain⟨b2,h2⟩:=Bals.says_of (Bals.Right x.b.bs)
 obtain⟨b3,h3⟩:=says_of (Lots.Right x.b.ls)
 obtain⟨b4,h4⟩:=says_of (TRight x.b.ts)
 obtain⟨b5,h5⟩:=says_of (0≤x.b.lot∧x.b.lot≤1000000000)
 obtain⟨b6,h6⟩:=says_of (BalsFit x.b)
 obtain⟨b7,h7⟩:=says_of (LotsFit x.b)
 have H0:=zh h0
 have H1:=zh h1
 have H2:=zh h2
 have H3:=zh h3
 have H4:=zh h4
 have H5:=zh h5
 have H6:=zh h6
 have H7:=zh h7
 clear hb h h0 h1 h2 h3 h4 h5 h6 h7
 go_enter Tryz.func36,Tryz.ntmps36
 go_wp2_with fail
 refine(sOksA _ x b0 (zu S0).r (zu H0)).mono ?_
 rintro e w1 ⟨rfl,bb⟩
 have S1:=zh ((zu S0).step bb)
 clear bb
 obtain⟨c0,c1,c2,c3,c4,c5⟩:=(zu S1).c
 cases b0
 ·have F:=zh ((zu T).not (fun hh=>(zu H0).no hh.1.1))
  clear T
  go_wp2
  go_ret
  exact⟨by rw[zu F];rfl,(zu S1).b⟩
 go_wp2_with fail
 refine(sOksI _ x b1 (zu S1).r (zu H1)).mono ?_
 rintro e w2 ⟨rfl,bb⟩
 have S2:=zh ((zu S1).step bb)
 clear bb
 clear c0 c1 c2 c3 c4 c5
 obtain⟨c0,c1,c2,c3,c4,c5⟩:=(zu S2).c
 cases b1
 ·have F:=zh ((zu T).not (fun hh=>(zu H1).no hh.1.2.1))
  clear T
  go_wp2
  go_ret
  exact⟨by rw[zu F];rfl,(zu S2).b⟩
 go_wp2_with fail
 refine(sOksB _ x b2 (zu S2).r (zu H2)).mono ?_
 rintro e w3 ⟨rfl,bb⟩
 have S3:=zh ((zu S2).step bb)
 clear bb
 clear c0 c1 c2 c3 c4 c5
 obtain⟨c0,c1,c2,c3,c4,c5⟩:=(zu S3).c
 cases b2
 ·have F:=zh ((zu T).not (fun hh=>(zu H2).no hh.1.2.2.1))
  clear T
  go_wp2
  go_ret
  exact⟨by rw[zu F];rfl,(zu S3).b⟩
 go_wp2_with fail
 refine(sOksL _ x b3 (zu S3).r (zu H3)).mono ?_
 rintro e w4 ⟨rfl,bb⟩
 have S4:=zh ((zu S3).step bb)
 clear bb
 clear c0 c1 c2 c3 c4 c5
 obtain⟨c0,c1,c2,c3,c4,c5⟩:=(zu S4).c
 cases b3
 ·have F:=zh ((zu T).not (fun hh=>(zu H3).no hh.1.2.2.2.1))
  clear T
  go_wp2
  go_ret
  exact⟨by rw[zu F];rfl,(zu S4).b⟩
 go_wp2_with fail
 refine(sOksT _ x b4 (zu S4).r (zu H4)).mono ?_
 rintro e w5 ⟨rfl,bb⟩
 have S5:=zh ((zu S4).step bb)
 clear bb
 clear c0 c1 c2 c3 c4 c5
 obtain⟨c0,c1,c2,c3,c4,c5⟩:=(zu S5).c
 cases b4
 ·have F:=zh ((zu T).not (fun hh=>(zu H4).no hh.1.2.2.2.2.1))
  clear T
  go_wp2
  go_ret
  exact⟨by rw[zu F];rfl,(zu S5).b⟩
 go_wp2_with fail
 refine(SOk5.sIn x.b.lot 0 1000000000 b5 _ (zu H5)).mono ?_
 rintro e w6 ⟨rfl,rfl⟩
 have S6:=S5
 cases b5
 ·have F:=zh ((zu T).not (fun hh=>(zu H5).no hh.1.2.2.2.2.2))
  clear T
  go_wp2
  go_ret
  exact⟨by rw[zu F];rfl,(zu S6).b⟩
 have L:=zh (show Lists x.b from⟨(zu H0).yes,(zu H1).yes,(zu H2).yes,(zu H3).yes,(zu H4).yes,(zu H5).yes⟩)
 go_wp2_with fail
 refine(sBals _ x b6 (zu S6).r (zu L) (zu H6)).mono ?_
 rintro e w7 ⟨rfl,bb⟩
 have S7:=zh ((zu S6).step bb)
 clear bb
 clear c0 c1 c2 c3 c4 c5
 obtain⟨c0,c1,c2,c3,c4,c5⟩:=(zu S7).c
 cases b6
 ·have F:=zh ((zu T).not (fun hh=>(zu H6).no hh.2.1))
  clear T
  go_wp2
  go_ret
  exact⟨by rw[zu F];rfl,(zu S7).b⟩
 go_wp2_with fail
 refine(sLots _ x b7 (zu S7).r (zu L) (zu H7)).mono ?_
 rintro e w8 ⟨rfl,bb⟩
 have S8:=zh ((zu S7).step bb)
 clear bb
 clear c0 c1 c2 c3 c4 c5
 obtain⟨c0,c1,c2,c3,c4,c5⟩:=(zu S8).c
 cases b7
 ·have F:=zh ((zu T).not (fun hh=>(zu H7).no hh.2.2.1))
  clear T
  go_wp2
  go_ret
  exact⟨by rw[zu F];rfl,(zu S8).b⟩
 go_wp2
 go_loopw [3] (fun i wr=>∃(k:Nat),k≤x.b.ts.length∧i= .int .i64 k∧StV w wr x∧Hid (∀j,j<k→TradeFit x.b (el8 x.b.ts j))) (fun i _=>x.b.ts.length-(intOf i).toNat)
 case atStart=>exact⟨0,by omega,rfl,zu S8,zh (fun i hi=>absurd hi (by omega))⟩
 case round=>
  obtain⟨k,hk,rfl,hS,HG⟩:=hrel
  clear S0 S1 S2 S3 S4 S5 S6 S7 S8 c0 c1 c2 c3 c4 c5
  obtain⟨c0,c1,c2,c3,c4,c5⟩:=hS.c
  by_cases t:k<x.b.ts.length
  ·obtain⟨gT,eT⟩:=hS.r.et (by omega)
   obtain⟨d0,d1,d2,d3,d4,d5,d6,d7⟩:=(hS.r.rt gT eT).2 k t
   rw[eT] at c4
   clear eT
   have BAD:=zh (show ¬TradeFit x.b (el8 x.b.ts k)→b=false from fun hr=>(zu T).not (fun r=>hr (r.2.2.2 k t)))
   have GOOD:=zh (show TradeFit x.b (el8 x.b.ts k)→∀i,i<k+1→TradeFit x.b (el8 x.b.ts i) from fun hr i hi=>by
    by_cases e:i=k
    ·subst e;exact hr
    ·exact(zu HG) i (by omega))
   have FIT:=zh (show TradeFit x.b (el8 x.b.ts k)↔kindOf x.b.ac (el8 x.b.ts k).2.1=1∧kindOf x.b.ac (el8 x.b.ts k).2.2.1=1∧kindOf x.b.ic (el8 x.b.ts k).2.2.2.1=2∧kindOf x.b.ic (el8 x.b.ts k).2.2.2.2.2.1=1 from Iff.rfl)
   have wz:=hS.s
   have S1:=zh (hS.step (one_more wr (.cells #[.int .i64 (el8 x.b.ts k).1,.int .i64 (el8 x.b.ts k).2.1,.int .i64 (el8 x.b.ts k).2.2.1,.int .i64 (el8 x.b.ts k).2.2.2.1,.int .i64 (el8 x.b.ts k).2.2.2.2.1,.int .i64 (el8 x.b.ts k).2.2.2.2.2.1,.int .i64 (el8 x.b.ts k).2.2.2.2.2.2.1,.int .i64 (el8 x.b.ts k).2.2.2.2.2.2.2] 82)))
   clear hS
   generalize TradeFit x.b (el8 x.b.ts k)=FP at *
   generalize (el8 x.b.ts k).1=y0 at *
   generalize (el8 x.b.ts k).2.1=y1 at *
   generalize (el8 x.b.ts k).2.2.1=y2 at *
   generalize (el8 x.b.ts k).2.2.2.1=y3 at *
   generalize (el8 x.b.ts k).2.2.2.2.1=y4 at *
   generalize (el8 x.b.ts k).2.2.2.2.2.1=y5 at *
   generalize (el8 x.b.ts k).2.2.2.2.2.2.1=y6 at *
   generalize (el8 x.b.ts k).2.2.2.2.2.2.2=y7 at *
   generalize hK1:kindOf x.b.ac y1=K1 at *
   generalize hK2:kindOf x.b.ac y2=K2 at *
   generalize hK3:kindOf x.b.ic y3=K3 at *
   generalize hK4:kindOf x.b.ic y5=K4 at *
   have N1:=zh hK1
   have N2:=zh hK2
   have N3:=zh hK3
   have N4:=zh hK4
   clear hK1 hK2 hK3 hK4
   go_wp2_with fail
   refine(sKindA _ x y1 K1 (zu S1).r (zu L).1 (zu N1)).mono ?_
   rintro e v1 ⟨rfl,bb⟩
   have S2:=zh ((zu S1).step bb)
   have f2:v1.cell? ⟨wr.heap.size,2,none⟩=some (.int .i64 y2):=(bb.cell (p:=⟨wr.heap.size,2,none⟩) (by simp)).trans (by simp)
   have f3:v1.cell? ⟨wr.heap.size,3,none⟩=some (.int .i64 y3):=(bb.cell (p:=⟨wr.heap.size,3,none⟩) (by simp)).trans (by simp)
   have f5:v1.cell? ⟨wr.heap.size,5,none⟩=some (.int .i64 y5):=(bb.cell (p:=⟨wr.heap.size,5,none⟩) (by simp)).trans (by simp)
   have z1:wr.heap.size<v1.heap.size:=by have:=bb.size;simp at this;omega
   clear d0 d1 d2 d3 d4 d5 d6 d7
   clear bb c0 c1 c2 c3 c4 c5
   obtain⟨c0,c1,c2,c3,c4,c5⟩:=(zu S2).c
   by_cases q1:K1=1
   rotate_left
   ·have F:=zh ((zu BAD) (fun hh=>q1 ((zu FIT).1 hh).1))
    have hq:(K1 !=1)=true:=by simp[q1]
    clear BAD GOOD FIT T q1
    go_wp2
    go_ret
    exact⟨by rw[zu F];rfl,(zu S2).b⟩
   have hq1:(K1 !=1)=false:=by simp[q1]
   have Q1:=zh q1
   clear q1
   go_wp2_with fail
   refine(sKindA _ x y2 K2 (zu S2).r (zu L).1 (zu N2)).mono ?_
   rintro e v2 ⟨rfl,bb⟩
   have S3:=zh ((zu S2).step bb)
   replace f2:v2.cell? ⟨wr.heap.size,2,none⟩=some (.int .i64 y2):=(bb.cell (p:=⟨wr.heap.size,2,none⟩) z1).trans f2
   replace f3:v2.cell? ⟨wr.heap.size,3,none⟩=some (.int .i64 y3):=(bb.cell (p:=⟨wr.heap.size,3,none⟩) z1).trans f3
   replace f5:v2.cell? ⟨wr.heap.size,5,none⟩=some (.int .i64 y5):=(bb.cell (p:=⟨wr.heap.size,5,none⟩) z1).trans f5
   have z2:wr.heap.size<v2.heap.size:=Nat.lt_of_lt_of_le z1 bb.size
   clear bb c0 c1 c2 c3 c4 c5
   obtain⟨c0,c1,c2,c3,c4,c5⟩:=(zu S3).c
   by_cases q2:K2=1
   rotate_left
   ·have F:=zh ((zu BAD) (fun hh=>q2 ((zu FIT).1 hh).2.1))
    have hq:(K2 !=1)=true:=by simp[q2]
    clear BAD GOOD FIT T q2
    go_wp2
    go_ret
    exact⟨by rw[zu F];rfl,(zu S3).b⟩
   have hq2:(K2 !=1)=false:=by simp[q2]
   have Q2:=zh q2
   clear q2
   go_wp2_with fail
   refine(sKindI _ x y3 K3 (zu S3).r (zu L).2.1 (zu N3)).mono ?_
   rintro e v3 ⟨rfl,bb⟩
   have S4:=zh ((zu S3).step bb)
   replace f2:v3.cell? ⟨wr.heap.size,2,none⟩=some (.int .i64 y2):=(bb.cell (p:=⟨wr.heap.size,2,none⟩) z2).trans f2
   replace f3:v3.cell? ⟨wr.heap.size,3,none⟩=some (.int .i64 y3):=(bb.cell (p:=⟨wr.heap.size,3,none⟩) z2).trans f3
   replace f5:v3.cell? ⟨wr.heap.size,5,none⟩=some (.int .i64 y5):=(bb.cell (p:=⟨wr.heap.size,5,none⟩) z2).trans f5
   have z3:wr.heap.size<v3.heap.size:=Nat.lt_of_lt_of_le z2 bb.size
   clear bb c0 c1 c2 c3 c4 c5
   obtain⟨c0,c1,c2,c3,c4,c5⟩:=(zu S4).c
   by_cases q3:K3=2
   rotate_left
   ·have F:=zh ((zu BAD) (fun hh=>q3 ((zu FIT).1 hh).2.2.1))
    have hq:(K3 !=2)=true:=by simp[q3]
    clear BAD GOOD FIT T q3
    go_wp2
    go_ret
    exact⟨by rw[zu F];rfl,(zu S4).b⟩
   have hq3:(K3 !=2)=false:=by simp[q3]
   have Q3:=zh q3
   clear q3
   go_wp2_with fail
   refine(sKindI _ x y5 K4 (zu S4).r (zu L).2.1 (zu N4)).mono ?_
   rintro e v4 ⟨rfl,bb⟩
   have S5:=zh ((zu S4).step bb)
   clear bb c0 c1 c2 c3 c4 c5
   obtain⟨c0,c1,c2,c3,c4,c5⟩:=(zu S5).c
   by_cases q4:K4=1
   rotate_left
   ·have F:=zh ((zu BAD) (fun hh=>q4 ((zu FIT).1 hh).2.2.2))
    have hq:(K4 !=1)=true:=by simp[q4]
    clear BAD GOOD FIT T q4
    go_wp2
    go_ret
    exact⟨by rw[zu F];rfl,(zu S5).b⟩
   have hq4:(K4 !=1)=false:=by simp[q4]
   have Q4:=zh q4
   clear q4
   have G:=zh ((zu GOOD) ((zu FIT).2 ⟨zu Q1,zu Q2,zu Q3,zu Q4⟩))
   clear BAD GOOD FIT
   go_wp2
   go_roundw
   case rel=>exact⟨k+1,by omega,by go_num,zu S5,G⟩
   case measure=>simp[intOf];omega
  ·have F:=zh ((zu T).of ⟨zu L,(zu H6).yes,(zu H7).yes,fun j hj=>(zu HG) j (by omega)⟩)
   have S1:=zh hS
   clear hS
   go_wp2
   go_ret
   exact⟨by rw[zu F];rfl,(zu S1).b⟩
end SBooksOkV13
end Go.Proofs.YtagmnociflkhcaaGreatDoor
