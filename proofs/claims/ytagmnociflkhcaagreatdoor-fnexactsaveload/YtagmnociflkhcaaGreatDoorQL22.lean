/- Texts of one proof, one behind the other: LawX16. -/
import Derived.Test.YtagmnociflkhcaaGreatDoorRows
import Derived.Test.YtagmnociflkhcaaGreatDoorCards
import Derived.Test.YtagmnociflkhcaaGreatDoorTie
import Derived.Test.YtagmnociflkhcaaGreatDoorQL0
import Derived.Test.YtagmnociflkhcaaGreatDoorQL17
import Derived.Test.YtagmnociflkhcaaGreatDoorQL21
set_option linter.unusedVariables false
set_option linter.unusedSimpArgs false
open Go.ChangeShapes Go.WideShapes Go.ChangeAt Go.RowKit
set_option maxRecDepth 100000
set_option maxHeartbeats 32000000
namespace Go.Proofs.YtagmnociflkhcaaGreatDoor
namespace LawX16
open Fil14 OpensF14 DiskH14 DkH14 SDk14 SOk14 SRd14 SCom14 Law14 BMem Bks BHelp BkEq BMemV13 VB13 LawR13
structure Kv(W:World)(g:Nat)(f:Int)(x:Ix):Prop where
 f:W.cell? ⟨g,0,none⟩=some (.int .i64 f)
 c0:W.cell? ⟨g,1,none⟩=some (.slice x.aa x.b.ac.length x.ca)
 c1:W.cell? ⟨g,2,none⟩=some (.slice x.ai x.b.ic.length x.ci)
 c2:W.cell? ⟨g,3,none⟩=some (.slice x.ab x.b.bs.length x.cb)
 c3:W.cell? ⟨g,4,none⟩=some (.slice x.al x.b.ls.length x.cl)
 c4:W.cell? ⟨g,5,none⟩=some (.slice x.ats x.b.ts.length x.ct)
 c5:W.cell? ⟨g,6,none⟩=some (.int .i64 x.b.lot)
 lt:g<W.heap.size
theorem Kv.made(W:World)(f:Int)(x:Ix)(e:TypeId):Kv (W.alloc (.cells #[.int .i64 f,.slice x.aa x.b.ac.length x.ca,.slice x.ai x.b.ic.length x.ci,.slice x.ab x.b.bs.length x.cb,.slice x.al x.b.ls.length x.cl,.slice x.ats x.b.ts.length x.ct,.int .i64 x.b.lot] e)) W.heap.size f x:=⟨by simp,by simp,by simp,by simp,by simp,by simp,by simp,by simp⟩
theorem Kv.of{W W':World}{g:Nat}{f:Int}{x:Ix}(h:Kv W g f x)(e:W'.heap[g]?=W.heap[g]?)(s:W.heap.size≤W'.heap.size):Kv W' g f x:=
 ⟨(World.cell?_of_block (w:=W) e).trans h.f,(World.cell?_of_block (w:=W) e).trans h.c0,(World.cell?_of_block (w:=W) e).trans h.c1,(World.cell?_of_block (w:=W) e).trans h.c2,(World.cell?_of_block (w:=W) e).trans h.c3,(World.cell?_of_block (w:=W) e).trans h.c4,(World.cell?_of_block (w:=W) e).trans h.c5,Nat.lt_of_lt_of_le h.lt s⟩
theorem Kv.step{W W':World}{g:Nat}{f:Int}{x:Ix}(h:Kv W g f x)(k:Below W.heap.size W W'):Kv W' g f x:=h.of (k.block g h.lt) k.size
theorem Kv.low{W W':World}{g B:Nat}{f:Int}{x:Ix}(h:Kv W g f x)(k:Below B W W')(hg:g<B):Kv W' g f x:=h.of (k.block g hg) k.size
theorem ownV_turnD{W W':World}{base:Nat}{x:Ix}{y:Dx}(h:OwV W base x)(k:TurnD y W W')(n:∀g,base≤g→some g≠(Value.slice y.a y.ps.length y.c).ownBlock):OwV W' base x:=
 have q:∀{e:TypeId} {m:Nat} {v:Value} {l:Nat} {vs:List Value},W.ownsRow base e m v l vs→W'.ownsRow base e m v l vs:=fun o=>by
  refine⟨o.1,?_⟩
  rcases o.2 with h1|⟨g,c,cur,h1,h2,h3,h4⟩
  ·exact .inl h1
  ·have lg:=World.ownsRow.lt o g (by rw[h1];rfl)
   exact .inr ⟨g,c,cur,h1,h2,(k.block g lg.2 (n _ lg.1)).trans h3,h4⟩
 ⟨q h.oa,q h.oi,q h.ob,q h.ol,q h.ot⟩
def LoadOwn(r:(Int×Bk)×Bool)(w:World)(e:Ending)(w':World):Prop:=∃y:Ix,y.b=r.1.2∧e= .returned (.tuple #[.agg #[.int .i64 r.1.1,.slice y.aa y.b.ac.length y.ca,.slice y.ai y.b.ic.length y.ci,.slice y.ab y.b.bs.length y.cb,.slice y.al y.b.ls.length y.cl,.slice y.ats y.b.ts.length y.ct,.int .i64 y.b.lot],.bool r.2])∧OwV w' w.heap.size y∧Below w.heap.size w w'
end LawX16
end Go.Proofs.YtagmnociflkhcaaGreatDoor
