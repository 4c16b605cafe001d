/- Texts of one proof. -/
import Derived.Test.YtlbgfdpcgpijhaaGreatQA38
import Derived.Test.YtlbgfdpcgpijhaaGreatQA39
import Derived.Test.YtlbgfdpcgpijhaaGreatQA43
open Go.ChangeShapes Go.WideShapes Go.ChangeAt Go.RowKit
set_option linter.unusedVariables false
set_option linter.unusedSimpArgs false
set_option maxRecDepth 100000
set_option maxHeartbeats 32000000
namespace Go.Proofs.YtlbgfdpcgpijhaaGreat
namespace Mc17
open Fil14 DkH14 SDk14 EBx17 EFin17
open BMem (Bx Rd Ow)
open BHelp (Ix)
open Bx16 (grow_grow grow_low)
open VB13
def Bx13(w:World)(base g:Nat)(v0 v1 v2 v3 v4 v5 v6 v7 v8 v9 v10 v11 v12:Value):Prop:=w.ownsRow base 95 13 (.slice (some ⟨g,0,none⟩) 1 1) 1 [v0,v1,v2,v3,v4,v5,v6,v7,v8,v9,v10,v11,v12]
theorem Bx13.made{w:World}{base g:Nat}(v0 v1 v2 v3 v4 v5 v6 v7 v8 v9 v10 v11 v12:Value)(hb:base≤w.heap.size)(hg:g=w.heap.size):Bx13 (w.alloc (.cells #[v0,v1,v2,v3,v4,v5,v6,v7,v8,v9,v10,v11,v12] 95)) base g v0 v1 v2 v3 v4 v5 v6 v7 v8 v9 v10 v11 v12:=by
 subst hg
 exact⟨rfl,.inr ⟨w.heap.size,1,#[v0,v1,v2,v3,v4,v5,v6,v7,v8,v9,v10,v11,v12],rfl,hb,heap_alloc_new w _,Nat.le_refl _,by unfold maxLen;omega,rfl,rfl⟩⟩
section
variable {w w':World} {base g:Nat} {v0 v1 v2 v3 v4 v5 v6 v7 v8 v9 v10 v11 v12:Value}
theorem Bx13.lt(h:Bx13 w base g v0 v1 v2 v3 v4 v5 v6 v7 v8 v9 v10 v11 v12):base≤g∧g<w.heap.size:=World.ownsRow.lt h g rfl
theorem Bx13.free(h:Bx13 w base g v0 v1 v2 v3 v4 v5 v6 v7 v8 v9 v10 v11 v12)(i:Nat):w.frozen? ⟨g,i,none⟩=false:=World.ownsRow.frozenAt h i
theorem Bx13.c0(h:Bx13 w base g v0 v1 v2 v3 v4 v5 v6 v7 v8 v9 v10 v11 v12):w.cell? ⟨g,0,none⟩=some v0:=(World.ownsRow.cellAt h 0 (by omega)).trans rfl
theorem Bx13.c1(h:Bx13 w base g v0 v1 v2 v3 v4 v5 v6 v7 v8 v9 v10 v11 v12):w.cell? ⟨g,1,none⟩=some v1:=(World.ownsRow.cellAt h 1 (by omega)).trans rfl
theorem Bx13.c2(h:Bx13 w base g v0 v1 v2 v3 v4 v5 v6 v7 v8 v9 v10 v11 v12):w.cell? ⟨g,2,none⟩=some v2:=(World.ownsRow.cellAt h 2 (by omega)).trans rfl
theorem Bx13.c3(h:Bx13 w base g v0 v1 v2 v3 v4 v5 v6 v7 v8 v9 v10 v11 v12):w.cell? ⟨g,3,none⟩=some v3:=(World.ownsRow.cellAt h 3 (by omega)).trans rfl
theorem Bx13.c4(h:Bx13 w base g v0 v1 v2 v3 v4 v5 v6 v7 v8 v9 v10 v11 v12):w.cell? ⟨g,4,none⟩=some v4:=(World.ownsRow.cellAt h 4 (by omega)).trans rfl
theorem Bx13.c5(h:Bx13 w base g v0 v1 v2 v3 v4 v5 v6 v7 v8 v9 v10 v11 v12):w.cell? ⟨g,5,none⟩=some v5:=(World.ownsRow.cellAt h 5 (by omega)).trans rfl
theorem Bx13.c6(h:Bx13 w base g v0 v1 v2 v3 v4 v5 v6 v7 v8 v9 v10 v11 v12):w.cell? ⟨g,6,none⟩=some v6:=(World.ownsRow.cellAt h 6 (by omega)).trans rfl
theorem Bx13.c7(h:Bx13 w base g v0 v1 v2 v3 v4 v5 v6 v7 v8 v9 v10 v11 v12):w.cell? ⟨g,7,none⟩=some v7:=(World.ownsRow.cellAt h 7 (by omega)).trans rfl
theorem Bx13.c8(h:Bx13 w base g v0 v1 v2 v3 v4 v5 v6 v7 v8 v9 v10 v11 v12):w.cell? ⟨g,8,none⟩=some v8:=(World.ownsRow.cellAt h 8 (by omega)).trans rfl
theorem Bx13.c9(h:Bx13 w base g v0 v1 v2 v3 v4 v5 v6 v7 v8 v9 v10 v11 v12):w.cell? ⟨g,9,none⟩=some v9:=(World.ownsRow.cellAt h 9 (by omega)).trans rfl
theorem Bx13.c10(h:Bx13 w base g v0 v1 v2 v3 v4 v5 v6 v7 v8 v9 v10 v11 v12):w.cell? ⟨g,10,none⟩=some v10:=(World.ownsRow.cellAt h 10 (by omega)).trans rfl
theorem Bx13.c11(h:Bx13 w base g v0 v1 v2 v3 v4 v5 v6 v7 v8 v9 v10 v11 v12):w.cell? ⟨g,11,none⟩=some v11:=(World.ownsRow.cellAt h 11 (by omega)).trans rfl
theorem Bx13.c12(h:Bx13 w base g v0 v1 v2 v3 v4 v5 v6 v7 v8 v9 v10 v11 v12):w.cell? ⟨g,12,none⟩=some v12:=(World.ownsRow.cellAt h 12 (by omega)).trans rfl
theorem Bx13.set0(h:Bx13 w base g v0 v1 v2 v3 v4 v5 v6 v7 v8 v9 v10 v11 v12)(u:Value):Bx13 (w.setCell ⟨g,0,none⟩ u) base g u v1 v2 v3 v4 v5 v6 v7 v8 v9 v10 v11 v12∧w.grownBy (w.setCell ⟨g,0,none⟩ u) (some g):=World.ownsRow.stored h 0 u
theorem Bx13.set1(h:Bx13 w base g v0 v1 v2 v3 v4 v5 v6 v7 v8 v9 v10 v11 v12)(u:Value):Bx13 (w.setCell ⟨g,1,none⟩ u) base g v0 u v2 v3 v4 v5 v6 v7 v8 v9 v10 v11 v12∧w.grownBy (w.setCell ⟨g,1,none⟩ u) (some g):=World.ownsRow.stored h 1 u
theorem Bx13.set2(h:Bx13 w base g v0 v1 v2 v3 v4 v5 v6 v7 v8 v9 v10 v11 v12)(u:Value):Bx13 (w.setCell ⟨g,2,none⟩ u) base g v0 v1 u v3 v4 v5 v6 v7 v8 v9 v10 v11 v12∧w.grownBy (w.setCell ⟨g,2,none⟩ u) (some g):=World.ownsRow.stored h 2 u
theorem Bx13.set3(h:Bx13 w base g v0 v1 v2 v3 v4 v5 v6 v7 v8 v9 v10 v11 v12)(u:Value):Bx13 (w.setCell ⟨g,3,none⟩ u) base g v0 v1 v2 u v4 v5 v6 v7 v8 v9 v10 v11 v12∧w.grownBy (w.setCell ⟨g,3,none⟩ u) (some g):=World.ownsRow.stored h 3 u
theorem Bx13.set4(h:Bx13 w base g v0 v1 v2 v3 v4 v5 v6 v7 v8 v9 v10 v11 v12)(u:Value):Bx13 (w.setCell ⟨g,4,none⟩ u) base g v0 v1 v2 v3 u v5 v6 v7 v8 v9 v10 v11 v12∧w.grownBy (w.setCell ⟨g,4,none⟩ u) (some g):=World.ownsRow.stored h 4 u
theorem Bx13.set5(h:Bx13 w base g v0 v1 v2 v3 v4 v5 v6 v7 v8 v9 v10 v11 v12)(u:Value):Bx13 (w.setCell ⟨g,5,none⟩ u) base g v0 v1 v2 v3 v4 u v6 v7 v8 v9 v10 v11 v12∧w.grownBy (w.setCell ⟨g,5,none⟩ u) (some g):=World.ownsRow.stored h 5 u
theorem Bx13.set6(h:Bx13 w base g v0 v1 v2 v3 v4 v5 v6 v7 v8 v9 v10 v11 v12)(u:Value):Bx13 (w.setCell ⟨g,6,none⟩ u) base g v0 v1 v2 v3 v4 v5 u v7 v8 v9 v10 v11 v12∧w.grownBy (w.setCell ⟨g,6,none⟩ u) (some g):=World.ownsRow.stored h 6 u
theorem Bx13.set7(h:Bx13 w base g v0 v1 v2 v3 v4 v5 v6 v7 v8 v9 v10 v11 v12)(u:Value):Bx13 (w.setCell ⟨g,7,none⟩ u) base g v0 v1 v2 v3 v4 v5 v6 u v8 v9 v10 v11 v12∧w.grownBy (w.setCell ⟨g,7,none⟩ u) (some g):=World.ownsRow.stored h 7 u
theorem Bx13.set8(h:Bx13 w base g v0 v1 v2 v3 v4 v5 v6 v7 v8 v9 v10 v11 v12)(u:Value):Bx13 (w.setCell ⟨g,8,none⟩ u) base g v0 v1 v2 v3 v4 v5 v6 v7 u v9 v10 v11 v12∧w.grownBy (w.setCell ⟨g,8,none⟩ u) (some g):=World.ownsRow.stored h 8 u
theorem Bx13.set9(h:Bx13 w base g v0 v1 v2 v3 v4 v5 v6 v7 v8 v9 v10 v11 v12)(u:Value):Bx13 (w.setCell ⟨g,9,none⟩ u) base g v0 v1 v2 v3 v4 v5 v6 v7 v8 u v10 v11 v12∧w.grownBy (w.setCell ⟨g,9,none⟩ u) (some g):=World.ownsRow.stored h 9 u
theorem Bx13.set10(h:Bx13 w base g v0 v1 v2 v3 v4 v5 v6 v7 v8 v9 v10 v11 v12)(u:Value):Bx13 (w.setCell ⟨g,10,none⟩ u) base g v0 v1 v2 v3 v4 v5 v6 v7 v8 v9 u v11 v12∧w.grownBy (w.setCell ⟨g,10,none⟩ u) (some g):=World.ownsRow.stored h 10 u
theorem Bx13.set11(h:Bx13 w base g v0 v1 v2 v3 v4 v5 v6 v7 v8 v9 v10 v11 v12)(u:Value):Bx13 (w.setCell ⟨g,11,none⟩ u) base g v0 v1 v2 v3 v4 v5 v6 v7 v8 v9 v10 u v12∧w.grownBy (w.setCell ⟨g,11,none⟩ u) (some g):=World.ownsRow.stored h 11 u
theorem Bx13.set12(h:Bx13 w base g v0 v1 v2 v3 v4 v5 v6 v7 v8 v9 v10 v11 v12)(u:Value):Bx13 (w.setCell ⟨g,12,none⟩ u) base g v0 v1 v2 v3 v4 v5 v6 v7 v8 v9 v10 v11 u∧w.grownBy (w.setCell ⟨g,12,none⟩ u) (some g):=World.ownsRow.stored h 12 u
theorem Bx13.below{B:Nat}(h:Bx13 w base g v0 v1 v2 v3 v4 v5 v6 v7 v8 v9 v10 v11 v12)(k:Below B w w')(hg:g<B):Bx13 w' base g v0 v1 v2 v3 v4 v5 v6 v7 v8 v9 v10 v11 v12:=by
 refine⟨h.1,?_⟩
 rcases h.2 with⟨h1,_⟩|⟨g',c,cur,h1,h2,h3,h4⟩
 ·simp at h1
 ·have e:g=g':=by simp at h1;exact h1.1
  subst e
  exact .inr ⟨g,c,cur,h1,h2,(k.block g hg).trans h3,h4⟩
theorem Bx13.kept{row:Option Nat}(h:Bx13 w base g v0 v1 v2 v3 v4 v5 v6 v7 v8 v9 v10 v11 v12)(k:w.grownBy w' row)(hne:some g≠row):Bx13 w' base g v0 v1 v2 v3 v4 v5 v6 v7 v8 v9 v10 v11 v12:=World.ownsRow.kept h k (Or.inr hne)
end
theorem grow_refl(w:World)(row:Option Nat):w.grownBy w row:=⟨rfl,rfl,rfl,Nat.le_refl _,fun _ _ _=>rfl⟩
theorem grow_below{w X X':World}{row:Option Nat}(h:w.grownBy X row)(k:Below X.heap.size X X'):w.grownBy X' row:=
 ⟨k.os.trans h.os,k.tape.trans h.tape,k.output.trans h.output,Nat.le_trans h.size k.size,fun i hi hr=>(k.block i (Nat.lt_of_lt_of_le hi h.size)).trans (h.block i hi hr)⟩
theorem grow_new{w X X':World}{row:Option Nat}{R:Nat}(h:w.grownBy X row)(k:X.grownBy X' (some R))(n:w.heap.size≤R):w.grownBy X' row:=
 ⟨k.os.trans h.os,k.tape.trans h.tape,k.output.trans h.output,Nat.le_trans h.size k.size,fun i hi hr=>(k.block i (Nat.lt_of_lt_of_le hi h.size) (by simp;omega)).trans (h.block i hi hr)⟩
theorem below_grow{X X':World}{row:Option Nat}(k:Below X.heap.size X X'):X.grownBy X' row:=grow_below (grow_refl X row) k
def BkI(W:World)(y:Ix):Prop:=(∃z:Bx,y=ixB z∧Rd W z)∨y=noI
theorem BkI.below{W W':World}{y:Ix}(h:BkI W y)(k:Below W.heap.size W W'):BkI W' y:=by
 rcases h with⟨z,e,r⟩|e
 ·exact .inl ⟨z,e,r.below k⟩
 ·exact .inr e
structure Mc(W:World)(base g:Nat)(l:Int)(up:Bool)(x:Dx)(y:Ix)(sg ct:Int):Prop where
 k:Bx13 W base g (.int .i32 l) (.int .u32 0) (.int .i64 x.room) (.slice x.a x.ps.length x.c) (.bool up) (.slice y.aa y.b.ac.length y.ca) (.slice y.ai y.b.ic.length y.ci) (.slice y.ab y.b.bs.length y.cb) (.slice y.al y.b.ls.length y.cl) (.slice y.ats y.b.ts.length y.ct) (.int .i64 y.b.lot) (.int .i64 sg) (.int .i64 ct)
 st:∀W',W.grownBy W' (some g)→RdD W' x∧BkI W' y
section
variable {w W W':World} {base g:Nat} {l sg ct:Int} {up:Bool} {x:Dx} {y:Ix}
theorem Mc.rx(h:Mc W base g l up x y sg ct):RdD W x:=(h.st W (grow_refl W _)).1
theorem Mc.ry(h:Mc W base g l up x y sg ct):BkI W y:=(h.st W (grow_refl W _)).2
theorem Mc.turn(h:Mc W base g l up x y sg ct)(k:W.grownBy W' (some g)){l2 sg2 ct2:Int}{up2:Bool}(b:Bx13 W' base g (.int .i32 l2) (.int .u32 0) (.int .i64 x.room) (.slice x.a x.ps.length x.c) (.bool up2) (.slice y.aa y.b.ac.length y.ca) (.slice y.ai y.b.ic.length y.ci) (.slice y.ab y.b.bs.length y.cb) (.slice y.al y.b.ls.length y.cl) (.slice y.ats y.b.ts.length y.ct) (.int .i64 y.b.lot) (.int .i64 sg2) (.int .i64 ct2)):Mc W' base g l2 up2 x y sg2 ct2:=
 ⟨b,fun V q=>h.st V (grow_grow k q)⟩
theorem Mc.step(h:Mc W base g l up x y sg ct)(k:Below W.heap.size W W'):Mc W' base g l up x y sg ct:=
 ⟨h.k.below k h.k.lt.2,fun V q=>h.st V (grow_grow (below_grow k) q)⟩
end
def DeedTo(r:PE×Int)(u:World)(base g:Nat)(e:Ending)(u':World):Prop:=
 ∃(x:Dx) (y:Ix),(x.room,x.ps)=r.1.2.1∧y.b=r.1.2.2.1∧e= .returned (.int .i64 r.2)∧Mc u' base g 1 r.1.1 x y r.1.2.2.2.1 r.1.2.2.2.2∧u.grownBy u' (some g)
def DoTo(r:PE×Int)(w:World)(g:Nat)(e:Ending)(w':World):Prop:=
 ∃(x:Dx) (y:Ix),(x.room,x.ps)=r.1.2.1∧y.b=r.1.2.2.1∧e= .returned (.tuple #[.agg #[.bool r.1.1,.int .i64 x.room,.slice x.a x.ps.length x.c,.slice y.aa y.b.ac.length y.ca,.slice y.ai y.b.ic.length y.ci,.slice y.ab y.b.bs.length y.cb,.slice y.al y.b.ls.length y.cl,.slice y.ats y.b.ts.length y.ct,.int .i64 y.b.lot,.int .i64 r.1.2.2.2.1,.int .i64 r.1.2.2.2.2],.int .i64 r.2])∧OwD w' w.heap.size x∧OwV w' w.heap.size y∧w.grownBy w' (some g)
end Mc17
end Go.Proofs.YtlbgfdpcgpijhaaGreat
