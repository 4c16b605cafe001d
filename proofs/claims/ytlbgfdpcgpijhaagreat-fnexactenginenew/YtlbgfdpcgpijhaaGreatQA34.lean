/- Texts of one proof. -/
import Derived.Test.YtlbgfdpcgpijhaaGreatQA29
import Derived.Test.YtlbgfdpcgpijhaaGreatQA33
open Go.ChangeShapes Go.WideShapes Go.ChangeAt Go.RowKit
set_option linter.unusedVariables false
set_option linter.unusedSimpArgs false
set_option maxRecDepth 100000
set_option maxHeartbeats 32000000
namespace Go.Proofs.YtlbgfdpcgpijhaaGreat
namespace SSave16
open BMem Bks IBalsFit
open Lots (Says)
open SPut11 (AtO)
open SegP15 (okS)
open SSg16 (sSegOk)
structure Sv(w W:World)(g:Nat)(f:Int)(x:Bx):Prop where
 f:W.cell? ⟨g,0,none⟩=some (.int .i64 f)
 c0:W.cell? ⟨g,1,none⟩=some (.slice (some ⟨x.ga,0,none⟩) x.b.ac.length x.ca)
 c1:W.cell? ⟨g,2,none⟩=some (.slice (some ⟨x.gi,0,none⟩) x.b.ic.length x.ci)
 c2:W.cell? ⟨g,3,none⟩=some (.slice (some ⟨x.gb,0,none⟩) x.b.bs.length x.cb)
 c3:W.cell? ⟨g,4,none⟩=some (.slice (some ⟨x.gl,0,none⟩) x.b.ls.length x.cl)
 c4:W.cell? ⟨g,5,none⟩=some (.slice (some ⟨x.gt,0,none⟩) x.b.ts.length x.ct)
 c5:W.cell? ⟨g,6,none⟩=some (.int .i64 x.b.lot)
 r:Rd W x
 b:Below w.heap.size w W
 lt:g<W.heap.size
theorem Sv.step{w W W':World}{g:Nat}{f:Int}{x:Bx}(h:Sv w W g f x)(k:Below W.heap.size W W'):Sv w W' g f x:=
 ⟨(k.cell (p:=⟨g,0,none⟩) h.lt).trans h.f,(k.cell (p:=⟨g,1,none⟩) h.lt).trans h.c0,(k.cell (p:=⟨g,2,none⟩) h.lt).trans h.c1,(k.cell (p:=⟨g,3,none⟩) h.lt).trans h.c2,(k.cell (p:=⟨g,4,none⟩) h.lt).trans h.c3,(k.cell (p:=⟨g,5,none⟩) h.lt).trans h.c4,(k.cell (p:=⟨g,6,none⟩) h.lt).trans h.c5,h.r.below k,h.b.trans (k.mono h.b.size),Nat.lt_of_lt_of_le h.lt k.size⟩
theorem Sv.made{w W:World}{x:Bx}(h:Rd W x)(b:Below w.heap.size w W)(f:Int)(e:TypeId):Sv w (W.alloc (.cells #[.int .i64 f,.slice (some ⟨x.ga,0,none⟩) x.b.ac.length x.ca,.slice (some ⟨x.gi,0,none⟩) x.b.ic.length x.ci,.slice (some ⟨x.gb,0,none⟩) x.b.bs.length x.cb,.slice (some ⟨x.gl,0,none⟩) x.b.ls.length x.cl,.slice (some ⟨x.gt,0,none⟩) x.b.ts.length x.ct,.int .i64 x.b.lot] e)) W.heap.size f x:=
 ⟨by simp,by simp,by simp,by simp,by simp,by simp,by simp,h.alloc _,b.alloc b.size _,by simp⟩
end SSave16
namespace EBx17
open Fil14 DkH14 SDk14
open BMem (Bx Rd)
open Bks (Bk Ok)
open Bx16 (grow_grow grow_low)
open IBalsFit (one_more)
def Bx11(w:World)(base g:Nat)(v0 v1 v2 v3 v4 v5 v6 v7 v8 v9 v10:Value):Prop:=w.ownsRow base 47 11 (.slice (some ⟨g,0,none⟩) 1 1) 1 [v0,v1,v2,v3,v4,v5,v6,v7,v8,v9,v10]
theorem Bx11.made{w:World}{base g:Nat}(v0 v1 v2 v3 v4 v5 v6 v7 v8 v9 v10:Value)(hb:base≤w.heap.size)(hg:g=w.heap.size):Bx11 (w.alloc (.cells #[v0,v1,v2,v3,v4,v5,v6,v7,v8,v9,v10] 47)) base g v0 v1 v2 v3 v4 v5 v6 v7 v8 v9 v10:=by
 subst hg
 exact⟨rfl,.inr ⟨w.heap.size,1,#[v0,v1,v2,v3,v4,v5,v6,v7,v8,v9,v10],rfl,hb,heap_alloc_new w _,Nat.le_refl _,by unfold maxLen;omega,rfl,rfl⟩⟩
section
variable {w w':World} {base g:Nat} {v0 v1 v2 v3 v4 v5 v6 v7 v8 v9 v10:Value}
theorem Bx11.lt(h:Bx11 w base g v0 v1 v2 v3 v4 v5 v6 v7 v8 v9 v10):base≤g∧g<w.heap.size:=World.ownsRow.lt h g rfl
theorem Bx11.free(h:Bx11 w base g v0 v1 v2 v3 v4 v5 v6 v7 v8 v9 v10)(i:Nat):w.frozen? ⟨g,i,none⟩=false:=World.ownsRow.frozenAt h i
theorem Bx11.c0(h:Bx11 w base g v0 v1 v2 v3 v4 v5 v6 v7 v8 v9 v10):w.cell? ⟨g,0,none⟩=some v0:=(World.ownsRow.cellAt h 0 (by omega)).trans rfl
theorem Bx11.c1(h:Bx11 w base g v0 v1 v2 v3 v4 v5 v6 v7 v8 v9 v10):w.cell? ⟨g,1,none⟩=some v1:=(World.ownsRow.cellAt h 1 (by omega)).trans rfl
theorem Bx11.c2(h:Bx11 w base g v0 v1 v2 v3 v4 v5 v6 v7 v8 v9 v10):w.cell? ⟨g,2,none⟩=some v2:=(World.ownsRow.cellAt h 2 (by omega)).trans rfl
theorem Bx11.c3(h:Bx11 w base g v0 v1 v2 v3 v4 v5 v6 v7 v8 v9 v10):w.cell? ⟨g,3,none⟩=some v3:=(World.ownsRow.cellAt h 3 (by omega)).trans rfl
theorem Bx11.c4(h:Bx11 w base g v0 v1 v2 v3 v4 v5 v6 v7 v8 v9 v10):w.cell? ⟨g,4,none⟩=some v4:=(World.ownsRow.cellAt h 4 (by omega)).trans rfl
theorem Bx11.c5(h:Bx11 w base g v0 v1 v2 v3 v4 v5 v6 v7 v8 v9 v10):w.cell? ⟨g,5,none⟩=some v5:=(World.ownsRow.cellAt h 5 (by omega)).trans rfl
theorem Bx11.c6(h:Bx11 w base g v0 v1 v2 v3 v4 v5 v6 v7 v8 v9 v10):w.cell? ⟨g,6,none⟩=some v6:=(World.ownsRow.cellAt h 6 (by omega)).trans rfl
theorem Bx11.c7(h:Bx11 w base g v0 v1 v2 v3 v4 v5 v6 v7 v8 v9 v10):w.cell? ⟨g,7,none⟩=some v7:=(World.ownsRow.cellAt h 7 (by omega)).trans rfl
theorem Bx11.c8(h:Bx11 w base g v0 v1 v2 v3 v4 v5 v6 v7 v8 v9 v10):w.cell? ⟨g,8,none⟩=some v8:=(World.ownsRow.cellAt h 8 (by omega)).trans rfl
theorem Bx11.c9(h:Bx11 w base g v0 v1 v2 v3 v4 v5 v6 v7 v8 v9 v10):w.cell? ⟨g,9,none⟩=some v9:=(World.ownsRow.cellAt h 9 (by omega)).trans rfl
theorem Bx11.c10(h:Bx11 w base g v0 v1 v2 v3 v4 v5 v6 v7 v8 v9 v10):w.cell? ⟨g,10,none⟩=some v10:=(World.ownsRow.cellAt h 10 (by omega)).trans rfl
theorem Bx11.cs{w:World}{base g:Nat}{v0 v1 v2 v3 v4 v5 v6 v7 v8 v9 v10:Value}(h:Bx11 w base g v0 v1 v2 v3 v4 v5 v6 v7 v8 v9 v10):w.cell? ⟨g,0,none⟩=some v0∧w.cell? ⟨g,1,none⟩=some v1∧w.cell? ⟨g,2,none⟩=some v2∧w.cell? ⟨g,3,none⟩=some v3∧w.cell? ⟨g,4,none⟩=some v4∧w.cell? ⟨g,5,none⟩=some v5∧w.cell? ⟨g,6,none⟩=some v6∧w.cell? ⟨g,7,none⟩=some v7∧w.cell? ⟨g,8,none⟩=some v8∧w.cell? ⟨g,9,none⟩=some v9∧w.cell? ⟨g,10,none⟩=some v10:=⟨h.c0,h.c1,h.c2,h.c3,h.c4,h.c5,h.c6,h.c7,h.c8,h.c9,h.c10⟩
theorem Bx11.fs{w:World}{base g:Nat}{v0 v1 v2 v3 v4 v5 v6 v7 v8 v9 v10:Value}(h:Bx11 w base g v0 v1 v2 v3 v4 v5 v6 v7 v8 v9 v10):w.frozen? ⟨g,0,none⟩=false∧w.frozen? ⟨g,1,none⟩=false∧w.frozen? ⟨g,2,none⟩=false∧w.frozen? ⟨g,3,none⟩=false∧w.frozen? ⟨g,4,none⟩=false∧w.frozen? ⟨g,5,none⟩=false∧w.frozen? ⟨g,6,none⟩=false∧w.frozen? ⟨g,7,none⟩=false∧w.frozen? ⟨g,8,none⟩=false∧w.frozen? ⟨g,9,none⟩=false∧w.frozen? ⟨g,10,none⟩=false:=⟨h.free 0,h.free 1,h.free 2,h.free 3,h.free 4,h.free 5,h.free 6,h.free 7,h.free 8,h.free 9,h.free 10⟩
theorem Bx11.set0(h:Bx11 w base g v0 v1 v2 v3 v4 v5 v6 v7 v8 v9 v10)(u:Value):Bx11 (w.setCell ⟨g,0,none⟩ u) base g u v1 v2 v3 v4 v5 v6 v7 v8 v9 v10∧w.grownBy (w.setCell ⟨g,0,none⟩ u) (some g):=World.ownsRow.stored h 0 u
theorem Bx11.set1(h:Bx11 w base g v0 v1 v2 v3 v4 v5 v6 v7 v8 v9 v10)(u:Value):Bx11 (w.setCell ⟨g,1,none⟩ u) base g v0 u v2 v3 v4 v5 v6 v7 v8 v9 v10∧w.grownBy (w.setCell ⟨g,1,none⟩ u) (some g):=World.ownsRow.stored h 1 u
theorem Bx11.set2(h:Bx11 w base g v0 v1 v2 v3 v4 v5 v6 v7 v8 v9 v10)(u:Value):Bx11 (w.setCell ⟨g,2,none⟩ u) base g v0 v1 u v3 v4 v5 v6 v7 v8 v9 v10∧w.grownBy (w.setCell ⟨g,2,none⟩ u) (some g):=World.ownsRow.stored h 2 u
theorem Bx11.set3(h:Bx11 w base g v0 v1 v2 v3 v4 v5 v6 v7 v8 v9 v10)(u:Value):Bx11 (w.setCell ⟨g,3,none⟩ u) base g v0 v1 v2 u v4 v5 v6 v7 v8 v9 v10∧w.grownBy (w.setCell ⟨g,3,none⟩ u) (some g):=World.ownsRow.stored h 3 u
theorem Bx11.set4(h:Bx11 w base g v0 v1 v2 v3 v4 v5 v6 v7 v8 v9 v10)(u:Value):Bx11 (w.setCell ⟨g,4,none⟩ u) base g v0 v1 v2 v3 u v5 v6 v7 v8 v9 v10∧w.grownBy (w.setCell ⟨g,4,none⟩ u) (some g):=World.ownsRow.stored h 4 u
theorem Bx11.set5(h:Bx11 w base g v0 v1 v2 v3 v4 v5 v6 v7 v8 v9 v10)(u:Value):Bx11 (w.setCell ⟨g,5,none⟩ u) base g v0 v1 v2 v3 v4 u v6 v7 v8 v9 v10∧w.grownBy (w.setCell ⟨g,5,none⟩ u) (some g):=World.ownsRow.stored h 5 u
theorem Bx11.set6(h:Bx11 w base g v0 v1 v2 v3 v4 v5 v6 v7 v8 v9 v10)(u:Value):Bx11 (w.setCell ⟨g,6,none⟩ u) base g v0 v1 v2 v3 v4 v5 u v7 v8 v9 v10∧w.grownBy (w.setCell ⟨g,6,none⟩ u) (some g):=World.ownsRow.stored h 6 u
theorem Bx11.set7(h:Bx11 w base g v0 v1 v2 v3 v4 v5 v6 v7 v8 v9 v10)(u:Value):Bx11 (w.setCell ⟨g,7,none⟩ u) base g v0 v1 v2 v3 v4 v5 v6 u v8 v9 v10∧w.grownBy (w.setCell ⟨g,7,none⟩ u) (some g):=World.ownsRow.stored h 7 u
theorem Bx11.set8(h:Bx11 w base g v0 v1 v2 v3 v4 v5 v6 v7 v8 v9 v10)(u:Value):Bx11 (w.setCell ⟨g,8,none⟩ u) base g v0 v1 v2 v3 v4 v5 v6 v7 u v9 v10∧w.grownBy (w.setCell ⟨g,8,none⟩ u) (some g):=World.ownsRow.stored h 8 u
theorem Bx11.set9(h:Bx11 w base g v0 v1 v2 v3 v4 v5 v6 v7 v8 v9 v10)(u:Value):Bx11 (w.setCell ⟨g,9,none⟩ u) base g v0 v1 v2 v3 v4 v5 v6 v7 v8 u v10∧w.grownBy (w.setCell ⟨g,9,none⟩ u) (some g):=World.ownsRow.stored h 9 u
theorem Bx11.set10(h:Bx11 w base g v0 v1 v2 v3 v4 v5 v6 v7 v8 v9 v10)(u:Value):Bx11 (w.setCell ⟨g,10,none⟩ u) base g v0 v1 v2 v3 v4 v5 v6 v7 v8 v9 u∧w.grownBy (w.setCell ⟨g,10,none⟩ u) (some g):=World.ownsRow.stored h 10 u
theorem Bx11.below{B:Nat}(h:Bx11 w base g v0 v1 v2 v3 v4 v5 v6 v7 v8 v9 v10)(k:Below B w w')(hg:g<B):Bx11 w' base g v0 v1 v2 v3 v4 v5 v6 v7 v8 v9 v10:=by
 refine⟨h.1,?_⟩
 rcases h.2 with⟨h1,_⟩|⟨g',c,cur,h1,h2,h3,h4⟩
 ·simp at h1
 ·have e:g=g':=by simp at h1;exact h1.1
  subst e
  exact .inr ⟨g,c,cur,h1,h2,(k.block g hg).trans h3,h4⟩
theorem Bx11.kept{row:Option Nat}(h:Bx11 w base g v0 v1 v2 v3 v4 v5 v6 v7 v8 v9 v10)(k:w.grownBy w' row)(hne:some g≠row):Bx11 w' base g v0 v1 v2 v3 v4 v5 v6 v7 v8 v9 v10:=World.ownsRow.kept h k (Or.inr hne)
theorem Bx11.all(h:Bx11 w base g v0 v1 v2 v3 v4 v5 v6 v7 v8 v9 v10)(u0 u1 u2 u3 u4 u5 u6 u7 u8 u9 u10:Value):Bx11 ((((((((((((w).setCell ⟨g,0,none⟩ u0).setCell ⟨g,1,none⟩ u1).setCell ⟨g,2,none⟩ u2).setCell ⟨g,3,none⟩ u3).setCell ⟨g,4,none⟩ u4).setCell ⟨g,5,none⟩ u5).setCell ⟨g,6,none⟩ u6).setCell ⟨g,7,none⟩ u7).setCell ⟨g,8,none⟩ u8).setCell ⟨g,9,none⟩ u9).setCell ⟨g,10,none⟩ u10) base g u0 u1 u2 u3 u4 u5 u6 u7 u8 u9 u10∧w.grownBy ((((((((((((w).setCell ⟨g,0,none⟩ u0).setCell ⟨g,1,none⟩ u1).setCell ⟨g,2,none⟩ u2).setCell ⟨g,3,none⟩ u3).setCell ⟨g,4,none⟩ u4).setCell ⟨g,5,none⟩ u5).setCell ⟨g,6,none⟩ u6).setCell ⟨g,7,none⟩ u7).setCell ⟨g,8,none⟩ u8).setCell ⟨g,9,none⟩ u9).setCell ⟨g,10,none⟩ u10) (some g):=by
 have t0:=h.set0 u0
 have t1:=t0.1.set1 u1
 have t2:=t1.1.set2 u2
 have t3:=t2.1.set3 u3
 have t4:=t3.1.set4 u4
 have t5:=t4.1.set5 u5
 have t6:=t5.1.set6 u6
 have t7:=t6.1.set7 u7
 have t8:=t7.1.set8 u8
 have t9:=t8.1.set9 u9
 have t10:=t9.1.set10 u10
 exact⟨t10.1,(grow_grow (grow_grow (grow_grow (grow_grow (grow_grow (grow_grow (grow_grow (grow_grow (grow_grow (grow_grow t0.2 t1.2) t2.2) t3.2) t4.2) t5.2) t6.2) t7.2) t8.2) t9.2) t10.2)⟩
end
structure Eg(w W:World)(g:Nat)(up:Bool)(x:Dx)(z:Bx)(sg ct:Int):Prop where
 k:Bx11 W w.heap.size g (.bool up) (.int .i64 x.room) (.slice x.a x.ps.length x.c) (.slice (some ⟨z.ga,0,none⟩) z.b.ac.length z.ca) (.slice (some ⟨z.gi,0,none⟩) z.b.ic.length z.ci) (.slice (some ⟨z.gb,0,none⟩) z.b.bs.length z.cb) (.slice (some ⟨z.gl,0,none⟩) z.b.ls.length z.cl) (.slice (some ⟨z.gt,0,none⟩) z.b.ts.length z.ct) (.int .i64 z.b.lot) (.int .i64 sg) (.int .i64 ct)
 r:RdD W x
 rb:Rd W z
 b:Below w.heap.size w W
theorem Eg.step{w W W':World}{g:Nat}{up:Bool}{x:Dx}{z:Bx}{sg ct:Int}(h:Eg w W g up x z sg ct)(k:Below W.heap.size W W'):Eg w W' g up x z sg ct:=⟨h.k.below k h.k.lt.2,h.r.below k,h.rb.below k,h.b.trans (k.mono h.b.size)⟩
theorem Eg.made{w W:World}{x:Dx}{z:Bx}(hr:RdD W x)(hz:Rd W z)(b:Below w.heap.size w W)(up:Bool)(sg ct:Int):Eg w (W.alloc (.cells #[.bool up,.int .i64 x.room,.slice x.a x.ps.length x.c,.slice (some ⟨z.ga,0,none⟩) z.b.ac.length z.ca,.slice (some ⟨z.gi,0,none⟩) z.b.ic.length z.ci,.slice (some ⟨z.gb,0,none⟩) z.b.bs.length z.cb,.slice (some ⟨z.gl,0,none⟩) z.b.ls.length z.cl,.slice (some ⟨z.gt,0,none⟩) z.b.ts.length z.ct,.int .i64 z.b.lot,.int .i64 sg,.int .i64 ct] 47)) W.heap.size up x z sg ct:=
 ⟨Bx11.made (.bool up) (.int .i64 x.room) (.slice x.a x.ps.length x.c) (.slice (some ⟨z.ga,0,none⟩) z.b.ac.length z.ca) (.slice (some ⟨z.gi,0,none⟩) z.b.ic.length z.ci) (.slice (some ⟨z.gb,0,none⟩) z.b.bs.length z.cb) (.slice (some ⟨z.gl,0,none⟩) z.b.ls.length z.cl) (.slice (some ⟨z.gt,0,none⟩) z.b.ts.length z.ct) (.int .i64 z.b.lot) (.int .i64 sg) (.int .i64 ct) b.size rfl,hr.below (one_more _ _),hz.alloc _,b.alloc b.size _⟩
theorem Eg.kept{w W W':World}{g G:Nat}{up:Bool}{x:Dx}{z:Bx}{sg ct:Int}(h:Eg w W g up x z sg ct)(k:W.grownBy W' (some G))(hg:g≠G)(hG:w.heap.size≤G)(hr:RdD w x)(hy:Rd w z):Eg w W' g up x z sg ct:=
 have b:=grow_low h.b k ⟨hG,h.b.size⟩
 ⟨h.k.kept k (by simpa using hg),hr.below b,hy.below b,b⟩
end EBx17
end Go.Proofs.YtlbgfdpcgpijhaaGreat
