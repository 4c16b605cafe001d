/- Lemmas. -/
import Derived.Test.YtcjgepkdpkhljaaGreatQG26
open Go.ChangeShapes Go.WideShapes Go.ChangeAt Go.RowKit
set_option linter.unusedVariables false
set_option linter.unusedSimpArgs false
set_option maxRecDepth 100000
set_option maxHeartbeats 32000000
namespace Go.Proofs.YtcjgepkdpkhljaaGreat
namespace SApp12
open BMem Bks Ans WkB12
open ILists (boxed)
open SCmd (CmOk nArgs)
open Lots (Says says_of)
theorem one_more(w:World)(o:Obj):Below w.heap.size w (w.alloc o):=(Below.refl _ _).alloc (Nat.le_refl _) o
theorem box_opn{w:World}{base g:Nat}{v0 v1 v2 v3 v4 v5:Value}(h:Box w base g v0 v1 v2 v3 v4 v5):w.frozen? ⟨g,0,none⟩=false∧w.frozen? ⟨g,1,none⟩=false∧w.frozen? ⟨g,2,none⟩=false∧w.frozen? ⟨g,3,none⟩=false∧w.frozen? ⟨g,4,none⟩=false∧w.frozen? ⟨g,5,none⟩=false∧w.cell? ⟨g,0,none⟩=some v0∧w.cell? ⟨g,1,none⟩=some v1∧w.cell? ⟨g,2,none⟩=some v2∧w.cell? ⟨g,3,none⟩=some v3∧w.cell? ⟨g,4,none⟩=some v4∧w.cell? ⟨g,5,none⟩=some v5:=
 ⟨h.free 0,h.free 1,h.free 2,h.free 3,h.free 4,h.free 5,h.c0,h.c1,h.c2,h.c3,h.c4,h.c5⟩
def R2(w:World)(base g:Nat)(v0 v1:Value):Prop:=w.ownsRow base 75 2 (.slice (some ⟨g,0,none⟩) 1 1) 1 [v0,v1]
theorem R2.made{w:World}{base g:Nat}(v0 v1:Value)(hb:base≤w.heap.size)(hg:g=w.heap.size):R2 (w.alloc (.cells #[v0,v1] 75)) base g v0 v1:=by
 subst hg
 exact⟨rfl,.inr ⟨w.heap.size,1,#[v0,v1],rfl,hb,heap_alloc_new w _,Nat.le_refl _,by unfold maxLen;omega,rfl,rfl⟩⟩
section
variable {w w':World} {base g:Nat} {v0 v1:Value}
theorem R2.lt(h:R2 w base g v0 v1):base≤g∧g<w.heap.size:=World.ownsRow.lt h g rfl
theorem R2.free(h:R2 w base g v0 v1)(i:Nat):w.frozen? ⟨g,i,none⟩=false:=World.ownsRow.frozenAt h i
theorem R2.c0(h:R2 w base g v0 v1):w.cell? ⟨g,0,none⟩=some v0:=(World.ownsRow.cellAt h 0 (by omega)).trans rfl
theorem R2.c1(h:R2 w base g v0 v1):w.cell? ⟨g,1,none⟩=some v1:=(World.ownsRow.cellAt h 1 (by omega)).trans rfl
theorem R2.opn(h:R2 w base g v0 v1):w.frozen? ⟨g,0,none⟩=false∧w.frozen? ⟨g,1,none⟩=false∧w.cell? ⟨g,0,none⟩=some v0∧w.cell? ⟨g,1,none⟩=some v1:=⟨h.free 0,h.free 1,h.c0,h.c1⟩
theorem R2.set0(h:R2 w base g v0 v1)(u:Value):R2 (w.setCell ⟨g,0,none⟩ u) base g u v1∧w.grownBy (w.setCell ⟨g,0,none⟩ u) (some g):=World.ownsRow.stored h 0 u
theorem R2.set1(h:R2 w base g v0 v1)(u:Value):R2 (w.setCell ⟨g,1,none⟩ u) base g v0 u∧w.grownBy (w.setCell ⟨g,1,none⟩ u) (some g):=World.ownsRow.stored h 1 u
theorem R2.kept{row:Option Nat}(h:R2 w base g v0 v1)(k:w.grownBy w' row)(hne:some g≠row):R2 w' base g v0 v1:=World.ownsRow.kept h k (Or.inr hne)
theorem R2.below{B:Nat}(h:R2 w base g v0 v1)(k:Below B w w')(hg:g<B):R2 w' base g v0 v1:=by
 refine⟨h.1,?_⟩
 rcases h.2 with⟨h1,_⟩|⟨g',c,cur,h1,h2,h3,h4⟩
 ·simp at h1
 ·have e:g=g':=by simp at h1;exact h1.1
  subst e
  exact .inr ⟨g,c,cur,h1,h2,(k.block g hg).trans h3,h4⟩
end
theorem cmd_at(u:World)(a b:Value)(p:Nat)(hp:p=u.heap.size):(u.alloc (.cells #[a,b] 26)).cell? ⟨p,0,none⟩=some a∧(u.alloc (.cells #[a,b] 26)).cell? ⟨p,1,none⟩=some b:=by subst hp;simp
structure Cp(w W:World)(x:Bx)(k:Int)(g n cap:Nat)(xs:List Int)(u0 u1 u2 u3 u4 u5:Value):Prop where
 r0:Rd w x
 c:Cl W w.heap.size x
 m:W.cell? ⟨w.heap.size+1,0,none⟩=some (.int .i64 k)∧W.cell? ⟨w.heap.size+1,1,none⟩=some (.slice (some ⟨g,0,none⟩) n cap)
 a:Ints.At W g xs
 l:g<w.heap.size
 o4:Box W w.heap.size (w.heap.size+1+1) (.slice none 0 0) (.slice none 0 0) (.slice none 0 0) (.slice none 0 0) (.slice none 0 0) (.int .i64 0)
 o5:R2 W w.heap.size (w.heap.size+1+1+1) (.int .i64 0) (.int .i64 0)
 o6:Box W w.heap.size (w.heap.size+1+1+1+1) u0 u1 u2 u3 u4 u5
 b:Below w.heap.size w W
 s:w.heap.size+1+1+1+1+1≤W.heap.size
theorem Cp.r{w W:World}{x:Bx}{k:Int}{g n cap:Nat}{xs:List Int}{u0 u1 u2 u3 u4 u5:Value}(h:Cp w W x k g n cap xs u0 u1 u2 u3 u4 u5):Rd W x:=h.r0.below h.b
theorem Cp.lg{w W:World}{x:Bx}{k:Int}{g n cap:Nat}{xs:List Int}{u0 u1 u2 u3 u4 u5:Value}(h:Cp w W x k g n cap xs u0 u1 u2 u3 u4 u5):g<W.heap.size:=Nat.lt_of_lt_of_le h.l h.b.size
theorem Cp.start{w:World}{x:Bx}{k:Int}{g n cap:Nat}{xs:List Int}(hr:Rd w x)(hg:g<w.heap.size)(ha:Ints.At w g xs):Cp w (((((w.alloc (.cells #[.slice (some ⟨x.ga,0,none⟩) x.b.ac.length x.ca,.slice (some ⟨x.gi,0,none⟩) x.b.ic.length x.ci,.slice (some ⟨x.gb,0,none⟩) x.b.bs.length x.cb,.slice (some ⟨x.gl,0,none⟩) x.b.ls.length x.cl,.slice (some ⟨x.gt,0,none⟩) x.b.ts.length x.ct,.int .i64 x.b.lot] 44)).alloc (.cells #[.int .i64 k,.slice (some ⟨g,0,none⟩) n cap] 26)).alloc (.cells #[.slice none 0 0,.slice none 0 0,.slice none 0 0,.slice none 0 0,.slice none 0 0,.int .i64 0] 44)).alloc (.cells #[.int .i64 0,.int .i64 0] 75)).alloc (.cells #[.slice none 0 0,.slice none 0 0,.slice none 0 0,.slice none 0 0,.slice none 0 0,.int .i64 0] 44)) x k g n cap xs (.slice none 0 0) (.slice none 0 0) (.slice none 0 0) (.slice none 0 0) (.slice none 0 0) (.int .i64 0):=by
 have s1:(w.alloc (.cells #[.slice (some ⟨x.ga,0,none⟩) x.b.ac.length x.ca,.slice (some ⟨x.gi,0,none⟩) x.b.ic.length x.ci,.slice (some ⟨x.gb,0,none⟩) x.b.bs.length x.cb,.slice (some ⟨x.gl,0,none⟩) x.b.ls.length x.cl,.slice (some ⟨x.gt,0,none⟩) x.b.ts.length x.ct,.int .i64 x.b.lot] 44)).heap.size=w.heap.size+1:=by simp
 have s2:((w.alloc (.cells #[.slice (some ⟨x.ga,0,none⟩) x.b.ac.length x.ca,.slice (some ⟨x.gi,0,none⟩) x.b.ic.length x.ci,.slice (some ⟨x.gb,0,none⟩) x.b.bs.length x.cb,.slice (some ⟨x.gl,0,none⟩) x.b.ls.length x.cl,.slice (some ⟨x.gt,0,none⟩) x.b.ts.length x.ct,.int .i64 x.b.lot] 44)).alloc (.cells #[.int .i64 k,.slice (some ⟨g,0,none⟩) n cap] 26)).heap.size=w.heap.size+1+1:=by simp
 have s3:(((w.alloc (.cells #[.slice (some ⟨x.ga,0,none⟩) x.b.ac.length x.ca,.slice (some ⟨x.gi,0,none⟩) x.b.ic.length x.ci,.slice (some ⟨x.gb,0,none⟩) x.b.bs.length x.cb,.slice (some ⟨x.gl,0,none⟩) x.b.ls.length x.cl,.slice (some ⟨x.gt,0,none⟩) x.b.ts.length x.ct,.int .i64 x.b.lot] 44)).alloc (.cells #[.int .i64 k,.slice (some ⟨g,0,none⟩) n cap] 26)).alloc (.cells #[.slice none 0 0,.slice none 0 0,.slice none 0 0,.slice none 0 0,.slice none 0 0,.int .i64 0] 44)).heap.size=w.heap.size+1+1+1:=by simp
 have s4:((((w.alloc (.cells #[.slice (some ⟨x.ga,0,none⟩) x.b.ac.length x.ca,.slice (some ⟨x.gi,0,none⟩) x.b.ic.length x.ci,.slice (some ⟨x.gb,0,none⟩) x.b.bs.length x.cb,.slice (some ⟨x.gl,0,none⟩) x.b.ls.length x.cl,.slice (some ⟨x.gt,0,none⟩) x.b.ts.length x.ct,.int .i64 x.b.lot] 44)).alloc (.cells #[.int .i64 k,.slice (some ⟨g,0,none⟩) n cap] 26)).alloc (.cells #[.slice none 0 0,.slice none 0 0,.slice none 0 0,.slice none 0 0,.slice none 0 0,.int .i64 0] 44)).alloc (.cells #[.int .i64 0,.int .i64 0] 75)).heap.size=w.heap.size+1+1+1+1:=by simp
 have s5:(((((w.alloc (.cells #[.slice (some ⟨x.ga,0,none⟩) x.b.ac.length x.ca,.slice (some ⟨x.gi,0,none⟩) x.b.ic.length x.ci,.slice (some ⟨x.gb,0,none⟩) x.b.bs.length x.cb,.slice (some ⟨x.gl,0,none⟩) x.b.ls.length x.cl,.slice (some ⟨x.gt,0,none⟩) x.b.ts.length x.ct,.int .i64 x.b.lot] 44)).alloc (.cells #[.int .i64 k,.slice (some ⟨g,0,none⟩) n cap] 26)).alloc (.cells #[.slice none 0 0,.slice none 0 0,.slice none 0 0,.slice none 0 0,.slice none 0 0,.int .i64 0] 44)).alloc (.cells #[.int .i64 0,.int .i64 0] 75)).alloc (.cells #[.slice none 0 0,.slice none 0 0,.slice none 0 0,.slice none 0 0,.slice none 0 0,.int .i64 0] 44)).heap.size=w.heap.size+1+1+1+1+1:=by simp
 have c2:=cmd_at (w.alloc (.cells #[.slice (some ⟨x.ga,0,none⟩) x.b.ac.length x.ca,.slice (some ⟨x.gi,0,none⟩) x.b.ic.length x.ci,.slice (some ⟨x.gb,0,none⟩) x.b.bs.length x.cb,.slice (some ⟨x.gl,0,none⟩) x.b.ls.length x.cl,.slice (some ⟨x.gt,0,none⟩) x.b.ts.length x.ct,.int .i64 x.b.lot] 44)) (.int .i64 k) (.slice (some ⟨g,0,none⟩) n cap) (w.heap.size+1) s1.symm
 have o4:=Box.made (w:=((w.alloc (.cells #[.slice (some ⟨x.ga,0,none⟩) x.b.ac.length x.ca,.slice (some ⟨x.gi,0,none⟩) x.b.ic.length x.ci,.slice (some ⟨x.gb,0,none⟩) x.b.bs.length x.cb,.slice (some ⟨x.gl,0,none⟩) x.b.ls.length x.cl,.slice (some ⟨x.gt,0,none⟩) x.b.ts.length x.ct,.int .i64 x.b.lot] 44)).alloc (.cells #[.int .i64 k,.slice (some ⟨g,0,none⟩) n cap] 26))) (base:=w.heap.size) (g:=w.heap.size+1+1) (.slice none 0 0) (.slice none 0 0) (.slice none 0 0) (.slice none 0 0) (.slice none 0 0) (.int .i64 0) (by omega) s2.symm
 have o5:=R2.made (w:=(((w.alloc (.cells #[.slice (some ⟨x.ga,0,none⟩) x.b.ac.length x.ca,.slice (some ⟨x.gi,0,none⟩) x.b.ic.length x.ci,.slice (some ⟨x.gb,0,none⟩) x.b.bs.length x.cb,.slice (some ⟨x.gl,0,none⟩) x.b.ls.length x.cl,.slice (some ⟨x.gt,0,none⟩) x.b.ts.length x.ct,.int .i64 x.b.lot] 44)).alloc (.cells #[.int .i64 k,.slice (some ⟨g,0,none⟩) n cap] 26)).alloc (.cells #[.slice none 0 0,.slice none 0 0,.slice none 0 0,.slice none 0 0,.slice none 0 0,.int .i64 0] 44))) (base:=w.heap.size) (g:=w.heap.size+1+1+1) (.int .i64 0) (.int .i64 0) (by omega) s3.symm
 have o6:=Box.made (w:=((((w.alloc (.cells #[.slice (some ⟨x.ga,0,none⟩) x.b.ac.length x.ca,.slice (some ⟨x.gi,0,none⟩) x.b.ic.length x.ci,.slice (some ⟨x.gb,0,none⟩) x.b.bs.length x.cb,.slice (some ⟨x.gl,0,none⟩) x.b.ls.length x.cl,.slice (some ⟨x.gt,0,none⟩) x.b.ts.length x.ct,.int .i64 x.b.lot] 44)).alloc (.cells #[.int .i64 k,.slice (some ⟨g,0,none⟩) n cap] 26)).alloc (.cells #[.slice none 0 0,.slice none 0 0,.slice none 0 0,.slice none 0 0,.slice none 0 0,.int .i64 0] 44)).alloc (.cells #[.int .i64 0,.int .i64 0] 75))) (base:=w.heap.size) (g:=w.heap.size+1+1+1+1) (.slice none 0 0) (.slice none 0 0) (.slice none 0 0) (.slice none 0 0) (.slice none 0 0) (.int .i64 0) (by omega) s4.symm
 have q45:Below (w.heap.size+1+1+1+1) ((((w.alloc (.cells #[.slice (some ⟨x.ga,0,none⟩) x.b.ac.length x.ca,.slice (some ⟨x.gi,0,none⟩) x.b.ic.length x.ci,.slice (some ⟨x.gb,0,none⟩) x.b.bs.length x.cb,.slice (some ⟨x.gl,0,none⟩) x.b.ls.length x.cl,.slice (some ⟨x.gt,0,none⟩) x.b.ts.length x.ct,.int .i64 x.b.lot] 44)).alloc (.cells #[.int .i64 k,.slice (some ⟨g,0,none⟩) n cap] 26)).alloc (.cells #[.slice none 0 0,.slice none 0 0,.slice none 0 0,.slice none 0 0,.slice none 0 0,.int .i64 0] 44)).alloc (.cells #[.int .i64 0,.int .i64 0] 75)) (((((w.alloc (.cells #[.slice (some ⟨x.ga,0,none⟩) x.b.ac.length x.ca,.slice (some ⟨x.gi,0,none⟩) x.b.ic.length x.ci,.slice (some ⟨x.gb,0,none⟩) x.b.bs.length x.cb,.slice (some ⟨x.gl,0,none⟩) x.b.ls.length x.cl,.slice (some ⟨x.gt,0,none⟩) x.b.ts.length x.ct,.int .i64 x.b.lot] 44)).alloc (.cells #[.int .i64 k,.slice (some ⟨g,0,none⟩) n cap] 26)).alloc (.cells #[.slice none 0 0,.slice none 0 0,.slice none 0 0,.slice none 0 0,.slice none 0 0,.int .i64 0] 44)).alloc (.cells #[.int .i64 0,.int .i64 0] 75)).alloc (.cells #[.slice none 0 0,.slice none 0 0,.slice none 0 0,.slice none 0 0,.slice none 0 0,.int .i64 0] 44)):=(one_more _ _).mono (by omega)
 have q35:Below (w.heap.size+1+1+1) (((w.alloc (.cells #[.slice (some ⟨x.ga,0,none⟩) x.b.ac.length x.ca,.slice (some ⟨x.gi,0,none⟩) x.b.ic.length x.ci,.slice (some ⟨x.gb,0,none⟩) x.b.bs.length x.cb,.slice (some ⟨x.gl,0,none⟩) x.b.ls.length x.cl,.slice (some ⟨x.gt,0,none⟩) x.b.ts.length x.ct,.int .i64 x.b.lot] 44)).alloc (.cells #[.int .i64 k,.slice (some ⟨g,0,none⟩) n cap] 26)).alloc (.cells #[.slice none 0 0,.slice none 0 0,.slice none 0 0,.slice none 0 0,.slice none 0 0,.int .i64 0] 44)) (((((w.alloc (.cells #[.slice (some ⟨x.ga,0,none⟩) x.b.ac.length x.ca,.slice (some ⟨x.gi,0,none⟩) x.b.ic.length x.ci,.slice (some ⟨x.gb,0,none⟩) x.b.bs.length x.cb,.slice (some ⟨x.gl,0,none⟩) x.b.ls.length x.cl,.slice (some ⟨x.gt,0,none⟩) x.b.ts.length x.ct,.int .i64 x.b.lot] 44)).alloc (.cells #[.int .i64 k,.slice (some ⟨g,0,none⟩) n cap] 26)).alloc (.cells #[.slice none 0 0,.slice none 0 0,.slice none 0 0,.slice none 0 0,.slice none 0 0,.int .i64 0] 44)).alloc (.cells #[.int .i64 0,.int .i64 0] 75)).alloc (.cells #[.slice none 0 0,.slice none 0 0,.slice none 0 0,.slice none 0 0,.slice none 0 0,.int .i64 0] 44)):=((one_more _ _).mono (by omega)).trans (q45.mono (by omega))
 have q25:Below (w.heap.size+1+1) ((w.alloc (.cells #[.slice (some ⟨x.ga,0,none⟩) x.b.ac.length x.ca,.slice (some ⟨x.gi,0,none⟩) x.b.ic.length x.ci,.slice (some ⟨x.gb,0,none⟩) x.b.bs.length x.cb,.slice (some ⟨x.gl,0,none⟩) x.b.ls.length x.cl,.slice (some ⟨x.gt,0,none⟩) x.b.ts.length x.ct,.int .i64 x.b.lot] 44)).alloc (.cells #[.int .i64 k,.slice (some ⟨g,0,none⟩) n cap] 26)) (((((w.alloc (.cells #[.slice (some ⟨x.ga,0,none⟩) x.b.ac.length x.ca,.slice (some ⟨x.gi,0,none⟩) x.b.ic.length x.ci,.slice (some ⟨x.gb,0,none⟩) x.b.bs.length x.cb,.slice (some ⟨x.gl,0,none⟩) x.b.ls.length x.cl,.slice (some ⟨x.gt,0,none⟩) x.b.ts.length x.ct,.int .i64 x.b.lot] 44)).alloc (.cells #[.int .i64 k,.slice (some ⟨g,0,none⟩) n cap] 26)).alloc (.cells #[.slice none 0 0,.slice none 0 0,.slice none 0 0,.slice none 0 0,.slice none 0 0,.int .i64 0] 44)).alloc (.cells #[.int .i64 0,.int .i64 0] 75)).alloc (.cells #[.slice none 0 0,.slice none 0 0,.slice none 0 0,.slice none 0 0,.slice none 0 0,.int .i64 0] 44)):=((one_more _ _).mono (by omega)).trans (q35.mono (by omega))
 have q15:Below (w.heap.size+1) (w.alloc (.cells #[.slice (some ⟨x.ga,0,none⟩) x.b.ac.length x.ca,.slice (some ⟨x.gi,0,none⟩) x.b.ic.length x.ci,.slice (some ⟨x.gb,0,none⟩) x.b.bs.length x.cb,.slice (some ⟨x.gl,0,none⟩) x.b.ls.length x.cl,.slice (some ⟨x.gt,0,none⟩) x.b.ts.length x.ct,.int .i64 x.b.lot] 44)) (((((w.alloc (.cells #[.slice (some ⟨x.ga,0,none⟩) x.b.ac.length x.ca,.slice (some ⟨x.gi,0,none⟩) x.b.ic.length x.ci,.slice (some ⟨x.gb,0,none⟩) x.b.bs.length x.cb,.slice (some ⟨x.gl,0,none⟩) x.b.ls.length x.cl,.slice (some ⟨x.gt,0,none⟩) x.b.ts.length x.ct,.int .i64 x.b.lot] 44)).alloc (.cells #[.int .i64 k,.slice (some ⟨g,0,none⟩) n cap] 26)).alloc (.cells #[.slice none 0 0,.slice none 0 0,.slice none 0 0,.slice none 0 0,.slice none 0 0,.int .i64 0] 44)).alloc (.cells #[.int .i64 0,.int .i64 0] 75)).alloc (.cells #[.slice none 0 0,.slice none 0 0,.slice none 0 0,.slice none 0 0,.slice none 0 0,.int .i64 0] 44)):=((one_more _ _).mono (by omega)).trans (q25.mono (by omega))
 have q05:Below w.heap.size w (((((w.alloc (.cells #[.slice (some ⟨x.ga,0,none⟩) x.b.ac.length x.ca,.slice (some ⟨x.gi,0,none⟩) x.b.ic.length x.ci,.slice (some ⟨x.gb,0,none⟩) x.b.bs.length x.cb,.slice (some ⟨x.gl,0,none⟩) x.b.ls.length x.cl,.slice (some ⟨x.gt,0,none⟩) x.b.ts.length x.ct,.int .i64 x.b.lot] 44)).alloc (.cells #[.int .i64 k,.slice (some ⟨g,0,none⟩) n cap] 26)).alloc (.cells #[.slice none 0 0,.slice none 0 0,.slice none 0 0,.slice none 0 0,.slice none 0 0,.int .i64 0] 44)).alloc (.cells #[.int .i64 0,.int .i64 0] 75)).alloc (.cells #[.slice none 0 0,.slice none 0 0,.slice none 0 0,.slice none 0 0,.slice none 0 0,.int .i64 0] 44)):=(one_more _ _).trans (q15.mono (by omega))
 exact⟨hr,(boxed w x 44).below q15 (by omega),⟨(q25.cell (p:=⟨w.heap.size+1,0,none⟩) (by show w.heap.size+1<_;omega)).trans c2.1,(q25.cell (p:=⟨w.heap.size+1,1,none⟩) (by show w.heap.size+1<_;omega)).trans c2.2⟩,ha.below q05 hg,hg,o4.below q35 (by omega),o5.below q45 (by omega),o6,q05,by omega⟩
theorem Cp.step{w W W':World}{x:Bx}{k:Int}{g n cap:Nat}{xs:List Int}{u0 u1 u2 u3 u4 u5:Value}(h:Cp w W x k g n cap xs u0 u1 u2 u3 u4 u5)(q:Below W.heap.size W W'):Cp w W' x k g n cap xs u0 u1 u2 u3 u4 u5:=by
 have s:=h.s
 have l:=h.lg
 exact⟨h.r0,h.c.below q (by omega),⟨(q.cell (p:=⟨w.heap.size+1,0,none⟩) (by show w.heap.size+1<_;omega)).trans h.m.1,(q.cell (p:=⟨w.heap.size+1,1,none⟩) (by show w.heap.size+1<_;omega)).trans h.m.2⟩,h.a.below q l,h.l,h.o4.below q (by omega),h.o5.below q (by omega),h.o6.below q (by omega),h.b.trans (q.mono h.b.size),Nat.le_trans s q.size⟩
theorem Cp.next{w W W':World}{x:Bx}{k c:Int}{g n cap:Nat}{xs:List Int}{u0 u1 u2 u3 u4 u5:Value}{y:BHelp.Ix}(h:Cp w W x k g n cap xs u0 u1 u2 u3 u4 u5)(q:Wk W W' c y):Cp w W' x k g n cap xs u0 u1 u2 u3 u4 u5:=h.step q.1
theorem Cp.stored{w W:World}{x:Bx}{k:Int}{g n cap:Nat}{xs:List Int}{v0 v1 v2 v3 v4 v5:Value}(h:Cp w W x k g n cap xs v0 v1 v2 v3 v4 v5)(u0 u1 u2 u3 u4 u5:Value):Cp w ((((((W.setCell ⟨w.heap.size+1+1+1+1,0,none⟩ u0).setCell ⟨w.heap.size+1+1+1+1,1,none⟩ u1).setCell ⟨w.heap.size+1+1+1+1,2,none⟩ u2).setCell ⟨w.heap.size+1+1+1+1,3,none⟩ u3).setCell ⟨w.heap.size+1+1+1+1,4,none⟩ u4).setCell ⟨w.heap.size+1+1+1+1,5,none⟩ u5) x k g n cap xs u0 u1 u2 u3 u4 u5:=by
 obtain⟨o,q⟩:=box_six h.o6 u0 u1 u2 u3 u4 u5
 have s:=h.s
 have l:=h.l
 have ne:∀i,i≠w.heap.size+1+1+1+1→some i≠some (w.heap.size+1+1+1+1):=fun i hi e=>hi (by injection e)
 have bb:Below (w.heap.size+1+1+1+1) W ((((((W.setCell ⟨w.heap.size+1+1+1+1,0,none⟩ u0).setCell ⟨w.heap.size+1+1+1+1,1,none⟩ u1).setCell ⟨w.heap.size+1+1+1+1,2,none⟩ u2).setCell ⟨w.heap.size+1+1+1+1,3,none⟩ u3).setCell ⟨w.heap.size+1+1+1+1,4,none⟩ u4).setCell ⟨w.heap.size+1+1+1+1,5,none⟩ u5):=(Below.refl _ W).grown q (by omega) (fun j e=>by cases e;exact Nat.le_refl _)
 exact⟨h.r0,h.c.below bb (by omega),⟨(bb.cell (p:=⟨w.heap.size+1,0,none⟩) (by show w.heap.size+1<_;omega)).trans h.m.1,(bb.cell (p:=⟨w.heap.size+1,1,none⟩) (by show w.heap.size+1<_;omega)).trans h.m.2⟩,h.a.below bb (by omega),l,h.o4.below bb (by omega),h.o5.below bb (by omega),o,h.b.grown q h.b.size (fun j e=>by cases e;omega),Nat.le_trans s q.size⟩
def Wz(W:World)(N:Nat)(c:Int)(y:BHelp.Ix):Prop:=c=1∨∃z:Bx,y=ofB z∧Ow W N z∧Small z.b
theorem wk_stored{w W u:World}{x:Bx}{k c:Int}{g n cap:Nat}{xs:List Int}{u0 u1 u2 u3 u4 u5 z0 z1 z2 z3 z4 z5:Value}{y:BHelp.Ix}(h:Cp w W x k g n cap xs u0 u1 u2 u3 u4 u5)(q:Wk W u c y)(o:Box u w.heap.size (w.heap.size+1+1+1+1) z0 z1 z2 z3 z4 z5):Wz ((((((u.setCell ⟨w.heap.size+1+1+1+1,0,none⟩ (.slice y.aa y.b.ac.length y.ca)).setCell ⟨w.heap.size+1+1+1+1,1,none⟩ (.slice y.ai y.b.ic.length y.ci)).setCell ⟨w.heap.size+1+1+1+1,2,none⟩ (.slice y.ab y.b.bs.length y.cb)).setCell ⟨w.heap.size+1+1+1+1,3,none⟩ (.slice y.al y.b.ls.length y.cl)).setCell ⟨w.heap.size+1+1+1+1,4,none⟩ (.slice y.ats y.b.ts.length y.ct)).setCell ⟨w.heap.size+1+1+1+1,5,none⟩ (.int .i64 y.b.lot)) W.heap.size c y:=by
 rcases q.2 with e|⟨z,e,ow,sm⟩
 ·exact .inl e
 ·exact .inr ⟨z,e,ow.kept (box_six o (.slice y.aa y.b.ac.length y.ca) (.slice y.ai y.b.ic.length y.ci) (.slice y.ab y.b.bs.length y.cb) (.slice y.al y.b.ls.length y.cl) (.slice y.ats y.b.ts.length y.ct) (.int .i64 y.b.lot)).2 (fun g' e=>by cases e;have:=h.s;omega),sm⟩
def Ap(w:World)(e:Ending)(w':World):Prop:=
 ∃y c t,e= .returned (.tuple #[.agg #[.slice y.aa y.b.ac.length y.ca,.slice y.ai y.b.ic.length y.ci,.slice y.ab y.b.bs.length y.cb,.slice y.al y.b.ls.length y.cl,.slice y.ats y.b.ts.length y.ct,.int .i64 y.b.lot],.agg #[.int .i64 c,.int .i64 t]])∧Below w.heap.size w w'∧(c≠0∨∃z:Bx,y=ofB z∧Ow w' w.heap.size z∧Small z.b)
theorem Cp.fin{w W:World}{x:Bx}{k:Int}{g n cap N:Nat}{xs:List Int}{u0 u1 u2 u3 u4 u5:Value}(h:Cp w W x k g n cap xs u0 u1 u2 u3 u4 u5)(hN:w.heap.size+1+1+1+1+1≤N)(y:BHelp.Ix):
  Box W w.heap.size (w.heap.size+1+1) (.slice none 0 0) (.slice none 0 0) (.slice none 0 0) (.slice none 0 0) (.slice none 0 0) (.int .i64 0)∧R2 ((((((W.setCell ⟨w.heap.size+1+1,0,none⟩ (.slice y.aa y.b.ac.length y.ca)).setCell ⟨w.heap.size+1+1,1,none⟩ (.slice y.ai y.b.ic.length y.ci)).setCell ⟨w.heap.size+1+1,2,none⟩ (.slice y.ab y.b.bs.length y.cb)).setCell ⟨w.heap.size+1+1,3,none⟩ (.slice y.al y.b.ls.length y.cl)).setCell ⟨w.heap.size+1+1,4,none⟩ (.slice y.ats y.b.ts.length y.ct)).setCell ⟨w.heap.size+1+1,5,none⟩ (.int .i64 y.b.lot)) w.heap.size (w.heap.size+1+1+1) (.int .i64 0) (.int .i64 0)∧
  (∀c t:Int,Box ((((((((W.setCell ⟨w.heap.size+1+1,0,none⟩ (.slice y.aa y.b.ac.length y.ca)).setCell ⟨w.heap.size+1+1,1,none⟩ (.slice y.ai y.b.ic.length y.ci)).setCell ⟨w.heap.size+1+1,2,none⟩ (.slice y.ab y.b.bs.length y.cb)).setCell ⟨w.heap.size+1+1,3,none⟩ (.slice y.al y.b.ls.length y.cl)).setCell ⟨w.heap.size+1+1,4,none⟩ (.slice y.ats y.b.ts.length y.ct)).setCell ⟨w.heap.size+1+1,5,none⟩ (.int .i64 y.b.lot)).setCell ⟨w.heap.size+1+1+1,0,none⟩ (.int .i64 c)).setCell ⟨w.heap.size+1+1+1,1,none⟩ (.int .i64 t)) w.heap.size (w.heap.size+1+1) (.slice y.aa y.b.ac.length y.ca) (.slice y.ai y.b.ic.length y.ci) (.slice y.ab y.b.bs.length y.cb) (.slice y.al y.b.ls.length y.cl) (.slice y.ats y.b.ts.length y.ct) (.int .i64 y.b.lot)∧R2 ((((((((W.setCell ⟨w.heap.size+1+1,0,none⟩ (.slice y.aa y.b.ac.length y.ca)).setCell ⟨w.heap.size+1+1,1,none⟩ (.slice y.ai y.b.ic.length y.ci)).setCell ⟨w.heap.size+1+1,2,none⟩ (.slice y.ab y.b.bs.length y.cb)).setCell ⟨w.heap.size+1+1,3,none⟩ (.slice y.al y.b.ls.length y.cl)).setCell ⟨w.heap.size+1+1,4,none⟩ (.slice y.ats y.b.ts.length y.ct)).setCell ⟨w.heap.size+1+1,5,none⟩ (.int .i64 y.b.lot)).setCell ⟨w.heap.size+1+1+1,0,none⟩ (.int .i64 c)).setCell ⟨w.heap.size+1+1+1,1,none⟩ (.int .i64 t)) w.heap.size (w.heap.size+1+1+1) (.int .i64 c) (.int .i64 t)∧Below w.heap.size w ((((((((W.setCell ⟨w.heap.size+1+1,0,none⟩ (.slice y.aa y.b.ac.length y.ca)).setCell ⟨w.heap.size+1+1,1,none⟩ (.slice y.ai y.b.ic.length y.ci)).setCell ⟨w.heap.size+1+1,2,none⟩ (.slice y.ab y.b.bs.length y.cb)).setCell ⟨w.heap.size+1+1,3,none⟩ (.slice y.al y.b.ls.length y.cl)).setCell ⟨w.heap.size+1+1,4,none⟩ (.slice y.ats y.b.ts.length y.ct)).setCell ⟨w.heap.size+1+1,5,none⟩ (.int .i64 y.b.lot)).setCell ⟨w.heap.size+1+1+1,0,none⟩ (.int .i64 c)).setCell ⟨w.heap.size+1+1+1,1,none⟩ (.int .i64 t)))∧
  (∀c t:Int,Wz W N c y→c=0→∃z:Bx,y=ofB z∧Ow ((((((((W.setCell ⟨w.heap.size+1+1,0,none⟩ (.slice y.aa y.b.ac.length y.ca)).setCell ⟨w.heap.size+1+1,1,none⟩ (.slice y.ai y.b.ic.length y.ci)).setCell ⟨w.heap.size+1+1,2,none⟩ (.slice y.ab y.b.bs.length y.cb)).setCell ⟨w.heap.size+1+1,3,none⟩ (.slice y.al y.b.ls.length y.cl)).setCell ⟨w.heap.size+1+1,4,none⟩ (.slice y.ats y.b.ts.length y.ct)).setCell ⟨w.heap.size+1+1,5,none⟩ (.int .i64 y.b.lot)).setCell ⟨w.heap.size+1+1+1,0,none⟩ (.int .i64 c)).setCell ⟨w.heap.size+1+1+1,1,none⟩ (.int .i64 t)) w.heap.size z∧Small z.b):=by
 obtain⟨o,q⟩:=box_six h.o4 (.slice y.aa y.b.ac.length y.ca) (.slice y.ai y.b.ic.length y.ci) (.slice y.ab y.b.bs.length y.cb) (.slice y.al y.b.ls.length y.cl) (.slice y.ats y.b.ts.length y.ct) (.int .i64 y.b.lot)
 have s:=h.s
 have o5:R2 ((((((W.setCell ⟨w.heap.size+1+1,0,none⟩ (.slice y.aa y.b.ac.length y.ca)).setCell ⟨w.heap.size+1+1,1,none⟩ (.slice y.ai y.b.ic.length y.ci)).setCell ⟨w.heap.size+1+1,2,none⟩ (.slice y.ab y.b.bs.length y.cb)).setCell ⟨w.heap.size+1+1,3,none⟩ (.slice y.al y.b.ls.length y.cl)).setCell ⟨w.heap.size+1+1,4,none⟩ (.slice y.ats y.b.ts.length y.ct)).setCell ⟨w.heap.size+1+1,5,none⟩ (.int .i64 y.b.lot)) w.heap.size (w.heap.size+1+1+1) (.int .i64 0) (.int .i64 0):=h.o5.kept q (by simp)
 have b1:Below w.heap.size w ((((((W.setCell ⟨w.heap.size+1+1,0,none⟩ (.slice y.aa y.b.ac.length y.ca)).setCell ⟨w.heap.size+1+1,1,none⟩ (.slice y.ai y.b.ic.length y.ci)).setCell ⟨w.heap.size+1+1,2,none⟩ (.slice y.ab y.b.bs.length y.cb)).setCell ⟨w.heap.size+1+1,3,none⟩ (.slice y.al y.b.ls.length y.cl)).setCell ⟨w.heap.size+1+1,4,none⟩ (.slice y.ats y.b.ts.length y.ct)).setCell ⟨w.heap.size+1+1,5,none⟩ (.int .i64 y.b.lot)):=h.b.grown q h.b.size (fun j e=>by cases e;omega)
 refine⟨h.o4,o5,fun c t=>?_,fun c t hz hc=>?_⟩
 ·obtain⟨p1,q1⟩:=o5.set0 (.int .i64 c)
  obtain⟨p2,q2⟩:=p1.set1 (.int .i64 t)
  exact⟨(o.kept q1 (by simp)).kept q2 (by simp),p2,(b1.setCell (p:=⟨w.heap.size+1+1+1,0,none⟩) (by show w.heap.size≤w.heap.size+1+1+1;omega) _).setCell (p:=⟨w.heap.size+1+1+1,1,none⟩) (by show w.heap.size≤w.heap.size+1+1+1;omega) _⟩
 ·rcases hz with e|⟨z,e,ow,sm⟩
  ·omega
  ·obtain⟨p1,q1⟩:=o5.set0 (.int .i64 c)
   obtain⟨p2,q2⟩:=p1.set1 (.int .i64 t)
   exact⟨z,e,(((ow.kept q (fun g' e=>by cases e;omega)).kept q1 (fun g' e=>by cases e;omega)).kept q2 (fun g' e=>by cases e;omega)).rebase (by omega),sm⟩
section
variable {P:Program} {ops:Array Oper} {Q:Exit→Act→World→Prop} {md:Region.Mode} {S:World→Prop} {fuel:Nat} {listed:Array Bool} {a:Act} {w:World}
theorem tk(i:Nat){oi:Oper}(v:Value)(hi:ops[i]?=some oi)(hb:(Region.noSelect ops&&(Region.free md ops listed i&&(Region.ready md ops listed).contains i))=true)(hQ:∀c a w,Q (.panic c) (a.put oi.dst v) w→Q (.panic c) a w)(hw:Region.wanted oi (yielded ops a.tmps)=true)(hS:S w)(hy:∀w,S w→(execOp a.eval oi).run P w= .ok (.value v) w)(h:wpAnyH P md ops Q S fuel (listed.setIfInBounds i true) (a.put oi.dst v) w):wpAnyH P md ops Q S (fuel+1) listed a w:=by
 rw[Bool.and_eq_true,Bool.and_eq_true] at hb
 exact wpAnyH_take hi hb.1 hb.2.1 hb.2.2 hQ (.inl ⟨hw,hy⟩) hS h
end
theorem zA{α:Type}(l:List α)(i:Nat)(x:α):l.toArray.setIfInBounds i x=(l.set i x).toArray:=List.setIfInBounds_toArray ..
theorem zB{α:Type}(x y:α)(l:List α):(x::l).set 0 y=y::l:=rfl
theorem zC{α:Type}(x y:α)(l:List α)(n:Nat):(x::l).set (n+1) y=x::l.set n y:=rfl
theorem k1(w:World)(x:Bx)(g cap:Nat)(y0 y1:Int)(hr:Rd w x)(hg:g<w.heap.size)(ha:Ints.At w g [y0,y1])(ok:Ok x.b)(cok:CmOk 1 [y0,y1]):
  Calls Tryz.prog 32 #[.agg #[.slice (some ⟨x.ga,0,none⟩) x.b.ac.length x.ca,.slice (some ⟨x.gi,0,none⟩) x.b.ic.length x.ci,.slice (some ⟨x.gb,0,none⟩) x.b.bs.length x.cb,.slice (some ⟨x.gl,0,none⟩) x.b.ls.length x.cl,.slice (some ⟨x.gt,0,none⟩) x.b.ts.length x.ct,.int .i64 x.b.lot],.agg #[.int .i64 1,.slice (some ⟨g,0,none⟩) 2 cap]] w (Ap w):=by
 have A0:=zh (Cp.start (k:=1) (n:=2) (cap:=cap) hr hg ha)
 obtain⟨b1,hb1⟩:=says_of (Ok x.b)
 obtain rfl:b1=true:=hb1.of ok
 obtain⟨b2,hb2⟩:=says_of (CmOk 1 [y0,y1])
 obtain rfl:b2=true:=hb2.of cok
 have HB1:=zh hb1
 have HB2:=zh hb2
 clear hb1 hb2 ok cok hr ha
 obtain⟨c0,c1,c2,c3,c4,c5⟩:=(zu A0).c
 go_enter Tryz.func32,Tryz.ntmps32
 go_wp2_with fail
 refine(SBooksOk.sBooksOk _ x true (zu A0).r (zu HB1)).mono ?_
 rintro e u0 ⟨rfl,bb⟩
 have A9:=zh ((zu A0).step bb)
 clear bb A0 c0 c1 c2 c3 c4 c5
 obtain⟨m0,m1⟩:=(zu A9).m
 go_wp2_with fail
 refine(SCmd.sCmdOk _ 1 g cap [y0,y1] true (by simp) (zu A9).lg (zu A9).a (zu HB2)).mono ?_
 rintro e u1 ⟨rfl,bb⟩
 have A1:=zh ((zu A9).step bb)
 clear bb A9 m0 m1
 obtain⟨m0,m1⟩:=(zu A1).m
 have AD:=zh ((zu A1).step ((Below.refl _ _).drew))
 have KS:=(And.intro (zu AD).c.c0 (And.intro (zu AD).c.c1 (And.intro (zu AD).c.c2 (And.intro (zu AD).c.c3 (And.intro (zu AD).c.c4 (And.intro (zu AD).c.c5 (And.intro ((zu AD).a 0 (by simp)) ((zu AD).a 1 (by simp)))))))))
 go_wp2_with fail
 refine wp_region_held_drew (S:=(fun w'=>w'.cell? ⟨w.heap.size,0,none⟩=some (.slice (some ⟨x.ga,0,none⟩) x.b.ac.length x.ca)∧w'.cell? ⟨w.heap.size,1,none⟩=some (.slice (some ⟨x.gi,0,none⟩) x.b.ic.length x.ci)∧w'.cell? ⟨w.heap.size,2,none⟩=some (.slice (some ⟨x.gb,0,none⟩) x.b.bs.length x.cb)∧w'.cell? ⟨w.heap.size,3,none⟩=some (.slice (some ⟨x.gl,0,none⟩) x.b.ls.length x.cl)∧w'.cell? ⟨w.heap.size,4,none⟩=some (.slice (some ⟨x.gt,0,none⟩) x.b.ts.length x.ct)∧w'.cell? ⟨w.heap.size,5,none⟩=some (.int .i64 x.b.lot)∧w'.cell? ⟨g,0,none⟩=some (.int .i64 y0)∧w'.cell? ⟨g,1,none⟩=some (.int .i64 y1))) (by kernel_rfl) KS (fun hHeld=>?_)
 refine tk 0 (.agg #[.slice (some ⟨x.ga,0,none⟩) x.b.ac.length x.ca,.slice (some ⟨x.gi,0,none⟩) x.b.ic.length x.ci,.slice (some ⟨x.gb,0,none⟩) x.b.bs.length x.cb,.slice (some ⟨x.gl,0,none⟩) x.b.ls.length x.cl,.slice (some ⟨x.gt,0,none⟩) x.b.ts.length x.ct,.int .i64 x.b.lot]) rfl (by kernel_rfl) (fun _ _ _ h=>h) (by rfl) hHeld (fun w hSw=>by go_simp) ?_
 refine tk 1 (.slice (some ⟨g,0,none⟩) 2 cap) rfl (by kernel_rfl) (fun _ _ _ h=>h) (by rfl) hHeld (fun w hSw=>by go_simp) ?_
 refine tk 2 (.pointer (some ⟨g,0,none⟩)) rfl (by kernel_rfl) (fun _ _ _ h=>h) (by rfl) hHeld (fun w hSw=>by go_simp) ?_
 refine tk 3 (.int .i64 y0) rfl (by kernel_rfl) (fun _ _ _ h=>h) (by rfl) hHeld (fun w hSw=>by go_simp) ?_
 refine tk 4 (.slice (some ⟨g,0,none⟩) 2 cap) rfl (by kernel_rfl) (fun _ _ _ h=>h) (by rfl) hHeld (fun w hSw=>by go_simp) ?_
 refine tk 5 (.pointer (some ⟨g,1,none⟩)) rfl (by kernel_rfl) (fun _ _ _ h=>h) (by rfl) hHeld (fun w hSw=>by go_simp) ?_
 refine tk 6 (.int .i64 y1) rfl (by kernel_rfl) (fun _ _ _ h=>h) (by rfl) hHeld (fun w hSw=>by go_simp) ?_
 try simp only[Act.put,zA,zB,zC]
 refine wpAnyH_ready (rs:=[7]) (by kernel_rfl) (by simp) ?_
 refine AllReadyH.cons rfl (fun K hK=>?_) AllReadyH.nil
 go_simp
 go_wp2_with fail
 refine(wAccount _ x y0 y1 (zu AD).r).mono ?_
 rintro e u2 ⟨y,c,rfl,hk⟩
 have A2:=zh ((zu AD).next hk)
 have KT:=(And.intro (zu A2).c.c0 (And.intro (zu A2).c.c1 (And.intro (zu A2).c.c2 (And.intro (zu A2).c.c3 (And.intro (zu A2).c.c4 (And.intro (zu A2).c.c5 (And.intro ((zu A2).a 0 (by simp)) ((zu A2).a 1 (by simp)))))))))
 have HK:=zh hk
 clear hk
 go_wp2_with fail
 refine hK.out _ _ KT (fun hHeld=>?_)
 clear hK K
 try simp only[Act.put,zA,zB,zC]
 refine tk 8 (.tuple #[.agg #[.slice y.aa y.b.ac.length y.ca,.slice y.ai y.b.ic.length y.ci,.slice y.ab y.b.bs.length y.cb,.slice y.al y.b.ls.length y.cl,.slice y.ats y.b.ts.length y.ct,.int .i64 y.b.lot],.int .i64 c]) rfl (by kernel_rfl) (fun _ _ _ h=>h) (by rfl) hHeld (fun w hSw=>by go_simp) ?_
 refine tk 9 (.agg #[.slice y.aa y.b.ac.length y.ca,.slice y.ai y.b.ic.length y.ci,.slice y.ab y.b.bs.length y.cb,.slice y.al y.b.ls.length y.cl,.slice y.ats y.b.ts.length y.ct,.int .i64 y.b.lot]) rfl (by kernel_rfl) (fun _ _ _ h=>h) (by rfl) hHeld (fun w hSw=>by go_simp) ?_
 refine tk 10 (.int .i64 c) rfl (by kernel_rfl) (fun _ _ _ h=>h) (by rfl) hHeld (fun w hSw=>by go_simp) ?_
 obtain⟨f0,f1,f2,f3,f4,f5,d0,d1,d2,d3,d4,d5⟩:=box_opn (zu A2).o6
 try simp only[Act.put,zA,zB,zC]
 refine wpAnyH_ready (rs:=[11]) (by kernel_rfl) (by simp) ?_
 refine AllReadyH.cons rfl (fun K hK=>?_) AllReadyH.nil
 go_simp
 have A3:=zh ((zu A2).stored (.slice y.aa y.b.ac.length y.ca) (.slice y.ai y.b.ic.length y.ci) (.slice y.ab y.b.bs.length y.cb) (.slice y.al y.b.ls.length y.cl) (.slice y.ats y.b.ts.length y.ct) (.int .i64 y.b.lot))
 have KU:=(And.intro (zu A3).c.c0 (And.intro (zu A3).c.c1 (And.intro (zu A3).c.c2 (And.intro (zu A3).c.c3 (And.intro (zu A3).c.c4 (And.intro (zu A3).c.c5 (And.intro ((zu A3).a 0 (by simp)) ((zu A3).a 1 (by simp)))))))))
 have W3:=zh (wk_stored (zu AD) (zu HK) (zu A2).o6)
 clear f0 f1 f2 f3 f4 f5 d0 d1 d2 d3 d4 d5
 refine hK.out _ _ KU (fun hHeld=>?_)
 clear hK K
 try simp only[Act.put,zA,zB,zC]
 refine tk 12 (.int .i64 c) rfl (by kernel_rfl) (fun _ _ _ h=>h) (by rfl) hHeld (fun w hSw=>by go_simp) ?_
 try simp only[Act.put,zA,zB,zC]
 refine wpAnyH_done (by kernel_rfl) ?_ _
 clear KS KT KU m0 m1
 obtain⟨-,-,-,-,-,-,c0,c1,c2,c3,c4,c5⟩:=box_opn (zu A3).o6
 have F:=zh ((zu A3).fin (zu AD).s y)
 obtain⟨g0,g1,g2,g3,g4,g5,h0,h1,h2,h3,h4,h5⟩:=box_opn (zu F).1
 obtain⟨p0,p1,q0,q1⟩:=(zu F).2.1.opn
 by_cases hc:c=0
 ·have cn:(c !=0)=false:=by simp[hc]
  have W4:=zh (show ∃z:Bx,y=ofB z∧Ow _ w.heap.size z∧Small z.b from(zu F).2.2.2 c 0 (zu W3) hc)
  have E:=zh ((zu F).2.2.1 c 0)
  obtain⟨-,-,-,-,-,-,e0,e1,e2,e3,e4,e5⟩:=box_opn (zu E).1
  obtain⟨-,-,s0,s1⟩:=(zu E).2.1.opn
  have HC:=zh hc
  clear hc F
  go_wp2
  refine bodyPost_ret (v:= .tuple #[.agg #[.slice y.aa y.b.ac.length y.ca,.slice y.ai y.b.ic.length y.ci,.slice y.ab y.b.bs.length y.cb,.slice y.al y.b.ls.length y.cl,.slice y.ats y.b.ts.length y.ct,.int .i64 y.b.lot],.agg #[.int .i64 c,.int .i64 0]]) (by simp[results,Tryz.results32,go_sem,e0,e1,e2,e3,e4,e5,s0,s1]) rfl ?_
  exact⟨y,c,0,rfl,(zu E).2.2,.inr (zu W4)⟩
 ·have cn:(c !=0)=true:=by simp[hc]
  have E:=zh ((zu F).2.2.1 c 0)
  obtain⟨-,-,-,-,-,-,e0,e1,e2,e3,e4,e5⟩:=box_opn (zu E).1
  obtain⟨-,-,s0,s1⟩:=(zu E).2.1.opn
  have HC:=zh hc
  clear hc F
  go_wp2
  refine bodyPost_ret (v:= .tuple #[.agg #[.slice y.aa y.b.ac.length y.ca,.slice y.ai y.b.ic.length y.ci,.slice y.ab y.b.bs.length y.cb,.slice y.al y.b.ls.length y.cl,.slice y.ats y.b.ts.length y.ct,.int .i64 y.b.lot],.agg #[.int .i64 c,.int .i64 0]]) (by simp[results,Tryz.results32,go_sem,e0,e1,e2,e3,e4,e5,s0,s1]) rfl ?_
  exact⟨y,c,0,rfl,(zu E).2.2,.inl (zu HC)⟩
theorem k2(w:World)(x:Bx)(g cap:Nat)(y0 y1:Int)(hr:Rd w x)(hg:g<w.heap.size)(ha:Ints.At w g [y0,y1])(ok:Ok x.b)(cok:CmOk 2 [y0,y1]):
  Calls Tryz.prog 32 #[.agg #[.slice (some ⟨x.ga,0,none⟩) x.b.ac.length x.ca,.slice (some ⟨x.gi,0,none⟩) x.b.ic.length x.ci,.slice (some ⟨x.gb,0,none⟩) x.b.bs.length x.cb,.slice (some ⟨x.gl,0,none⟩) x.b.ls.length x.cl,.slice (some ⟨x.gt,0,none⟩) x.b.ts.length x.ct,.int .i64 x.b.lot],.agg #[.int .i64 2,.slice (some ⟨g,0,none⟩) 2 cap]] w (Ap w):=by
 have A0:=zh (Cp.start (k:=2) (n:=2) (cap:=cap) hr hg ha)
 obtain⟨b1,hb1⟩:=says_of (Ok x.b)
 obtain rfl:b1=true:=hb1.of ok
 obtain⟨b2,hb2⟩:=says_of (CmOk 2 [y0,y1])
 obtain rfl:b2=true:=hb2.of cok
 have HB1:=zh hb1
 have HB2:=zh hb2
 clear hb1 hb2 ok cok hr ha
 obtain⟨c0,c1,c2,c3,c4,c5⟩:=(zu A0).c
 go_enter Tryz.func32,Tryz.ntmps32
 go_wp2_with fail
 refine(SBooksOk.sBooksOk _ x true (zu A0).r (zu HB1)).mono ?_
 rintro e u0 ⟨rfl,bb⟩
 have A9:=zh ((zu A0).step bb)
 clear bb A0 c0 c1 c2 c3 c4 c5
 obtain⟨m0,m1⟩:=(zu A9).m
 go_wp2_with fail
 refine(SCmd.sCmdOk _ 2 g cap [y0,y1] true (by simp) (zu A9).lg (zu A9).a (zu HB2)).mono ?_
 rintro e u1 ⟨rfl,bb⟩
 have A1:=zh ((zu A9).step bb)
 clear bb A9 m0 m1
 obtain⟨m0,m1⟩:=(zu A1).m
 have AD:=zh ((zu A1).step ((Below.refl _ _).drew))
 have KS:=(And.intro (zu AD).c.c0 (And.intro (zu AD).c.c1 (And.intro (zu AD).c.c2 (And.intro (zu AD).c.c3 (And.intro (zu AD).c.c4 (And.intro (zu AD).c.c5 (And.intro ((zu AD).a 0 (by simp)) ((zu AD).a 1 (by simp)))))))))
 go_wp2_with fail
 refine wp_region_held_drew (S:=(fun w'=>w'.cell? ⟨w.heap.size,0,none⟩=some (.slice (some ⟨x.ga,0,none⟩) x.b.ac.length x.ca)∧w'.cell? ⟨w.heap.size,1,none⟩=some (.slice (some ⟨x.gi,0,none⟩) x.b.ic.length x.ci)∧w'.cell? ⟨w.heap.size,2,none⟩=some (.slice (some ⟨x.gb,0,none⟩) x.b.bs.length x.cb)∧w'.cell? ⟨w.heap.size,3,none⟩=some (.slice (some ⟨x.gl,0,none⟩) x.b.ls.length x.cl)∧w'.cell? ⟨w.heap.size,4,none⟩=some (.slice (some ⟨x.gt,0,none⟩) x.b.ts.length x.ct)∧w'.cell? ⟨w.heap.size,5,none⟩=some (.int .i64 x.b.lot)∧w'.cell? ⟨g,0,none⟩=some (.int .i64 y0)∧w'.cell? ⟨g,1,none⟩=some (.int .i64 y1))) (by kernel_rfl) KS (fun hHeld=>?_)
 refine tk 0 (.agg #[.slice (some ⟨x.ga,0,none⟩) x.b.ac.length x.ca,.slice (some ⟨x.gi,0,none⟩) x.b.ic.length x.ci,.slice (some ⟨x.gb,0,none⟩) x.b.bs.length x.cb,.slice (some ⟨x.gl,0,none⟩) x.b.ls.length x.cl,.slice (some ⟨x.gt,0,none⟩) x.b.ts.length x.ct,.int .i64 x.b.lot]) rfl (by kernel_rfl) (fun _ _ _ h=>h) (by rfl) hHeld (fun w hSw=>by go_simp) ?_
 refine tk 1 (.slice (some ⟨g,0,none⟩) 2 cap) rfl (by kernel_rfl) (fun _ _ _ h=>h) (by rfl) hHeld (fun w hSw=>by go_simp) ?_
 refine tk 2 (.pointer (some ⟨g,0,none⟩)) rfl (by kernel_rfl) (fun _ _ _ h=>h) (by rfl) hHeld (fun w hSw=>by go_simp) ?_
 refine tk 3 (.int .i64 y0) rfl (by kernel_rfl) (fun _ _ _ h=>h) (by rfl) hHeld (fun w hSw=>by go_simp) ?_
 refine tk 4 (.slice (some ⟨g,0,none⟩) 2 cap) rfl (by kernel_rfl) (fun _ _ _ h=>h) (by rfl) hHeld (fun w hSw=>by go_simp) ?_
 refine tk 5 (.pointer (some ⟨g,1,none⟩)) rfl (by kernel_rfl) (fun _ _ _ h=>h) (by rfl) hHeld (fun w hSw=>by go_simp) ?_
 refine tk 6 (.int .i64 y1) rfl (by kernel_rfl) (fun _ _ _ h=>h) (by rfl) hHeld (fun w hSw=>by go_simp) ?_
 try simp only[Act.put,zA,zB,zC]
 refine wpAnyH_ready (rs:=[7]) (by kernel_rfl) (by simp) ?_
 refine AllReadyH.cons rfl (fun K hK=>?_) AllReadyH.nil
 go_simp
 go_wp2_with fail
 refine(wInstr _ x y0 y1 (zu AD).r).mono ?_
 rintro e u2 ⟨y,c,rfl,hk⟩
 have A2:=zh ((zu AD).next hk)
 have KT:=(And.intro (zu A2).c.c0 (And.intro (zu A2).c.c1 (And.intro (zu A2).c.c2 (And.intro (zu A2).c.c3 (And.intro (zu A2).c.c4 (And.intro (zu A2).c.c5 (And.intro ((zu A2).a 0 (by simp)) ((zu A2).a 1 (by simp)))))))))
 have HK:=zh hk
 clear hk
 go_wp2_with fail
 refine hK.out _ _ KT (fun hHeld=>?_)
 clear hK K
 try simp only[Act.put,zA,zB,zC]
 refine tk 8 (.tuple #[.agg #[.slice y.aa y.b.ac.length y.ca,.slice y.ai y.b.ic.length y.ci,.slice y.ab y.b.bs.length y.cb,.slice y.al y.b.ls.length y.cl,.slice y.ats y.b.ts.length y.ct,.int .i64 y.b.lot],.int .i64 c]) rfl (by kernel_rfl) (fun _ _ _ h=>h) (by rfl) hHeld (fun w hSw=>by go_simp) ?_
 refine tk 9 (.agg #[.slice y.aa y.b.ac.length y.ca,.slice y.ai y.b.ic.length y.ci,.slice y.ab y.b.bs.length y.cb,.slice y.al y.b.ls.length y.cl,.slice y.ats y.b.ts.length y.ct,.int .i64 y.b.lot]) rfl (by kernel_rfl) (fun _ _ _ h=>h) (by rfl) hHeld (fun w hSw=>by go_simp) ?_
 refine tk 10 (.int .i64 c) rfl (by kernel_rfl) (fun _ _ _ h=>h) (by rfl) hHeld (fun w hSw=>by go_simp) ?_
 obtain⟨f0,f1,f2,f3,f4,f5,d0,d1,d2,d3,d4,d5⟩:=box_opn (zu A2).o6
 try simp only[Act.put,zA,zB,zC]
 refine wpAnyH_ready (rs:=[11]) (by kernel_rfl) (by simp) ?_
 refine AllReadyH.cons rfl (fun K hK=>?_) AllReadyH.nil
 go_simp
 have A3:=zh ((zu A2).stored (.slice y.aa y.b.ac.length y.ca) (.slice y.ai y.b.ic.length y.ci) (.slice y.ab y.b.bs.length y.cb) (.slice y.al y.b.ls.length y.cl) (.slice y.ats y.b.ts.length y.ct) (.int .i64 y.b.lot))
 have KU:=(And.intro (zu A3).c.c0 (And.intro (zu A3).c.c1 (And.intro (zu A3).c.c2 (And.intro (zu A3).c.c3 (And.intro (zu A3).c.c4 (And.intro (zu A3).c.c5 (And.intro ((zu A3).a 0 (by simp)) ((zu A3).a 1 (by simp)))))))))
 have W3:=zh (wk_stored (zu AD) (zu HK) (zu A2).o6)
 clear f0 f1 f2 f3 f4 f5 d0 d1 d2 d3 d4 d5
 refine hK.out _ _ KU (fun hHeld=>?_)
 clear hK K
 try simp only[Act.put,zA,zB,zC]
 refine tk 12 (.int .i64 c) rfl (by kernel_rfl) (fun _ _ _ h=>h) (by rfl) hHeld (fun w hSw=>by go_simp) ?_
 try simp only[Act.put,zA,zB,zC]
 refine wpAnyH_done (by kernel_rfl) ?_ _
 clear KS KT KU m0 m1
 obtain⟨-,-,-,-,-,-,c0,c1,c2,c3,c4,c5⟩:=box_opn (zu A3).o6
 have F:=zh ((zu A3).fin (zu AD).s y)
 obtain⟨g0,g1,g2,g3,g4,g5,h0,h1,h2,h3,h4,h5⟩:=box_opn (zu F).1
 obtain⟨p0,p1,q0,q1⟩:=(zu F).2.1.opn
 by_cases hc:c=0
 ·have cn:(c !=0)=false:=by simp[hc]
  have W4:=zh (show ∃z:Bx,y=ofB z∧Ow _ w.heap.size z∧Small z.b from(zu F).2.2.2 c 0 (zu W3) hc)
  have E:=zh ((zu F).2.2.1 c 0)
  obtain⟨-,-,-,-,-,-,e0,e1,e2,e3,e4,e5⟩:=box_opn (zu E).1
  obtain⟨-,-,s0,s1⟩:=(zu E).2.1.opn
  have HC:=zh hc
  clear hc F
  go_wp2
  refine bodyPost_ret (v:= .tuple #[.agg #[.slice y.aa y.b.ac.length y.ca,.slice y.ai y.b.ic.length y.ci,.slice y.ab y.b.bs.length y.cb,.slice y.al y.b.ls.length y.cl,.slice y.ats y.b.ts.length y.ct,.int .i64 y.b.lot],.agg #[.int .i64 c,.int .i64 0]]) (by simp[results,Tryz.results32,go_sem,e0,e1,e2,e3,e4,e5,s0,s1]) rfl ?_
  exact⟨y,c,0,rfl,(zu E).2.2,.inr (zu W4)⟩
 ·have cn:(c !=0)=true:=by simp[hc]
  have E:=zh ((zu F).2.2.1 c 0)
  obtain⟨-,-,-,-,-,-,e0,e1,e2,e3,e4,e5⟩:=box_opn (zu E).1
  obtain⟨-,-,s0,s1⟩:=(zu E).2.1.opn
  have HC:=zh hc
  clear hc F
  go_wp2
  refine bodyPost_ret (v:= .tuple #[.agg #[.slice y.aa y.b.ac.length y.ca,.slice y.ai y.b.ic.length y.ci,.slice y.ab y.b.bs.length y.cb,.slice y.al y.b.ls.length y.cl,.slice y.ats y.b.ts.length y.ct,.int .i64 y.b.lot],.agg #[.int .i64 c,.int .i64 0]]) (by simp[results,Tryz.results32,go_sem,e0,e1,e2,e3,e4,e5,s0,s1]) rfl ?_
  exact⟨y,c,0,rfl,(zu E).2.2,.inl (zu HC)⟩
theorem k3(w:World)(x:Bx)(g cap:Nat)(y0 y1 y2 y3 y4:Int)(hr:Rd w x)(hg:g<w.heap.size)(ha:Ints.At w g [y0,y1,y2,y3,y4])(ok:Ok x.b)(cok:CmOk 3 [y0,y1,y2,y3,y4]):
  Calls Tryz.prog 32 #[.agg #[.slice (some ⟨x.ga,0,none⟩) x.b.ac.length x.ca,.slice (some ⟨x.gi,0,none⟩) x.b.ic.length x.ci,.slice (some ⟨x.gb,0,none⟩) x.b.bs.length x.cb,.slice (some ⟨x.gl,0,none⟩) x.b.ls.length x.cl,.slice (some ⟨x.gt,0,none⟩) x.b.ts.length x.ct,.int .i64 x.b.lot],.agg #[.int .i64 3,.slice (some ⟨g,0,none⟩) 5 cap]] w (Ap w):=by
 have A0:=zh (Cp.start (k:=3) (n:=5) (cap:=cap) hr hg ha)
 obtain⟨b1,hb1⟩:=says_of (Ok x.b)
 obtain rfl:b1=true:=hb1.of ok
 obtain⟨b2,hb2⟩:=says_of (CmOk 3 [y0,y1,y2,y3,y4])
 obtain rfl:b2=true:=hb2.of cok
 have HB1:=zh hb1
 have HB2:=zh hb2
 clear hb1 hb2 ok cok hr ha
 obtain⟨c0,c1,c2,c3,c4,c5⟩:=(zu A0).c
 go_enter Tryz.func32,Tryz.ntmps32
 go_wp2_with fail
 refine(SBooksOk.sBooksOk _ x true (zu A0).r (zu HB1)).mono ?_
 rintro e u0 ⟨rfl,bb⟩
 have A9:=zh ((zu A0).step bb)
 clear bb A0 c0 c1 c2 c3 c4 c5
 obtain⟨m0,m1⟩:=(zu A9).m
 go_wp2_with fail
 refine(SCmd.sCmdOk _ 3 g cap [y0,y1,y2,y3,y4] true (by simp) (zu A9).lg (zu A9).a (zu HB2)).mono ?_
 rintro e u1 ⟨rfl,bb⟩
 have A1:=zh ((zu A9).step bb)
 clear bb A9 m0 m1
 obtain⟨m0,m1⟩:=(zu A1).m
 have AD:=zh ((zu A1).step ((Below.refl _ _).drew))
 have KS:=(And.intro (zu AD).c.c0 (And.intro (zu AD).c.c1 (And.intro (zu AD).c.c2 (And.intro (zu AD).c.c3 (And.intro (zu AD).c.c4 (And.intro (zu AD).c.c5 (And.intro ((zu AD).a 0 (by simp)) (And.intro ((zu AD).a 1 (by simp)) (And.intro ((zu AD).a 2 (by simp)) (And.intro ((zu AD).a 3 (by simp)) ((zu AD).a 4 (by simp))))))))))))
 go_wp2_with fail
 refine wp_region_held_drew (S:=(fun w'=>w'.cell? ⟨w.heap.size,0,none⟩=some (.slice (some ⟨x.ga,0,none⟩) x.b.ac.length x.ca)∧w'.cell? ⟨w.heap.size,1,none⟩=some (.slice (some ⟨x.gi,0,none⟩) x.b.ic.length x.ci)∧w'.cell? ⟨w.heap.size,2,none⟩=some (.slice (some ⟨x.gb,0,none⟩) x.b.bs.length x.cb)∧w'.cell? ⟨w.heap.size,3,none⟩=some (.slice (some ⟨x.gl,0,none⟩) x.b.ls.length x.cl)∧w'.cell? ⟨w.heap.size,4,none⟩=some (.slice (some ⟨x.gt,0,none⟩) x.b.ts.length x.ct)∧w'.cell? ⟨w.heap.size,5,none⟩=some (.int .i64 x.b.lot)∧w'.cell? ⟨g,0,none⟩=some (.int .i64 y0)∧w'.cell? ⟨g,1,none⟩=some (.int .i64 y1)∧w'.cell? ⟨g,2,none⟩=some (.int .i64 y2)∧w'.cell? ⟨g,3,none⟩=some (.int .i64 y3)∧w'.cell? ⟨g,4,none⟩=some (.int .i64 y4))) (by kernel_rfl) KS (fun hHeld=>?_)
 refine tk 0 (.agg #[.slice (some ⟨x.ga,0,none⟩) x.b.ac.length x.ca,.slice (some ⟨x.gi,0,none⟩) x.b.ic.length x.ci,.slice (some ⟨x.gb,0,none⟩) x.b.bs.length x.cb,.slice (some ⟨x.gl,0,none⟩) x.b.ls.length x.cl,.slice (some ⟨x.gt,0,none⟩) x.b.ts.length x.ct,.int .i64 x.b.lot]) rfl (by kernel_rfl) (fun _ _ _ h=>h) (by rfl) hHeld (fun w hSw=>by go_simp) ?_
 refine tk 1 (.slice (some ⟨g,0,none⟩) 5 cap) rfl (by kernel_rfl) (fun _ _ _ h=>h) (by rfl) hHeld (fun w hSw=>by go_simp) ?_
 refine tk 2 (.pointer (some ⟨g,0,none⟩)) rfl (by kernel_rfl) (fun _ _ _ h=>h) (by rfl) hHeld (fun w hSw=>by go_simp) ?_
 refine tk 3 (.int .i64 y0) rfl (by kernel_rfl) (fun _ _ _ h=>h) (by rfl) hHeld (fun w hSw=>by go_simp) ?_
 refine tk 4 (.slice (some ⟨g,0,none⟩) 5 cap) rfl (by kernel_rfl) (fun _ _ _ h=>h) (by rfl) hHeld (fun w hSw=>by go_simp) ?_
 refine tk 5 (.pointer (some ⟨g,1,none⟩)) rfl (by kernel_rfl) (fun _ _ _ h=>h) (by rfl) hHeld (fun w hSw=>by go_simp) ?_
 refine tk 6 (.int .i64 y1) rfl (by kernel_rfl) (fun _ _ _ h=>h) (by rfl) hHeld (fun w hSw=>by go_simp) ?_
 refine tk 7 (.slice (some ⟨g,0,none⟩) 5 cap) rfl (by kernel_rfl) (fun _ _ _ h=>h) (by rfl) hHeld (fun w hSw=>by go_simp) ?_
 refine tk 8 (.pointer (some ⟨g,2,none⟩)) rfl (by kernel_rfl) (fun _ _ _ h=>h) (by rfl) hHeld (fun w hSw=>by go_simp) ?_
 refine tk 9 (.int .i64 y2) rfl (by kernel_rfl) (fun _ _ _ h=>h) (by rfl) hHeld (fun w hSw=>by go_simp) ?_
 refine tk 10 (.slice (some ⟨g,0,none⟩) 5 cap) rfl (by kernel_rfl) (fun _ _ _ h=>h) (by rfl) hHeld (fun w hSw=>by go_simp) ?_
 refine tk 11 (.pointer (some ⟨g,3,none⟩)) rfl (by kernel_rfl) (fun _ _ _ h=>h) (by rfl) hHeld (fun w hSw=>by go_simp) ?_
 refine tk 12 (.int .i64 y3) rfl (by kernel_rfl) (fun _ _ _ h=>h) (by rfl) hHeld (fun w hSw=>by go_simp) ?_
 refine tk 13 (.slice (some ⟨g,0,none⟩) 5 cap) rfl (by kernel_rfl) (fun _ _ _ h=>h) (by rfl) hHeld (fun w hSw=>by go_simp) ?_
 refine tk 14 (.pointer (some ⟨g,4,none⟩)) rfl (by kernel_rfl) (fun _ _ _ h=>h) (by rfl) hHeld (fun w hSw=>by go_simp) ?_
 refine tk 15 (.int .i64 y4) rfl (by kernel_rfl) (fun _ _ _ h=>h) (by rfl) hHeld (fun w hSw=>by go_simp) ?_
 try simp only[Act.put,zA,zB,zC]
 refine wpAnyH_ready (rs:=[16]) (by kernel_rfl) (by simp) ?_
 refine AllReadyH.cons rfl (fun K hK=>?_) AllReadyH.nil
 go_simp
 go_wp2_with fail
 refine(wIssue _ x y0 y1 y2 y3 y4 (zu AD).r).mono ?_
 rintro e u2 ⟨y,c,rfl,hk⟩
 have A2:=zh ((zu AD).next hk)
 have KT:=(And.intro (zu A2).c.c0 (And.intro (zu A2).c.c1 (And.intro (zu A2).c.c2 (And.intro (zu A2).c.c3 (And.intro (zu A2).c.c4 (And.intro (zu A2).c.c5 (And.intro ((zu A2).a 0 (by simp)) (And.intro ((zu A2).a 1 (by simp)) (And.intro ((zu A2).a 2 (by simp)) (And.intro ((zu A2).a 3 (by simp)) ((zu A2).a 4 (by simp))))))))))))
 have HK:=zh hk
 clear hk
 go_wp2_with fail
 refine hK.out _ _ KT (fun hHeld=>?_)
 clear hK K
 try simp only[Act.put,zA,zB,zC]
 refine tk 17 (.tuple #[.agg #[.slice y.aa y.b.ac.length y.ca,.slice y.ai y.b.ic.length y.ci,.slice y.ab y.b.bs.length y.cb,.slice y.al y.b.ls.length y.cl,.slice y.ats y.b.ts.length y.ct,.int .i64 y.b.lot],.int .i64 c]) rfl (by kernel_rfl) (fun _ _ _ h=>h) (by rfl) hHeld (fun w hSw=>by go_simp) ?_
 refine tk 18 (.agg #[.slice y.aa y.b.ac.length y.ca,.slice y.ai y.b.ic.length y.ci,.slice y.ab y.b.bs.length y.cb,.slice y.al y.b.ls.length y.cl,.slice y.ats y.b.ts.length y.ct,.int .i64 y.b.lot]) rfl (by kernel_rfl) (fun _ _ _ h=>h) (by rfl) hHeld (fun w hSw=>by go_simp) ?_
 refine tk 19 (.int .i64 c) rfl (by kernel_rfl) (fun _ _ _ h=>h) (by rfl) hHeld (fun w hSw=>by go_simp) ?_
 obtain⟨f0,f1,f2,f3,f4,f5,d0,d1,d2,d3,d4,d5⟩:=box_opn (zu A2).o6
 try simp only[Act.put,zA,zB,zC]
 refine wpAnyH_ready (rs:=[20]) (by kernel_rfl) (by simp) ?_
 refine AllReadyH.cons rfl (fun K hK=>?_) AllReadyH.nil
 go_simp
 have A3:=zh ((zu A2).stored (.slice y.aa y.b.ac.length y.ca) (.slice y.ai y.b.ic.length y.ci) (.slice y.ab y.b.bs.length y.cb) (.slice y.al y.b.ls.length y.cl) (.slice y.ats y.b.ts.length y.ct) (.int .i64 y.b.lot))
 have KU:=(And.intro (zu A3).c.c0 (And.intro (zu A3).c.c1 (And.intro (zu A3).c.c2 (And.intro (zu A3).c.c3 (And.intro (zu A3).c.c4 (And.intro (zu A3).c.c5 (And.intro ((zu A3).a 0 (by simp)) (And.intro ((zu A3).a 1 (by simp)) (And.intro ((zu A3).a 2 (by simp)) (And.intro ((zu A3).a 3 (by simp)) ((zu A3).a 4 (by simp))))))))))))
 have W3:=zh (wk_stored (zu AD) (zu HK) (zu A2).o6)
 clear f0 f1 f2 f3 f4 f5 d0 d1 d2 d3 d4 d5
 refine hK.out _ _ KU (fun hHeld=>?_)
 clear hK K
 try simp only[Act.put,zA,zB,zC]
 refine tk 21 (.int .i64 c) rfl (by kernel_rfl) (fun _ _ _ h=>h) (by rfl) hHeld (fun w hSw=>by go_simp) ?_
 try simp only[Act.put,zA,zB,zC]
 refine wpAnyH_done (by kernel_rfl) ?_ _
 clear KS KT KU m0 m1
 obtain⟨-,-,-,-,-,-,c0,c1,c2,c3,c4,c5⟩:=box_opn (zu A3).o6
 have F:=zh ((zu A3).fin (zu AD).s y)
 obtain⟨g0,g1,g2,g3,g4,g5,h0,h1,h2,h3,h4,h5⟩:=box_opn (zu F).1
 obtain⟨p0,p1,q0,q1⟩:=(zu F).2.1.opn
 by_cases hc:c=0
 ·have cn:(c !=0)=false:=by simp[hc]
  have W4:=zh (show ∃z:Bx,y=ofB z∧Ow _ w.heap.size z∧Small z.b from(zu F).2.2.2 c 0 (zu W3) hc)
  have E:=zh ((zu F).2.2.1 c 0)
  obtain⟨-,-,-,-,-,-,e0,e1,e2,e3,e4,e5⟩:=box_opn (zu E).1
  obtain⟨-,-,s0,s1⟩:=(zu E).2.1.opn
  have HC:=zh hc
  clear hc F
  go_wp2
  refine bodyPost_ret (v:= .tuple #[.agg #[.slice y.aa y.b.ac.length y.ca,.slice y.ai y.b.ic.length y.ci,.slice y.ab y.b.bs.length y.cb,.slice y.al y.b.ls.length y.cl,.slice y.ats y.b.ts.length y.ct,.int .i64 y.b.lot],.agg #[.int .i64 c,.int .i64 0]]) (by simp[results,Tryz.results32,go_sem,e0,e1,e2,e3,e4,e5,s0,s1]) rfl ?_
  exact⟨y,c,0,rfl,(zu E).2.2,.inr (zu W4)⟩
 ·have cn:(c !=0)=true:=by simp[hc]
  have E:=zh ((zu F).2.2.1 c 0)
  obtain⟨-,-,-,-,-,-,e0,e1,e2,e3,e4,e5⟩:=box_opn (zu E).1
  obtain⟨-,-,s0,s1⟩:=(zu E).2.1.opn
  have HC:=zh hc
  clear hc F
  go_wp2
  refine bodyPost_ret (v:= .tuple #[.agg #[.slice y.aa y.b.ac.length y.ca,.slice y.ai y.b.ic.length y.ci,.slice y.ab y.b.bs.length y.cb,.slice y.al y.b.ls.length y.cl,.slice y.ats y.b.ts.length y.ct,.int .i64 y.b.lot],.agg #[.int .i64 c,.int .i64 0]]) (by simp[results,Tryz.results32,go_sem,e0,e1,e2,e3,e4,e5,s0,s1]) rfl ?_
  exact⟨y,c,0,rfl,(zu E).2.2,.inl (zu HC)⟩
theorem k4(w:World)(x:Bx)(g cap:Nat)(y0 y1 y2 y3 y4:Int)(hr:Rd w x)(hg:g<w.heap.size)(ha:Ints.At w g [y0,y1,y2,y3,y4])(ok:Ok x.b)(cok:CmOk 4 [y0,y1,y2,y3,y4]):
  Calls Tryz.prog 32 #[.agg #[.slice (some ⟨x.ga,0,none⟩) x.b.ac.length x.ca,.slice (some ⟨x.gi,0,none⟩) x.b.ic.length x.ci,.slice (some ⟨x.gb,0,none⟩) x.b.bs.length x.cb,.slice (some ⟨x.gl,0,none⟩) x.b.ls.length x.cl,.slice (some ⟨x.gt,0,none⟩) x.b.ts.length x.ct,.int .i64 x.b.lot],.agg #[.int .i64 4,.slice (some ⟨g,0,none⟩) 5 cap]] w (Ap w):=by
 have A0:=zh (Cp.start (k:=4) (n:=5) (cap:=cap) hr hg ha)
 obtain⟨b1,hb1⟩:=says_of (Ok x.b)
 obtain rfl:b1=true:=hb1.of ok
 obtain⟨b2,hb2⟩:=says_of (CmOk 4 [y0,y1,y2,y3,y4])
 obtain rfl:b2=true:=hb2.of cok
 have HB1:=zh hb1
 have HB2:=zh hb2
 clear hb1 hb2 ok cok hr ha
 obtain⟨c0,c1,c2,c3,c4,c5⟩:=(zu A0).c
 go_enter Tryz.func32,Tryz.ntmps32
 go_wp2_with fail
 refine(SBooksOk.sBooksOk _ x true (zu A0).r (zu HB1)).mono ?_
 rintro e u0 ⟨rfl,bb⟩
 have A9:=zh ((zu A0).step bb)
 clear bb A0 c0 c1 c2 c3 c4 c5
 obtain⟨m0,m1⟩:=(zu A9).m
 go_wp2_with fail
 refine(SCmd.sCmdOk _ 4 g cap [y0,y1,y2,y3,y4] true (by simp) (zu A9).lg (zu A9).a (zu HB2)).mono ?_
 rintro e u1 ⟨rfl,bb⟩
 have A1:=zh ((zu A9).step bb)
 clear bb A9 m0 m1
 obtain⟨m0,m1⟩:=(zu A1).m
 have AD:=zh ((zu A1).step ((Below.refl _ _).drew))
 have KS:=(And.intro (zu AD).c.c0 (And.intro (zu AD).c.c1 (And.intro (zu AD).c.c2 (And.intro (zu AD).c.c3 (And.intro (zu AD).c.c4 (And.intro (zu AD).c.c5 (And.intro ((zu AD).a 0 (by simp)) (And.intro ((zu AD).a 1 (by simp)) (And.intro ((zu AD).a 2 (by simp)) (And.intro ((zu AD).a 3 (by simp)) ((zu AD).a 4 (by simp))))))))))))
 go_wp2_with fail
 refine wp_region_held_drew (S:=(fun w'=>w'.cell? ⟨w.heap.size,0,none⟩=some (.slice (some ⟨x.ga,0,none⟩) x.b.ac.length x.ca)∧w'.cell? ⟨w.heap.size,1,none⟩=some (.slice (some ⟨x.gi,0,none⟩) x.b.ic.length x.ci)∧w'.cell? ⟨w.heap.size,2,none⟩=some (.slice (some ⟨x.gb,0,none⟩) x.b.bs.length x.cb)∧w'.cell? ⟨w.heap.size,3,none⟩=some (.slice (some ⟨x.gl,0,none⟩) x.b.ls.length x.cl)∧w'.cell? ⟨w.heap.size,4,none⟩=some (.slice (some ⟨x.gt,0,none⟩) x.b.ts.length x.ct)∧w'.cell? ⟨w.heap.size,5,none⟩=some (.int .i64 x.b.lot)∧w'.cell? ⟨g,0,none⟩=some (.int .i64 y0)∧w'.cell? ⟨g,1,none⟩=some (.int .i64 y1)∧w'.cell? ⟨g,2,none⟩=some (.int .i64 y2)∧w'.cell? ⟨g,3,none⟩=some (.int .i64 y3)∧w'.cell? ⟨g,4,none⟩=some (.int .i64 y4))) (by kernel_rfl) KS (fun hHeld=>?_)
 refine tk 0 (.agg #[.slice (some ⟨x.ga,0,none⟩) x.b.ac.length x.ca,.slice (some ⟨x.gi,0,none⟩) x.b.ic.length x.ci,.slice (some ⟨x.gb,0,none⟩) x.b.bs.length x.cb,.slice (some ⟨x.gl,0,none⟩) x.b.ls.length x.cl,.slice (some ⟨x.gt,0,none⟩) x.b.ts.length x.ct,.int .i64 x.b.lot]) rfl (by kernel_rfl) (fun _ _ _ h=>h) (by rfl) hHeld (fun w hSw=>by go_simp) ?_
 refine tk 1 (.slice (some ⟨g,0,none⟩) 5 cap) rfl (by kernel_rfl) (fun _ _ _ h=>h) (by rfl) hHeld (fun w hSw=>by go_simp) ?_
 refine tk 2 (.pointer (some ⟨g,0,none⟩)) rfl (by kernel_rfl) (fun _ _ _ h=>h) (by rfl) hHeld (fun w hSw=>by go_simp) ?_
 refine tk 3 (.int .i64 y0) rfl (by kernel_rfl) (fun _ _ _ h=>h) (by rfl) hHeld (fun w hSw=>by go_simp) ?_
 refine tk 4 (.slice (some ⟨g,0,none⟩) 5 cap) rfl (by kernel_rfl) (fun _ _ _ h=>h) (by rfl) hHeld (fun w hSw=>by go_simp) ?_
 refine tk 5 (.pointer (some ⟨g,1,none⟩)) rfl (by kernel_rfl) (fun _ _ _ h=>h) (by rfl) hHeld (fun w hSw=>by go_simp) ?_
 refine tk 6 (.int .i64 y1) rfl (by kernel_rfl) (fun _ _ _ h=>h) (by rfl) hHeld (fun w hSw=>by go_simp) ?_
 refine tk 7 (.slice (some ⟨g,0,none⟩) 5 cap) rfl (by kernel_rfl) (fun _ _ _ h=>h) (by rfl) hHeld (fun w hSw=>by go_simp) ?_
 refine tk 8 (.pointer (some ⟨g,2,none⟩)) rfl (by kernel_rfl) (fun _ _ _ h=>h) (by rfl) hHeld (fun w hSw=>by go_simp) ?_
 refine tk 9 (.int .i64 y2) rfl (by kernel_rfl) (fun _ _ _ h=>h) (by rfl) hHeld (fun w hSw=>by go_simp) ?_
 refine tk 10 (.slice (some ⟨g,0,none⟩) 5 cap) rfl (by kernel_rfl) (fun _ _ _ h=>h) (by rfl) hHeld (fun w hSw=>by go_simp) ?_
 refine tk 11 (.pointer (some ⟨g,3,none⟩)) rfl (by kernel_rfl) (fun _ _ _ h=>h) (by rfl) hHeld (fun w hSw=>by go_simp) ?_
 refine tk 12 (.int .i64 y3) rfl (by kernel_rfl) (fun _ _ _ h=>h) (by rfl) hHeld (fun w hSw=>by go_simp) ?_
 refine tk 13 (.slice (some ⟨g,0,none⟩) 5 cap) rfl (by kernel_rfl) (fun _ _ _ h=>h) (by rfl) hHeld (fun w hSw=>by go_simp) ?_
 refine tk 14 (.pointer (some ⟨g,4,none⟩)) rfl (by kernel_rfl) (fun _ _ _ h=>h) (by rfl) hHeld (fun w hSw=>by go_simp) ?_
 refine tk 15 (.int .i64 y4) rfl (by kernel_rfl) (fun _ _ _ h=>h) (by rfl) hHeld (fun w hSw=>by go_simp) ?_
 try simp only[Act.put,zA,zB,zC]
 refine wpAnyH_ready (rs:=[16]) (by kernel_rfl) (by simp) ?_
 refine AllReadyH.cons rfl (fun K hK=>?_) AllReadyH.nil
 go_simp
 go_wp2_with fail
 refine(wMove _ x y0 y1 y2 y3 y4 (zu AD).r).mono ?_
 rintro e u2 ⟨y,t,c,rfl,hk⟩
 have A2:=zh ((zu AD).next hk)
 have KT:=(And.intro (zu A2).c.c0 (And.intro (zu A2).c.c1 (And.intro (zu A2).c.c2 (And.intro (zu A2).c.c3 (And.intro (zu A2).c.c4 (And.intro (zu A2).c.c5 (And.intro ((zu A2).a 0 (by simp)) (And.intro ((zu A2).a 1 (by simp)) (And.intro ((zu A2).a 2 (by simp)) (And.intro ((zu A2).a 3 (by simp)) ((zu A2).a 4 (by simp))))))))))))
 have HK:=zh hk
 clear hk
 go_wp2_with fail
 refine hK.out _ _ KT (fun hHeld=>?_)
 clear hK K
 try simp only[Act.put,zA,zB,zC]
 refine tk 17 (.tuple #[.agg #[.slice y.aa y.b.ac.length y.ca,.slice y.ai y.b.ic.length y.ci,.slice y.ab y.b.bs.length y.cb,.slice y.al y.b.ls.length y.cl,.slice y.ats y.b.ts.length y.ct,.int .i64 y.b.lot],.int .i64 t,.int .i64 c]) rfl (by kernel_rfl) (fun _ _ _ h=>h) (by rfl) hHeld (fun w hSw=>by go_simp) ?_
 refine tk 18 (.agg #[.slice y.aa y.b.ac.length y.ca,.slice y.ai y.b.ic.length y.ci,.slice y.ab y.b.bs.length y.cb,.slice y.al y.b.ls.length y.cl,.slice y.ats y.b.ts.length y.ct,.int .i64 y.b.lot]) rfl (by kernel_rfl) (fun _ _ _ h=>h) (by rfl) hHeld (fun w hSw=>by go_simp) ?_
 refine tk 19 (.int .i64 t) rfl (by kernel_rfl) (fun _ _ _ h=>h) (by rfl) hHeld (fun w hSw=>by go_simp) ?_
 refine tk 20 (.int .i64 c) rfl (by kernel_rfl) (fun _ _ _ h=>h) (by rfl) hHeld (fun w hSw=>by go_simp) ?_
 obtain⟨f0,f1,f2,f3,f4,f5,d0,d1,d2,d3,d4,d5⟩:=box_opn (zu A2).o6
 try simp only[Act.put,zA,zB,zC]
 refine wpAnyH_ready (rs:=[21]) (by kernel_rfl) (by simp) ?_
 refine AllReadyH.cons rfl (fun K hK=>?_) AllReadyH.nil
 go_simp
 have A3:=zh ((zu A2).stored (.slice y.aa y.b.ac.length y.ca) (.slice y.ai y.b.ic.length y.ci) (.slice y.ab y.b.bs.length y.cb) (.slice y.al y.b.ls.length y.cl) (.slice y.ats y.b.ts.length y.ct) (.int .i64 y.b.lot))
 have KU:=(And.intro (zu A3).c.c0 (And.intro (zu A3).c.c1 (And.intro (zu A3).c.c2 (And.intro (zu A3).c.c3 (And.intro (zu A3).c.c4 (And.intro (zu A3).c.c5 (And.intro ((zu A3).a 0 (by simp)) (And.intro ((zu A3).a 1 (by simp)) (And.intro ((zu A3).a 2 (by simp)) (And.intro ((zu A3).a 3 (by simp)) ((zu A3).a 4 (by simp))))))))))))
 have W3:=zh (wk_stored (zu AD) (zu HK) (zu A2).o6)
 clear f0 f1 f2 f3 f4 f5 d0 d1 d2 d3 d4 d5
 refine hK.out _ _ KU (fun hHeld=>?_)
 clear hK K
 try simp only[Act.put,zA,zB,zC]
 refine tk 22 (.int .i64 t) rfl (by kernel_rfl) (fun _ _ _ h=>h) (by rfl) hHeld (fun w hSw=>by go_simp) ?_
 refine tk 23 (.int .i64 c) rfl (by kernel_rfl) (fun _ _ _ h=>h) (by rfl) hHeld (fun w hSw=>by go_simp) ?_
 try simp only[Act.put,zA,zB,zC]
 refine wpAnyH_done (by kernel_rfl) ?_ _
 clear KS KT KU m0 m1
 obtain⟨-,-,-,-,-,-,c0,c1,c2,c3,c4,c5⟩:=box_opn (zu A3).o6
 have F:=zh ((zu A3).fin (zu AD).s y)
 obtain⟨g0,g1,g2,g3,g4,g5,h0,h1,h2,h3,h4,h5⟩:=box_opn (zu F).1
 obtain⟨p0,p1,q0,q1⟩:=(zu F).2.1.opn
 by_cases hc:c=0
 ·have cn:(c !=0)=false:=by simp[hc]
  have W4:=zh (show ∃z:Bx,y=ofB z∧Ow _ w.heap.size z∧Small z.b from(zu F).2.2.2 c t (zu W3) hc)
  have E:=zh ((zu F).2.2.1 c t)
  obtain⟨-,-,-,-,-,-,e0,e1,e2,e3,e4,e5⟩:=box_opn (zu E).1
  obtain⟨-,-,s0,s1⟩:=(zu E).2.1.opn
  have HC:=zh hc
  clear hc F
  go_wp2
  refine bodyPost_ret (v:= .tuple #[.agg #[.slice y.aa y.b.ac.length y.ca,.slice y.ai y.b.ic.length y.ci,.slice y.ab y.b.bs.length y.cb,.slice y.al y.b.ls.length y.cl,.slice y.ats y.b.ts.length y.ct,.int .i64 y.b.lot],.agg #[.int .i64 c,.int .i64 t]]) (by simp[results,Tryz.results32,go_sem,e0,e1,e2,e3,e4,e5,s0,s1]) rfl ?_
  exact⟨y,c,t,rfl,(zu E).2.2,.inr (zu W4)⟩
 ·have cn:(c !=0)=true:=by simp[hc]
  have E:=zh ((zu F).2.2.1 c 0)
  obtain⟨-,-,-,-,-,-,e0,e1,e2,e3,e4,e5⟩:=box_opn (zu E).1
  obtain⟨-,-,s0,s1⟩:=(zu E).2.1.opn
  have HC:=zh hc
  clear hc F
  go_wp2
  refine bodyPost_ret (v:= .tuple #[.agg #[.slice y.aa y.b.ac.length y.ca,.slice y.ai y.b.ic.length y.ci,.slice y.ab y.b.bs.length y.cb,.slice y.al y.b.ls.length y.cl,.slice y.ats y.b.ts.length y.ct,.int .i64 y.b.lot],.agg #[.int .i64 c,.int .i64 0]]) (by simp[results,Tryz.results32,go_sem,e0,e1,e2,e3,e4,e5,s0,s1]) rfl ?_
  exact⟨y,c,0,rfl,(zu E).2.2,.inl (zu HC)⟩
theorem k5(w:World)(x:Bx)(g cap:Nat)(y0 y1 y2 y3 y4 y5 y6:Int)(hr:Rd w x)(hg:g<w.heap.size)(ha:Ints.At w g [y0,y1,y2,y3,y4,y5,y6])(ok:Ok x.b)(cok:CmOk 5 [y0,y1,y2,y3,y4,y5,y6]):
  Calls Tryz.prog 32 #[.agg #[.slice (some ⟨x.ga,0,none⟩) x.b.ac.length x.ca,.slice (some ⟨x.gi,0,none⟩) x.b.ic.length x.ci,.slice (some ⟨x.gb,0,none⟩) x.b.bs.length x.cb,.slice (some ⟨x.gl,0,none⟩) x.b.ls.length x.cl,.slice (some ⟨x.gt,0,none⟩) x.b.ts.length x.ct,.int .i64 x.b.lot],.agg #[.int .i64 5,.slice (some ⟨g,0,none⟩) 7 cap]] w (Ap w):=by
 have A0:=zh (Cp.start (k:=5) (n:=7) (cap:=cap) hr hg ha)
 obtain⟨b1,hb1⟩:=says_of (Ok x.b)
 obtain rfl:b1=true:=hb1.of ok
 obtain⟨b2,hb2⟩:=says_of (CmOk 5 [y0,y1,y2,y3,y4,y5,y6])
 obtain rfl:b2=true:=hb2.of cok
 have HB1:=zh hb1
 have HB2:=zh hb2
 clear hb1 hb2 ok cok hr ha
 obtain⟨c0,c1,c2,c3,c4,c5⟩:=(zu A0).c
 go_enter Tryz.func32,Tryz.ntmps32
 go_wp2_with fail
 refine(SBooksOk.sBooksOk _ x true (zu A0).r (zu HB1)).mono ?_
 rintro e u0 ⟨rfl,bb⟩
 have A9:=zh ((zu A0).step bb)
 clear bb A0 c0 c1 c2 c3 c4 c5
 obtain⟨m0,m1⟩:=(zu A9).m
 go_wp2_with fail
 refine(SCmd.sCmdOk _ 5 g cap [y0,y1,y2,y3,y4,y5,y6] true (by simp) (zu A9).lg (zu A9).a (zu HB2)).mono ?_
 rintro e u1 ⟨rfl,bb⟩
 have A1:=zh ((zu A9).step bb)
 clear bb A9 m0 m1
 obtain⟨m0,m1⟩:=(zu A1).m
 have AD:=zh ((zu A1).step ((Below.refl _ _).drew))
 have KS:=(And.intro (zu AD).c.c0 (And.intro (zu AD).c.c1 (And.intro (zu AD).c.c2 (And.intro (zu AD).c.c3 (And.intro (zu AD).c.c4 (And.intro (zu AD).c.c5 (And.intro ((zu AD).a 0 (by simp)) (And.intro ((zu AD).a 1 (by simp)) (And.intro ((zu AD).a 2 (by simp)) (And.intro ((zu AD).a 3 (by simp)) (And.intro ((zu AD).a 4 (by simp)) (And.intro ((zu AD).a 5 (by simp)) ((zu AD).a 6 (by simp))))))))))))))
 go_wp2_with fail
 refine wp_region_held_drew (S:=(fun w'=>w'.cell? ⟨w.heap.size,0,none⟩=some (.slice (some ⟨x.ga,0,none⟩) x.b.ac.length x.ca)∧w'.cell? ⟨w.heap.size,1,none⟩=some (.slice (some ⟨x.gi,0,none⟩) x.b.ic.length x.ci)∧w'.cell? ⟨w.heap.size,2,none⟩=some (.slice (some ⟨x.gb,0,none⟩) x.b.bs.length x.cb)∧w'.cell? ⟨w.heap.size,3,none⟩=some (.slice (some ⟨x.gl,0,none⟩) x.b.ls.length x.cl)∧w'.cell? ⟨w.heap.size,4,none⟩=some (.slice (some ⟨x.gt,0,none⟩) x.b.ts.length x.ct)∧w'.cell? ⟨w.heap.size,5,none⟩=some (.int .i64 x.b.lot)∧w'.cell? ⟨g,0,none⟩=some (.int .i64 y0)∧w'.cell? ⟨g,1,none⟩=some (.int .i64 y1)∧w'.cell? ⟨g,2,none⟩=some (.int .i64 y2)∧w'.cell? ⟨g,3,none⟩=some (.int .i64 y3)∧w'.cell? ⟨g,4,none⟩=some (.int .i64 y4)∧w'.cell? ⟨g,5,none⟩=some (.int .i64 y5)∧w'.cell? ⟨g,6,none⟩=some (.int .i64 y6))) (by kernel_rfl) KS (fun hHeld=>?_)
 refine tk 0 (.agg #[.slice (some ⟨x.ga,0,none⟩) x.b.ac.length x.ca,.slice (some ⟨x.gi,0,none⟩) x.b.ic.length x.ci,.slice (some ⟨x.gb,0,none⟩) x.b.bs.length x.cb,.slice (some ⟨x.gl,0,none⟩) x.b.ls.length x.cl,.slice (some ⟨x.gt,0,none⟩) x.b.ts.length x.ct,.int .i64 x.b.lot]) rfl (by kernel_rfl) (fun _ _ _ h=>h) (by rfl) hHeld (fun w hSw=>by go_simp) ?_
 refine tk 1 (.slice (some ⟨g,0,none⟩) 7 cap) rfl (by kernel_rfl) (fun _ _ _ h=>h) (by rfl) hHeld (fun w hSw=>by go_simp) ?_
 refine tk 2 (.pointer (some ⟨g,0,none⟩)) rfl (by kernel_rfl) (fun _ _ _ h=>h) (by rfl) hHeld (fun w hSw=>by go_simp) ?_
 refine tk 3 (.int .i64 y0) rfl (by kernel_rfl) (fun _ _ _ h=>h) (by rfl) hHeld (fun w hSw=>by go_simp) ?_
 refine tk 4 (.slice (some ⟨g,0,none⟩) 7 cap) rfl (by kernel_rfl) (fun _ _ _ h=>h) (by rfl) hHeld (fun w hSw=>by go_simp) ?_
 refine tk 5 (.pointer (some ⟨g,1,none⟩)) rfl (by kernel_rfl) (fun _ _ _ h=>h) (by rfl) hHeld (fun w hSw=>by go_simp) ?_
 refine tk 6 (.int .i64 y1) rfl (by kernel_rfl) (fun _ _ _ h=>h) (by rfl) hHeld (fun w hSw=>by go_simp) ?_
 refine tk 7 (.slice (some ⟨g,0,none⟩) 7 cap) rfl (by kernel_rfl) (fun _ _ _ h=>h) (by rfl) hHeld (fun w hSw=>by go_simp) ?_
 refine tk 8 (.pointer (some ⟨g,2,none⟩)) rfl (by kernel_rfl) (fun _ _ _ h=>h) (by rfl) hHeld (fun w hSw=>by go_simp) ?_
 refine tk 9 (.int .i64 y2) rfl (by kernel_rfl) (fun _ _ _ h=>h) (by rfl) hHeld (fun w hSw=>by go_simp) ?_
 refine tk 10 (.slice (some ⟨g,0,none⟩) 7 cap) rfl (by kernel_rfl) (fun _ _ _ h=>h) (by rfl) hHeld (fun w hSw=>by go_simp) ?_
 refine tk 11 (.pointer (some ⟨g,3,none⟩)) rfl (by kernel_rfl) (fun _ _ _ h=>h) (by rfl) hHeld (fun w hSw=>by go_simp) ?_
 refine tk 12 (.int .i64 y3) rfl (by kernel_rfl) (fun _ _ _ h=>h) (by rfl) hHeld (fun w hSw=>by go_simp) ?_
 refine tk 13 (.slice (some ⟨g,0,none⟩) 7 cap) rfl (by kernel_rfl) (fun _ _ _ h=>h) (by rfl) hHeld (fun w hSw=>by go_simp) ?_
 refine tk 14 (.pointer (some ⟨g,4,none⟩)) rfl (by kernel_rfl) (fun _ _ _ h=>h) (by rfl) hHeld (fun w hSw=>by go_simp) ?_
 refine tk 15 (.int .i64 y4) rfl (by kernel_rfl) (fun _ _ _ h=>h) (by rfl) hHeld (fun w hSw=>by go_simp) ?_
 refine tk 16 (.slice (some ⟨g,0,none⟩) 7 cap) rfl (by kernel_rfl) (fun _ _ _ h=>h) (by rfl) hHeld (fun w hSw=>by go_simp) ?_
 refine tk 17 (.pointer (some ⟨g,5,none⟩)) rfl (by kernel_rfl) (fun _ _ _ h=>h) (by rfl) hHeld (fun w hSw=>by go_simp) ?_
 refine tk 18 (.int .i64 y5) rfl (by kernel_rfl) (fun _ _ _ h=>h) (by rfl) hHeld (fun w hSw=>by go_simp) ?_
 refine tk 19 (.slice (some ⟨g,0,none⟩) 7 cap) rfl (by kernel_rfl) (fun _ _ _ h=>h) (by rfl) hHeld (fun w hSw=>by go_simp) ?_
 refine tk 20 (.pointer (some ⟨g,6,none⟩)) rfl (by kernel_rfl) (fun _ _ _ h=>h) (by rfl) hHeld (fun w hSw=>by go_simp) ?_
 refine tk 21 (.int .i64 y6) rfl (by kernel_rfl) (fun _ _ _ h=>h) (by rfl) hHeld (fun w hSw=>by go_simp) ?_
 try simp only[Act.put,zA,zB,zC]
 refine wpAnyH_ready (rs:=[22]) (by kernel_rfl) (by simp) ?_
 refine AllReadyH.cons rfl (fun K hK=>?_) AllReadyH.nil
 go_simp
 go_wp2_with fail
 refine(wTrade _ x y0 y1 y2 y3 y4 y5 y6 (zu AD).r).mono ?_
 rintro e u2 ⟨y,c,rfl,hk⟩
 have A2:=zh ((zu AD).next hk)
 have KT:=(And.intro (zu A2).c.c0 (And.intro (zu A2).c.c1 (And.intro (zu A2).c.c2 (And.intro (zu A2).c.c3 (And.intro (zu A2).c.c4 (And.intro (zu A2).c.c5 (And.intro ((zu A2).a 0 (by simp)) (And.intro ((zu A2).a 1 (by simp)) (And.intro ((zu A2).a 2 (by simp)) (And.intro ((zu A2).a 3 (by simp)) (And.intro ((zu A2).a 4 (by simp)) (And.intro ((zu A2).a 5 (by simp)) ((zu A2).a 6 (by simp))))))))))))))
 have HK:=zh hk
 clear hk
 go_wp2_with fail
 refine hK.out _ _ KT (fun hHeld=>?_)
 clear hK K
 try simp only[Act.put,zA,zB,zC]
 refine tk 23 (.tuple #[.agg #[.slice y.aa y.b.ac.length y.ca,.slice y.ai y.b.ic.length y.ci,.slice y.ab y.b.bs.length y.cb,.slice y.al y.b.ls.length y.cl,.slice y.ats y.b.ts.length y.ct,.int .i64 y.b.lot],.int .i64 c]) rfl (by kernel_rfl) (fun _ _ _ h=>h) (by rfl) hHeld (fun w hSw=>by go_simp) ?_
 refine tk 24 (.agg #[.slice y.aa y.b.ac.length y.ca,.slice y.ai y.b.ic.length y.ci,.slice y.ab y.b.bs.length y.cb,.slice y.al y.b.ls.length y.cl,.slice y.ats y.b.ts.length y.ct,.int .i64 y.b.lot]) rfl (by kernel_rfl) (fun _ _ _ h=>h) (by rfl) hHeld (fun w hSw=>by go_simp) ?_
 refine tk 25 (.int .i64 c) rfl (by kernel_rfl) (fun _ _ _ h=>h) (by rfl) hHeld (fun w hSw=>by go_simp) ?_
 obtain⟨f0,f1,f2,f3,f4,f5,d0,d1,d2,d3,d4,d5⟩:=box_opn (zu A2).o6
 try simp only[Act.put,zA,zB,zC]
 refine wpAnyH_ready (rs:=[26]) (by kernel_rfl) (by simp) ?_
 refine AllReadyH.cons rfl (fun K hK=>?_) AllReadyH.nil
 go_simp
 have A3:=zh ((zu A2).stored (.slice y.aa y.b.ac.length y.ca) (.slice y.ai y.b.ic.length y.ci) (.slice y.ab y.b.bs.length y.cb) (.slice y.al y.b.ls.length y.cl) (.slice y.ats y.b.ts.length y.ct) (.int .i64 y.b.lot))
 have KU:=(And.intro (zu A3).c.c0 (And.intro (zu A3).c.c1 (And.intro (zu A3).c.c2 (And.intro (zu A3).c.c3 (And.intro (zu A3).c.c4 (And.intro (zu A3).c.c5 (And.intro ((zu A3).a 0 (by simp)) (And.intro ((zu A3).a 1 (by simp)) (And.intro ((zu A3).a 2 (by simp)) (And.intro ((zu A3).a 3 (by simp)) (And.intro ((zu A3).a 4 (by simp)) (And.intro ((zu A3).a 5 (by simp)) ((zu A3).a 6 (by simp))))))))))))))
 have W3:=zh (wk_stored (zu AD) (zu HK) (zu A2).o6)
 clear f0 f1 f2 f3 f4 f5 d0 d1 d2 d3 d4 d5
 refine hK.out _ _ KU (fun hHeld=>?_)
 clear hK K
 try simp only[Act.put,zA,zB,zC]
 refine tk 27 (.int .i64 c) rfl (by kernel_rfl) (fun _ _ _ h=>h) (by rfl) hHeld (fun w hSw=>by go_simp) ?_
 try simp only[Act.put,zA,zB,zC]
 refine wpAnyH_done (by kernel_rfl) ?_ _
 clear KS KT KU m0 m1
 obtain⟨-,-,-,-,-,-,c0,c1,c2,c3,c4,c5⟩:=box_opn (zu A3).o6
 have F:=zh ((zu A3).fin (zu AD).s y)
 obtain⟨g0,g1,g2,g3,g4,g5,h0,h1,h2,h3,h4,h5⟩:=box_opn (zu F).1
 obtain⟨p0,p1,q0,q1⟩:=(zu F).2.1.opn
 by_cases hc:c=0
 ·have cn:(c !=0)=false:=by simp[hc]
  have W4:=zh (show ∃z:Bx,y=ofB z∧Ow _ w.heap.size z∧Small z.b from(zu F).2.2.2 c 0 (zu W3) hc)
  have E:=zh ((zu F).2.2.1 c 0)
  obtain⟨-,-,-,-,-,-,e0,e1,e2,e3,e4,e5⟩:=box_opn (zu E).1
  obtain⟨-,-,s0,s1⟩:=(zu E).2.1.opn
  have HC:=zh hc
  clear hc F
  go_wp2
  refine bodyPost_ret (v:= .tuple #[.agg #[.slice y.aa y.b.ac.length y.ca,.slice y.ai y.b.ic.length y.ci,.slice y.ab y.b.bs.length y.cb,.slice y.al y.b.ls.length y.cl,.slice y.ats y.b.ts.length y.ct,.int .i64 y.b.lot],.agg #[.int .i64 c,.int .i64 0]]) (by simp[results,Tryz.results32,go_sem,e0,e1,e2,e3,e4,e5,s0,s1]) rfl ?_
  exact⟨y,c,0,rfl,(zu E).2.2,.inr (zu W4)⟩
 ·have cn:(c !=0)=true:=by simp[hc]
  have E:=zh ((zu F).2.2.1 c 0)
  obtain⟨-,-,-,-,-,-,e0,e1,e2,e3,e4,e5⟩:=box_opn (zu E).1
  obtain⟨-,-,s0,s1⟩:=(zu E).2.1.opn
  have HC:=zh hc
  clear hc F
  go_wp2
  refine bodyPost_ret (v:= .tuple #[.agg #[.slice y.aa y.b.ac.length y.ca,.slice y.ai y.b.ic.length y.ci,.slice y.ab y.b.bs.length y.cb,.slice y.al y.b.ls.length y.cl,.slice y.ats y.b.ts.length y.ct,.int .i64 y.b.lot],.agg #[.int .i64 c,.int .i64 0]]) (by simp[results,Tryz.results32,go_sem,e0,e1,e2,e3,e4,e5,s0,s1]) rfl ?_
  exact⟨y,c,0,rfl,(zu E).2.2,.inl (zu HC)⟩
theorem k6(w:World)(x:Bx)(g cap:Nat)(y0:Int)(hr:Rd w x)(hg:g<w.heap.size)(ha:Ints.At w g [y0])(ok:Ok x.b)(cok:CmOk 6 [y0]):
  Calls Tryz.prog 32 #[.agg #[.slice (some ⟨x.ga,0,none⟩) x.b.ac.length x.ca,.slice (some ⟨x.gi,0,none⟩) x.b.ic.length x.ci,.slice (some ⟨x.gb,0,none⟩) x.b.bs.length x.cb,.slice (some ⟨x.gl,0,none⟩) x.b.ls.length x.cl,.slice (some ⟨x.gt,0,none⟩) x.b.ts.length x.ct,.int .i64 x.b.lot],.agg #[.int .i64 6,.slice (some ⟨g,0,none⟩) 1 cap]] w (Ap w):=by
 have A0:=zh (Cp.start (k:=6) (n:=1) (cap:=cap) hr hg ha)
 obtain⟨b1,hb1⟩:=says_of (Ok x.b)
 obtain rfl:b1=true:=hb1.of ok
 obtain⟨b2,hb2⟩:=says_of (CmOk 6 [y0])
 obtain rfl:b2=true:=hb2.of cok
 have HB1:=zh hb1
 have HB2:=zh hb2
 clear hb1 hb2 ok cok hr ha
 obtain⟨c0,c1,c2,c3,c4,c5⟩:=(zu A0).c
 go_enter Tryz.func32,Tryz.ntmps32
 go_wp2_with fail
 refine(SBooksOk.sBooksOk _ x true (zu A0).r (zu HB1)).mono ?_
 rintro e u0 ⟨rfl,bb⟩
 have A9:=zh ((zu A0).step bb)
 clear bb A0 c0 c1 c2 c3 c4 c5
 obtain⟨m0,m1⟩:=(zu A9).m
 go_wp2_with fail
 refine(SCmd.sCmdOk _ 6 g cap [y0] true (by simp) (zu A9).lg (zu A9).a (zu HB2)).mono ?_
 rintro e u1 ⟨rfl,bb⟩
 have A1:=zh ((zu A9).step bb)
 clear bb A9 m0 m1
 obtain⟨m0,m1⟩:=(zu A1).m
 have AD:=zh ((zu A1).step ((Below.refl _ _).drew))
 have KS:=(And.intro (zu AD).c.c0 (And.intro (zu AD).c.c1 (And.intro (zu AD).c.c2 (And.intro (zu AD).c.c3 (And.intro (zu AD).c.c4 (And.intro (zu AD).c.c5 ((zu AD).a 0 (by simp))))))))
 go_wp2_with fail
 refine wp_region_held_drew (S:=(fun w'=>w'.cell? ⟨w.heap.size,0,none⟩=some (.slice (some ⟨x.ga,0,none⟩) x.b.ac.length x.ca)∧w'.cell? ⟨w.heap.size,1,none⟩=some (.slice (some ⟨x.gi,0,none⟩) x.b.ic.length x.ci)∧w'.cell? ⟨w.heap.size,2,none⟩=some (.slice (some ⟨x.gb,0,none⟩) x.b.bs.length x.cb)∧w'.cell? ⟨w.heap.size,3,none⟩=some (.slice (some ⟨x.gl,0,none⟩) x.b.ls.length x.cl)∧w'.cell? ⟨w.heap.size,4,none⟩=some (.slice (some ⟨x.gt,0,none⟩) x.b.ts.length x.ct)∧w'.cell? ⟨w.heap.size,5,none⟩=some (.int .i64 x.b.lot)∧w'.cell? ⟨g,0,none⟩=some (.int .i64 y0))) (by kernel_rfl) KS (fun hHeld=>?_)
 refine tk 0 (.agg #[.slice (some ⟨x.ga,0,none⟩) x.b.ac.length x.ca,.slice (some ⟨x.gi,0,none⟩) x.b.ic.length x.ci,.slice (some ⟨x.gb,0,none⟩) x.b.bs.length x.cb,.slice (some ⟨x.gl,0,none⟩) x.b.ls.length x.cl,.slice (some ⟨x.gt,0,none⟩) x.b.ts.length x.ct,.int .i64 x.b.lot]) rfl (by kernel_rfl) (fun _ _ _ h=>h) (by rfl) hHeld (fun w hSw=>by go_simp) ?_
 refine tk 1 (.slice (some ⟨g,0,none⟩) 1 cap) rfl (by kernel_rfl) (fun _ _ _ h=>h) (by rfl) hHeld (fun w hSw=>by go_simp) ?_
 refine tk 2 (.pointer (some ⟨g,0,none⟩)) rfl (by kernel_rfl) (fun _ _ _ h=>h) (by rfl) hHeld (fun w hSw=>by go_simp) ?_
 refine tk 3 (.int .i64 y0) rfl (by kernel_rfl) (fun _ _ _ h=>h) (by rfl) hHeld (fun w hSw=>by go_simp) ?_
 try simp only[Act.put,zA,zB,zC]
 refine wpAnyH_ready (rs:=[4]) (by kernel_rfl) (by simp) ?_
 refine AllReadyH.cons rfl (fun K hK=>?_) AllReadyH.nil
 go_simp
 go_wp2_with fail
 refine(wCancel _ x y0 (zu AD).r).mono ?_
 rintro e u2 ⟨y,c,rfl,hk⟩
 have A2:=zh ((zu AD).next hk)
 have KT:=(And.intro (zu A2).c.c0 (And.intro (zu A2).c.c1 (And.intro (zu A2).c.c2 (And.intro (zu A2).c.c3 (And.intro (zu A2).c.c4 (And.intro (zu A2).c.c5 ((zu A2).a 0 (by simp))))))))
 have HK:=zh hk
 clear hk
 go_wp2_with fail
 refine hK.out _ _ KT (fun hHeld=>?_)
 clear hK K
 try simp only[Act.put,zA,zB,zC]
 refine tk 5 (.tuple #[.agg #[.slice y.aa y.b.ac.length y.ca,.slice y.ai y.b.ic.length y.ci,.slice y.ab y.b.bs.length y.cb,.slice y.al y.b.ls.length y.cl,.slice y.ats y.b.ts.length y.ct,.int .i64 y.b.lot],.int .i64 c]) rfl (by kernel_rfl) (fun _ _ _ h=>h) (by rfl) hHeld (fun w hSw=>by go_simp) ?_
 refine tk 6 (.agg #[.slice y.aa y.b.ac.length y.ca,.slice y.ai y.b.ic.length y.ci,.slice y.ab y.b.bs.length y.cb,.slice y.al y.b.ls.length y.cl,.slice y.ats y.b.ts.length y.ct,.int .i64 y.b.lot]) rfl (by kernel_rfl) (fun _ _ _ h=>h) (by rfl) hHeld (fun w hSw=>by go_simp) ?_
 refine tk 7 (.int .i64 c) rfl (by kernel_rfl) (fun _ _ _ h=>h) (by rfl) hHeld (fun w hSw=>by go_simp) ?_
 obtain⟨f0,f1,f2,f3,f4,f5,d0,d1,d2,d3,d4,d5⟩:=box_opn (zu A2).o6
 try simp only[Act.put,zA,zB,zC]
 refine wpAnyH_ready (rs:=[8]) (by kernel_rfl) (by simp) ?_
 refine AllReadyH.cons rfl (fun K hK=>?_) AllReadyH.nil
 go_simp
 have A3:=zh ((zu A2).stored (.slice y.aa y.b.ac.length y.ca) (.slice y.ai y.b.ic.length y.ci) (.slice y.ab y.b.bs.length y.cb) (.slice y.al y.b.ls.length y.cl) (.slice y.ats y.b.ts.length y.ct) (.int .i64 y.b.lot))
 have KU:=(And.intro (zu A3).c.c0 (And.intro (zu A3).c.c1 (And.intro (zu A3).c.c2 (And.intro (zu A3).c.c3 (And.intro (zu A3).c.c4 (And.intro (zu A3).c.c5 ((zu A3).a 0 (by simp))))))))
 have W3:=zh (wk_stored (zu AD) (zu HK) (zu A2).o6)
 clear f0 f1 f2 f3 f4 f5 d0 d1 d2 d3 d4 d5
 refine hK.out _ _ KU (fun hHeld=>?_)
 clear hK K
 try simp only[Act.put,zA,zB,zC]
 refine tk 9 (.int .i64 c) rfl (by kernel_rfl) (fun _ _ _ h=>h) (by rfl) hHeld (fun w hSw=>by go_simp) ?_
 try simp only[Act.put,zA,zB,zC]
 refine wpAnyH_done (by kernel_rfl) ?_ _
 clear KS KT KU m0 m1
 obtain⟨-,-,-,-,-,-,c0,c1,c2,c3,c4,c5⟩:=box_opn (zu A3).o6
 have F:=zh ((zu A3).fin (zu AD).s y)
 obtain⟨g0,g1,g2,g3,g4,g5,h0,h1,h2,h3,h4,h5⟩:=box_opn (zu F).1
 obtain⟨p0,p1,q0,q1⟩:=(zu F).2.1.opn
 by_cases hc:c=0
 ·have cn:(c !=0)=false:=by simp[hc]
  have W4:=zh (show ∃z:Bx,y=ofB z∧Ow _ w.heap.size z∧Small z.b from(zu F).2.2.2 c 0 (zu W3) hc)
  have E:=zh ((zu F).2.2.1 c 0)
  obtain⟨-,-,-,-,-,-,e0,e1,e2,e3,e4,e5⟩:=box_opn (zu E).1
  obtain⟨-,-,s0,s1⟩:=(zu E).2.1.opn
  have HC:=zh hc
  clear hc F
  go_wp2
  refine bodyPost_ret (v:= .tuple #[.agg #[.slice y.aa y.b.ac.length y.ca,.slice y.ai y.b.ic.length y.ci,.slice y.ab y.b.bs.length y.cb,.slice y.al y.b.ls.length y.cl,.slice y.ats y.b.ts.length y.ct,.int .i64 y.b.lot],.agg #[.int .i64 c,.int .i64 0]]) (by simp[results,Tryz.results32,go_sem,e0,e1,e2,e3,e4,e5,s0,s1]) rfl ?_
  exact⟨y,c,0,rfl,(zu E).2.2,.inr (zu W4)⟩
 ·have cn:(c !=0)=true:=by simp[hc]
  have E:=zh ((zu F).2.2.1 c 0)
  obtain⟨-,-,-,-,-,-,e0,e1,e2,e3,e4,e5⟩:=box_opn (zu E).1
  obtain⟨-,-,s0,s1⟩:=(zu E).2.1.opn
  have HC:=zh hc
  clear hc F
  go_wp2
  refine bodyPost_ret (v:= .tuple #[.agg #[.slice y.aa y.b.ac.length y.ca,.slice y.ai y.b.ic.length y.ci,.slice y.ab y.b.bs.length y.cb,.slice y.al y.b.ls.length y.cl,.slice y.ats y.b.ts.length y.ct,.int .i64 y.b.lot],.agg #[.int .i64 c,.int .i64 0]]) (by simp[results,Tryz.results32,go_sem,e0,e1,e2,e3,e4,e5,s0,s1]) rfl ?_
  exact⟨y,c,0,rfl,(zu E).2.2,.inl (zu HC)⟩
theorem k7(w:World)(x:Bx)(g cap:Nat)(y0 y1:Int)(hr:Rd w x)(hg:g<w.heap.size)(ha:Ints.At w g [y0,y1])(ok:Ok x.b)(cok:CmOk 7 [y0,y1]):
  Calls Tryz.prog 32 #[.agg #[.slice (some ⟨x.ga,0,none⟩) x.b.ac.length x.ca,.slice (some ⟨x.gi,0,none⟩) x.b.ic.length x.ci,.slice (some ⟨x.gb,0,none⟩) x.b.bs.length x.cb,.slice (some ⟨x.gl,0,none⟩) x.b.ls.length x.cl,.slice (some ⟨x.gt,0,none⟩) x.b.ts.length x.ct,.int .i64 x.b.lot],.agg #[.int .i64 7,.slice (some ⟨g,0,none⟩) 2 cap]] w (Ap w):=by
 have A0:=zh (Cp.start (k:=7) (n:=2) (cap:=cap) hr hg ha)
 obtain⟨b1,hb1⟩:=says_of (Ok x.b)
 obtain rfl:b1=true:=hb1.of ok
 obtain⟨b2,hb2⟩:=says_of (CmOk 7 [y0,y1])
 obtain rfl:b2=true:=hb2.of cok
 have HB1:=zh hb1
 have HB2:=zh hb2
 clear hb1 hb2 ok cok hr ha
 obtain⟨c0,c1,c2,c3,c4,c5⟩:=(zu A0).c
 go_enter Tryz.func32,Tryz.ntmps32
 go_wp2_with fail
 refine(SBooksOk.sBooksOk _ x true (zu A0).r (zu HB1)).mono ?_
 rintro e u0 ⟨rfl,bb⟩
 have A9:=zh ((zu A0).step bb)
 clear bb A0 c0 c1 c2 c3 c4 c5
 obtain⟨m0,m1⟩:=(zu A9).m
 go_wp2_with fail
 refine(SCmd.sCmdOk _ 7 g cap [y0,y1] true (by simp) (zu A9).lg (zu A9).a (zu HB2)).mono ?_
 rintro e u1 ⟨rfl,bb⟩
 have A1:=zh ((zu A9).step bb)
 clear bb A9 m0 m1
 obtain⟨m0,m1⟩:=(zu A1).m
 have AD:=zh ((zu A1).step ((Below.refl _ _).drew))
 have KS:=(And.intro (zu AD).c.c0 (And.intro (zu AD).c.c1 (And.intro (zu AD).c.c2 (And.intro (zu AD).c.c3 (And.intro (zu AD).c.c4 (And.intro (zu AD).c.c5 (And.intro ((zu AD).a 0 (by simp)) ((zu AD).a 1 (by simp)))))))))
 go_wp2_with fail
 refine wp_region_held_drew (S:=(fun w'=>w'.cell? ⟨w.heap.size,0,none⟩=some (.slice (some ⟨x.ga,0,none⟩) x.b.ac.length x.ca)∧w'.cell? ⟨w.heap.size,1,none⟩=some (.slice (some ⟨x.gi,0,none⟩) x.b.ic.length x.ci)∧w'.cell? ⟨w.heap.size,2,none⟩=some (.slice (some ⟨x.gb,0,none⟩) x.b.bs.length x.cb)∧w'.cell? ⟨w.heap.size,3,none⟩=some (.slice (some ⟨x.gl,0,none⟩) x.b.ls.length x.cl)∧w'.cell? ⟨w.heap.size,4,none⟩=some (.slice (some ⟨x.gt,0,none⟩) x.b.ts.length x.ct)∧w'.cell? ⟨w.heap.size,5,none⟩=some (.int .i64 x.b.lot)∧w'.cell? ⟨g,0,none⟩=some (.int .i64 y0)∧w'.cell? ⟨g,1,none⟩=some (.int .i64 y1))) (by kernel_rfl) KS (fun hHeld=>?_)
 refine tk 0 (.agg #[.slice (some ⟨x.ga,0,none⟩) x.b.ac.length x.ca,.slice (some ⟨x.gi,0,none⟩) x.b.ic.length x.ci,.slice (some ⟨x.gb,0,none⟩) x.b.bs.length x.cb,.slice (some ⟨x.gl,0,none⟩) x.b.ls.length x.cl,.slice (some ⟨x.gt,0,none⟩) x.b.ts.length x.ct,.int .i64 x.b.lot]) rfl (by kernel_rfl) (fun _ _ _ h=>h) (by rfl) hHeld (fun w hSw=>by go_simp) ?_
 refine tk 1 (.slice (some ⟨g,0,none⟩) 2 cap) rfl (by kernel_rfl) (fun _ _ _ h=>h) (by rfl) hHeld (fun w hSw=>by go_simp) ?_
 refine tk 2 (.pointer (some ⟨g,0,none⟩)) rfl (by kernel_rfl) (fun _ _ _ h=>h) (by rfl) hHeld (fun w hSw=>by go_simp) ?_
 refine tk 3 (.int .i64 y0) rfl (by kernel_rfl) (fun _ _ _ h=>h) (by rfl) hHeld (fun w hSw=>by go_simp) ?_
 refine tk 4 (.slice (some ⟨g,0,none⟩) 2 cap) rfl (by kernel_rfl) (fun _ _ _ h=>h) (by rfl) hHeld (fun w hSw=>by go_simp) ?_
 refine tk 5 (.pointer (some ⟨g,1,none⟩)) rfl (by kernel_rfl) (fun _ _ _ h=>h) (by rfl) hHeld (fun w hSw=>by go_simp) ?_
 refine tk 6 (.int .i64 y1) rfl (by kernel_rfl) (fun _ _ _ h=>h) (by rfl) hHeld (fun w hSw=>by go_simp) ?_
 try simp only[Act.put,zA,zB,zC]
 refine wpAnyH_ready (rs:=[7]) (by kernel_rfl) (by simp) ?_
 refine AllReadyH.cons rfl (fun K hK=>?_) AllReadyH.nil
 go_simp
 go_wp2_with fail
 refine(wSettle _ x y0 y1 (zu AD).r).mono ?_
 rintro e u2 ⟨y,t,c,rfl,hk⟩
 have A2:=zh ((zu AD).next hk)
 have KT:=(And.intro (zu A2).c.c0 (And.intro (zu A2).c.c1 (And.intro (zu A2).c.c2 (And.intro (zu A2).c.c3 (And.intro (zu A2).c.c4 (And.intro (zu A2).c.c5 (And.intro ((zu A2).a 0 (by simp)) ((zu A2).a 1 (by simp)))))))))
 have HK:=zh hk
 clear hk
 go_wp2_with fail
 refine hK.out _ _ KT (fun hHeld=>?_)
 clear hK K
 try simp only[Act.put,zA,zB,zC]
 refine tk 8 (.tuple #[.agg #[.slice y.aa y.b.ac.length y.ca,.slice y.ai y.b.ic.length y.ci,.slice y.ab y.b.bs.length y.cb,.slice y.al y.b.ls.length y.cl,.slice y.ats y.b.ts.length y.ct,.int .i64 y.b.lot],.int .i64 t,.int .i64 c]) rfl (by kernel_rfl) (fun _ _ _ h=>h) (by rfl) hHeld (fun w hSw=>by go_simp) ?_
 refine tk 9 (.agg #[.slice y.aa y.b.ac.length y.ca,.slice y.ai y.b.ic.length y.ci,.slice y.ab y.b.bs.length y.cb,.slice y.al y.b.ls.length y.cl,.slice y.ats y.b.ts.length y.ct,.int .i64 y.b.lot]) rfl (by kernel_rfl) (fun _ _ _ h=>h) (by rfl) hHeld (fun w hSw=>by go_simp) ?_
 refine tk 10 (.int .i64 t) rfl (by kernel_rfl) (fun _ _ _ h=>h) (by rfl) hHeld (fun w hSw=>by go_simp) ?_
 refine tk 11 (.int .i64 c) rfl (by kernel_rfl) (fun _ _ _ h=>h) (by rfl) hHeld (fun w hSw=>by go_simp) ?_
 obtain⟨f0,f1,f2,f3,f4,f5,d0,d1,d2,d3,d4,d5⟩:=box_opn (zu A2).o6
 try simp only[Act.put,zA,zB,zC]
 refine wpAnyH_ready (rs:=[12]) (by kernel_rfl) (by simp) ?_
 refine AllReadyH.cons rfl (fun K hK=>?_) AllReadyH.nil
 go_simp
 have A3:=zh ((zu A2).stored (.slice y.aa y.b.ac.length y.ca) (.slice y.ai y.b.ic.length y.ci) (.slice y.ab y.b.bs.length y.cb) (.slice y.al y.b.ls.length y.cl) (.slice y.ats y.b.ts.length y.ct) (.int .i64 y.b.lot))
 have KU:=(And.intro (zu A3).c.c0 (And.intro (zu A3).c.c1 (And.intro (zu A3).c.c2 (And.intro (zu A3).c.c3 (And.intro (zu A3).c.c4 (And.intro (zu A3).c.c5 (And.intro ((zu A3).a 0 (by simp)) ((zu A3).a 1 (by simp)))))))))
 have W3:=zh (wk_stored (zu AD) (zu HK) (zu A2).o6)
 clear f0 f1 f2 f3 f4 f5 d0 d1 d2 d3 d4 d5
 refine hK.out _ _ KU (fun hHeld=>?_)
 clear hK K
 try simp only[Act.put,zA,zB,zC]
 refine tk 13 (.int .i64 t) rfl (by kernel_rfl) (fun _ _ _ h=>h) (by rfl) hHeld (fun w hSw=>by go_simp) ?_
 refine tk 14 (.int .i64 c) rfl (by kernel_rfl) (fun _ _ _ h=>h) (by rfl) hHeld (fun w hSw=>by go_simp) ?_
 try simp only[Act.put,zA,zB,zC]
 refine wpAnyH_done (by kernel_rfl) ?_ _
 clear KS KT KU m0 m1
 obtain⟨-,-,-,-,-,-,c0,c1,c2,c3,c4,c5⟩:=box_opn (zu A3).o6
 have F:=zh ((zu A3).fin (zu AD).s y)
 obtain⟨g0,g1,g2,g3,g4,g5,h0,h1,h2,h3,h4,h5⟩:=box_opn (zu F).1
 obtain⟨p0,p1,q0,q1⟩:=(zu F).2.1.opn
 by_cases hc:c=0
 ·have cn:(c !=0)=false:=by simp[hc]
  have W4:=zh (show ∃z:Bx,y=ofB z∧Ow _ w.heap.size z∧Small z.b from(zu F).2.2.2 c t (zu W3) hc)
  have E:=zh ((zu F).2.2.1 c t)
  obtain⟨-,-,-,-,-,-,e0,e1,e2,e3,e4,e5⟩:=box_opn (zu E).1
  obtain⟨-,-,s0,s1⟩:=(zu E).2.1.opn
  have HC:=zh hc
  clear hc F
  go_wp2
  refine bodyPost_ret (v:= .tuple #[.agg #[.slice y.aa y.b.ac.length y.ca,.slice y.ai y.b.ic.length y.ci,.slice y.ab y.b.bs.length y.cb,.slice y.al y.b.ls.length y.cl,.slice y.ats y.b.ts.length y.ct,.int .i64 y.b.lot],.agg #[.int .i64 c,.int .i64 t]]) (by simp[results,Tryz.results32,go_sem,e0,e1,e2,e3,e4,e5,s0,s1]) rfl ?_
  exact⟨y,c,t,rfl,(zu E).2.2,.inr (zu W4)⟩
 ·have cn:(c !=0)=true:=by simp[hc]
  have E:=zh ((zu F).2.2.1 c 0)
  obtain⟨-,-,-,-,-,-,e0,e1,e2,e3,e4,e5⟩:=box_opn (zu E).1
  obtain⟨-,-,s0,s1⟩:=(zu E).2.1.opn
  have HC:=zh hc
  clear hc F
  go_wp2
  refine bodyPost_ret (v:= .tuple #[.agg #[.slice y.aa y.b.ac.length y.ca,.slice y.ai y.b.ic.length y.ci,.slice y.ab y.b.bs.length y.cb,.slice y.al y.b.ls.length y.cl,.slice y.ats y.b.ts.length y.ct,.int .i64 y.b.lot],.agg #[.int .i64 c,.int .i64 0]]) (by simp[results,Tryz.results32,go_sem,e0,e1,e2,e3,e4,e5,s0,s1]) rfl ?_
  exact⟨y,c,0,rfl,(zu E).2.2,.inl (zu HC)⟩
theorem k8(w:World)(x:Bx)(g cap:Nat)(y0 y1 y2:Int)(hr:Rd w x)(hg:g<w.heap.size)(ha:Ints.At w g [y0,y1,y2])(ok:Ok x.b)(cok:CmOk 8 [y0,y1,y2]):
  Calls Tryz.prog 32 #[.agg #[.slice (some ⟨x.ga,0,none⟩) x.b.ac.length x.ca,.slice (some ⟨x.gi,0,none⟩) x.b.ic.length x.ci,.slice (some ⟨x.gb,0,none⟩) x.b.bs.length x.cb,.slice (some ⟨x.gl,0,none⟩) x.b.ls.length x.cl,.slice (some ⟨x.gt,0,none⟩) x.b.ts.length x.ct,.int .i64 x.b.lot],.agg #[.int .i64 8,.slice (some ⟨g,0,none⟩) 3 cap]] w (Ap w):=by
 have A0:=zh (Cp.start (k:=8) (n:=3) (cap:=cap) hr hg ha)
 obtain⟨b1,hb1⟩:=says_of (Ok x.b)
 obtain rfl:b1=true:=hb1.of ok
 obtain⟨b2,hb2⟩:=says_of (CmOk 8 [y0,y1,y2])
 obtain rfl:b2=true:=hb2.of cok
 have HB1:=zh hb1
 have HB2:=zh hb2
 clear hb1 hb2 ok cok hr ha
 obtain⟨c0,c1,c2,c3,c4,c5⟩:=(zu A0).c
 go_enter Tryz.func32,Tryz.ntmps32
 go_wp2_with fail
 refine(SBooksOk.sBooksOk _ x true (zu A0).r (zu HB1)).mono ?_
 rintro e u0 ⟨rfl,bb⟩
 have A9:=zh ((zu A0).step bb)
 clear bb A0 c0 c1 c2 c3 c4 c5
 obtain⟨m0,m1⟩:=(zu A9).m
 go_wp2_with fail
 refine(SCmd.sCmdOk _ 8 g cap [y0,y1,y2] true (by simp) (zu A9).lg (zu A9).a (zu HB2)).mono ?_
 rintro e u1 ⟨rfl,bb⟩
 have A1:=zh ((zu A9).step bb)
 clear bb A9 m0 m1
 obtain⟨m0,m1⟩:=(zu A1).m
 have AD:=zh ((zu A1).step ((Below.refl _ _).drew))
 have KS:=(And.intro (zu AD).c.c0 (And.intro (zu AD).c.c1 (And.intro (zu AD).c.c2 (And.intro (zu AD).c.c3 (And.intro (zu AD).c.c4 (And.intro (zu AD).c.c5 (And.intro ((zu AD).a 0 (by simp)) (And.intro ((zu AD).a 1 (by simp)) ((zu AD).a 2 (by simp))))))))))
 go_wp2_with fail
 refine wp_region_held_drew (S:=(fun w'=>w'.cell? ⟨w.heap.size,0,none⟩=some (.slice (some ⟨x.ga,0,none⟩) x.b.ac.length x.ca)∧w'.cell? ⟨w.heap.size,1,none⟩=some (.slice (some ⟨x.gi,0,none⟩) x.b.ic.length x.ci)∧w'.cell? ⟨w.heap.size,2,none⟩=some (.slice (some ⟨x.gb,0,none⟩) x.b.bs.length x.cb)∧w'.cell? ⟨w.heap.size,3,none⟩=some (.slice (some ⟨x.gl,0,none⟩) x.b.ls.length x.cl)∧w'.cell? ⟨w.heap.size,4,none⟩=some (.slice (some ⟨x.gt,0,none⟩) x.b.ts.length x.ct)∧w'.cell? ⟨w.heap.size,5,none⟩=some (.int .i64 x.b.lot)∧w'.cell? ⟨g,0,none⟩=some (.int .i64 y0)∧w'.cell? ⟨g,1,none⟩=some (.int .i64 y1)∧w'.cell? ⟨g,2,none⟩=some (.int .i64 y2))) (by kernel_rfl) KS (fun hHeld=>?_)
 refine tk 0 (.agg #[.slice (some ⟨x.ga,0,none⟩) x.b.ac.length x.ca,.slice (some ⟨x.gi,0,none⟩) x.b.ic.length x.ci,.slice (some ⟨x.gb,0,none⟩) x.b.bs.length x.cb,.slice (some ⟨x.gl,0,none⟩) x.b.ls.length x.cl,.slice (some ⟨x.gt,0,none⟩) x.b.ts.length x.ct,.int .i64 x.b.lot]) rfl (by kernel_rfl) (fun _ _ _ h=>h) (by rfl) hHeld (fun w hSw=>by go_simp) ?_
 refine tk 1 (.slice (some ⟨g,0,none⟩) 3 cap) rfl (by kernel_rfl) (fun _ _ _ h=>h) (by rfl) hHeld (fun w hSw=>by go_simp) ?_
 refine tk 2 (.pointer (some ⟨g,0,none⟩)) rfl (by kernel_rfl) (fun _ _ _ h=>h) (by rfl) hHeld (fun w hSw=>by go_simp) ?_
 refine tk 3 (.int .i64 y0) rfl (by kernel_rfl) (fun _ _ _ h=>h) (by rfl) hHeld (fun w hSw=>by go_simp) ?_
 refine tk 4 (.slice (some ⟨g,0,none⟩) 3 cap) rfl (by kernel_rfl) (fun _ _ _ h=>h) (by rfl) hHeld (fun w hSw=>by go_simp) ?_
 refine tk 5 (.pointer (some ⟨g,1,none⟩)) rfl (by kernel_rfl) (fun _ _ _ h=>h) (by rfl) hHeld (fun w hSw=>by go_simp) ?_
 refine tk 6 (.int .i64 y1) rfl (by kernel_rfl) (fun _ _ _ h=>h) (by rfl) hHeld (fun w hSw=>by go_simp) ?_
 refine tk 7 (.slice (some ⟨g,0,none⟩) 3 cap) rfl (by kernel_rfl) (fun _ _ _ h=>h) (by rfl) hHeld (fun w hSw=>by go_simp) ?_
 refine tk 8 (.pointer (some ⟨g,2,none⟩)) rfl (by kernel_rfl) (fun _ _ _ h=>h) (by rfl) hHeld (fun w hSw=>by go_simp) ?_
 refine tk 9 (.int .i64 y2) rfl (by kernel_rfl) (fun _ _ _ h=>h) (by rfl) hHeld (fun w hSw=>by go_simp) ?_
 try simp only[Act.put,zA,zB,zC]
 refine wpAnyH_ready (rs:=[10]) (by kernel_rfl) (by simp) ?_
 refine AllReadyH.cons rfl (fun K hK=>?_) AllReadyH.nil
 go_simp
 go_wp2_with fail
 refine(wNet _ x y0 y1 y2 (zu AD).r).mono ?_
 rintro e u2 ⟨y,l,t,c,rfl,hk⟩
 have A2:=zh ((zu AD).next hk)
 have KT:=(And.intro (zu A2).c.c0 (And.intro (zu A2).c.c1 (And.intro (zu A2).c.c2 (And.intro (zu A2).c.c3 (And.intro (zu A2).c.c4 (And.intro (zu A2).c.c5 (And.intro ((zu A2).a 0 (by simp)) (And.intro ((zu A2).a 1 (by simp)) ((zu A2).a 2 (by simp))))))))))
 have HK:=zh hk
 clear hk
 go_wp2_with fail
 refine hK.out _ _ KT (fun hHeld=>?_)
 clear hK K
 try simp only[Act.put,zA,zB,zC]
 refine tk 11 (.tuple #[.agg #[.slice y.aa y.b.ac.length y.ca,.slice y.ai y.b.ic.length y.ci,.slice y.ab y.b.bs.length y.cb,.slice y.al y.b.ls.length y.cl,.slice y.ats y.b.ts.length y.ct,.int .i64 y.b.lot],l,.int .i64 t,.int .i64 c]) rfl (by kernel_rfl) (fun _ _ _ h=>h) (by rfl) hHeld (fun w hSw=>by go_simp) ?_
 refine tk 12 (.agg #[.slice y.aa y.b.ac.length y.ca,.slice y.ai y.b.ic.length y.ci,.slice y.ab y.b.bs.length y.cb,.slice y.al y.b.ls.length y.cl,.slice y.ats y.b.ts.length y.ct,.int .i64 y.b.lot]) rfl (by kernel_rfl) (fun _ _ _ h=>h) (by rfl) hHeld (fun w hSw=>by go_simp) ?_
 refine tk 13 (l) rfl (by kernel_rfl) (fun _ _ _ h=>h) (by rfl) hHeld (fun w hSw=>by go_simp) ?_
 refine tk 14 (.int .i64 t) rfl (by kernel_rfl) (fun _ _ _ h=>h) (by rfl) hHeld (fun w hSw=>by go_simp) ?_
 refine tk 15 (.int .i64 c) rfl (by kernel_rfl) (fun _ _ _ h=>h) (by rfl) hHeld (fun w hSw=>by go_simp) ?_
 obtain⟨f0,f1,f2,f3,f4,f5,d0,d1,d2,d3,d4,d5⟩:=box_opn (zu A2).o6
 try simp only[Act.put,zA,zB,zC]
 refine wpAnyH_ready (rs:=[16]) (by kernel_rfl) (by simp) ?_
 refine AllReadyH.cons rfl (fun K hK=>?_) AllReadyH.nil
 go_simp
 have A3:=zh ((zu A2).stored (.slice y.aa y.b.ac.length y.ca) (.slice y.ai y.b.ic.length y.ci) (.slice y.ab y.b.bs.length y.cb) (.slice y.al y.b.ls.length y.cl) (.slice y.ats y.b.ts.length y.ct) (.int .i64 y.b.lot))
 have KU:=(And.intro (zu A3).c.c0 (And.intro (zu A3).c.c1 (And.intro (zu A3).c.c2 (And.intro (zu A3).c.c3 (And.intro (zu A3).c.c4 (And.intro (zu A3).c.c5 (And.intro ((zu A3).a 0 (by simp)) (And.intro ((zu A3).a 1 (by simp)) ((zu A3).a 2 (by simp))))))))))
 have W3:=zh (wk_stored (zu AD) (zu HK) (zu A2).o6)
 clear f0 f1 f2 f3 f4 f5 d0 d1 d2 d3 d4 d5
 refine hK.out _ _ KU (fun hHeld=>?_)
 clear hK K
 try simp only[Act.put,zA,zB,zC]
 refine tk 17 (.int .i64 t) rfl (by kernel_rfl) (fun _ _ _ h=>h) (by rfl) hHeld (fun w hSw=>by go_simp) ?_
 refine tk 18 (.int .i64 c) rfl (by kernel_rfl) (fun _ _ _ h=>h) (by rfl) hHeld (fun w hSw=>by go_simp) ?_
 try simp only[Act.put,zA,zB,zC]
 refine wpAnyH_done (by kernel_rfl) ?_ _
 clear KS KT KU m0 m1
 obtain⟨-,-,-,-,-,-,c0,c1,c2,c3,c4,c5⟩:=box_opn (zu A3).o6
 have F:=zh ((zu A3).fin (zu AD).s y)
 obtain⟨g0,g1,g2,g3,g4,g5,h0,h1,h2,h3,h4,h5⟩:=box_opn (zu F).1
 obtain⟨p0,p1,q0,q1⟩:=(zu F).2.1.opn
 by_cases hc:c=0
 ·have cn:(c !=0)=false:=by simp[hc]
  have W4:=zh (show ∃z:Bx,y=ofB z∧Ow _ w.heap.size z∧Small z.b from(zu F).2.2.2 c t (zu W3) hc)
  have E:=zh ((zu F).2.2.1 c t)
  obtain⟨-,-,-,-,-,-,e0,e1,e2,e3,e4,e5⟩:=box_opn (zu E).1
  obtain⟨-,-,s0,s1⟩:=(zu E).2.1.opn
  have HC:=zh hc
  clear hc F
  go_wp2
  refine bodyPost_ret (v:= .tuple #[.agg #[.slice y.aa y.b.ac.length y.ca,.slice y.ai y.b.ic.length y.ci,.slice y.ab y.b.bs.length y.cb,.slice y.al y.b.ls.length y.cl,.slice y.ats y.b.ts.length y.ct,.int .i64 y.b.lot],.agg #[.int .i64 c,.int .i64 t]]) (by simp[results,Tryz.results32,go_sem,e0,e1,e2,e3,e4,e5,s0,s1]) rfl ?_
  exact⟨y,c,t,rfl,(zu E).2.2,.inr (zu W4)⟩
 ·have cn:(c !=0)=true:=by simp[hc]
  have E:=zh ((zu F).2.2.1 c 0)
  obtain⟨-,-,-,-,-,-,e0,e1,e2,e3,e4,e5⟩:=box_opn (zu E).1
  obtain⟨-,-,s0,s1⟩:=(zu E).2.1.opn
  have HC:=zh hc
  clear hc F
  go_wp2
  refine bodyPost_ret (v:= .tuple #[.agg #[.slice y.aa y.b.ac.length y.ca,.slice y.ai y.b.ic.length y.ci,.slice y.ab y.b.bs.length y.cb,.slice y.al y.b.ls.length y.cl,.slice y.ats y.b.ts.length y.ct,.int .i64 y.b.lot],.agg #[.int .i64 c,.int .i64 0]]) (by simp[results,Tryz.results32,go_sem,e0,e1,e2,e3,e4,e5,s0,s1]) rfl ?_
  exact⟨y,c,0,rfl,(zu E).2.2,.inl (zu HC)⟩
theorem k9(w:World)(x:Bx)(g cap:Nat)(y0 y1 y2 y3 y4 y5 y6:Int)(hr:Rd w x)(hg:g<w.heap.size)(ha:Ints.At w g [y0,y1,y2,y3,y4,y5,y6])(ok:Ok x.b)(cok:CmOk 9 [y0,y1,y2,y3,y4,y5,y6]):
  Calls Tryz.prog 32 #[.agg #[.slice (some ⟨x.ga,0,none⟩) x.b.ac.length x.ca,.slice (some ⟨x.gi,0,none⟩) x.b.ic.length x.ci,.slice (some ⟨x.gb,0,none⟩) x.b.bs.length x.cb,.slice (some ⟨x.gl,0,none⟩) x.b.ls.length x.cl,.slice (some ⟨x.gt,0,none⟩) x.b.ts.length x.ct,.int .i64 x.b.lot],.agg #[.int .i64 9,.slice (some ⟨g,0,none⟩) 7 cap]] w (Ap w):=by
 have A0:=zh (Cp.start (k:=9) (n:=7) (cap:=cap) hr hg ha)
 obtain⟨b1,hb1⟩:=says_of (Ok x.b)
 obtain rfl:b1=true:=hb1.of ok
 obtain⟨b2,hb2⟩:=says_of (CmOk 9 [y0,y1,y2,y3,y4,y5,y6])
 obtain rfl:b2=true:=hb2.of cok
 have HB1:=zh hb1
 have HB2:=zh hb2
 clear hb1 hb2 ok cok hr ha
 obtain⟨c0,c1,c2,c3,c4,c5⟩:=(zu A0).c
 go_enter Tryz.func32,Tryz.ntmps32
 go_wp2_with fail
 refine(SBooksOk.sBooksOk _ x true (zu A0).r (zu HB1)).mono ?_
 rintro e u0 ⟨rfl,bb⟩
 have A9:=zh ((zu A0).step bb)
 clear bb A0 c0 c1 c2 c3 c4 c5
 obtain⟨m0,m1⟩:=(zu A9).m
 go_wp2_with fail
 refine(SCmd.sCmdOk _ 9 g cap [y0,y1,y2,y3,y4,y5,y6] true (by simp) (zu A9).lg (zu A9).a (zu HB2)).mono ?_
 rintro e u1 ⟨rfl,bb⟩
 have A1:=zh ((zu A9).step bb)
 clear bb A9 m0 m1
 obtain⟨m0,m1⟩:=(zu A1).m
 have AD:=zh ((zu A1).step ((Below.refl _ _).drew))
 have KS:=(And.intro (zu AD).c.c0 (And.intro (zu AD).c.c1 (And.intro (zu AD).c.c2 (And.intro (zu AD).c.c3 (And.intro (zu AD).c.c4 (And.intro (zu AD).c.c5 (And.intro ((zu AD).a 0 (by simp)) (And.intro ((zu AD).a 1 (by simp)) (And.intro ((zu AD).a 2 (by simp)) (And.intro ((zu AD).a 3 (by simp)) (And.intro ((zu AD).a 4 (by simp)) (And.intro ((zu AD).a 5 (by simp)) ((zu AD).a 6 (by simp))))))))))))))
 go_wp2_with fail
 refine wp_region_held_drew (S:=(fun w'=>w'.cell? ⟨w.heap.size,0,none⟩=some (.slice (some ⟨x.ga,0,none⟩) x.b.ac.length x.ca)∧w'.cell? ⟨w.heap.size,1,none⟩=some (.slice (some ⟨x.gi,0,none⟩) x.b.ic.length x.ci)∧w'.cell? ⟨w.heap.size,2,none⟩=some (.slice (some ⟨x.gb,0,none⟩) x.b.bs.length x.cb)∧w'.cell? ⟨w.heap.size,3,none⟩=some (.slice (some ⟨x.gl,0,none⟩) x.b.ls.length x.cl)∧w'.cell? ⟨w.heap.size,4,none⟩=some (.slice (some ⟨x.gt,0,none⟩) x.b.ts.length x.ct)∧w'.cell? ⟨w.heap.size,5,none⟩=some (.int .i64 x.b.lot)∧w'.cell? ⟨g,0,none⟩=some (.int .i64 y0)∧w'.cell? ⟨g,1,none⟩=some (.int .i64 y1)∧w'.cell? ⟨g,2,none⟩=some (.int .i64 y2)∧w'.cell? ⟨g,3,none⟩=some (.int .i64 y3)∧w'.cell? ⟨g,4,none⟩=some (.int .i64 y4)∧w'.cell? ⟨g,5,none⟩=some (.int .i64 y5)∧w'.cell? ⟨g,6,none⟩=some (.int .i64 y6))) (by kernel_rfl) KS (fun hHeld=>?_)
 refine tk 0 (.agg #[.slice (some ⟨x.ga,0,none⟩) x.b.ac.length x.ca,.slice (some ⟨x.gi,0,none⟩) x.b.ic.length x.ci,.slice (some ⟨x.gb,0,none⟩) x.b.bs.length x.cb,.slice (some ⟨x.gl,0,none⟩) x.b.ls.length x.cl,.slice (some ⟨x.gt,0,none⟩) x.b.ts.length x.ct,.int .i64 x.b.lot]) rfl (by kernel_rfl) (fun _ _ _ h=>h) (by rfl) hHeld (fun w hSw=>by go_simp) ?_
 refine tk 1 (.slice (some ⟨g,0,none⟩) 7 cap) rfl (by kernel_rfl) (fun _ _ _ h=>h) (by rfl) hHeld (fun w hSw=>by go_simp) ?_
 refine tk 2 (.pointer (some ⟨g,0,none⟩)) rfl (by kernel_rfl) (fun _ _ _ h=>h) (by rfl) hHeld (fun w hSw=>by go_simp) ?_
 refine tk 3 (.int .i64 y0) rfl (by kernel_rfl) (fun _ _ _ h=>h) (by rfl) hHeld (fun w hSw=>by go_simp) ?_
 refine tk 4 (.slice (some ⟨g,0,none⟩) 7 cap) rfl (by kernel_rfl) (fun _ _ _ h=>h) (by rfl) hHeld (fun w hSw=>by go_simp) ?_
 refine tk 5 (.pointer (some ⟨g,1,none⟩)) rfl (by kernel_rfl) (fun _ _ _ h=>h) (by rfl) hHeld (fun w hSw=>by go_simp) ?_
 refine tk 6 (.int .i64 y1) rfl (by kernel_rfl) (fun _ _ _ h=>h) (by rfl) hHeld (fun w hSw=>by go_simp) ?_
 refine tk 7 (.slice (some ⟨g,0,none⟩) 7 cap) rfl (by kernel_rfl) (fun _ _ _ h=>h) (by rfl) hHeld (fun w hSw=>by go_simp) ?_
 refine tk 8 (.pointer (some ⟨g,2,none⟩)) rfl (by kernel_rfl) (fun _ _ _ h=>h) (by rfl) hHeld (fun w hSw=>by go_simp) ?_
 refine tk 9 (.int .i64 y2) rfl (by kernel_rfl) (fun _ _ _ h=>h) (by rfl) hHeld (fun w hSw=>by go_simp) ?_
 refine tk 10 (.slice (some ⟨g,0,none⟩) 7 cap) rfl (by kernel_rfl) (fun _ _ _ h=>h) (by rfl) hHeld (fun w hSw=>by go_simp) ?_
 refine tk 11 (.pointer (some ⟨g,3,none⟩)) rfl (by kernel_rfl) (fun _ _ _ h=>h) (by rfl) hHeld (fun w hSw=>by go_simp) ?_
 refine tk 12 (.int .i64 y3) rfl (by kernel_rfl) (fun _ _ _ h=>h) (by rfl) hHeld (fun w hSw=>by go_simp) ?_
 refine tk 13 (.slice (some ⟨g,0,none⟩) 7 cap) rfl (by kernel_rfl) (fun _ _ _ h=>h) (by rfl) hHeld (fun w hSw=>by go_simp) ?_
 refine tk 14 (.pointer (some ⟨g,4,none⟩)) rfl (by kernel_rfl) (fun _ _ _ h=>h) (by rfl) hHeld (fun w hSw=>by go_simp) ?_
 refine tk 15 (.int .i64 y4) rfl (by kernel_rfl) (fun _ _ _ h=>h) (by rfl) hHeld (fun w hSw=>by go_simp) ?_
 refine tk 16 (.slice (some ⟨g,0,none⟩) 7 cap) rfl (by kernel_rfl) (fun _ _ _ h=>h) (by rfl) hHeld (fun w hSw=>by go_simp) ?_
 refine tk 17 (.pointer (some ⟨g,5,none⟩)) rfl (by kernel_rfl) (fun _ _ _ h=>h) (by rfl) hHeld (fun w hSw=>by go_simp) ?_
 refine tk 18 (.int .i64 y5) rfl (by kernel_rfl) (fun _ _ _ h=>h) (by rfl) hHeld (fun w hSw=>by go_simp) ?_
 refine tk 19 (.slice (some ⟨g,0,none⟩) 7 cap) rfl (by kernel_rfl) (fun _ _ _ h=>h) (by rfl) hHeld (fun w hSw=>by go_simp) ?_
 refine tk 20 (.pointer (some ⟨g,6,none⟩)) rfl (by kernel_rfl) (fun _ _ _ h=>h) (by rfl) hHeld (fun w hSw=>by go_simp) ?_
 refine tk 21 (.int .i64 y6) rfl (by kernel_rfl) (fun _ _ _ h=>h) (by rfl) hHeld (fun w hSw=>by go_simp) ?_
 try simp only[Act.put,zA,zB,zC]
 refine wpAnyH_ready (rs:=[22]) (by kernel_rfl) (by simp) ?_
 refine AllReadyH.cons rfl (fun K hK=>?_) AllReadyH.nil
 go_simp
 go_wp2_with fail
 refine(wFx _ x y0 y1 y2 y3 y4 y5 y6 (zu AD).r).mono ?_
 rintro e u2 ⟨y,t,c,rfl,hk⟩
 have A2:=zh ((zu AD).next hk)
 have KT:=(And.intro (zu A2).c.c0 (And.intro (zu A2).c.c1 (And.intro (zu A2).c.c2 (And.intro (zu A2).c.c3 (And.intro (zu A2).c.c4 (And.intro (zu A2).c.c5 (And.intro ((zu A2).a 0 (by simp)) (And.intro ((zu A2).a 1 (by simp)) (And.intro ((zu A2).a 2 (by simp)) (And.intro ((zu A2).a 3 (by simp)) (And.intro ((zu A2).a 4 (by simp)) (And.intro ((zu A2).a 5 (by simp)) ((zu A2).a 6 (by simp))))))))))))))
 have HK:=zh hk
 clear hk
 go_wp2_with fail
 refine hK.out _ _ KT (fun hHeld=>?_)
 clear hK K
 try simp only[Act.put,zA,zB,zC]
 refine tk 23 (.tuple #[.agg #[.slice y.aa y.b.ac.length y.ca,.slice y.ai y.b.ic.length y.ci,.slice y.ab y.b.bs.length y.cb,.slice y.al y.b.ls.length y.cl,.slice y.ats y.b.ts.length y.ct,.int .i64 y.b.lot],.int .i64 t,.int .i64 c]) rfl (by kernel_rfl) (fun _ _ _ h=>h) (by rfl) hHeld (fun w hSw=>by go_simp) ?_
 refine tk 24 (.agg #[.slice y.aa y.b.ac.length y.ca,.slice y.ai y.b.ic.length y.ci,.slice y.ab y.b.bs.length y.cb,.slice y.al y.b.ls.length y.cl,.slice y.ats y.b.ts.length y.ct,.int .i64 y.b.lot]) rfl (by kernel_rfl) (fun _ _ _ h=>h) (by rfl) hHeld (fun w hSw=>by go_simp) ?_
 refine tk 25 (.int .i64 t) rfl (by kernel_rfl) (fun _ _ _ h=>h) (by rfl) hHeld (fun w hSw=>by go_simp) ?_
 refine tk 26 (.int .i64 c) rfl (by kernel_rfl) (fun _ _ _ h=>h) (by rfl) hHeld (fun w hSw=>by go_simp) ?_
 obtain⟨f0,f1,f2,f3,f4,f5,d0,d1,d2,d3,d4,d5⟩:=box_opn (zu A2).o6
 try simp only[Act.put,zA,zB,zC]
 refine wpAnyH_ready (rs:=[27]) (by kernel_rfl) (by simp) ?_
 refine AllReadyH.cons rfl (fun K hK=>?_) AllReadyH.nil
 go_simp
 have A3:=zh ((zu A2).stored (.slice y.aa y.b.ac.length y.ca) (.slice y.ai y.b.ic.length y.ci) (.slice y.ab y.b.bs.length y.cb) (.slice y.al y.b.ls.length y.cl) (.slice y.ats y.b.ts.length y.ct) (.int .i64 y.b.lot))
 have KU:=(And.intro (zu A3).c.c0 (And.intro (zu A3).c.c1 (And.intro (zu A3).c.c2 (And.intro (zu A3).c.c3 (And.intro (zu A3).c.c4 (And.intro (zu A3).c.c5 (And.intro ((zu A3).a 0 (by simp)) (And.intro ((zu A3).a 1 (by simp)) (And.intro ((zu A3).a 2 (by simp)) (And.intro ((zu A3).a 3 (by simp)) (And.intro ((zu A3).a 4 (by simp)) (And.intro ((zu A3).a 5 (by simp)) ((zu A3).a 6 (by simp))))))))))))))
 have W3:=zh (wk_stored (zu AD) (zu HK) (zu A2).o6)
 clear f0 f1 f2 f3 f4 f5 d0 d1 d2 d3 d4 d5
 refine hK.out _ _ KU (fun hHeld=>?_)
 clear hK K
 try simp only[Act.put,zA,zB,zC]
 refine tk 28 (.int .i64 t) rfl (by kernel_rfl) (fun _ _ _ h=>h) (by rfl) hHeld (fun w hSw=>by go_simp) ?_
 refine tk 29 (.int .i64 c) rfl (by kernel_rfl) (fun _ _ _ h=>h) (by rfl) hHeld (fun w hSw=>by go_simp) ?_
 try simp only[Act.put,zA,zB,zC]
 refine wpAnyH_done (by kernel_rfl) ?_ _
 clear KS KT KU m0 m1
 obtain⟨-,-,-,-,-,-,c0,c1,c2,c3,c4,c5⟩:=box_opn (zu A3).o6
 have F:=zh ((zu A3).fin (zu AD).s y)
 obtain⟨g0,g1,g2,g3,g4,g5,h0,h1,h2,h3,h4,h5⟩:=box_opn (zu F).1
 obtain⟨p0,p1,q0,q1⟩:=(zu F).2.1.opn
 by_cases hc:c=0
 ·have cn:(c !=0)=false:=by simp[hc]
  have W4:=zh (show ∃z:Bx,y=ofB z∧Ow _ w.heap.size z∧Small z.b from(zu F).2.2.2 c t (zu W3) hc)
  have E:=zh ((zu F).2.2.1 c t)
  obtain⟨-,-,-,-,-,-,e0,e1,e2,e3,e4,e5⟩:=box_opn (zu E).1
  obtain⟨-,-,s0,s1⟩:=(zu E).2.1.opn
  have HC:=zh hc
  clear hc F
  go_wp2
  refine bodyPost_ret (v:= .tuple #[.agg #[.slice y.aa y.b.ac.length y.ca,.slice y.ai y.b.ic.length y.ci,.slice y.ab y.b.bs.length y.cb,.slice y.al y.b.ls.length y.cl,.slice y.ats y.b.ts.length y.ct,.int .i64 y.b.lot],.agg #[.int .i64 c,.int .i64 t]]) (by simp[results,Tryz.results32,go_sem,e0,e1,e2,e3,e4,e5,s0,s1]) rfl ?_
  exact⟨y,c,t,rfl,(zu E).2.2,.inr (zu W4)⟩
 ·have cn:(c !=0)=true:=by simp[hc]
  have E:=zh ((zu F).2.2.1 c 0)
  obtain⟨-,-,-,-,-,-,e0,e1,e2,e3,e4,e5⟩:=box_opn (zu E).1
  obtain⟨-,-,s0,s1⟩:=(zu E).2.1.opn
  have HC:=zh hc
  clear hc F
  go_wp2
  refine bodyPost_ret (v:= .tuple #[.agg #[.slice y.aa y.b.ac.length y.ca,.slice y.ai y.b.ic.length y.ci,.slice y.ab y.b.bs.length y.cb,.slice y.al y.b.ls.length y.cl,.slice y.ats y.b.ts.length y.ct,.int .i64 y.b.lot],.agg #[.int .i64 c,.int .i64 0]]) (by simp[results,Tryz.results32,go_sem,e0,e1,e2,e3,e4,e5,s0,s1]) rfl ?_
  exact⟨y,c,0,rfl,(zu E).2.2,.inl (zu HC)⟩
theorem k10(w:World)(x:Bx)(g cap:Nat)(y0 y1 y2 y3:Int)(hr:Rd w x)(hg:g<w.heap.size)(ha:Ints.At w g [y0,y1,y2,y3])(ok:Ok x.b)(cok:CmOk 10 [y0,y1,y2,y3]):
  Calls Tryz.prog 32 #[.agg #[.slice (some ⟨x.ga,0,none⟩) x.b.ac.length x.ca,.slice (some ⟨x.gi,0,none⟩) x.b.ic.length x.ci,.slice (some ⟨x.gb,0,none⟩) x.b.bs.length x.cb,.slice (some ⟨x.gl,0,none⟩) x.b.ls.length x.cl,.slice (some ⟨x.gt,0,none⟩) x.b.ts.length x.ct,.int .i64 x.b.lot],.agg #[.int .i64 10,.slice (some ⟨g,0,none⟩) 4 cap]] w (Ap w):=by
 have A0:=zh (Cp.start (k:=10) (n:=4) (cap:=cap) hr hg ha)
 obtain⟨b1,hb1⟩:=says_of (Ok x.b)
 obtain rfl:b1=true:=hb1.of ok
 obtain⟨b2,hb2⟩:=says_of (CmOk 10 [y0,y1,y2,y3])
 obtain rfl:b2=true:=hb2.of cok
 have HB1:=zh hb1
 have HB2:=zh hb2
 clear hb1 hb2 ok cok hr ha
 obtain⟨c0,c1,c2,c3,c4,c5⟩:=(zu A0).c
 go_enter Tryz.func32,Tryz.ntmps32
 go_wp2_with fail
 refine(SBooksOk.sBooksOk _ x true (zu A0).r (zu HB1)).mono ?_
 rintro e u0 ⟨rfl,bb⟩
 have A9:=zh ((zu A0).step bb)
 clear bb A0 c0 c1 c2 c3 c4 c5
 obtain⟨m0,m1⟩:=(zu A9).m
 go_wp2_with fail
 refine(SCmd.sCmdOk _ 10 g cap [y0,y1,y2,y3] true (by simp) (zu A9).lg (zu A9).a (zu HB2)).mono ?_
 rintro e u1 ⟨rfl,bb⟩
 have A1:=zh ((zu A9).step bb)
 clear bb A9 m0 m1
 obtain⟨m0,m1⟩:=(zu A1).m
 have AD:=zh ((zu A1).step ((Below.refl _ _).drew))
 have KS:=(And.intro (zu AD).c.c0 (And.intro (zu AD).c.c1 (And.intro (zu AD).c.c2 (And.intro (zu AD).c.c3 (And.intro (zu AD).c.c4 (And.intro (zu AD).c.c5 (And.intro ((zu AD).a 0 (by simp)) (And.intro ((zu AD).a 1 (by simp)) (And.intro ((zu AD).a 2 (by simp)) ((zu AD).a 3 (by simp)))))))))))
 go_wp2_with fail
 refine wp_region_held_drew (S:=(fun w'=>w'.cell? ⟨w.heap.size,0,none⟩=some (.slice (some ⟨x.ga,0,none⟩) x.b.ac.length x.ca)∧w'.cell? ⟨w.heap.size,1,none⟩=some (.slice (some ⟨x.gi,0,none⟩) x.b.ic.length x.ci)∧w'.cell? ⟨w.heap.size,2,none⟩=some (.slice (some ⟨x.gb,0,none⟩) x.b.bs.length x.cb)∧w'.cell? ⟨w.heap.size,3,none⟩=some (.slice (some ⟨x.gl,0,none⟩) x.b.ls.length x.cl)∧w'.cell? ⟨w.heap.size,4,none⟩=some (.slice (some ⟨x.gt,0,none⟩) x.b.ts.length x.ct)∧w'.cell? ⟨w.heap.size,5,none⟩=some (.int .i64 x.b.lot)∧w'.cell? ⟨g,0,none⟩=some (.int .i64 y0)∧w'.cell? ⟨g,1,none⟩=some (.int .i64 y1)∧w'.cell? ⟨g,2,none⟩=some (.int .i64 y2)∧w'.cell? ⟨g,3,none⟩=some (.int .i64 y3))) (by kernel_rfl) KS (fun hHeld=>?_)
 refine tk 0 (.agg #[.slice (some ⟨x.ga,0,none⟩) x.b.ac.length x.ca,.slice (some ⟨x.gi,0,none⟩) x.b.ic.length x.ci,.slice (some ⟨x.gb,0,none⟩) x.b.bs.length x.cb,.slice (some ⟨x.gl,0,none⟩) x.b.ls.length x.cl,.slice (some ⟨x.gt,0,none⟩) x.b.ts.length x.ct,.int .i64 x.b.lot]) rfl (by kernel_rfl) (fun _ _ _ h=>h) (by rfl) hHeld (fun w hSw=>by go_simp) ?_
 refine tk 1 (.slice (some ⟨g,0,none⟩) 4 cap) rfl (by kernel_rfl) (fun _ _ _ h=>h) (by rfl) hHeld (fun w hSw=>by go_simp) ?_
 refine tk 2 (.pointer (some ⟨g,0,none⟩)) rfl (by kernel_rfl) (fun _ _ _ h=>h) (by rfl) hHeld (fun w hSw=>by go_simp) ?_
 refine tk 3 (.int .i64 y0) rfl (by kernel_rfl) (fun _ _ _ h=>h) (by rfl) hHeld (fun w hSw=>by go_simp) ?_
 refine tk 4 (.slice (some ⟨g,0,none⟩) 4 cap) rfl (by kernel_rfl) (fun _ _ _ h=>h) (by rfl) hHeld (fun w hSw=>by go_simp) ?_
 refine tk 5 (.pointer (some ⟨g,1,none⟩)) rfl (by kernel_rfl) (fun _ _ _ h=>h) (by rfl) hHeld (fun w hSw=>by go_simp) ?_
 refine tk 6 (.int .i64 y1) rfl (by kernel_rfl) (fun _ _ _ h=>h) (by rfl) hHeld (fun w hSw=>by go_simp) ?_
 refine tk 7 (.slice (some ⟨g,0,none⟩) 4 cap) rfl (by kernel_rfl) (fun _ _ _ h=>h) (by rfl) hHeld (fun w hSw=>by go_simp) ?_
 refine tk 8 (.pointer (some ⟨g,2,none⟩)) rfl (by kernel_rfl) (fun _ _ _ h=>h) (by rfl) hHeld (fun w hSw=>by go_simp) ?_
 refine tk 9 (.int .i64 y2) rfl (by kernel_rfl) (fun _ _ _ h=>h) (by rfl) hHeld (fun w hSw=>by go_simp) ?_
 refine tk 10 (.slice (some ⟨g,0,none⟩) 4 cap) rfl (by kernel_rfl) (fun _ _ _ h=>h) (by rfl) hHeld (fun w hSw=>by go_simp) ?_
 refine tk 11 (.pointer (some ⟨g,3,none⟩)) rfl (by kernel_rfl) (fun _ _ _ h=>h) (by rfl) hHeld (fun w hSw=>by go_simp) ?_
 refine tk 12 (.int .i64 y3) rfl (by kernel_rfl) (fun _ _ _ h=>h) (by rfl) hHeld (fun w hSw=>by go_simp) ?_
 try simp only[Act.put,zA,zB,zC]
 refine wpAnyH_ready (rs:=[13]) (by kernel_rfl) (by simp) ?_
 refine AllReadyH.cons rfl (fun K hK=>?_) AllReadyH.nil
 go_simp
 go_wp2_with fail
 refine(wSplit _ x y0 y1 y2 y3 (zu AD).r).mono ?_
 rintro e u2 ⟨y,t,c,rfl,hk⟩
 have A2:=zh ((zu AD).next hk)
 have KT:=(And.intro (zu A2).c.c0 (And.intro (zu A2).c.c1 (And.intro (zu A2).c.c2 (And.intro (zu A2).c.c3 (And.intro (zu A2).c.c4 (And.intro (zu A2).c.c5 (And.intro ((zu A2).a 0 (by simp)) (And.intro ((zu A2).a 1 (by simp)) (And.intro ((zu A2).a 2 (by simp)) ((zu A2).a 3 (by simp)))))))))))
 have HK:=zh hk
 clear hk
 go_wp2_with fail
 refine hK.out _ _ KT (fun hHeld=>?_)
 clear hK K
 try simp only[Act.put,zA,zB,zC]
 refine tk 14 (.tuple #[.agg #[.slice y.aa y.b.ac.length y.ca,.slice y.ai y.b.ic.length y.ci,.slice y.ab y.b.bs.length y.cb,.slice y.al y.b.ls.length y.cl,.slice y.ats y.b.ts.length y.ct,.int .i64 y.b.lot],.int .i64 t,.int .i64 c]) rfl (by kernel_rfl) (fun _ _ _ h=>h) (by rfl) hHeld (fun w hSw=>by go_simp) ?_
 refine tk 15 (.agg #[.slice y.aa y.b.ac.length y.ca,.slice y.ai y.b.ic.length y.ci,.slice y.ab y.b.bs.length y.cb,.slice y.al y.b.ls.length y.cl,.slice y.ats y.b.ts.length y.ct,.int .i64 y.b.lot]) rfl (by kernel_rfl) (fun _ _ _ h=>h) (by rfl) hHeld (fun w hSw=>by go_simp) ?_
 refine tk 16 (.int .i64 t) rfl (by kernel_rfl) (fun _ _ _ h=>h) (by rfl) hHeld (fun w hSw=>by go_simp) ?_
 refine tk 17 (.int .i64 c) rfl (by kernel_rfl) (fun _ _ _ h=>h) (by rfl) hHeld (fun w hSw=>by go_simp) ?_
 obtain⟨f0,f1,f2,f3,f4,f5,d0,d1,d2,d3,d4,d5⟩:=box_opn (zu A2).o6
 try simp only[Act.put,zA,zB,zC]
 refine wpAnyH_ready (rs:=[18]) (by kernel_rfl) (by simp) ?_
 refine AllReadyH.cons rfl (fun K hK=>?_) AllReadyH.nil
 go_simp
 have A3:=zh ((zu A2).stored (.slice y.aa y.b.ac.length y.ca) (.slice y.ai y.b.ic.length y.ci) (.slice y.ab y.b.bs.length y.cb) (.slice y.al y.b.ls.length y.cl) (.slice y.ats y.b.ts.length y.ct) (.int .i64 y.b.lot))
 have KU:=(And.intro (zu A3).c.c0 (And.intro (zu A3).c.c1 (And.intro (zu A3).c.c2 (And.intro (zu A3).c.c3 (And.intro (zu A3).c.c4 (And.intro (zu A3).c.c5 (And.intro ((zu A3).a 0 (by simp)) (And.intro ((zu A3).a 1 (by simp)) (And.intro ((zu A3).a 2 (by simp)) ((zu A3).a 3 (by simp)))))))))))
 have W3:=zh (wk_stored (zu AD) (zu HK) (zu A2).o6)
 clear f0 f1 f2 f3 f4 f5 d0 d1 d2 d3 d4 d5
 refine hK.out _ _ KU (fun hHeld=>?_)
 clear hK K
 try simp only[Act.put,zA,zB,zC]
 refine tk 19 (.int .i64 t) rfl (by kernel_rfl) (fun _ _ _ h=>h) (by rfl) hHeld (fun w hSw=>by go_simp) ?_
 refine tk 20 (.int .i64 c) rfl (by kernel_rfl) (fun _ _ _ h=>h) (by rfl) hHeld (fun w hSw=>by go_simp) ?_
 try simp only[Act.put,zA,zB,zC]
 refine wpAnyH_done (by kernel_rfl) ?_ _
 clear KS KT KU m0 m1
 obtain⟨-,-,-,-,-,-,c0,c1,c2,c3,c4,c5⟩:=box_opn (zu A3).o6
 have F:=zh ((zu A3).fin (zu AD).s y)
 obtain⟨g0,g1,g2,g3,g4,g5,h0,h1,h2,h3,h4,h5⟩:=box_opn (zu F).1
 obtain⟨p0,p1,q0,q1⟩:=(zu F).2.1.opn
 by_cases hc:c=0
 ·have cn:(c !=0)=false:=by simp[hc]
  have W4:=zh (show ∃z:Bx,y=ofB z∧Ow _ w.heap.size z∧Small z.b from(zu F).2.2.2 c t (zu W3) hc)
  have E:=zh ((zu F).2.2.1 c t)
  obtain⟨-,-,-,-,-,-,e0,e1,e2,e3,e4,e5⟩:=box_opn (zu E).1
  obtain⟨-,-,s0,s1⟩:=(zu E).2.1.opn
  have HC:=zh hc
  clear hc F
  go_wp2
  refine bodyPost_ret (v:= .tuple #[.agg #[.slice y.aa y.b.ac.length y.ca,.slice y.ai y.b.ic.length y.ci,.slice y.ab y.b.bs.length y.cb,.slice y.al y.b.ls.length y.cl,.slice y.ats y.b.ts.length y.ct,.int .i64 y.b.lot],.agg #[.int .i64 c,.int .i64 t]]) (by simp[results,Tryz.results32,go_sem,e0,e1,e2,e3,e4,e5,s0,s1]) rfl ?_
  exact⟨y,c,t,rfl,(zu E).2.2,.inr (zu W4)⟩
 ·have cn:(c !=0)=true:=by simp[hc]
  have E:=zh ((zu F).2.2.1 c 0)
  obtain⟨-,-,-,-,-,-,e0,e1,e2,e3,e4,e5⟩:=box_opn (zu E).1
  obtain⟨-,-,s0,s1⟩:=(zu E).2.1.opn
  have HC:=zh hc
  clear hc F
  go_wp2
  refine bodyPost_ret (v:= .tuple #[.agg #[.slice y.aa y.b.ac.length y.ca,.slice y.ai y.b.ic.length y.ci,.slice y.ab y.b.bs.length y.cb,.slice y.al y.b.ls.length y.cl,.slice y.ats y.b.ts.length y.ct,.int .i64 y.b.lot],.agg #[.int .i64 c,.int .i64 0]]) (by simp[results,Tryz.results32,go_sem,e0,e1,e2,e3,e4,e5,s0,s1]) rfl ?_
  exact⟨y,c,0,rfl,(zu E).2.2,.inl (zu HC)⟩
theorem k11(w:World)(x:Bx)(g cap:Nat)(y0 y1 y2 y3:Int)(hr:Rd w x)(hg:g<w.heap.size)(ha:Ints.At w g [y0,y1,y2,y3])(ok:Ok x.b)(cok:CmOk 11 [y0,y1,y2,y3]):
  Calls Tryz.prog 32 #[.agg #[.slice (some ⟨x.ga,0,none⟩) x.b.ac.length x.ca,.slice (some ⟨x.gi,0,none⟩) x.b.ic.length x.ci,.slice (some ⟨x.gb,0,none⟩) x.b.bs.length x.cb,.slice (some ⟨x.gl,0,none⟩) x.b.ls.length x.cl,.slice (some ⟨x.gt,0,none⟩) x.b.ts.length x.ct,.int .i64 x.b.lot],.agg #[.int .i64 11,.slice (some ⟨g,0,none⟩) 4 cap]] w (Ap w):=by
 have A0:=zh (Cp.start (k:=11) (n:=4) (cap:=cap) hr hg ha)
 obtain⟨b1,hb1⟩:=says_of (Ok x.b)
 obtain rfl:b1=true:=hb1.of ok
 obtain⟨b2,hb2⟩:=says_of (CmOk 11 [y0,y1,y2,y3])
 obtain rfl:b2=true:=hb2.of cok
 have HB1:=zh hb1
 have HB2:=zh hb2
 clear hb1 hb2 ok cok hr ha
 obtain⟨c0,c1,c2,c3,c4,c5⟩:=(zu A0).c
 go_enter Tryz.func32,Tryz.ntmps32
 go_wp2_with fail
 refine(SBooksOk.sBooksOk _ x true (zu A0).r (zu HB1)).mono ?_
 rintro e u0 ⟨rfl,bb⟩
 have A9:=zh ((zu A0).step bb)
 clear bb A0 c0 c1 c2 c3 c4 c5
 obtain⟨m0,m1⟩:=(zu A9).m
 go_wp2_with fail
 refine(SCmd.sCmdOk _ 11 g cap [y0,y1,y2,y3] true (by simp) (zu A9).lg (zu A9).a (zu HB2)).mono ?_
 rintro e u1 ⟨rfl,bb⟩
 have A1:=zh ((zu A9).step bb)
 clear bb A9 m0 m1
 obtain⟨m0,m1⟩:=(zu A1).m
 have AD:=zh ((zu A1).step ((Below.refl _ _).drew))
 have KS:=(And.intro (zu AD).c.c0 (And.intro (zu AD).c.c1 (And.intro (zu AD).c.c2 (And.intro (zu AD).c.c3 (And.intro (zu AD).c.c4 (And.intro (zu AD).c.c5 (And.intro ((zu AD).a 0 (by simp)) (And.intro ((zu AD).a 1 (by simp)) (And.intro ((zu AD).a 2 (by simp)) ((zu AD).a 3 (by simp)))))))))))
 go_wp2_with fail
 refine wp_region_held_drew (S:=(fun w'=>w'.cell? ⟨w.heap.size,0,none⟩=some (.slice (some ⟨x.ga,0,none⟩) x.b.ac.length x.ca)∧w'.cell? ⟨w.heap.size,1,none⟩=some (.slice (some ⟨x.gi,0,none⟩) x.b.ic.length x.ci)∧w'.cell? ⟨w.heap.size,2,none⟩=some (.slice (some ⟨x.gb,0,none⟩) x.b.bs.length x.cb)∧w'.cell? ⟨w.heap.size,3,none⟩=some (.slice (some ⟨x.gl,0,none⟩) x.b.ls.length x.cl)∧w'.cell? ⟨w.heap.size,4,none⟩=some (.slice (some ⟨x.gt,0,none⟩) x.b.ts.length x.ct)∧w'.cell? ⟨w.heap.size,5,none⟩=some (.int .i64 x.b.lot)∧w'.cell? ⟨g,0,none⟩=some (.int .i64 y0)∧w'.cell? ⟨g,1,none⟩=some (.int .i64 y1)∧w'.cell? ⟨g,2,none⟩=some (.int .i64 y2)∧w'.cell? ⟨g,3,none⟩=some (.int .i64 y3))) (by kernel_rfl) KS (fun hHeld=>?_)
 refine tk 0 (.agg #[.slice (some ⟨x.ga,0,none⟩) x.b.ac.length x.ca,.slice (some ⟨x.gi,0,none⟩) x.b.ic.length x.ci,.slice (some ⟨x.gb,0,none⟩) x.b.bs.length x.cb,.slice (some ⟨x.gl,0,none⟩) x.b.ls.length x.cl,.slice (some ⟨x.gt,0,none⟩) x.b.ts.length x.ct,.int .i64 x.b.lot]) rfl (by kernel_rfl) (fun _ _ _ h=>h) (by rfl) hHeld (fun w hSw=>by go_simp) ?_
 refine tk 1 (.slice (some ⟨g,0,none⟩) 4 cap) rfl (by kernel_rfl) (fun _ _ _ h=>h) (by rfl) hHeld (fun w hSw=>by go_simp) ?_
 refine tk 2 (.pointer (some ⟨g,0,none⟩)) rfl (by kernel_rfl) (fun _ _ _ h=>h) (by rfl) hHeld (fun w hSw=>by go_simp) ?_
 refine tk 3 (.int .i64 y0) rfl (by kernel_rfl) (fun _ _ _ h=>h) (by rfl) hHeld (fun w hSw=>by go_simp) ?_
 refine tk 4 (.slice (some ⟨g,0,none⟩) 4 cap) rfl (by kernel_rfl) (fun _ _ _ h=>h) (by rfl) hHeld (fun w hSw=>by go_simp) ?_
 refine tk 5 (.pointer (some ⟨g,1,none⟩)) rfl (by kernel_rfl) (fun _ _ _ h=>h) (by rfl) hHeld (fun w hSw=>by go_simp) ?_
 refine tk 6 (.int .i64 y1) rfl (by kernel_rfl) (fun _ _ _ h=>h) (by rfl) hHeld (fun w hSw=>by go_simp) ?_
 refine tk 7 (.slice (some ⟨g,0,none⟩) 4 cap) rfl (by kernel_rfl) (fun _ _ _ h=>h) (by rfl) hHeld (fun w hSw=>by go_simp) ?_
 refine tk 8 (.pointer (some ⟨g,2,none⟩)) rfl (by kernel_rfl) (fun _ _ _ h=>h) (by rfl) hHeld (fun w hSw=>by go_simp) ?_
 refine tk 9 (.int .i64 y2) rfl (by kernel_rfl) (fun _ _ _ h=>h) (by rfl) hHeld (fun w hSw=>by go_simp) ?_
 refine tk 10 (.slice (some ⟨g,0,none⟩) 4 cap) rfl (by kernel_rfl) (fun _ _ _ h=>h) (by rfl) hHeld (fun w hSw=>by go_simp) ?_
 refine tk 11 (.pointer (some ⟨g,3,none⟩)) rfl (by kernel_rfl) (fun _ _ _ h=>h) (by rfl) hHeld (fun w hSw=>by go_simp) ?_
 refine tk 12 (.int .i64 y3) rfl (by kernel_rfl) (fun _ _ _ h=>h) (by rfl) hHeld (fun w hSw=>by go_simp) ?_
 try simp only[Act.put,zA,zB,zC]
 refine wpAnyH_ready (rs:=[13]) (by kernel_rfl) (by simp) ?_
 refine AllReadyH.cons rfl (fun K hK=>?_) AllReadyH.nil
 go_simp
 go_wp2_with fail
 refine(wPay _ x y0 y1 y2 y3 (zu AD).r).mono ?_
 rintro e u2 ⟨y,t,c,rfl,hk⟩
 have A2:=zh ((zu AD).next hk)
 have KT:=(And.intro (zu A2).c.c0 (And.intro (zu A2).c.c1 (And.intro (zu A2).c.c2 (And.intro (zu A2).c.c3 (And.intro (zu A2).c.c4 (And.intro (zu A2).c.c5 (And.intro ((zu A2).a 0 (by simp)) (And.intro ((zu A2).a 1 (by simp)) (And.intro ((zu A2).a 2 (by simp)) ((zu A2).a 3 (by simp)))))))))))
 have HK:=zh hk
 clear hk
 go_wp2_with fail
 refine hK.out _ _ KT (fun hHeld=>?_)
 clear hK K
 try simp only[Act.put,zA,zB,zC]
 refine tk 14 (.tuple #[.agg #[.slice y.aa y.b.ac.length y.ca,.slice y.ai y.b.ic.length y.ci,.slice y.ab y.b.bs.length y.cb,.slice y.al y.b.ls.length y.cl,.slice y.ats y.b.ts.length y.ct,.int .i64 y.b.lot],.int .i64 t,.int .i64 c]) rfl (by kernel_rfl) (fun _ _ _ h=>h) (by rfl) hHeld (fun w hSw=>by go_simp) ?_
 refine tk 15 (.agg #[.slice y.aa y.b.ac.length y.ca,.slice y.ai y.b.ic.length y.ci,.slice y.ab y.b.bs.length y.cb,.slice y.al y.b.ls.length y.cl,.slice y.ats y.b.ts.length y.ct,.int .i64 y.b.lot]) rfl (by kernel_rfl) (fun _ _ _ h=>h) (by rfl) hHeld (fun w hSw=>by go_simp) ?_
 refine tk 16 (.int .i64 t) rfl (by kernel_rfl) (fun _ _ _ h=>h) (by rfl) hHeld (fun w hSw=>by go_simp) ?_
 refine tk 17 (.int .i64 c) rfl (by kernel_rfl) (fun _ _ _ h=>h) (by rfl) hHeld (fun w hSw=>by go_simp) ?_
 obtain⟨f0,f1,f2,f3,f4,f5,d0,d1,d2,d3,d4,d5⟩:=box_opn (zu A2).o6
 try simp only[Act.put,zA,zB,zC]
 refine wpAnyH_ready (rs:=[18]) (by kernel_rfl) (by simp) ?_
 refine AllReadyH.cons rfl (fun K hK=>?_) AllReadyH.nil
 go_simp
 have A3:=zh ((zu A2).stored (.slice y.aa y.b.ac.length y.ca) (.slice y.ai y.b.ic.length y.ci) (.slice y.ab y.b.bs.length y.cb) (.slice y.al y.b.ls.length y.cl) (.slice y.ats y.b.ts.length y.ct) (.int .i64 y.b.lot))
 have KU:=(And.intro (zu A3).c.c0 (And.intro (zu A3).c.c1 (And.intro (zu A3).c.c2 (And.intro (zu A3).c.c3 (And.intro (zu A3).c.c4 (And.intro (zu A3).c.c5 (And.intro ((zu A3).a 0 (by simp)) (And.intro ((zu A3).a 1 (by simp)) (And.intro ((zu A3).a 2 (by simp)) ((zu A3).a 3 (by simp)))))))))))
 have W3:=zh (wk_stored (zu AD) (zu HK) (zu A2).o6)
 clear f0 f1 f2 f3 f4 f5 d0 d1 d2 d3 d4 d5
 refine hK.out _ _ KU (fun hHeld=>?_)
 clear hK K
 try simp only[Act.put,zA,zB,zC]
 refine tk 19 (.int .i64 t) rfl (by kernel_rfl) (fun _ _ _ h=>h) (by rfl) hHeld (fun w hSw=>by go_simp) ?_
 refine tk 20 (.int .i64 c) rfl (by kernel_rfl) (fun _ _ _ h=>h) (by rfl) hHeld (fun w hSw=>by go_simp) ?_
 try simp only[Act.put,zA,zB,zC]
 refine wpAnyH_done (by kernel_rfl) ?_ _
 clear KS KT KU m0 m1
 obtain⟨-,-,-,-,-,-,c0,c1,c2,c3,c4,c5⟩:=box_opn (zu A3).o6
 have F:=zh ((zu A3).fin (zu AD).s y)
 obtain⟨g0,g1,g2,g3,g4,g5,h0,h1,h2,h3,h4,h5⟩:=box_opn (zu F).1
 obtain⟨p0,p1,q0,q1⟩:=(zu F).2.1.opn
 by_cases hc:c=0
 ·have cn:(c !=0)=false:=by simp[hc]
  have W4:=zh (show ∃z:Bx,y=ofB z∧Ow _ w.heap.size z∧Small z.b from(zu F).2.2.2 c t (zu W3) hc)
  have E:=zh ((zu F).2.2.1 c t)
  obtain⟨-,-,-,-,-,-,e0,e1,e2,e3,e4,e5⟩:=box_opn (zu E).1
  obtain⟨-,-,s0,s1⟩:=(zu E).2.1.opn
  have HC:=zh hc
  clear hc F
  go_wp2
  refine bodyPost_ret (v:= .tuple #[.agg #[.slice y.aa y.b.ac.length y.ca,.slice y.ai y.b.ic.length y.ci,.slice y.ab y.b.bs.length y.cb,.slice y.al y.b.ls.length y.cl,.slice y.ats y.b.ts.length y.ct,.int .i64 y.b.lot],.agg #[.int .i64 c,.int .i64 t]]) (by simp[results,Tryz.results32,go_sem,e0,e1,e2,e3,e4,e5,s0,s1]) rfl ?_
  exact⟨y,c,t,rfl,(zu E).2.2,.inr (zu W4)⟩
 ·have cn:(c !=0)=true:=by simp[hc]
  have E:=zh ((zu F).2.2.1 c 0)
  obtain⟨-,-,-,-,-,-,e0,e1,e2,e3,e4,e5⟩:=box_opn (zu E).1
  obtain⟨-,-,s0,s1⟩:=(zu E).2.1.opn
  have HC:=zh hc
  clear hc F
  go_wp2
  refine bodyPost_ret (v:= .tuple #[.agg #[.slice y.aa y.b.ac.length y.ca,.slice y.ai y.b.ic.length y.ci,.slice y.ab y.b.bs.length y.cb,.slice y.al y.b.ls.length y.cl,.slice y.ats y.b.ts.length y.ct,.int .i64 y.b.lot],.agg #[.int .i64 c,.int .i64 0]]) (by simp[results,Tryz.results32,go_sem,e0,e1,e2,e3,e4,e5,s0,s1]) rfl ?_
  exact⟨y,c,0,rfl,(zu E).2.2,.inl (zu HC)⟩
theorem bad1(w:World)(x:Bx)(k:Int)(g cap:Nat)(xs:List Int)(h20:xs.length≤1048576)(hr:Rd w x)(hg:g<w.heap.size)(ha:Ints.At w g xs)(ok:¬Ok x.b):
  Calls Tryz.prog 32 #[.agg #[.slice (some ⟨x.ga,0,none⟩) x.b.ac.length x.ca,.slice (some ⟨x.gi,0,none⟩) x.b.ic.length x.ci,.slice (some ⟨x.gb,0,none⟩) x.b.bs.length x.cb,.slice (some ⟨x.gl,0,none⟩) x.b.ls.length x.cl,.slice (some ⟨x.gt,0,none⟩) x.b.ts.length x.ct,.int .i64 x.b.lot],.agg #[.int .i64 k,.slice (some ⟨g,0,none⟩) xs.length cap]] w (Ap w):=by
 have A0:=zh (Cp.start (k:=k) (n:=xs.length) (cap:=cap) hr hg ha)
 obtain⟨b1,hb1⟩:=says_of (Ok x.b)
 obtain rfl:b1=false:=hb1.not ok
 have HB1:=zh hb1
 clear hb1 ok hr ha
 obtain⟨c0,c1,c2,c3,c4,c5⟩:=(zu A0).c
 go_enter Tryz.func32,Tryz.ntmps32
 go_wp2_with fail
 refine(SBooksOk.sBooksOk _ x false (zu A0).r (zu HB1)).mono ?_
 rintro e u0 ⟨rfl,bb⟩
 have A9:=zh ((zu A0).step bb)
 clear A0 c0 c1 c2 c3 c4 c5
 clear bb
 have F:=zh ((zu A9).fin (N:=w.heap.size+1+1+1+1+1) (Nat.le_refl _) zeroB)
 obtain⟨-,-,-,-,-,-,c0,c1,c2,c3,c4,c5⟩:=box_opn (zu A9).o6
 obtain⟨g0,g1,g2,g3,g4,g5,h0,h1,h2,h3,h4,h5⟩:=box_opn (zu F).1
 obtain⟨p0,p1,q0,q1⟩:=(zu F).2.1.opn
 have E:=zh ((zu F).2.2.1 1 0)
 obtain⟨-,-,-,-,-,-,e0,e1,e2,e3,e4,e5⟩:=box_opn (zu E).1
 obtain⟨-,-,s0,s1⟩:=(zu E).2.1.opn
 simp only[zeroB,List.length_nil] at e0 e1 e2 e3 e4 e5 s0 s1 p0 p1 q0 q1
 clear F
 go_wp2
 refine bodyPost_ret (v:= .tuple #[.agg #[.slice none 0 0,.slice none 0 0,.slice none 0 0,.slice none 0 0,.slice none 0 0,.int .i64 0],.agg #[.int .i64 1,.int .i64 0]]) (by simp[results,Tryz.results32,go_sem,e0,e1,e2,e3,e4,e5,s0,s1]) rfl ?_
 exact⟨zeroB,1,0,rfl,(zu E).2.2,.inl (by decide)⟩
theorem bad2(w:World)(x:Bx)(k:Int)(g cap:Nat)(xs:List Int)(h20:xs.length≤1048576)(hr:Rd w x)(hg:g<w.heap.size)(ha:Ints.At w g xs)(ok:Ok x.b)(cok:¬CmOk k xs):
  Calls Tryz.prog 32 #[.agg #[.slice (some ⟨x.ga,0,none⟩) x.b.ac.length x.ca,.slice (some ⟨x.gi,0,none⟩) x.b.ic.length x.ci,.slice (some ⟨x.gb,0,none⟩) x.b.bs.length x.cb,.slice (some ⟨x.gl,0,none⟩) x.b.ls.length x.cl,.slice (some ⟨x.gt,0,none⟩) x.b.ts.length x.ct,.int .i64 x.b.lot],.agg #[.int .i64 k,.slice (some ⟨g,0,none⟩) xs.length cap]] w (Ap w):=by
 have A0:=zh (Cp.start (k:=k) (n:=xs.length) (cap:=cap) hr hg ha)
 obtain⟨b1,hb1⟩:=says_of (Ok x.b)
 obtain rfl:b1=true:=hb1.of ok
 have HB1:=zh hb1
 obtain⟨b2,hb2⟩:=says_of (CmOk k xs)
 obtain rfl:b2=false:=hb2.not cok
 have HB2:=zh hb2
 clear hb2 cok
 clear hb1 ok hr ha
 obtain⟨c0,c1,c2,c3,c4,c5⟩:=(zu A0).c
 go_enter Tryz.func32,Tryz.ntmps32
 go_wp2_with fail
 refine(SBooksOk.sBooksOk _ x true (zu A0).r (zu HB1)).mono ?_
 rintro e u0 ⟨rfl,bb⟩
 have A9:=zh ((zu A0).step bb)
 clear bb A0 c0 c1 c2 c3 c4 c5
 obtain⟨m0,m1⟩:=(zu A9).m
 go_wp2_with fail
 refine(SCmd.sCmdOk _ k g cap xs false h20 (zu A9).lg (zu A9).a (zu HB2)).mono ?_
 rintro e u1 ⟨rfl,bb⟩
 replace A9:=zh ((zu A9).step bb)
 clear m0 m1
 clear bb
 have F:=zh ((zu A9).fin (N:=w.heap.size+1+1+1+1+1) (Nat.le_refl _) zeroB)
 obtain⟨-,-,-,-,-,-,c0,c1,c2,c3,c4,c5⟩:=box_opn (zu A9).o6
 obtain⟨g0,g1,g2,g3,g4,g5,h0,h1,h2,h3,h4,h5⟩:=box_opn (zu F).1
 obtain⟨p0,p1,q0,q1⟩:=(zu F).2.1.opn
 have E:=zh ((zu F).2.2.1 1 0)
 obtain⟨-,-,-,-,-,-,e0,e1,e2,e3,e4,e5⟩:=box_opn (zu E).1
 obtain⟨-,-,s0,s1⟩:=(zu E).2.1.opn
 simp only[zeroB,List.length_nil] at e0 e1 e2 e3 e4 e5 s0 s1 p0 p1 q0 q1
 clear F
 go_wp2
 refine bodyPost_ret (v:= .tuple #[.agg #[.slice none 0 0,.slice none 0 0,.slice none 0 0,.slice none 0 0,.slice none 0 0,.int .i64 0],.agg #[.int .i64 1,.int .i64 0]]) (by simp[results,Tryz.results32,go_sem,e0,e1,e2,e3,e4,e5,s0,s1]) rfl ?_
 exact⟨zeroB,1,0,rfl,(zu E).2.2,.inl (by decide)⟩
theorem kind_in{k:Int}{xs:List Int}(h:CmOk k xs):1≤k∧k≤11:=by
 have a:=h.1
 unfold nArgs at a
 repeat' split at a
 all_goals omega
theorem sApply(w:World)(x:Bx)(k:Int)(g cap:Nat)(xs:List Int)(h20:xs.length≤1048576)(hr:Rd w x)(hg:g<w.heap.size)(ha:Ints.At w g xs):
  Calls Tryz.prog 32 #[.agg #[.slice (some ⟨x.ga,0,none⟩) x.b.ac.length x.ca,.slice (some ⟨x.gi,0,none⟩) x.b.ic.length x.ci,.slice (some ⟨x.gb,0,none⟩) x.b.bs.length x.cb,.slice (some ⟨x.gl,0,none⟩) x.b.ls.length x.cl,.slice (some ⟨x.gt,0,none⟩) x.b.ts.length x.ct,.int .i64 x.b.lot],.agg #[.int .i64 k,.slice (some ⟨g,0,none⟩) xs.length cap]] w (Ap w):=by
 by_cases ok:Ok x.b
 case neg=>exact bad1 w x k g cap xs h20 hr hg ha ok
 by_cases cok:CmOk k xs
 case neg=>exact bad2 w x k g cap xs h20 hr hg ha ok cok
 obtain⟨kl,kh⟩:=kind_in cok
 have:k=1∨k=2∨k=3∨k=4∨k=5∨k=6∨k=7∨k=8∨k=9∨k=10∨k=11:=by omega
 have hl:=cok.1
 rcases this with rfl|rfl|rfl|rfl|rfl|rfl|rfl|rfl|rfl|rfl|rfl
 ·match xs,(show xs.length=2 by have h:=hl;simp[nArgs] at h;omega) with
  |[y0,y1],_=>exact k1 w x g cap y0 y1 hr hg ha ok cok
 ·match xs,(show xs.length=2 by have h:=hl;simp[nArgs] at h;omega) with
  |[y0,y1],_=>exact k2 w x g cap y0 y1 hr hg ha ok cok
 ·match xs,(show xs.length=5 by have h:=hl;simp[nArgs] at h;omega) with
  |[y0,y1,y2,y3,y4],_=>exact k3 w x g cap y0 y1 y2 y3 y4 hr hg ha ok cok
 ·match xs,(show xs.length=5 by have h:=hl;simp[nArgs] at h;omega) with
  |[y0,y1,y2,y3,y4],_=>exact k4 w x g cap y0 y1 y2 y3 y4 hr hg ha ok cok
 ·match xs,(show xs.length=7 by have h:=hl;simp[nArgs] at h;omega) with
  |[y0,y1,y2,y3,y4,y5,y6],_=>exact k5 w x g cap y0 y1 y2 y3 y4 y5 y6 hr hg ha ok cok
 ·match xs,(show xs.length=1 by have h:=hl;simp[nArgs] at h;omega) with
  |[y0],_=>exact k6 w x g cap y0 hr hg ha ok cok
 ·match xs,(show xs.length=2 by have h:=hl;simp[nArgs] at h;omega) with
  |[y0,y1],_=>exact k7 w x g cap y0 y1 hr hg ha ok cok
 ·match xs,(show xs.length=3 by have h:=hl;simp[nArgs] at h;omega) with
  |[y0,y1,y2],_=>exact k8 w x g cap y0 y1 y2 hr hg ha ok cok
 ·match xs,(show xs.length=7 by have h:=hl;simp[nArgs] at h;omega) with
  |[y0,y1,y2,y3,y4,y5,y6],_=>exact k9 w x g cap y0 y1 y2 y3 y4 y5 y6 hr hg ha ok cok
 ·match xs,(show xs.length=4 by have h:=hl;simp[nArgs] at h;omega) with
  |[y0,y1,y2,y3],_=>exact k10 w x g cap y0 y1 y2 y3 hr hg ha ok cok
 ·match xs,(show xs.length=4 by have h:=hl;simp[nArgs] at h;omega) with
  |[y0,y1,y2,y3],_=>exact k11 w x g cap y0 y1 y2 y3 hr hg ha ok cok
end SApp12
end Go.Proofs.YtcjgepkdpkhljaaGreat
