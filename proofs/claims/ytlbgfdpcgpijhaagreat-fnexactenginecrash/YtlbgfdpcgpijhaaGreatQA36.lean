/- Texts of one proof. -/
import Derived.Test.YtlbgfdpcgpijhaaGreatQA32
import Derived.Maps.OwnSet
open Go.ChangeShapes Go.WideShapes Go.ChangeAt Go.RowKit
set_option linter.unusedVariables false
set_option linter.unusedSimpArgs false
set_option maxRecDepth 100000
set_option maxHeartbeats 32000000
namespace Go.Proofs.YtlbgfdpcgpijhaaGreat
namespace TabF14
open Fil14 OpensF14 DiskH14 DkH14 SDk14 SOk14
open Go.Maps (Keyed)
def Wf(n:Int):Prop:=(Lit.int .i64 n).wf=true
abbrev z0:TF:=(0,ByteArray.empty,ByteArray.empty)
abbrev fV(p:TF):Value:= .agg #[.int .i64 p.1,.string p.2.1,.string p.2.2]
open Classical in
noncomputable def rF (v:Value):Option (DataW TF×List MemPlace):=if h:∃p,v=fV p then some (.held h.choose,[]) else none
def Tf(w:World)(B n:Nat)(f:Int→Option TF):Prop:=∃D:DataW TF,w.ownsMap Tryz.prog 3 rF B n D∧∀k,Wf k→D.atKey (.int .i64 k) (.held z0)= .held ((f k).getD z0)∧Maps.has D (.int .i64 k)=(f k).isSome
theorem Tf.lt{w:World}{B n:Nat}{f:Int→Option TF}(h:Tf w B n f):B<w.heap.size:=by
 obtain⟨D,h1,_⟩:=h
 exact h1.lt
theorem Tf.kept{w w':World}{B n:Nat}{f:Int→Option TF}{row:Option Nat}(h:Tf w B n f)(hg:w.grownBy w' row)(hne:some B≠row):Tf w' B n f:=by
 obtain⟨D,h1,h2⟩:=h
 exact⟨D,h1.kept hg hne,h2⟩
theorem below_grown{w w':World}(h:Below w.heap.size w w'):w.grownBy w' none:=⟨h.os,h.tape,h.output,h.size,fun k hk _=>h.block k hk⟩
theorem Tf.below{w w':World}{B n:Nat}{f:Int→Option TF}(h:Tf w B n f)(k:Below w.heap.size w w'):Tf w' B n f:=h.kept (below_grown k) (by simp)
theorem Tf.drew{w:World}{B n:Nat}{f:Int→Option TF}(h:Tf w B n f):Tf w.drew B n f:=h.below (Below.refl _ _).drew
end TabF14
namespace ITb14
open Fil14 OpensF14 DiskH14 DkH14 SDk14 SOk14 SLess14 TabF14
theorem wd_grown{w wr wz:World}{x:Dx}{B:Nat}(h:Wd w wr x)(k:wr.grownBy wz (some B))(hB:w.heap.size<B)(hx:∀g,x.a=some ⟨g,0,none⟩→g≠B):Wd w wz x:=by
 refine⟨(App14.kcell k 0 h.lt (by omega)).trans h.c0,(App14.kcell k 1 h.lt (by omega)).trans h.c1,Nat.lt_of_lt_of_le h.lt k.size,grow_low h.b k ⟨by omega,Nat.le_of_lt h.lt⟩,⟨h.r.e,fun g e=>?_,h.r.n⟩⟩
 obtain⟨l,a⟩:=h.r.r g e
 have c:=fun o=>App14.kcell k o l (hx g e)
 refine⟨Nat.lt_of_lt_of_le l k.size,fun i hi=>?_⟩
 obtain⟨a0,a1,a2⟩:=a i hi
 exact⟨(c _).trans a0,(c _).trans a1,(c _).trans a2⟩
end ITb14
namespace PTab14
open Fil14 DiskH14 SDk14 SOk14 SLess14 SPut14 TabF14
theorem el_size{ps:List TF}(hz:sumZ ps≤1048576){k:Nat}(hk:k<ps.length):(elF ps k).2.1.size+(elF ps k).2.2.size≤1048576:=by
 have:=sumZ_next hk
 have:=sumZ_le ps (k+1)
 omega
end PTab14
end Go.Proofs.YtlbgfdpcgpijhaaGreat
