/- Lemmas. -/
import Derived.Test.YtppkkmaoaiopaaaGreatQF1
import Derived.Deep.SlicePairs
import Derived.Lib.SmallJoins
open Go.ChangeShapes Go.WideShapes Go.ChangeAt Go.RowKit
set_option linter.unusedVariables false
set_option linter.unusedSimpArgs false
set_option maxRecDepth 100000
set_option maxHeartbeats 32000000
namespace Go.Proofs.YtppkkmaoaiopaaaGreat
namespace Opens
open Pairs
theorem open_pairs{H:Type}{enc:TypeId×Value→H}{P:Program}{w:World}{base:Nat}{spare:Nat→Bool}{held:Bool}{t e i:TypeId}{n0 n1:String}{b0 b1:Bool}{t0 t1 p0 p1:String}{o0 o1:Nat}{fuel:Nat}{a:Option Addr}{len cap:Nat}{x:DataW H×List MemPlace}
  (ht:P.underlying t=some (.slice e))(he:P.underlying e=some (.struct #[{name:=n0,type:=i,offset:=0,embedded:=b0,tag:=t0,pkgPath:=p0,byteOffset:=o0},{name:=n1,type:=i,offset:=1,embedded:=b1,tag:=t1,pkgPath:=p1,byteOffset:=o1}]))
  (hc:(P.cellsOf e==2&&P.cellsOf i==1)=true)(hi:P.underlying i=some (.int .i64))
  (h:DataW.trod enc P w base spare held fuel t (Value.slice a len cap).cells.toList=some x):∃ps:List (Int×Int),ps.length=len∧len≤9223372036854775807∧Reads w a ps:=by
 have hc':P.cellsOf e=2∧P.cellsOf i=1:=by simpa using hc
 rcases Deep.open_slice_pairs ht he hc'.1 rfl rfl hc'.2 hc'.2 h with⟨hcs,_⟩|⟨b,l,c,m,n,V0,V1,D0,D1,P0,P1,hcs,_,hlc,hm,hmm,_,hx⟩
 ·simp[Value.cells] at hcs
  obtain⟨rfl,rfl,rfl⟩:=hcs
  exact⟨[],rfl,by omega,.inl rfl⟩
 ·simp[Value.cells] at hcs
  obtain⟨rfl,rfl,rfl⟩:=hcs
  have hlm:len≤m:=by rw[hmm];split<;>omega
  refine⟨(List.range len).map fun i=>(intOf (V0 i),intOf (V1 i)),by simp,by unfold maxLen at hm;omega,?_⟩
  by_cases z:len=0
  ·exact .inl (by simp[z])
  ·have val:∀i,i<len→V0 i= .int .i64 (intOf (V0 i))∧V1 i= .int .i64 (intOf (V1 i)):=fun i hi'=>by
    obtain⟨_,_,q0,q1⟩:=hx i (by omega)
    obtain⟨x0,e0,_⟩:=DataW.trod_int hi q0
    obtain⟨x1,e1,_⟩:=DataW.trod_int hi q1
    simp at e0 e1
    rw[e0,e1]
    exact⟨rfl,rfl⟩
   obtain⟨blk,off,spot⟩:=b
   have c0:=(hx 0 (by omega)).1
   have hspot:spot=none:=by simpa[Addr.add] using World.cell?_spot c0
   subst hspot
   have c0':w.cell? ⟨blk,off,none⟩=some (V0 0):=by simpa[Addr.add] using c0
   refine .inr ⟨blk,off,rfl,World.block_lt_of_cell? w _ c0',fun i hi'=>?_⟩
   have hi'':i<len:=by simpa using hi'
   obtain⟨q0,q1,_⟩:=hx i (by omega)
   obtain⟨v0,v1⟩:=val i hi''
   rw[Addr.add_lit] at q0 q1
   have hg:((List.range len).map fun i=>(intOf (V0 i),intOf (V1 i))).getD i (0,0)=(intOf (V0 i),intOf (V1 i)):=by simp[List.getD,hi'']
   rw[hg]
   exact⟨by rw[q0];exact congrArg some v0,by rw[Nat.add_assoc,q1];exact congrArg some v1⟩
end Opens
end Go.Proofs.YtppkkmaoaiopaaaGreat
