/- Texts of one proof, one behind the other: OpensB. -/
import Derived.Test.YtagmnociflkhcaaGreatRows
import Derived.Test.YtagmnociflkhcaaGreatQW0
import Derived.Test.YtagmnociflkhcaaGreatQW14
import Derived.Test.YtagmnociflkhcaaGreatQW32
import Derived.Test.YtagmnociflkhcaaGreatQW33
import Derived.Test.YtagmnociflkhcaaGreatQW34
import Derived.Deep.Slices
set_option linter.unusedVariables false
set_option linter.unusedSimpArgs false
open Go.ChangeShapes Go.WideShapes Go.ChangeAt Go.RowKit
set_option maxRecDepth 100000
set_option maxHeartbeats 32000000
namespace Go.Proofs.YtagmnociflkhcaaGreat
namespace OpensB
open BMem Bks BHelp BkEq
theorem slice_cell{H:Type}{enc:TypeId×Value→H}{P:Program}{w:World}{base:Nat}{spare:Nat→Bool}{held:Bool}{t e:TypeId}{fuel:Nat}{v:Value}{x:DataW H×List MemPlace}
  (ht:P.underlying t=some (.slice e))(h:DataW.trod enc P w base spare held fuel t [v]=some x):∃a len cap,v= .slice a len cap:=by
 rcases Deep.open_slice ht h with⟨hcs,_⟩|⟨b,l,c,m,n,D,Pl,hcs,_⟩
 ·simp at hcs
  exact⟨_,_,_,hcs⟩
 ·simp at hcs
  exact⟨_,_,_,hcs⟩
theorem struct_cells{H:Type}{enc:TypeId×Value→H}{P:Program}{w:World}{base:Nat}{spare:Nat→Bool}{held:Bool}{e:TypeId}{f0 f1 f2 f3 f4 f5:Field}{fuel:Nat}{cs:List Value}{x:DataW H×List MemPlace}
  (he:P.underlying e=some (.struct #[f0,f1,f2,f3,f4,f5]))(hc:(P.cellsOf e==6&&P.cellsOf f0.type==1&&P.cellsOf f1.type==1&&P.cellsOf f2.type==1&&P.cellsOf f3.type==1&&P.cellsOf f4.type==1&&P.cellsOf f5.type==1&&f0.offset==0&&f1.offset==1&&f2.offset==2&&f3.offset==3&&f4.offset==4&&f5.offset==5)=true)
  (h:DataW.trod enc P w base spare held fuel e cs=some x):∃v0 v1 v2 v3 v4 v5 k x0 x1 x2 x3 x4 x5,cs=[v0,v1,v2,v3,v4,v5]∧DataW.trod enc P w base spare held k f0.type [v0]=some x0∧DataW.trod enc P w base spare held k f1.type [v1]=some x1∧DataW.trod enc P w base spare held k f2.type [v2]=some x2∧DataW.trod enc P w base spare held k f3.type [v3]=some x3∧DataW.trod enc P w base spare held k f4.type [v4]=some x4∧DataW.trod enc P w base spare held k f5.type [v5]=some x5:=by
 simp at hc
 obtain⟨⟨⟨⟨⟨⟨⟨⟨⟨⟨⟨⟨ce,k0⟩,k1⟩,k2⟩,k3⟩,k4⟩,k5⟩,o0⟩,o1⟩,o2⟩,o3⟩,o4⟩,o5⟩:=hc
 obtain⟨xs,k,_,_,hl,hlen,hf⟩:=DataW.trod_struct he h
 rw[ce] at hl
 match xs,hlen,cs,hl with
 |[y0,y1,y2,y3,y4,y5],_,[v0,v1,v2,v3,v4,v5],_=>
  have g0:=hf 0 f0 rfl
  have g1:=hf 1 f1 rfl
  have g2:=hf 2 f2 rfl
  have g3:=hf 3 f3 rfl
  have g4:=hf 4 f4 rfl
  have g5:=hf 5 f5 rfl
  simp[o0,k0] at g0
  simp[o1,k1] at g1
  simp[o2,k2] at g2
  simp[o3,k3] at g3
  simp[o4,k4] at g4
  simp[o5,k5] at g5
  exact⟨v0,v1,v2,v3,v4,v5,k,_,_,_,_,_,_,rfl,g0,g1,g2,g3,g4,g5⟩
end OpensB
end Go.Proofs.YtagmnociflkhcaaGreat
