/- Texts of one proof, one behind the other: EqS11. -/
import Derived.Test.YtagmnociflkhcaaGreatDoorRows
import Derived.Test.YtagmnociflkhcaaGreatDoorCards
import Derived.Test.YtagmnociflkhcaaGreatDoorTie
import Derived.Test.YtagmnociflkhcaaGreatDoorQL0
import Derived.Test.YtagmnociflkhcaaGreatDoorQL1
import Derived.ChangeKeysEq
set_option linter.unusedVariables false
set_option linter.unusedSimpArgs false
open Go.ChangeShapes Go.WideShapes Go.ChangeAt Go.RowKit
set_option maxRecDepth 100000
set_option maxHeartbeats 32000000
namespace Go.Proofs.YtagmnociflkhcaaGreatDoor
namespace EqS11
theorem eqSum(a b c d x y z v:Int)(w:World):(Op.equalIn 10000 98 (.agg #[.int .u8 a,.int .u8 b,.int .u8 c,.int .u8 d]) (.agg #[.int .u8 x,.int .u8 y,.int .u8 z,.int .u8 v])).run Tryz.prog w= .ok (a==x&&b==y&&c==z&&d==v) w:=by
 obtain⟨i0,hi,_⟩:=info_parts ByteH.info8
 have u3:=Tryz.underlying5
 have a3:=Tryz.isAgg5
 have hc:Tryz.prog.cellsOf 5=1:=by kernel_rfl
 rw[show(10000:Nat)=9999+1 from rfl,run_equalIn_array w 9999 _ _ Tryz.underlying98 hi,hc,show List.range 4=[0,1,2,3] from rfl]
 simp only[Op.eqItems]
 go_simp
 by_cases h1:a=x<;>by_cases h2:b=y<;>by_cases h3:c=z<;>by_cases h4:d=v<;>simp[h1,h2,h3,h4]
end EqS11
end Go.Proofs.YtagmnociflkhcaaGreatDoor
