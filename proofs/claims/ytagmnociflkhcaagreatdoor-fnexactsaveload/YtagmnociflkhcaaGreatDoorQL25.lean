/- Texts of one proof, one behind the other: Conv15. -/
import Derived.Test.YtagmnociflkhcaaGreatDoorRows
import Derived.Test.YtagmnociflkhcaaGreatDoorCards
import Derived.Test.YtagmnociflkhcaaGreatDoorTie
import Derived.Test.YtagmnociflkhcaaGreatDoorQL0
import Derived.Test.YtagmnociflkhcaaGreatDoorQL1
import Derived.Lib.ConvBytes
import Derived.Laws.BytesArg
set_option linter.unusedVariables false
set_option linter.unusedSimpArgs false
open Go.ChangeShapes Go.WideShapes Go.ChangeAt Go.RowKit
set_option maxRecDepth 100000
set_option maxHeartbeats 32000000
namespace Go.Proofs.YtagmnociflkhcaaGreatDoor
namespace Conv15
open SBytes
def nums(s:ByteArray):List Int:=s.data.toList.map fun b=>(b.toNat:Int)
theorem nums_len(s:ByteArray):(nums s).length=s.size:=by
 unfold nums
 rw[List.length_map]
 rfl
theorem to_bytes(w:World)(s:ByteArray):∃c W,(nums s).length≤c∧(convert 9 49 (.string s)).run Tryz.prog w= .ok (.slice (some ⟨w.heap.size,0,none⟩) (nums s).length c) W∧AtB W w.heap.size (nums s)∧W.heap.size=w.heap.size+1∧Below w.heap.size w W:=by
 rw[nums_len]
 refine⟨_,_,grownCap_ge w s.size 0 5,Lib.run_convert_string_bytes w 9 49 5 s Tryz.underlying9 Tryz.underlying49 Tryz.underlying5,?_,Lib.bytesWorld_size _ _ _,?_⟩
 ·intro i hi
  rw[nums_len] at hi
  have e:(nums s).getD i 0=((s.data.toList.getD i 0).toNat:Int):=by
   unfold nums
   have:i<s.data.toList.length:=hi
   rw[List.getD,List.getD,List.getElem?_map,List.getElem?_eq_getElem this]
   rfl
  rw[Lib.bytesWorld_cell w _ s i hi,e]
  refine⟨rfl,?_⟩
  have:=(s.data.toList.getD i 0).toNat_lt
  omega
 ·refine⟨rfl,rfl,rfl,by rw[Lib.bytesWorld_size];omega,fun k hk=>Lib.bytesWorld_at_old w _ s k hk⟩
end Conv15
end Go.Proofs.YtagmnociflkhcaaGreatDoor
