/- Lemmas. -/
import Derived.Test.YtcjgepkdpkhljaaGreatQG18
import Derived.Lib.SliceRun
import Derived.Lib.AppendZerosOnto
open Go.ChangeShapes Go.WideShapes Go.ChangeAt Go.RowKit
set_option linter.unusedVariables false
set_option linter.unusedSimpArgs false
set_option maxRecDepth 100000
set_option maxHeartbeats 32000000
namespace Go.Proofs.YtcjgepkdpkhljaaGreat
namespace ITake
open Tup5 Lots Takes CmpL Quieter ICut Cat5 STake
theorem take_len{ps R:List T5}{a i q way:Int}{bad short:Bool}(hbad:Says bad (¬TakeOk ps q way))(hshort:Says short (sumQ (ownL ps a i)<q))(hR:R=mergeL ((restL ps a i).length+(takeL way (ownL ps a i) q).length) (restL ps a i) (takeL way (ownL ps a i) q)):(takeA ps R bad short).length≤241:=by
 unfold takeA
 split
 ·simp
 ·rename_i nb
  have ok:TakeOk ps q way:=Classical.byContradiction fun h=>nb (hbad.2 h)
  have n120:=ok.1.1
  split
  ·omega
  ·rename_i ns
   have qs:q≤sumQ (ownL ps a i):=Int.not_lt.1 (fun h=>ns (hshort.2 h))
   have q1:=ok.2.1.1
   have on0:0<(ownL ps a i).length:=by
    generalize ownL ps a i=own at qs
    cases own with
    |nil=>simp[sumQ] at qs;omega
    |cons x r=>simp
   have TK:=(takeL_key (way:=way) (q:=q) (own:=ownL ps a i) (a:=a) (i:=i) (fun p hp=>by simpa using(List.mem_filter.1 hp).2) on0).2
   have h1:(ownL ps a i).length≤ps.length:=List.length_filter_le _ _
   have h2:(restL ps a i).length≤ps.length:=List.length_filter_le _ _
   rw[hR,merge_len _ _ _ (Nat.le_refl _)]
   omega
end ITake
end Go.Proofs.YtcjgepkdpkhljaaGreat
