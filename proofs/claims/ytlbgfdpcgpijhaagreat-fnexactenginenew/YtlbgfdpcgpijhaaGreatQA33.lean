/- Texts of one proof. -/
import Derived.Test.YtlbgfdpcgpijhaaGreatQA21
import Derived.Test.YtlbgfdpcgpijhaaGreatQA32
import Derived.Lib.ConvBytes
open Go.ChangeShapes Go.WideShapes Go.ChangeAt Go.RowKit
set_option linter.unusedVariables false
set_option linter.unusedSimpArgs false
set_option maxRecDepth 100000
set_option maxHeartbeats 32000000
namespace Go.Proofs.YtlbgfdpcgpijhaaGreat
namespace SegP15
open Fil14 DiskH14 SDk14 SOk14
def okS(n:Int):Bool:=decide (0≤n∧n≤19)
end SegP15
namespace SSg16
open Fil14 OpensF14 DiskH14 DkH14 SDk14 SOk14 SegP15
theorem sSegOk(w:World)(n:Int)(b:Bool)(h:okS n=b):Calls Tryz.prog 28 #[.int .i64 n] w fun e w'=>e= .returned (.bool b)∧w'=w:=by
 have S:=zh (fun u=>sInB u n 0 19 (okS n) rfl)
 rw[h] at S
 go_enter Tryz.func28,Tryz.ntmps28
 go_wp2_with fail
 refine(zu S _).mono ?_
 rintro e u ⟨rfl,rfl⟩
 go_wp2
 go_ret
 exact⟨rfl,rfl⟩
end SSg16
namespace ISg15
open Fil14 OpensF14 DiskH14 DkH14 SDk14 SOk14 SegP15
theorem iSeg(w:World)(n:Int):Calls Tryz.prog 37 #[.int .i64 n] w fun e w'=>e= .returned (.bool (okS n))∧w'=w:=by
 unfold okS
 by_cases h0:0≤n
 ·by_cases h1:n≤19
  ·rw[decide_eq_true ⟨h0,h1⟩]
   have a:n≥0:=h0
   have b:n<20:=by omega
   clear h1
   go_enter Tryz.func37,Tryz.ntmps37
   go_wp2
   go_ret
   exact⟨rfl,rfl⟩
  ·rw[decide_eq_false (fun q=>h1 q.2)]
   have a:n≥0:=h0
   have b:¬n<20:=by omega
   clear h1
   go_enter Tryz.func37,Tryz.ntmps37
   go_wp2
   go_ret
   exact⟨rfl,rfl⟩
 ·rw[decide_eq_false (fun q=>h0 q.1)]
  have a:¬n≥0:=h0
  go_enter Tryz.func37,Tryz.ntmps37
  go_wp2
  go_ret
  exact⟨rfl,rfl⟩
end ISg15
end Go.Proofs.YtlbgfdpcgpijhaaGreat
