/- Texts of one proof, one behind the other: SegP15, SSg16, ISg15. -/
import Derived.Test.YtagmnociflkhcaaGreatDoorRows
import Derived.Test.YtagmnociflkhcaaGreatDoorCards
import Derived.Test.YtagmnociflkhcaaGreatDoorTie
import Derived.Test.YtagmnociflkhcaaGreatDoorQL0
import Derived.Test.YtagmnociflkhcaaGreatDoorQL20
import Derived.Test.YtagmnociflkhcaaGreatDoorQL21
import Derived.Test.YtagmnociflkhcaaGreatDoorQL24
import Derived.Test.YtagmnociflkhcaaGreatDoorQL25
set_option linter.unusedVariables false
set_option linter.unusedSimpArgs false
open Go.ChangeShapes Go.WideShapes Go.ChangeAt Go.RowKit
set_option maxRecDepth 100000
set_option maxHeartbeats 32000000
namespace Go.Proofs.YtagmnociflkhcaaGreatDoor
namespace SegP15
open Fil14 DiskH14 SDk14 SOk14 SRd14 SUnseal11 Conv15
def okS(n:Int):Bool:=decide (0≤n∧n≤19)
end SegP15
namespace SSg16
open Fil14 OpensF14 DiskH14 DkH14 SDk14 SOk14 SRd14 SegP15
theorem sSegOk(w:World)(n:Int)(b:Bool)(h:okS n=b):Calls Tryz.prog 17 #[.int .i64 n] w fun e w'=>e= .returned (.bool b)∧w'=w:=by
 have S:=zh (fun u=>sInB u n 0 19 (okS n) rfl)
 rw[h] at S
 go_enter Tryz.func17,Tryz.ntmps17
 go_wp2_with fail
 refine(zu S _).mono ?_
 rintro e u ⟨rfl,rfl⟩
 go_wp2
 go_ret
 exact⟨rfl,rfl⟩
end SSg16
namespace ISg15
open Fil14 OpensF14 DiskH14 DkH14 SDk14 SOk14 SegP15
theorem iSeg(w:World)(n:Int):Calls Tryz.prog 23 #[.int .i64 n] w fun e w'=>e= .returned (.bool (okS n))∧w'=w:=by
 unfold okS
 by_cases h0:0≤n
 ·by_cases h1:n≤19
  ·rw[decide_eq_true ⟨h0,h1⟩]
   have a:n≥0:=h0
   have b:n<20:=by omega
   clear h1
   go_enter Tryz.func23,Tryz.ntmps23
   go_wp2
   go_ret
   exact⟨rfl,rfl⟩
  ·rw[decide_eq_false (fun q=>h1 q.2)]
   have a:n≥0:=h0
   have b:¬n<20:=by omega
   clear h1
   go_enter Tryz.func23,Tryz.ntmps23
   go_wp2
   go_ret
   exact⟨rfl,rfl⟩
 ·rw[decide_eq_false (fun q=>h0 q.1)]
  have a:¬n≥0:=h0
  go_enter Tryz.func23,Tryz.ntmps23
  go_wp2
  go_ret
  exact⟨rfl,rfl⟩
theorem iSegOk(w:World)(n:Int)(b:Bool)(h:okS n=b):Calls Tryz.prog 23 #[.int .i64 n] w fun e w'=>e= .returned (.bool b)∧w'=w:=by
 rw[←h]
 exact iSeg w n
end ISg15
end Go.Proofs.YtagmnociflkhcaaGreatDoor
