/- Texts of one proof. -/
import Derived.Test.YtlbgfdpcgpijhaaGreatQA34
import Derived.Test.YtlbgfdpcgpijhaaGreatQA36
open Go.ChangeShapes Go.WideShapes Go.ChangeAt Go.RowKit
set_option linter.unusedVariables false
set_option linter.unusedSimpArgs false
set_option maxRecDepth 100000
set_option maxHeartbeats 32000000
namespace Go.Proofs.YtlbgfdpcgpijhaaGreat
namespace SStep16
open Fil14 OpensF14 DiskH14 DkH14 SDk14 SOk14 App14 SLess14 SCopy14 SCom14 SSave16
open BMem (Bx Rd)
open Bks (Bk Ok)
open Lots (Says)
structure G16(w W:World)(x:Dx)(f:Int)(y:Bx):Prop where
 d:Wd w W x
 s:Sv w W (w.heap.size+1) f y
 r:Bc W w.heap.size (w.heap.size+2) (.int .i64 0) (.slice none 0 0)
theorem G16.step{w W W':World}{x:Dx}{f:Int}{y:Bx}(h:G16 w W x f y)(k:Below W.heap.size W W'):G16 w W' x f y:=⟨h.d.step k,h.s.step k,h.r.below k h.r.lt.2⟩
end SStep16
end Go.Proofs.YtlbgfdpcgpijhaaGreat
