/- Texts of one proof. -/
import Derived.Test.YtlbgfdpcgpijhaaGreatQA36
import Derived.Test.YtlbgfdpcgpijhaaGreatQA39
open Go.ChangeShapes Go.WideShapes Go.ChangeAt Go.RowKit
set_option linter.unusedVariables false
set_option linter.unusedSimpArgs false
set_option maxRecDepth 100000
set_option maxHeartbeats 32000000
namespace Go.Proofs.YtlbgfdpcgpijhaaGreat
namespace ICom14
open Fil14 OpensF14 DiskH14 DkH14 SDk14 SOk14 SLess14 SCom14 TabF14 ITb14
theorem iOkB(w:World)(x:Dx)(b:Bool)(hr:RdD w x)(hz:sumZ x.ps≤1048576)(h:decide (OkD x.room x.ps)=b):Calls Tryz.prog 32 #[.agg #[.int .i64 x.room,.slice x.a x.ps.length x.c]] w fun e w'=>e= .returned (.bool b)∧Below w.heap.size w w':=by
 rw[←h]
 exact IOk14.iDiskOk w x hr hz
structure St(w u:World)(x:Dx)(B n:Nat)(f:Int→Option TF):Prop where
 d:Wd w u x
 r:Bc u w.heap.size (w.heap.size+1) (.int .i64 0) (.slice none 0 0)
 t:Tf u B n f
 b:w.heap.size+2≤B
 xa:∀g,x.a=some ⟨g,0,none⟩→g<w.heap.size
theorem St.step{w u u':World}{x:Dx}{B n:Nat}{f:Int→Option TF}(h:St w u x B n f)(k:Below u.heap.size u u'):St w u' x B n f:=
 ⟨h.d.step k,h.r.below k h.r.lt.2,h.t.below k,h.b,h.xa⟩
theorem St.turn{w u u':World}{x:Dx}{B n n':Nat}{f f':Int→Option TF}(h:St w u x B n f)(t:Tf u' B n' f')(g:u.grownBy u' (some B)):St w u' x B n' f':=by
 have hb:=h.b
 exact⟨wd_grown h.d g (by omega) (fun k e=>by have:=h.xa k e;omega),h.r.kept g (by simp;omega),t,hb,h.xa⟩
end ICom14
end Go.Proofs.YtlbgfdpcgpijhaaGreat
