/- Lemmas. -/
import Derived.Test.YtcjgepkdpkhljaaGreatQG8
import Derived.Test.YtcjgepkdpkhljaaGreatQG9
open Go.ChangeShapes Go.WideShapes Go.ChangeAt Go.RowKit
set_option linter.unusedVariables false
set_option linter.unusedSimpArgs false
set_option maxRecDepth 100000
set_option maxHeartbeats 32000000
namespace Go.Proofs.YtcjgepkdpkhljaaGreat
namespace ILists
open BMem Bks ITrade
open Lots (Says says_of NoOk)
theorem boxed(w:World)(x:Bx)(e:TypeId):Cl (w.alloc (.cells #[.slice (some ⟨x.ga,0,none⟩) x.b.ac.length x.ca,.slice (some ⟨x.gi,0,none⟩) x.b.ic.length x.ci,.slice (some ⟨x.gb,0,none⟩) x.b.bs.length x.cb,.slice (some ⟨x.gl,0,none⟩) x.b.ls.length x.cl,.slice (some ⟨x.gt,0,none⟩) x.b.ts.length x.ct,.int .i64 x.b.lot] e)) w.heap.size x:=⟨by simp,by simp,by simp,by simp,by simp,by simp⟩
end ILists
namespace ICut
open Tup5 Lots Takes CmpL Quieter
def AtO(w:World)(g o:Nat)(ps:List T5):Prop:=∀i,i<ps.length→Holds5 w g (o+i*5) (el5 ps i)
theorem at_o{w:World}{g:Nat}{ps:List T5}(h:At5 w g ps):AtO w g 0 ps:=fun i hi=>by rw[Nat.zero_add];exact h i hi
theorem o_take{w:World}{g:Nat}{ps:List T5}(h:At5 w g ps)(f:Nat):AtO w g 0 (ps.take f):=fun i hi=>by
 have hi:i<f∧i<ps.length:=by simp at hi;omega
 have e:el5 (ps.take f) i=el5 ps i:=by simp[el5,List.getD,hi.1,hi.2]
 rw[e,Nat.zero_add]
 exact h i hi.2
theorem o_drop{w:World}{g:Nat}{ps:List T5}(h:At5 w g ps)(u:Nat):AtO w g (u*5) (ps.drop u):=fun i hi=>by
 have hi:u+i<ps.length:=by simp at hi;omega
 have e:el5 (ps.drop u) i=el5 ps (u+i):=by simp[el5,List.getD]
 rw[e,show u*5+i*5=(u+i)*5 by omega]
 exact h (u+i) hi
theorem o_nil{w:World}{g o:Nat}{ps:List T5}(h:ps.length=0):AtO w g o ps:=fun i hi=>by omega
end ICut
end Go.Proofs.YtcjgepkdpkhljaaGreat
