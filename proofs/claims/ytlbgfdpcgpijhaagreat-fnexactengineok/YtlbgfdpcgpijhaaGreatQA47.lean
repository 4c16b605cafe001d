/- Texts of one proof. -/
import Derived.Test.YtlbgfdpcgpijhaaGreatQA33
import Derived.Test.YtlbgfdpcgpijhaaGreatQA40
open Go.ChangeShapes Go.WideShapes Go.ChangeAt Go.RowKit
set_option linter.unusedVariables false
set_option linter.unusedSimpArgs false
set_option maxRecDepth 100000
set_option maxHeartbeats 32000000
namespace Go.Proofs.YtlbgfdpcgpijhaaGreat
namespace IClear16
open Fil14 OpensF14 DiskH14 DkH14 SDk14 SOk14 SCom14 SegP15 TabF14 PTab14 ITb14 ICp14 ICom14
def KR(B:Nat)(w:World)(a:Option Addr)(ks:List Int):Prop:=ks=[]∨∃g,a=some ⟨g,0,none⟩∧g<B∧Ints.At w g ks
theorem KR.mono{B B':Nat}{w:World}{a:Option Addr}{ks:List Int}(h:KR B w a ks)(k:B≤B'):KR B' w a ks:=by
 rcases h with h|⟨g,e,l,h⟩
 ·exact .inl h
 ·exact .inr ⟨g,e,by omega,h⟩
theorem KR.below{B B':Nat}{w w':World}{a:Option Addr}{ks:List Int}(h:KR B w a ks)(b:Below B' w w')(k:B≤B'):KR B w' a ks:=by
 rcases h with h|⟨g,e,l,h⟩
 ·exact .inl h
 ·exact .inr ⟨g,e,l,fun i hi=>(b.cell (p:=⟨g,i,none⟩) (by show g<B';omega)).trans (h i hi)⟩
theorem KR.kept{B:Nat}{w w':World}{a:Option Addr}{ks:List Int}(h:KR B w a ks)(k:w.grownBy w' (some B))(hB:B≤w.heap.size):KR B w' a ks:=by
 rcases h with h|⟨g,e,l,h⟩
 ·exact .inl h
 ·exact .inr ⟨g,e,l,fun i hi=>(App14.kcell k i (by omega) (by omega)).trans (h i hi)⟩
end IClear16
end Go.Proofs.YtlbgfdpcgpijhaaGreat
