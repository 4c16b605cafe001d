/- Texts of one proof. -/
import Derived.Test.YtlbgfdpcgpijhaaGreatQA21
import Derived.Lib.AppendZerosOnto
open Go.ChangeShapes Go.WideShapes Go.ChangeAt Go.RowKit
set_option linter.unusedVariables false
set_option linter.unusedSimpArgs false
set_option maxRecDepth 100000
set_option maxHeartbeats 32000000
namespace Go.Proofs.YtlbgfdpcgpijhaaGreat
namespace ConB11
open SBytes SPut11
open ByteH (Own At)
def OwnV(w:World)(base:Nat)(v:Value)(xs:List Int):Prop:=w.ownsRow base 5 1 v xs.length (xs.map (Value.int .u8))
theorem OwnV.nil(w:World)(base:Nat):OwnV w base (.slice none 0 0) []:=⟨rfl,.inl ⟨rfl,rfl⟩⟩
theorem OwnV.lt{w:World}{base:Nat}{v:Value}{xs:List Int}(h:OwnV w base v xs):∀g,v.ownBlock=some g→base≤g∧g<w.heap.size:=fun g hg=>World.ownsRow.lt h g hg
theorem OwnV.ob{w:World}{base:Nat}{v:Value}{xs:List Int}(h:OwnV w base v xs):∃a c,v= .slice a xs.length c∧VOB.Ob w base a xs.length c xs:=by
 have h':=h
 rcases h.2 with⟨rfl,h2⟩|⟨g,c,cur,rfl,_⟩
 ·obtain rfl:xs=[]:=List.eq_nil_of_length_eq_zero h2
  exact⟨none,0,rfl,h'⟩
 ·exact⟨_,c,rfl,h'⟩
theorem AtO.below{w w':World}{g o B:Nat}{xs:List Int}(h:AtO w g o xs)(k:Below B w w')(hg:g<B):AtO w' g o xs:=fun i hi=>(k.cell (p:=⟨g,o+i,none⟩) hg).trans (h i hi)
end ConB11
end Go.Proofs.YtlbgfdpcgpijhaaGreat
