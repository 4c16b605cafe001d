/- A region that draws its order, whose steps turn nothing of what was there: one walk in the order of the text serves every order. -/
import Derived.Test.YtophnnmbgpinfaaTup5
import Derived.BigQuiet
namespace Go.Proofs.Ytophnnmbgpinfaa.Quieter
open Go.ChangeShapes Go.WideShapes Go.ChangeAt Go.RowKit Tup5
set_option linter.unusedVariables false

/-- A world in which all that was there in w is as it was. -/
structure Near (w : World) where
  u : World
  b : Below w.heap.size w u

theorem near_is (w : World) : Nonempty (Near w) := ⟨⟨w, Below.refl _ _⟩⟩

theorem quiet_near {P : Program} {id : Nat} {Q : Exit → Act → World → Prop} {a : Act} {w : World} {l : List Oper} (hm : P.follows .mixedOrders = true) (hB : Region.lexB .any l.toArray = true)
    (h : wpQuiet P l.toArray (fun w' => ∃ n : Near w, w' = n.u) (fun a' => ∀ w', (∃ n : Near w, w' = n.u) → Q .normal a' w') l a) : (Code.region id l.toArray true).wp P Q a w :=
  wp_region_quiet (C := fun w' => ∃ n : Near w, w' = n.u) hm hB ⟨⟨w.drew, Below.drew (Below.refl _ _)⟩, rfl⟩ h

end Go.Proofs.Ytophnnmbgpinfaa.Quieter
