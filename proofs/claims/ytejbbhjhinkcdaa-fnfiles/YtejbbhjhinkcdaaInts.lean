/- Lists of numbers in memory, and contracts of the laws' own helpers on them: a copy is a new list of the same numbers, equal lists are told equal, a marked list holds the marks. Conditions: lists of at most 2^20 numbers. -/
import Derived.Test.YtejbbhjhinkcdaaRows
import Derived.WalkKit
import Derived.ProofKit
import Derived.OpenShut
import Derived.Below
import Derived.BigQuiet
namespace Go.Proofs.Ytejbbhjhinkcdaa.Ints
open Go.ChangeShapes Go.WideShapes Go.ChangeAt Go.RowKit
set_option linter.unusedVariables false
set_option linter.unusedSimpArgs false
/-- The numbers of a list of the call's own: block g from its head on. -/
def At (w : World) (g : Nat) (xs : List Int) : Prop := ∀ i, i < xs.length → w.cell? ⟨g, i, none⟩ = some (.int .i64 (xs.getD i 0))
/-- A list that came in, or any other one: nothing is asked where it is empty. -/
def Reads (w : World) (a : Option Addr) (xs : List Int) : Prop :=
  xs.length = 0 ∨ ∃ b off, a = some ⟨b, off, none⟩ ∧ b < w.heap.size ∧ ∀ i, i < xs.length → w.cell? ⟨b, off + i, none⟩ = some (.int .i64 (xs.getD i 0))
/-- A list of the call's own, from block number base on. -/
def Own (w : World) (base g n cap : Nat) (xs : List Int) : Prop := w.ownsRow base 3 1 (.slice (some ⟨g, 0, none⟩) n cap) n (xs.map (Value.int .i64))
theorem Own.len {w : World} {base g n cap : Nat} {xs : List Int} (h : Own w base g n cap xs) : xs.length = n := by
  have := h.1
  simpa using this
theorem Own.lt {w : World} {base g n cap : Nat} {xs : List Int} (h : Own w base g n cap xs) : base ≤ g ∧ g < w.heap.size := World.ownsRow.lt h g rfl
theorem Own.at {w : World} {base g n cap : Nat} {xs : List Int} (h : Own w base g n cap xs) : At w g xs := by
  intro i hi
  have hl := h.len
  have := World.ownsRow.cellAt h i (by omega)
  rw [this]
  simp [List.getD, hi]
theorem Own.free {w : World} {base g n cap : Nat} {xs : List Int} (h : Own w base g n cap xs) (i : Nat) : w.frozen? ⟨g, i, none⟩ = false := World.ownsRow.frozenAt h i
theorem Own.mono {w : World} {base base' g n cap : Nat} {xs : List Int} (h : Own w base g n cap xs) (hb : base' ≤ base) : Own w base' g n cap xs := by
  refine ⟨h.1, ?_⟩
  rcases h.2 with ⟨h1, _⟩ | ⟨g', c, cur, h1, h2, h3⟩
  · simp at h1
  · exact Or.inr ⟨g', c, cur, h1, Nat.le_trans hb h2, h3⟩
theorem Own.kept {w w' : World} {base g n cap : Nat} {xs : List Int} {row : Option Nat} (h : Own w base g n cap xs) (k : w.grownBy w' row) (hne : some g ≠ row) : Own w' base g n cap xs :=
  World.ownsRow.kept h k (Or.inr hne)
theorem Own.below {w w' : World} {base g n cap B : Nat} {xs : List Int} (h : Own w base g n cap xs) (k : Below B w w') (hg : g < B) : Own w' base g n cap xs := by
  refine ⟨h.1, ?_⟩
  rcases h.2 with ⟨h1, _⟩ | ⟨g', c, cur, h1, h2, h3, h4⟩
  · simp at h1
  · obtain ⟨e, _⟩ : g = g' ∧ cap = c := by simpa using h1
    subst e
    exact Or.inr ⟨g, c, cur, h1, h2, by rw [k.block g hg]; exact h3, h4⟩
theorem At.below {w w' : World} {g B : Nat} {xs : List Int} (h : At w g xs) (k : Below B w w') (hg : g < B) : At w' g xs := fun i hi => (k.cell (p := ⟨g, i, none⟩) hg).trans (h i hi)
theorem Reads.below {w w' : World} {a : Option Addr} {xs : List Int} (h : Reads w a xs) (k : Below w.heap.size w w') : Reads w' a xs := by
  rcases h with h | ⟨b, off, rfl, hb, hc⟩
  · exact Or.inl h
  · exact Or.inr ⟨b, off, rfl, Nat.lt_of_lt_of_le hb k.size, fun i hi => (k.cell (p := ⟨b, off + i, none⟩) hb).trans (hc i hi)⟩
/-- A store into a list of the call's own. -/
theorem Own.set {w : World} {base g n cap : Nat} {xs : List Int} (h : Own w base g n cap xs) (i : Nat) (x : Int) :
    Own (w.setCell ⟨g, i, none⟩ (.int .i64 x)) base g n cap (xs.set i x) ∧ w.grownBy (w.setCell ⟨g, i, none⟩ (.int .i64 x)) (some g) := by
  have := World.ownsRow.stored h i (.int .i64 x)
  refine ⟨?_, this.2⟩
  unfold Own
  rw [List.map_set]
  exact this.1
/-- A slice of integers that came in, with its cells. -/
def IsRow (k : IntKind) (w : World) (a : Option Addr) (len cap : Nat) (zs : List Int) : Prop :=
  (a = none ∧ len = 0 ∧ cap = 0 ∧ zs = []) ∨
  ∃ x, a = some x ∧ len ≤ cap ∧ cap ≤ maxLen ∧ zs.length = cap ∧ (∀ i, i < zs.length → w.cell? (x.add i) = some (.int k (zs.getD i 0))) ∧ ∀ n ∈ zs, (Lit.int k n).wf = true
end Go.Proofs.Ytejbbhjhinkcdaa.Ints
