/- Contracts of the model's DrawPutNums and DrawSeal: lists in memory of the call's own, whatever the bytes are. -/
import Derived.Test.YtejbbhjhinkcdaaDraw
import Derived.Test.YtejbbhjhinkcdaaSPuts11
namespace Go.Proofs.Ytejbbhjhinkcdaa.Draw11
open Go.ChangeShapes Go.WideShapes Go.ChangeAt Go.RowKit SBytes SPut11 SPuts11
open Draw (CodeAt Cur Only Moved below once new pick byte)
set_option linter.unusedVariables false
set_option linter.unusedSimpArgs false

theorem ints_only {w w' : World} {base g n cap c : Nat} {xs : List Int} (h : Ints.Own w base g n cap xs) (o : Only c w w') (hne : g ≠ c) : Ints.Own w' base g n cap xs := by
  refine ⟨h.1, ?_⟩
  have hlt := h.lt.2
  rcases h.2 with ⟨z, _⟩ | ⟨g', c', cur, z, h2, h3, h4⟩
  · simp at z
  · obtain ⟨e, _⟩ : g = g' ∧ cap = c' := by simpa using z
    subst e
    exact Or.inr ⟨g, c', cur, z, h2, by rw [o.2 g hlt hne]; exact h3, h4⟩

theorem bytes_only {w w' : World} {base g n cap c : Nat} {xs : List Int} (h : ByteH.Own w base g n cap xs) (o : Only c w w') (hne : g ≠ c) : ByteH.Own w' base g n cap xs := by
  refine ⟨h.1, ?_⟩
  have hlt := h.lt.2
  rcases h.2 with ⟨z, _⟩ | ⟨g', c', cur, z, h2, h3, h4⟩
  · simp at z
  · obtain ⟨e, _⟩ : g = g' ∧ cap = c' := by simpa using z
    subst e
    exact Or.inr ⟨g, c', cur, z, h2, by rw [o.2 g hlt hne]; exact h3, h4⟩

section
variable {w0 w u v : World} {c g : Nat} {a : Option Addr} {len cap : Nat}
theorem moved_start (h : Cur w0 w c a len cap) : Moved w0 w w c a len cap := ⟨h, Only.refl c w⟩
theorem moved_below (h : Moved w0 w u c a len cap) (k : Below u.heap.size u v) : Moved w0 w v c a len cap :=
  ⟨Draw.cur_below h.1 k, Nat.le_trans h.2.1 k.size, fun i hi hc => (k.block i (Nat.lt_of_lt_of_le hi h.2.1)).trans (h.2.2 i hi hc)⟩
theorem moved_alloc (h : Moved w0 w u c a len cap) (cs : Array Value) (t : TypeId) : Moved w0 w (u.alloc (.cells cs t)) c a len cap := moved_below h ((Below.refl _ _).alloc (Nat.le_refl _) _)
theorem moved_grown (h : Moved w0 w u c a len cap) (k : u.grownBy v (some g)) (hc : c < w.heap.size) (hg : w.heap.size ≤ g) (h0 : w0.heap.size ≤ w.heap.size) : Moved w0 w v c a len cap :=
  ⟨Draw.cur_grown h.1 k (Nat.le_trans h0 hg) (by omega), Nat.le_trans h.2.1 k.size, fun i hi hne => (k.block i (Nat.lt_of_lt_of_le hi h.2.1) (by simp; omega)).trans (h.2.2 i hi hne)⟩
end

/-- The fourteen numbers that one is picked from. -/
def ks (x y : Int) (j : Nat) : Int := ([0, 1, 127, 128, 255, 16383, 16384, 2097151, 2097152, -1, 9223372036854775807, 72057594037927935, x, y] : List Int).getD j 0

theorem ks_in (x y : Int) (hx : 0 ≤ x ∧ x < 1000000) (hy : 0 ≤ y ∧ y < 300) (j : Nat) : -1 ≤ ks x y j ∧ ks x y j ≤ 9223372036854775807 := by
  unfold ks
  by_cases h : j < 14
  · have : j = 0 ∨ j = 1 ∨ j = 2 ∨ j = 3 ∨ j = 4 ∨ j = 5 ∨ j = 6 ∨ j = 7 ∨ j = 8 ∨ j = 9 ∨ j = 10 ∨ j = 11 ∨ j = 12 ∨ j = 13 := by omega
    rcases this with rfl | rfl | rfl | rfl | rfl | rfl | rfl | rfl | rfl | rfl | rfl | rfl | rfl | rfl <;> simp [List.getD] <;> omega
  · unfold List.getD
    rw [List.getElem?_eq_none (by simp; omega)]
    simp

end Go.Proofs.Ytejbbhjhinkcdaa.Draw11
