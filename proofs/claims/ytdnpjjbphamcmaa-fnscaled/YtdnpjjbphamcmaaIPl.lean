/- Contracts of the program's places of lots, one a call, from either end; and a number in a block of its own. -/
import Derived.Test.YtdnpjjbphamcmaaTakes
import Derived.WalkSmall
import Derived.BigQuiet
namespace Go.Proofs.Ytdnpjjbphamcmaa.IPl
open Go.ChangeShapes Go.WideShapes Go.ChangeAt Go.RowKit Tup5 Lots Takes
set_option linter.unusedVariables false
set_option linter.unusedSimpArgs false

/-- A number in a block of the call's own. -/
def Cell (w : World) (base b : Nat) (x : Int) : Prop := w.ownsRow base 3 1 (.slice (some ⟨b, 0, none⟩) 1 1) 1 [.int .i64 x]

theorem Cell.cell {w : World} {base b : Nat} {x : Int} (h : Cell w base b x) : w.cell? ⟨b, 0, none⟩ = some (.int .i64 x) := World.ownsRow.cellAt h 0 (by omega)
theorem Cell.free {w : World} {base b : Nat} {x : Int} (h : Cell w base b x) : w.frozen? ⟨b, 0, none⟩ = false := World.ownsRow.frozenAt h 0
theorem Cell.lt {w : World} {base b : Nat} {x : Int} (h : Cell w base b x) : base ≤ b ∧ b < w.heap.size := World.ownsRow.lt h b rfl
theorem Cell.alloc {w : World} {base b : Nat} {x : Int} (h : Cell w base b x) (o : Obj) : Cell (w.alloc o) base b x := World.ownsRow.alloc h o
theorem Cell.kept {w w' : World} {base b : Nat} {x : Int} {row : Option Nat} (h : Cell w base b x) (k : w.grownBy w' row) (hne : some b ≠ row) : Cell w' base b x := World.ownsRow.kept h k (Or.inr hne)
theorem Cell.below {w w' : World} {base b B : Nat} {x : Int} (h : Cell w base b x) (k : Below B w w') (hb : b < B) : Cell w' base b x := by
  refine ⟨h.1, ?_⟩
  rcases h.2 with ⟨h1, _⟩ | ⟨g', c, cur, h1, h2, h3, h4⟩
  · simp at h1
  · obtain ⟨e, _⟩ : b = g' ∧ 1 = c := by simpa using h1
    subst e
    exact Or.inr ⟨b, c, cur, h1, h2, by rw [k.block b hb]; exact h3, h4⟩
theorem Cell.set {w : World} {base b : Nat} {x : Int} (h : Cell w base b x) (y : Int) : Cell (w.setCell ⟨b, 0, none⟩ (.int .i64 y)) base b y ∧ w.grownBy (w.setCell ⟨b, 0, none⟩ (.int .i64 y)) (some b) := World.ownsRow.stored h 0 (.int .i64 y)
theorem Cell.drewN {w : World} {base b : Nat} {x : Int} (h : Cell w base b x) (m : Nat) : Cell (w.drewN m) base b x := h
theorem cell_new (w : World) (base : Nat) (x : Int) (hb : base ≤ w.heap.size) : Cell (w.alloc (.cells #[.int .i64 x] 3)) base w.heap.size x := World.ownsRow_lit w #[.int .i64 x] 1 hb (by decide) rfl

/-- The place ahead of the first one, and the step. -/
def place0 (way : Int) (n : Nat) : Int := if way = 2 then (n : Int) else -1
def step0 (way : Int) : Int := if way = 2 then -1 else 1

set_option maxRecDepth 100000 in
theorem iPlaces (w : World) (n : Nat) (way : Int) : Calls Try.prog 86 #[.int .i64 n, .int .i64 way] w fun e w' => e = .returned (.func (.func 96) #[] #[.pointer (some ⟨w.heap.size, 0, none⟩), .pointer (some ⟨w.heap.size + 1, 0, none⟩)]) ∧ Cell w' w.heap.size w.heap.size (place0 way n) ∧ Cell w' w.heap.size (w.heap.size + 1) (step0 way) ∧ Below w.heap.size w w' := by
  have key : ∀ x y : Int, Cell ((w.alloc (.cells #[.int .i64 x] 3)).alloc (.cells #[.int .i64 y] 3)) w.heap.size w.heap.size x ∧ Cell ((w.alloc (.cells #[.int .i64 x] 3)).alloc (.cells #[.int .i64 y] 3)) w.heap.size (w.heap.size + 1) y ∧ Below w.heap.size w ((w.alloc (.cells #[.int .i64 x] 3)).alloc (.cells #[.int .i64 y] 3)) := fun x y => by
    refine ⟨(cell_new w w.heap.size x (Nat.le_refl _)).alloc _, ?_, ((Below.refl _ _).alloc (Nat.le_refl _) _).alloc (by simp) _⟩
    have := cell_new (w.alloc (.cells #[.int .i64 x] 3)) w.heap.size y (by simp)
    simpa using this
  by_cases h : way = 2
  · have hb : (way == 2) = true := by simpa using h
    have e1 : place0 way n = n := by simp [place0, h]
    have e2 : step0 way = -1 := by simp [step0, h]
    rw [e1, e2]
    have K := hide (key n (-1))
    clear key h
    go_enter Try.func86, Try.ntmps86
    go_wp2
    go_ret
    exact ⟨rfl, unhide K⟩
  · have hb : (way == 2) = false := by simpa using h
    have e1 : place0 way n = -1 := by simp [place0, h]
    have e2 : step0 way = 1 := by simp [step0, h]
    rw [e1, e2]
    have K := hide (key (-1) 1)
    clear key h
    go_enter Try.func86, Try.ntmps86
    go_wp2
    go_ret
    exact ⟨rfl, unhide K⟩

set_option maxRecDepth 100000 in
theorem iNext (w : World) (base bp bs : Nat) (x y z : Int) (hz : z = x + y) (h63 : -9223372036854775808 ≤ z ∧ z ≤ 9223372036854775807) (h1 : Cell w base bp x) (h2 : Cell w base bs y) : Calls Try.prog 96 #[.pointer (some ⟨bp, 0, none⟩), .pointer (some ⟨bs, 0, none⟩)] w fun e w' => e = .returned (.int .i64 z) ∧ w' = w.setCell ⟨bp, 0, none⟩ (.int .i64 z) := by
  have c1 := h1.cell
  have c2 := h2.cell
  have f1 := h1.free
  have ws : wrap64 (x + y) = z := by rw [← hz]; unfold wrap64; omega
  clear h1 h2 hz
  go_enter Try.func96, Try.ntmps96
  go_wp2
  go_ret
  exact ⟨by first | rfl | (simp [ws]), by first | rfl | (simp [ws])⟩

end Go.Proofs.Ytdnpjjbphamcmaa.IPl
