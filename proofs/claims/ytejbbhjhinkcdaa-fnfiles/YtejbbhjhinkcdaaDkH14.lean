/- Disks: what is read of them and owned of them, and the laws' own helpers on them. Lists that are empty may be nil. -/
import Derived.Test.YtejbbhjhinkcdaaMarkFS14
namespace Go.Proofs.Ytejbbhjhinkcdaa.DkH14
open Go.ChangeShapes Go.WideShapes Go.ChangeAt Go.RowKit Fil14 DiskH14
open MarkFS14 (marks)
set_option linter.unusedVariables false
set_option linter.unusedSimpArgs false
/-- A disk and where its files lie. -/
structure Dx where
  room : Int
  a : Option Addr
  c : Nat
  ps : List TF
/-- What is read of a disk. -/
structure RdD (w : World) (x : Dx) : Prop where
  e : x.ps.length ≠ 0 → ∃ g, x.a = some ⟨g, 0, none⟩
  r : ∀ g, x.a = some ⟨g, 0, none⟩ → g < w.heap.size ∧ AtF w g x.ps
  n : x.ps.length ≤ 1048576
theorem RdD.below {w w' : World} {x : Dx} (h : RdD w x) (k : Below w.heap.size w w') : RdD w' x := ⟨h.e, fun g e => ⟨Nat.lt_of_lt_of_le (h.r g e).1 k.size, (h.r g e).2.below k (h.r g e).1⟩, h.n⟩
/-- A disk of the call's own. -/
def OwD (w : World) (base : Nat) (x : Dx) : Prop := w.ownsRow base 32 3 (.slice x.a x.ps.length x.c) x.ps.length (flatF x.ps)
/-- It bears marks. -/
def OmD (w : World) (base : Nat) (x : Dx) : Prop := w.ownsRow base 32 3 (.slice x.a x.ps.length x.c) x.ps.length (flatF (marks 1 x.ps.length))
theorem row_step {W W' : World} {base : Nat} {e : TypeId} {m : Nat} {v : Value} {n : Nat} {vs : List Value} (h : W.ownsRow base e m v n vs) (k : Below W.heap.size W W') : W'.ownsRow base e m v n vs :=
  World.ownsRow.kept h (row := none) ⟨k.os, k.tape, k.output, k.size, fun i hi _ => k.block i hi⟩ (by
    cases hb : v.ownBlock with
    | none => exact .inl rfl
    | some g => exact .inr (by simp))
theorem addr_of {W : World} {base : Nat} {e : TypeId} {m n c : Nat} {a : Option Addr} {vs : List Value} (h : W.ownsRow base e m (.slice a n c) n vs) : (n ≠ 0 → ∃ g, a = some ⟨g, 0, none⟩) ∧ ∀ g, a = some ⟨g, 0, none⟩ → g < W.heap.size := by
  refine ⟨fun hn => ?_, fun g e => (World.ownsRow.lt h g (by rw [e]; rfl)).2⟩
  rcases h.2 with ⟨h1, _⟩ | ⟨g, c', cur, h1, _⟩
  · have : n = 0 := by simp at h1; omega
    exact absurd this hn
  · have : a = some ⟨g, 0, none⟩ ∧ c = c' := by simpa using h1
    exact ⟨g, this.1⟩
theorem OwD.rd {w : World} {base : Nat} {x : Dx} (h : OwD w base x) (hn : x.ps.length ≤ 1048576) : RdD w x := by
  refine ⟨(addr_of h).1, fun g e => ⟨(addr_of h).2 g e, ?_⟩, hn⟩
  have o := h
  unfold OwD at o
  rw [e] at o
  exact OwnF.at o
theorem OwD.step {w w' : World} {base : Nat} {x : Dx} (h : OwD w base x) (k : Below w.heap.size w w') : OwD w' base x := row_step h k
theorem OmD.step {w w' : World} {base : Nat} {x : Dx} (h : OmD w base x) (k : Below w.heap.size w w') : OmD w' base x := row_step h k
/-- The two cells of a disk in a box. -/
def Bc (w : World) (base g : Nat) (v0 v1 : Value) : Prop := w.ownsRow base 26 2 (.slice (some ⟨g, 0, none⟩) 1 1) 1 [v0, v1]
theorem Bc.made {w : World} {base g : Nat} (v0 v1 : Value) (hb : base ≤ w.heap.size) (hg : g = w.heap.size) : Bc (w.alloc (.cells #[v0, v1] 26)) base g v0 v1 := by
  subst hg
  exact ⟨rfl, .inr ⟨w.heap.size, 1, #[v0, v1], rfl, hb, heap_alloc_new w _, Nat.le_refl _, by unfold maxLen; omega, rfl, rfl⟩⟩
section
variable {w w' : World} {base g : Nat} {v0 v1 : Value}
theorem Bc.lt (h : Bc w base g v0 v1) : base ≤ g ∧ g < w.heap.size := World.ownsRow.lt h g rfl
theorem Bc.free (h : Bc w base g v0 v1) (i : Nat) : w.frozen? ⟨g, i, none⟩ = false := World.ownsRow.frozenAt h i
theorem Bc.c0 (h : Bc w base g v0 v1) : w.cell? ⟨g, 0, none⟩ = some v0 := (World.ownsRow.cellAt h 0 (by omega)).trans rfl
theorem Bc.c1 (h : Bc w base g v0 v1) : w.cell? ⟨g, 1, none⟩ = some v1 := (World.ownsRow.cellAt h 1 (by omega)).trans rfl
theorem Bc.set0 (h : Bc w base g v0 v1) (u : Value) : Bc (w.setCell ⟨g, 0, none⟩ u) base g u v1 ∧ w.grownBy (w.setCell ⟨g, 0, none⟩ u) (some g) := World.ownsRow.stored h 0 u
theorem Bc.kept {row : Option Nat} (h : Bc w base g v0 v1) (k : w.grownBy w' row) (hne : some g ≠ row) : Bc w' base g v0 v1 := World.ownsRow.kept h k (Or.inr hne)
theorem Bc.below {B : Nat} (h : Bc w base g v0 v1) (k : Below B w w') (hg : g < B) : Bc w' base g v0 v1 := by
  refine ⟨h.1, ?_⟩
  rcases h.2 with ⟨h1, _⟩ | ⟨g', c, cur, h1, h2, h3, h4⟩
  · simp at h1
  · have e : g = g' := by simp at h1; exact h1.1
    subst e
    exact .inr ⟨g, c, cur, h1, h2, (k.block g hg).trans h3, h4⟩
end
/-- What marks on a disk may turn: its own list alone. -/
structure TurnD (x : Dx) (w w' : World) : Prop where
  os : w'.os = w.os
  tape : w'.tape = w.tape
  output : w'.output = w.output
  size : w.heap.size ≤ w'.heap.size
  block : ∀ k, k < w.heap.size → some k ≠ (Value.slice x.a x.ps.length x.c).ownBlock → w'.heap[k]? = w.heap[k]?
theorem TurnD.below {x : Dx} {w w' : World} {base : Nat} (h : TurnD x w w') (o : OwD w base x) (hb : base ≤ w.heap.size) : Below base w w' :=
  ⟨h.os, h.tape, h.output, h.size, fun j hj => h.block j (by omega) (fun e => by have := (World.ownsRow.lt o j e.symm).1; omega)⟩
end Go.Proofs.Ytejbbhjhinkcdaa.DkH14
