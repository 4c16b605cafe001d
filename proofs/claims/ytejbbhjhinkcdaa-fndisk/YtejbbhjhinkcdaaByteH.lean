/- Lists of bytes in memory, and contracts of the laws' own helpers on them: a copy is a new list of the same numbers, equal lists are told equal, a marked list holds the marks. Conditions: lists of at most 2^20 numbers. -/
import Derived.Test.YtejbbhjhinkcdaaRows
import Derived.WalkKit
import Derived.ProofKit
import Derived.OpenShut
import Derived.Below
import Derived.BigQuiet
namespace Go.Proofs.Ytejbbhjhinkcdaa.ByteH
open Go.ChangeShapes Go.WideShapes Go.ChangeAt Go.RowKit
set_option linter.unusedVariables false
set_option linter.unusedSimpArgs false

theorem hide {p : Prop} (h : p) : Hid p := h
theorem unhide {p : Prop} (h : Hid p) : p := h

theorem info8 : (Try.prog.info? 5).map (fun i => (i.zero, i.size, i.bytes)) = some (some (.int .u8 0), 1, 1) := by kernel_rfl

/-- The numbers of a list of the call's own: block g from its head on. -/
def At (w : World) (g : Nat) (xs : List Int) : Prop := ∀ i, i < xs.length → w.cell? ⟨g, i, none⟩ = some (.int .u8 (xs.getD i 0))

/-- A list that came in, or any other one: nothing is asked where it is empty. -/
def Reads (w : World) (a : Option Addr) (xs : List Int) : Prop :=
  xs.length = 0 ∨ ∃ b off, a = some ⟨b, off, none⟩ ∧ b < w.heap.size ∧ ∀ i, i < xs.length → w.cell? ⟨b, off + i, none⟩ = some (.int .u8 (xs.getD i 0))

/-- A list of the call's own, from block number base on. -/
def Own (w : World) (base g n cap : Nat) (xs : List Int) : Prop := w.ownsRow base 5 1 (.slice (some ⟨g, 0, none⟩) n cap) n (xs.map (Value.int .u8))

theorem Own.len {w : World} {base g n cap : Nat} {xs : List Int} (h : Own w base g n cap xs) : xs.length = n := by
  have := h.1
  simpa using this

theorem Own.lt {w : World} {base g n cap : Nat} {xs : List Int} (h : Own w base g n cap xs) : base ≤ g ∧ g < w.heap.size := World.ownsRow.lt h g rfl

theorem Own.at {w : World} {base g n cap : Nat} {xs : List Int} (h : Own w base g n cap xs) : At w g xs := by
  intro i hi
  have hl := h.len
  have := World.ownsRow.cellAt h i (by omega)
  rw [this]
  simp [List.getD, hi]

theorem Own.free {w : World} {base g n cap : Nat} {xs : List Int} (h : Own w base g n cap xs) (i : Nat) : w.frozen? ⟨g, i, none⟩ = false := World.ownsRow.frozenAt h i

theorem Own.mono {w : World} {base base' g n cap : Nat} {xs : List Int} (h : Own w base g n cap xs) (hb : base' ≤ base) : Own w base' g n cap xs := by
  refine ⟨h.1, ?_⟩
  rcases h.2 with ⟨h1, _⟩ | ⟨g', c, cur, h1, h2, h3⟩
  · simp at h1
  · exact Or.inr ⟨g', c, cur, h1, Nat.le_trans hb h2, h3⟩

/-- From another number on, where the block is not below it. -/
theorem Own.rebase {w : World} {base base' g n cap : Nat} {xs : List Int} (h : Own w base g n cap xs) (hb : base' ≤ g) : Own w base' g n cap xs := by
  refine ⟨h.1, ?_⟩
  rcases h.2 with ⟨h1, _⟩ | ⟨g', c, cur, h1, h2, h3⟩
  · simp at h1
  · obtain ⟨e, _⟩ : g = g' ∧ cap = c := by simpa using h1
    subst e
    exact Or.inr ⟨g, c, cur, h1, hb, h3⟩

theorem Own.kept {w w' : World} {base g n cap : Nat} {xs : List Int} {row : Option Nat} (h : Own w base g n cap xs) (k : w.grownBy w' row) (hne : some g ≠ row) : Own w' base g n cap xs :=
  World.ownsRow.kept h k (Or.inr hne)

theorem Own.below {w w' : World} {base g n cap B : Nat} {xs : List Int} (h : Own w base g n cap xs) (k : Below B w w') (hg : g < B) : Own w' base g n cap xs := by
  refine ⟨h.1, ?_⟩
  rcases h.2 with ⟨h1, _⟩ | ⟨g', c, cur, h1, h2, h3, h4⟩
  · simp at h1
  · obtain ⟨e, _⟩ : g = g' ∧ cap = c := by simpa using h1
    subst e
    exact Or.inr ⟨g, c, cur, h1, h2, by rw [k.block g hg]; exact h3, h4⟩

theorem At.below {w w' : World} {g B : Nat} {xs : List Int} (h : At w g xs) (k : Below B w w') (hg : g < B) : At w' g xs := fun i hi => (k.cell (p := ⟨g, i, none⟩) hg).trans (h i hi)

theorem Reads.below {w w' : World} {a : Option Addr} {xs : List Int} (h : Reads w a xs) (k : Below w.heap.size w w') : Reads w' a xs := by
  rcases h with h | ⟨b, off, rfl, hb, hc⟩
  · exact Or.inl h
  · exact Or.inr ⟨b, off, rfl, Nat.lt_of_lt_of_le hb k.size, fun i hi => (k.cell (p := ⟨b, off + i, none⟩) hb).trans (hc i hi)⟩

theorem grownBy_below {w w' : World} (h : w.grownBy w' none) : Below w.heap.size w w' := ⟨h.os, h.tape, h.output, h.size, fun k hk => h.block k hk (by simp)⟩
theorem below_grownBy {w w' : World} (h : Below w.heap.size w w') : w.grownBy w' none := ⟨h.os, h.tape, h.output, h.size, fun k hk _ => h.block k hk⟩

/-- Two steps, each of which turns nothing that was there. -/
theorem next {a b c : World} (h : Below a.heap.size a b) (k : Below b.heap.size b c) : Below a.heap.size a c := h.trans (k.mono h.size)

/-- A store into a list of the call's own. -/
theorem Own.set {w : World} {base g n cap : Nat} {xs : List Int} (h : Own w base g n cap xs) (i : Nat) (x : Int) :
    Own (w.setCell ⟨g, i, none⟩ (.int .u8 x)) base g n cap (xs.set i x) ∧ w.grownBy (w.setCell ⟨g, i, none⟩ (.int .u8 x)) (some g) := by
  have := World.ownsRow.stored h i (.int .u8 x)
  refine ⟨?_, this.2⟩
  unfold Own
  rw [List.map_set]
  exact this.1

theorem getD_take (xs : List Int) (k i : Nat) (h : i < k) : (xs.take k).getD i 0 = xs.getD i 0 := by
  simp [List.getD, h]

/-- The numbers so far, and zeros behind. -/
def part (xs : List Int) (n k : Nat) : List Int := xs.take k ++ List.replicate (n - k) 0

theorem part_zero (xs : List Int) (n : Nat) : part xs n 0 = List.replicate n 0 := by simp [part]
theorem part_all (xs : List Int) (n : Nat) (h : xs.length = n) : part xs n n = xs := by
  unfold part
  rw [← h]; simp

theorem part_step (xs : List Int) (n k : Nat) (h : xs.length = n) (hk : k < n) : (part xs n k).set k (xs.getD k 0) = part xs n (k + 1) := by
  subst h
  unfold part
  apply List.ext_getElem?
  intro j
  have l1 : (xs.take k).length = k := by simp; omega
  have l2 : (xs.take (k + 1)).length = k + 1 := by simp; omega
  rw [List.getElem?_set]
  by_cases e : k = j
  · subst e
    rw [if_pos rfl, if_pos (by simp; omega), List.getElem?_append_left (by omega), List.getElem?_take, if_pos (by omega)]
    simp [List.getD, hk]
  · rw [if_neg e]
    by_cases l : j < k
    · rw [List.getElem?_append_left (by omega), List.getElem?_append_left (by omega), List.getElem?_take, List.getElem?_take, if_pos l, if_pos (by omega)]
    · rw [List.getElem?_append_right (by omega), List.getElem?_append_right (by omega), l1, l2]
      simp only [List.getElem?_replicate]
      congr 1
      · simp; omega

theorem made_zeros (n : Nat) : (madeCells (Value.int .u8 0).cells (n * 1)).toList = (List.replicate n (0 : Int)).map (Value.int .u8) := by
  have : (Value.int .u8 0).cells = #[Value.int .u8 0] := rfl
  rw [this, toList_madeCells_one, List.map_replicate, Nat.mul_one]

/-- The marks: numbers from k on. -/
def marks (k : Int) (n : Nat) : List Int := (List.range n).map fun (i : Nat) => (k + i) % 256

theorem marks_len (k : Int) (n : Nat) : (marks k n).length = n := by simp [marks]
theorem marks_getD (k : Int) (n i : Nat) (h : i < n) : (marks k n).getD i 0 = (k + i) % 256 := by simp [marks, List.getD, h]

/-- The marks so far, and what stood behind. -/
def marked (xs : List Int) (k : Int) (n j : Nat) : List Int := (marks k n).take j ++ xs.drop j

theorem marked_zero (xs : List Int) (k : Int) (n : Nat) : marked xs k n 0 = xs := by simp [marked]
theorem marked_all (xs : List Int) (k : Int) (n : Nat) (h : xs.length = n) : marked xs k n n = marks k n := by
  unfold marked
  rw [List.take_of_length_le (by rw [marks_len]; exact Nat.le_refl _), List.drop_of_length_le (by omega), List.append_nil]

theorem marked_step (xs : List Int) (k : Int) (n j : Nat) (h : xs.length = n) (hj : j < n) : (marked xs k n j).set j ((k + j) % 256) = marked xs k n (j + 1) := by
  unfold marked
  have l := marks_len k n
  have g := marks_getD k n j hj
  have l1 : ((marks k n).take j).length = j := by simp; omega
  have l2 : ((marks k n).take (j + 1)).length = j + 1 := by simp; omega
  apply List.ext_getElem?
  intro i
  rw [List.getElem?_set]
  by_cases e : j = i
  · subst e
    rw [if_pos rfl, if_pos (by simp; omega), List.getElem?_append_left (by omega), List.getElem?_take, if_pos (by omega), ← g]
    simp [List.getD, l, hj]
  · rw [if_neg e]
    by_cases s : i < j
    · rw [List.getElem?_append_left (by omega), List.getElem?_append_left (by omega), List.getElem?_take, List.getElem?_take, if_pos s, if_pos (by omega)]
    · rw [List.getElem?_append_right (by omega), List.getElem?_append_right (by omega), l1, l2]
      simp only [List.getElem?_drop]
      congr 1
      omega

/-- The bytes of a list that came in are bytes. -/
def In (xs : List Int) : Prop := ∀ i, i < xs.length → 0 ≤ xs.getD i 0 ∧ xs.getD i 0 ≤ 255

end Go.Proofs.Ytejbbhjhinkcdaa.ByteH
