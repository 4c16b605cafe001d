/- Lists of bytes of a call's own, nil ones too, and the laws' own helpers on them. -/
import Derived.Test.YtejbbhjhinkcdaaByteH
namespace Go.Proofs.Ytejbbhjhinkcdaa.VOB
open Go.ChangeShapes Go.WideShapes Go.ChangeAt Go.RowKit
open ByteH (Own At)
set_option linter.unusedVariables false
set_option linter.unusedSimpArgs false
/-- A list of the call's own, from block number base on; nil where it is empty, perhaps. -/
def Ob (w : World) (base : Nat) (a : Option Addr) (n cap : Nat) (xs : List Int) : Prop := w.ownsRow base 5 1 (.slice a n cap) n (xs.map (Value.int .u8))
theorem Ob.nil (w : World) (base : Nat) : Ob w base none 0 0 [] := World.ownsRow_nil w base _ _
section
variable {w w' : World} {base n cap : Nat} {a : Option Addr} {xs : List Int}
theorem Ob.len (h : Ob w base a n cap xs) : xs.length = n := by have := h.1; simpa using this
theorem Ob.either (h : Ob w base a n cap xs) : (a = none ∧ n = 0 ∧ xs = []) ∨ ∃ g, a = some ⟨g, 0, none⟩ ∧ Own w base g n cap xs := by
  have hl := h.len
  rcases h.2 with ⟨h1, _⟩ | ⟨g, c, cur, h1, _⟩
  · have : a = none ∧ n = 0 ∧ cap = 0 := by simpa using h1
    obtain ⟨rfl, rfl, rfl⟩ := this
    exact .inl ⟨rfl, rfl, List.eq_nil_of_length_eq_zero hl⟩
  · have : a = some ⟨g, 0, none⟩ ∧ cap = c := by simpa using h1
    obtain ⟨rfl, rfl⟩ := this
    exact .inr ⟨g, rfl, h⟩
/-- Its block lies between two numbers. -/
def Btw (lo hi : Nat) (a : Option Addr) : Prop := ∀ x, a = some x → lo ≤ x.block ∧ x.block < hi
theorem Ob.btw (h : Ob w base a n cap xs) : Btw base w.heap.size a := by
  intro x hx
  rcases h.either with ⟨rfl, _⟩ | ⟨g, rfl, o⟩
  · cases hx
  · cases hx; exact o.lt
theorem Btw.mono {lo hi lo' hi' : Nat} (h : Btw lo hi a) (h1 : lo' ≤ lo) (h2 : hi ≤ hi') : Btw lo' hi' a := fun x hx => ⟨Nat.le_trans h1 (h x hx).1, Nat.lt_of_lt_of_le (h x hx).2 h2⟩
theorem Ob.mono {base' : Nat} (h : Ob w base a n cap xs) (hb : base' ≤ base) : Ob w base' a n cap xs := by
  rcases h.either with ⟨rfl, rfl, rfl⟩ | ⟨g, rfl, o⟩
  · refine ⟨h.1, ?_⟩
    rcases h.2 with h | ⟨g, c, cur, h1, _⟩
    · exact .inl h
    · simp at h1
  · exact o.mono hb
theorem Ob.below {B : Nat} (h : Ob w base a n cap xs) (k : Below B w w') (hb : Btw 0 B a) : Ob w' base a n cap xs := by
  rcases h.either with ⟨rfl, rfl, rfl⟩ | ⟨g, rfl, o⟩
  · refine ⟨h.1, ?_⟩
    rcases h.2 with h | ⟨g, c, cur, h1, _⟩
    · exact .inl h
    · simp at h1
  · exact o.below k (hb _ rfl).2
theorem Ob.step (h : Ob w base a n cap xs) (k : Below w.heap.size w w') : Ob w' base a n cap xs := h.below k (h.btw.mono (Nat.zero_le _) (Nat.le_refl _))
theorem Ob.kept {row : Option Nat} (h : Ob w base a n cap xs) (k : w.grownBy w' row) (hr : ∀ x, a = some x → some x.block ≠ row) : Ob w' base a n cap xs := by
  rcases h.either with ⟨rfl, rfl, rfl⟩ | ⟨g, rfl, o⟩
  · refine ⟨h.1, ?_⟩
    rcases h.2 with h | ⟨g, c, cur, h1, _⟩
    · exact .inl h
    · simp at h1
  · exact o.kept k (hr _ rfl)
end
/-- What is read of it. -/
def Rd (w : World) (a : Option Addr) (xs : List Int) : Prop := xs = [] ∨ ∃ g, a = some ⟨g, 0, none⟩ ∧ g < w.heap.size ∧ At w g xs
theorem Ob.rd {w : World} {base n cap : Nat} {a : Option Addr} {xs : List Int} (h : Ob w base a n cap xs) : Rd w a xs := by
  rcases h.either with ⟨rfl, rfl, rfl⟩ | ⟨g, rfl, o⟩
  · exact .inl rfl
  · exact .inr ⟨g, rfl, o.lt.2, o.at⟩
theorem Rd.below {w w' : World} {a : Option Addr} {xs : List Int} (h : Rd w a xs) (k : Below w.heap.size w w') : Rd w' a xs := by
  rcases h with h | ⟨g, e, hl, hc⟩
  · exact .inl h
  · exact .inr ⟨g, e, Nat.lt_of_lt_of_le hl k.size, hc.below k hl⟩
end Go.Proofs.Ytejbbhjhinkcdaa.VOB
