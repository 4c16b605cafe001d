/- Charts with no program in sight: lists of pairs (a number and a kind), when they are right, where a number's place is, what is put and what is found. -/
import Derived.Below
import Derived.RowKit
namespace Go.Proofs.Ytophnnmbgpinfaa.Chart
open Go Go.RowKit

/-- Element i. -/
abbrev el (ps : List (Int × Int)) (i : Nat) : Int × Int := ps.getD i (0, 0)

/-- Element i is right, and above the one ahead of it. -/
def RowOk (last : Int) (ps : List (Int × Int)) (i : Nat) : Prop :=
  (1 ≤ (el ps i).1 ∧ (el ps i).1 ≤ 1000) ∧ (1 ≤ (el ps i).2 ∧ (el ps i).2 ≤ last) ∧ (0 < i → (el ps (i - 1)).1 < (el ps i).1)

/-- A chart that is right. -/
def Right (most : Nat) (last : Int) (ps : List (Int × Int)) : Prop := ps.length ≤ most ∧ ∀ i, i < ps.length → RowOk last ps i

theorem bool_of (p : Prop) : ∃ b : Bool, b = true ↔ p := by
  by_cases h : p
  · exact ⟨true, ⟨fun _ => h, fun _ => rfl⟩⟩
  · exact ⟨false, ⟨fun e => Bool.noConfusion e, fun e => absurd e h⟩⟩

theorem bool_same {b c : Bool} {p : Prop} (h : b = true ↔ p) (k : c = true ↔ p) : b = c := by
  cases b <;> cases c <;> simp_all

/-- b tells whether a chart is right. -/
def Says (b : Bool) (most : Nat) (last : Int) (ps : List (Int × Int)) : Prop := b = true ↔ Right most last ps

theorem says_of (most : Nat) (last : Int) (ps : List (Int × Int)) : ∃ b, Says b most last ps := bool_of _
theorem Says.yes {most : Nat} {last : Int} {ps : List (Int × Int)} (h : Says true most last ps) : Right most last ps := h.1 rfl
theorem Says.no {most : Nat} {last : Int} {ps : List (Int × Int)} (h : Says false most last ps) : ¬ Right most last ps := fun r => Bool.noConfusion (h.2 r)
theorem Says.of {b : Bool} {most : Nat} {last : Int} {ps : List (Int × Int)} (h : Says b most last ps) (r : Right most last ps) : b = true := h.2 r
theorem Says.not {b : Bool} {most : Nat} {last : Int} {ps : List (Int × Int)} (h : Says b most last ps) (r : ¬ Right most last ps) : b = false := by
  cases b
  · rfl
  · exact absurd h.yes r

theorem Right.asc {most : Nat} {last : Int} {ps : List (Int × Int)} (h : Right most last ps) : ∀ j i, i < j → j < ps.length → (el ps i).1 < (el ps j).1 := by
  intro j
  induction j with
  | zero => intro i h1; omega
  | succ j ih =>
    intro i h1 h2
    have r := (h.2 (j + 1) h2).2.2 (by omega)
    rw [show j + 1 - 1 = j by omega] at r
    by_cases e : i = j
    · subst e; exact r
    · have := ih i (by omega) (by omega)
      omega

theorem Right.one {most : Nat} {last : Int} {ps : List (Int × Int)} (h : Right most last ps) (i j : Nat) (hi : i < ps.length) (hj : j < ps.length) (e : (el ps i).1 = (el ps j).1) : i = j := by
  rcases Nat.lt_trichotomy i j with l | l | l
  · have := h.asc j i l hj; omega
  · exact l
  · have := h.asc i j l hi; omega

/-- What is told of a number. -/
def IsKind (most : Nat) (last : Int) (ps : List (Int × Int)) (no r : Int) : Prop :=
  (Right most last ps ∧ ∃ i, i < ps.length ∧ (el ps i).1 = no ∧ r = (el ps i).2) ∨ ((¬ Right most last ps ∨ ∀ i, i < ps.length → (el ps i).1 ≠ no) ∧ r = 0)

theorem IsKind.same {most : Nat} {last : Int} {ps : List (Int × Int)} {no r s : Int} (h : IsKind most last ps no r) (k : IsKind most last ps no s) : r = s := by
  rcases h with ⟨h, i, hi, ei, rfl⟩ | ⟨h, rfl⟩ <;> rcases k with ⟨k, j, hj, ej, rfl⟩ | ⟨k, rfl⟩
  · rw [h.one i j hi hj (by omega)]
  · rcases k with k | k
    · exact absurd h k
    · exact absurd ei (k i hi)
  · rcases h with h | h
    · exact absurd k h
    · exact absurd ej (h j hj)
  · rfl

/-- The place of a number: all ahead of it are below it, the one that stands there is not. -/
def IsPlace (ps : List (Int × Int)) (no : Int) (c : Nat) : Prop := c ≤ ps.length ∧ (∀ i, i < c → (el ps i).1 < no) ∧ (c < ps.length → no ≤ (el ps c).1)

theorem IsPlace.same {ps : List (Int × Int)} {no : Int} {c d : Nat} (h : IsPlace ps no c) (k : IsPlace ps no d) : c = d := by
  obtain ⟨h1, h2, h3⟩ := h
  obtain ⟨k1, k2, k3⟩ := k
  rcases Nat.lt_trichotomy c d with l | l | l
  · have := k2 c l; have := h3 (by omega); omega
  · exact l
  · have := h2 d l; have := k3 (by omega); omega

/-- f tells whether the number stands at its place. -/
def StandsAt (f : Bool) (ps : List (Int × Int)) (no : Int) (c : Nat) : Prop := f = true ↔ c < ps.length ∧ (el ps c).1 = no

theorem StandsAt.yes {ps : List (Int × Int)} {no : Int} {c : Nat} (h : StandsAt true ps no c) : c < ps.length ∧ (el ps c).1 = no := h.1 rfl
theorem StandsAt.no {ps : List (Int × Int)} {no : Int} {c : Nat} (h : StandsAt false ps no c) : ¬ (c < ps.length ∧ (el ps c).1 = no) := fun z => Bool.noConfusion (h.2 z)

/-- The list with p at place c. -/
def ins (ps : List (Int × Int)) (c : Nat) (p : Int × Int) : List (Int × Int) := ps.take c ++ p :: ps.drop c

theorem ins_len (ps : List (Int × Int)) (c : Nat) (p : Int × Int) (h : c ≤ ps.length) : (ins ps c p).length = ps.length + 1 := by
  simp [ins]; omega

theorem ins_el (ps : List (Int × Int)) (c : Nat) (p : Int × Int) (h : c ≤ ps.length) (i : Nat) : el (ins ps c p) i = if i < c then el ps i else if i = c then p else el ps (i - 1) := by
  have l1 : (ps.take c).length = c := by simp; omega
  unfold el ins
  simp only [List.getD]
  by_cases l : i < c
  · rw [if_pos l, List.getElem?_append_left (by omega), List.getElem?_take, if_pos l]
  · rw [if_neg l, List.getElem?_append_right (by omega), l1]
    by_cases e : i = c
    · subst e; simp
    · rw [if_neg e, show i - c = (i - 1 - c) + 1 by omega, List.getElem?_cons_succ, List.getElem?_drop, show c + (i - 1 - c) = i - 1 by omega]

/-- What a put answers. -/
def IsPut (most : Nat) (last : Int) (ps : List (Int × Int)) (p : Int × Int) (qs : List (Int × Int)) (ok : Bool) : Prop :=
  (¬ Right most last ps ∧ qs = [] ∧ ok = false) ∨
  (Right most last ps ∧ ∃ c, IsPlace ps p.1 c ∧ ((¬ Right most last (ins ps c p) ∧ qs = ps ∧ ok = false) ∨ (Right most last (ins ps c p) ∧ qs = ins ps c p ∧ ok = true)))

theorem IsPut.same {most : Nat} {last : Int} {ps : List (Int × Int)} {p : Int × Int} {qs rs : List (Int × Int)} {b c : Bool} (h : IsPut most last ps p qs b) (k : IsPut most last ps p rs c) : qs = rs ∧ b = c := by
  rcases h with ⟨h, rfl, rfl⟩ | ⟨h, i, hi, h'⟩ <;> rcases k with ⟨k, rfl, rfl⟩ | ⟨k, j, hj, k'⟩
  · exact ⟨rfl, rfl⟩
  · exact absurd k h
  · exact absurd h k
  · obtain rfl := hi.same hj
    rcases h' with ⟨h', rfl, rfl⟩ | ⟨h', rfl, rfl⟩ <;> rcases k' with ⟨k', rfl, rfl⟩ | ⟨k', rfl, rfl⟩
    · exact ⟨rfl, rfl⟩
    · exact absurd k' h'
    · exact absurd h' k'
    · exact ⟨rfl, rfl⟩

theorem IsPut.len {most : Nat} {last : Int} {ps : List (Int × Int)} {p : Int × Int} {qs : List (Int × Int)} {ok : Bool} (h : IsPut most last ps p qs ok) : qs.length ≤ most := by
  rcases h with ⟨_, rfl, _⟩ | ⟨h, c, _, ⟨_, rfl, _⟩ | ⟨h', rfl, _⟩⟩
  · exact Nat.zero_le _
  · exact h.1
  · exact h'.1

theorem place_is (ps : List (Int × Int)) (no : Int) : ∃ c, IsPlace ps no c := by
  have : ∀ k, k ≤ ps.length → (∃ c, IsPlace ps no c) ∨ (∀ i, i < k → (el ps i).1 < no) := by
    intro k
    induction k with
    | zero => intro _; exact .inr (fun i hi => by omega)
    | succ k ih =>
      intro hk
      rcases ih (by omega) with h | h
      · exact .inl h
      · by_cases l : (el ps k).1 < no
        · exact .inr (fun i hi => by by_cases e : i = k
                                     · subst e; exact l
                                     · exact h i (by omega))
        · exact .inl ⟨k, by omega, h, fun _ => by omega⟩
  rcases this ps.length (Nat.le_refl _) with h | h
  · exact h
  · exact ⟨ps.length, Nat.le_refl _, h, fun l => absurd l (Nat.lt_irrefl _)⟩

end Go.Proofs.Ytophnnmbgpinfaa.Chart
