/- Lots with no program in sight: when they are right, those of an account and an instrument, two lists put together in order, and what pieces and costs come to. -/
import Derived.Test.YtkaomecmhphjpaaTup5
namespace Go.Proofs.Ytkaomecmhphjpaa.Lots
open Tup5
set_option linter.unusedVariables false
set_option linter.unusedSimpArgs false

def Amt (x : Int) : Prop := -1000000000000000 ≤ x ∧ x ≤ 1000000000000000
def NoOk (x : Int) : Prop := 1 ≤ x ∧ x ≤ 1000

theorem bool_of (p : Prop) : ∃ b : Bool, b = true ↔ p := by
  by_cases h : p
  · exact ⟨true, ⟨fun _ => h, fun _ => rfl⟩⟩
  · exact ⟨false, ⟨fun e => Bool.noConfusion e, fun e => absurd e h⟩⟩

/-- b tells whether p. -/
def Says (b : Bool) (p : Prop) : Prop := b = true ↔ p
theorem says_of (p : Prop) : ∃ b, Says b p := bool_of _
theorem Says.yes {p : Prop} (h : Says true p) : p := h.1 rfl
theorem Says.no {p : Prop} (h : Says false p) : ¬ p := fun r => Bool.noConfusion (h.2 r)
theorem Says.of {b : Bool} {p : Prop} (h : Says b p) (r : p) : b = true := h.2 r
theorem Says.not {b : Bool} {p : Prop} (h : Says b p) (r : ¬ p) : b = false := by
  cases b
  · rfl
  · exact absurd h.yes r

/-- Ahead of another one: by account, by instrument, by number. -/
def Bef (p q : T5) : Prop := p.1 < q.1 ∨ (p.1 = q.1 ∧ (p.2.1 < q.2.1 ∨ (p.2.1 = q.2.1 ∧ p.2.2.1 < q.2.2.1)))

theorem bef_irrefl (p : T5) : ¬ Bef p p := by unfold Bef; omega
theorem bef_trans {p q r : T5} (h : Bef p q) (k : Bef q r) : Bef p r := by unfold Bef at *; omega
theorem bef_asymm {p q : T5} (h : Bef p q) : ¬ Bef q p := fun k => bef_irrefl _ (bef_trans h k)

/-- A lot that is one. -/
def One (p : T5) : Prop := NoOk p.1 ∧ NoOk p.2.1 ∧ (1 ≤ p.2.2.1 ∧ p.2.2.1 ≤ 1000000000) ∧ (1 ≤ p.2.2.2.1 ∧ p.2.2.2.1 ≤ 1000000000000000) ∧ (0 ≤ p.2.2.2.2 ∧ p.2.2.2.2 ≤ 1000000000000000)

/-- Of an account and an instrument. -/
def Of (a i : Int) (p : T5) : Prop := p.1 = a ∧ p.2.1 = i

/-- Their pieces, and what they cost, together. -/
def qtyOf : List T5 → Int → Int → Int
  | [], _, _ => 0
  | p :: r, a, i => (if p.1 = a ∧ p.2.1 = i then p.2.2.2.1 else 0) + qtyOf r a i
def costOf : List T5 → Int → Int → Int
  | [], _, _ => 0
  | p :: r, a, i => (if p.1 = a ∧ p.2.1 = i then p.2.2.2.2 else 0) + costOf r a i

theorem qtyOf_append (a i : Int) : ∀ (ps qs : List T5), qtyOf (ps ++ qs) a i = qtyOf ps a i + qtyOf qs a i
  | [], qs => by simp [qtyOf]
  | p :: r, qs => by
    have := qtyOf_append a i r qs
    simp only [List.cons_append, qtyOf, this]
    omega
theorem costOf_append (a i : Int) : ∀ (ps qs : List T5), costOf (ps ++ qs) a i = costOf ps a i + costOf qs a i
  | [], qs => by simp [costOf]
  | p :: r, qs => by
    have := costOf_append a i r qs
    simp only [List.cons_append, costOf, this]
    omega

theorem qtyOf_next {ps : List T5} {k : Nat} (h : k < ps.length) (a i : Int) : qtyOf (ps.take (k + 1)) a i = qtyOf (ps.take k) a i + (if (el5 ps k).1 = a ∧ (el5 ps k).2.1 = i then (el5 ps k).2.2.2.1 else 0) := by
  rw [take_next h, qtyOf_append]
  simp [qtyOf]
theorem costOf_next {ps : List T5} {k : Nat} (h : k < ps.length) (a i : Int) : costOf (ps.take (k + 1)) a i = costOf (ps.take k) a i + (if (el5 ps k).1 = a ∧ (el5 ps k).2.1 = i then (el5 ps k).2.2.2.2 else 0) := by
  rw [take_next h, costOf_append]
  simp [costOf]

/-- Element i is right, and behind the one ahead of it. -/
def RowOk (ps : List T5) (i : Nat) : Prop := One (el5 ps i) ∧ (0 < i → Bef (el5 ps (i - 1)) (el5 ps i))

/-- Lots that are right. -/
def Right (ps : List T5) : Prop :=
  ps.length ≤ 120 ∧ (∀ i, i < ps.length → RowOk ps i) ∧ ∀ a i, qtyOf ps a i ≤ 1000000000000000 ∧ costOf ps a i ≤ 1000000000000000

theorem qty_pos {a i : Int} : ∀ (ps : List T5), (∀ p ∈ ps, One p) → 0 ≤ qtyOf ps a i ∧ 0 ≤ costOf ps a i
  | [], _ => by simp [qtyOf, costOf]
  | p :: r, h => by
    obtain ⟨i1, i2⟩ := qty_pos (a := a) (i := i) r (fun q hq => h q (List.mem_cons_of_mem _ hq))
    obtain ⟨_, _, _, h4, h5⟩ := h p List.mem_cons_self
    unfold qtyOf costOf
    constructor
    · split <;> omega
    · split <;> omega

/-- The sums of a beginning are no greater than those of all. -/
theorem take_le {ps : List T5} (h : ∀ p ∈ ps, One p) (k : Nat) (a i : Int) : qtyOf (ps.take k) a i ≤ qtyOf ps a i ∧ costOf (ps.take k) a i ≤ costOf ps a i := by
  have e : ps = ps.take k ++ ps.drop k := (List.take_append_drop k ps).symm
  have q := qty_pos (a := a) (i := i) (ps.drop k) (fun p hp => h p (List.mem_of_mem_drop hp))
  have e1 := qtyOf_append a i (ps.take k) (ps.drop k)
  have e2 := costOf_append a i (ps.take k) (ps.drop k)
  rw [← e] at e1 e2
  omega

/-- What stands so far of the group that ends at place k: its pieces and its cost. -/
def run (ps : List T5) (k : Nat) : Int × Int := (qtyOf (ps.take (k + 1)) (el5 ps k).1 (el5 ps k).2.1, costOf (ps.take (k + 1)) (el5 ps k).1 (el5 ps k).2.1)

theorem asc_of {ps : List T5} {m : Nat} (hm : m ≤ ps.length) (h : ∀ i, i < m → RowOk ps i) : ∀ j i, i < j → j < m → Bef (el5 ps i) (el5 ps j) := by
  intro j
  induction j with
  | zero => intro i h1; omega
  | succ j ih =>
    intro i h1 h2
    have r := (h (j + 1) h2).2 (by omega)
    rw [show j + 1 - 1 = j by omega] at r
    by_cases e : i = j
    · subst e; exact r
    · exact bef_trans (ih i (by omega) (by omega)) r

theorem qty_none (a i : Int) : ∀ (ps : List T5), (∀ p ∈ ps, ¬ (p.1 = a ∧ p.2.1 = i)) → qtyOf ps a i = 0 ∧ costOf ps a i = 0
  | [], _ => ⟨rfl, rfl⟩
  | p :: r, h => by
    obtain ⟨h1, h2⟩ := qty_none a i r (fun q hq => h q (List.mem_cons_of_mem _ hq))
    unfold qtyOf costOf
    rw [if_neg (h p List.mem_cons_self), if_neg (h p List.mem_cons_self), h1, h2]
    exact ⟨rfl, rfl⟩

theorem mem_take {ps : List T5} {k : Nat} {p : T5} (h : p ∈ ps.take k) : ∃ i, i < k ∧ i < ps.length ∧ el5 ps i = p := by
  obtain ⟨i, hi, e⟩ := mem_getD h
  have h1 : i < k ∧ i < ps.length := by simp at hi; omega
  refine ⟨i, h1.1, h1.2, ?_⟩
  rw [← e]
  simp [el5, List.getD, h1.1, h1.2]

/-- A group goes on, or a new one begins. -/
theorem run_next {ps : List T5} {k : Nat} (hk : k < ps.length) (h : ∀ i, i < k + 1 → RowOk ps i) :
    run ps k = (if k = 0 ∨ (el5 ps k).1 ≠ (el5 ps (k - 1)).1 ∨ (el5 ps k).2.1 ≠ (el5 ps (k - 1)).2.1 then ((el5 ps k).2.2.2.1, (el5 ps k).2.2.2.2)
      else ((run ps (k - 1)).1 + (el5 ps k).2.2.2.1, (run ps (k - 1)).2 + (el5 ps k).2.2.2.2)) := by
  unfold run
  rw [qtyOf_next hk, costOf_next hk, if_pos ⟨rfl, rfl⟩, if_pos ⟨rfl, rfl⟩]
  by_cases c : k = 0 ∨ (el5 ps k).1 ≠ (el5 ps (k - 1)).1 ∨ (el5 ps k).2.1 ≠ (el5 ps (k - 1)).2.1
  · rw [if_pos c]
    obtain ⟨z1, z2⟩ := qty_none (el5 ps k).1 (el5 ps k).2.1 (ps.take k) (fun p hp e => by
      obtain ⟨i, hi, hl, rfl⟩ := mem_take hp
      have b := asc_of (m := k + 1) (by omega) h k i hi (by omega)
      by_cases k0 : k = 0
      · omega
      · have b1 := (h k (by omega)).2 (by omega)
        by_cases e1 : i = k - 1
        · subst e1
          rcases c with c | c | c
          · omega
          · exact c e.1.symm
          · exact c e.2.symm
        · have b2 := asc_of (m := k + 1) (by omega) h (k - 1) i (by omega) (by omega)
          unfold Bef at b b1 b2
          omega)
    rw [z1, z2]
    simp
  · rw [if_neg c]
    have k0 : k ≠ 0 := fun e => c (.inl e)
    have e1 : (el5 ps k).1 = (el5 ps (k - 1)).1 := Classical.byContradiction fun e => c (.inr (.inl e))
    have e2 : (el5 ps k).2.1 = (el5 ps (k - 1)).2.1 := Classical.byContradiction fun e => c (.inr (.inr e))
    rw [show k - 1 + 1 = k by omega, e1, e2]

/-- Right is: each row, and each sum so far. -/
theorem right_iff (ps : List T5) (hl : ps.length ≤ 120) : Right ps ↔ ∀ i, i < ps.length → RowOk ps i ∧ (run ps i).1 ≤ 1000000000000000 ∧ (run ps i).2 ≤ 1000000000000000 := by
  constructor
  · rintro ⟨_, h2, h3⟩ i hi
    have one : ∀ p ∈ ps, One p := fun p hp => by
      obtain ⟨j, hj, rfl⟩ := mem_getD hp
      exact (h2 j hj).1
    have t := take_le one (i + 1) (el5 ps i).1 (el5 ps i).2.1
    have s := h3 (el5 ps i).1 (el5 ps i).2.1
    refine ⟨h2 i hi, ?_, ?_⟩
    · show qtyOf _ _ _ ≤ _
      omega
    · show costOf _ _ _ ≤ _
      omega
  · intro h
    refine ⟨hl, fun i hi => (h i hi).1, fun a i => ?_⟩
    -- the last place at which the group stands
    have key : ∀ m, m ≤ ps.length → qtyOf (ps.take m) a i ≤ 1000000000000000 ∧ costOf (ps.take m) a i ≤ 1000000000000000 := by
      intro m
      induction m with
      | zero => intro _; simp [qtyOf, costOf]
      | succ m ih =>
        intro hm
        by_cases e : (el5 ps m).1 = a ∧ (el5 ps m).2.1 = i
        · obtain ⟨rfl, rfl⟩ := e
          exact (h m (by omega)).2
        · have i0 := ih (by omega)
          rw [qtyOf_next (by omega), costOf_next (by omega), if_neg e, if_neg e]
          omega
    have := key ps.length (Nat.le_refl _)
    rw [List.take_length] at this
    exact this

theorem asc_ext : ∀ {l₁ l₂ : List T5}, l₁.Pairwise Bef → l₂.Pairwise Bef → (∀ p, p ∈ l₁ ↔ p ∈ l₂) → l₁ = l₂
  | [], [], _, _, _ => rfl
  | [], y :: r, _, _, h => absurd ((h y).2 List.mem_cons_self) List.not_mem_nil
  | x :: r, [], _, _, h => absurd ((h x).1 List.mem_cons_self) List.not_mem_nil
  | x :: r, y :: s, h1, h2, h => by
    obtain ⟨a1, b1⟩ := List.pairwise_cons.1 h1
    obtain ⟨a2, b2⟩ := List.pairwise_cons.1 h2
    have exy : x = y := by
      rcases List.mem_cons.1 ((h x).1 List.mem_cons_self) with e | e
      · exact e
      · rcases List.mem_cons.1 ((h y).2 List.mem_cons_self) with e' | e'
        · exact e'.symm
        · exact absurd (a2 x e) (bef_asymm (a1 y e'))
    subst exy
    rw [asc_ext b1 b2 (fun p => ⟨fun hp => ?_, fun hp => ?_⟩)]
    · rcases List.mem_cons.1 ((h p).1 (List.mem_cons_of_mem _ hp)) with rfl | e
      · exact absurd (a1 _ hp) (bef_irrefl _)
      · exact e
    · rcases List.mem_cons.1 ((h p).2 (List.mem_cons_of_mem _ hp)) with rfl | e
      · exact absurd (a2 _ hp) (bef_irrefl _)
      · exact e

theorem Right.asc {ps : List T5} (h : Right ps) : ps.Pairwise Bef := by
  rw [List.pairwise_iff_getElem]
  intro i j hi hj hij
  have := asc_of (m := ps.length) (Nat.le_refl _) h.2.1 j i hij hj
  simpa [el5, List.getD, hi, hj] using this

/-- Those of an account and an instrument, and all others. -/
def ownL (ps : List T5) (a i : Int) : List T5 := ps.filter fun p => decide (p.1 = a ∧ p.2.1 = i)
def restL (ps : List T5) (a i : Int) : List T5 := ps.filter fun p => !decide (p.1 = a ∧ p.2.1 = i)

theorem own_next {ps : List T5} {k : Nat} (h : k < ps.length) (a i : Int) : ownL (ps.take (k + 1)) a i = ownL (ps.take k) a i ++ (if (el5 ps k).1 = a ∧ (el5 ps k).2.1 = i then [el5 ps k] else []) := by
  unfold ownL
  rw [take_next h, List.filter_append]
  congr 1
  generalize el5 ps k = p
  by_cases e : p.1 = a ∧ p.2.1 = i
  · rw [if_pos e]; simp [e]
  · rw [if_neg e, List.filter_cons]; simp [e]
theorem rest_next {ps : List T5} {k : Nat} (h : k < ps.length) (a i : Int) : restL (ps.take (k + 1)) a i = restL (ps.take k) a i ++ (if (el5 ps k).1 = a ∧ (el5 ps k).2.1 = i then [] else [el5 ps k]) := by
  unfold restL
  rw [take_next h, List.filter_append]
  congr 1
  generalize el5 ps k = p
  by_cases e : p.1 = a ∧ p.2.1 = i
  · rw [if_pos e]; simp [e]
  · rw [if_neg e, List.filter_cons]; simp [e]

theorem own_asc {ps : List T5} (h : ps.Pairwise Bef) (a i : Int) : (ownL ps a i).Pairwise Bef ∧ (restL ps a i).Pairwise Bef := ⟨h.filter _, h.filter _⟩

theorem own_sum (a i : Int) : ∀ (ps : List T5), qtyOf (ownL ps a i) a i = qtyOf ps a i ∧ costOf (ownL ps a i) a i = costOf ps a i
  | [] => ⟨rfl, rfl⟩
  | p :: r => by
    obtain ⟨h1, h2⟩ := own_sum a i r
    unfold ownL at h1 h2 ⊢
    by_cases e : p.1 = a ∧ p.2.1 = i
    · rw [List.filter_cons_of_pos (by simpa using e)]
      simp only [qtyOf, costOf, if_pos e, h1, h2]
      exact ⟨trivial, trivial⟩
    · rw [List.filter_cons_of_neg (by simpa using e)]
      simp only [qtyOf, costOf, if_neg e, h1, h2]
      omega

/-- Two lists put together in order; nf: steps that are allowed. -/
def mergeL : Nat → List T5 → List T5 → List T5
  | 0, _, _ => []
  | _ + 1, [], b => b
  | _ + 1, a, [] => a
  | f + 1, x :: a, y :: b =>
    if x.1 < y.1 ∨ (x.1 = y.1 ∧ (x.2.1 < y.2.1 ∨ (x.2.1 = y.2.1 ∧ x.2.2.1 < y.2.2.1))) then x :: mergeL f a (y :: b) else y :: mergeL f (x :: a) b

end Go.Proofs.Ytkaomecmhphjpaa.Lots
