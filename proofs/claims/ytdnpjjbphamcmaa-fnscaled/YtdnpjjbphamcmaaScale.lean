/- Lots scaled by shares, with no program in sight. -/
import Derived.Test.YtdnpjjbphamcmaaTakes
namespace Go.Proofs.Ytdnpjjbphamcmaa.Scale
open Tup5 Lots Takes
set_option linter.unusedVariables false
set_option linter.unusedSimpArgs false

/-- A lot with other pieces. -/
def withQ (p : T5) (s : Int) : T5 := (p.1, p.2.1, p.2.2.1, s, p.2.2.2.2)

/-- Of the first k lots those that have pieces left, with their shares; and what the others cost. -/
def keptN (own : List T5) (ss : List Int) : Nat → List T5
  | 0 => []
  | k + 1 => keptN own ss k ++ (if ss.getD k 0 = 0 then [] else [withQ (el5 own k) (ss.getD k 0)])
def lostN (own : List T5) (ss : List Int) : Nat → Int
  | 0 => 0
  | k + 1 => lostN own ss k + (if ss.getD k 0 = 0 then (el5 own k).2.2.2.2 else 0)

/-- A cost that is put to the first one. -/
def addFirst : List T5 → Int → List T5
  | [], _ => []
  | p :: r, c => (p.1, p.2.1, p.2.2.1, p.2.2.2.1, p.2.2.2.2 + c) :: r

/-- The lots scaled. -/
def scaleL (own : List T5) (ss : List Int) : List T5 := addFirst (keptN own ss own.length) (lostN own ss own.length)

theorem kept_len (own : List T5) (ss : List Int) : ∀ k, (keptN own ss k).length ≤ k
  | 0 => Nat.le_refl _
  | k + 1 => by
    have := kept_len own ss k
    unfold keptN
    rw [List.length_append]
    split <;> simp <;> omega
theorem add_len (l : List T5) (c : Int) : (addFirst l c).length = l.length := by cases l <;> rfl
theorem scale_len (own : List T5) (ss : List Int) : (scaleL own ss).length ≤ own.length := by
  unfold scaleL
  rw [add_len]
  exact kept_len _ _ _

theorem kept_key {a i : Int} {own : List T5} (h : ∀ p ∈ own, p.1 = a ∧ p.2.1 = i) (ss : List Int) : ∀ k, k ≤ own.length → ∀ p ∈ keptN own ss k, p.1 = a ∧ p.2.1 = i
  | 0, _, p, hp => absurd hp List.not_mem_nil
  | k + 1, hk, p, hp => by
    unfold keptN at hp
    rcases List.mem_append.1 hp with hp | hp
    · exact kept_key h ss k (by omega) p hp
    · split at hp
      · exact absurd hp List.not_mem_nil
      · rw [List.mem_singleton] at hp
        subst hp
        exact h (el5 own k) (getD_mem (by omega))
theorem add_key {a i : Int} {l : List T5} (h : ∀ p ∈ l, p.1 = a ∧ p.2.1 = i) (c : Int) : ∀ p ∈ addFirst l c, p.1 = a ∧ p.2.1 = i := by
  cases l with
  | nil => exact fun p hp => absurd hp List.not_mem_nil
  | cons x r =>
    intro p hp
    rcases List.mem_cons.1 hp with rfl | hp
    · exact h x List.mem_cons_self
    · exact h p (List.mem_cons_of_mem _ hp)
theorem scale_key {a i : Int} {own : List T5} (h : ∀ p ∈ own, p.1 = a ∧ p.2.1 = i) (ss : List Int) : ∀ p ∈ scaleL own ss, p.1 = a ∧ p.2.1 = i := add_key (kept_key h ss own.length (Nat.le_refl _)) _

theorem lost_bd {own : List T5} (h : ∀ p ∈ own, Pos p) (ss : List Int) : ∀ k, k ≤ own.length → 0 ≤ lostN own ss k ∧ lostN own ss k + sumC (keptN own ss k) = sumC (own.take k)
  | 0, _ => by simp [lostN, keptN, sumC]
  | k + 1, hk => by
    obtain ⟨h1, h2⟩ := lost_bd h ss k (by omega)
    have hp := h _ (getD_mem (ps := own) (i := k) (by omega))
    unfold Pos at hp
    rw [sumC_next (by omega)]
    unfold lostN keptN
    rw [sumC_append]
    by_cases e : ss.getD k 0 = 0
    · rw [if_pos e, if_pos e]
      simp only [sumC]
      omega
    · rw [if_neg e, if_neg e]
      simp only [sumC, withQ]
      omega

end Go.Proofs.Ytdnpjjbphamcmaa.Scale
