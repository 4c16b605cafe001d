/- More on lots that are opened, and on lots that are taken from either end, with no program in sight. -/
import Derived.Test.YtdnpjjbphamcmaaLotMore
namespace Go.Proofs.Ytdnpjjbphamcmaa.LotMore2
open Tup5 Lots Takes LotMore
set_option linter.unusedVariables false
set_option linter.unusedSimpArgs false

theorem merge_sum (a i : Int) : ∀ (n : Nat) (A B : List T5), A.length + B.length ≤ n → qtyOf (mergeL n A B) a i = qtyOf A a i + qtyOf B a i ∧ costOf (mergeL n A B) a i = costOf A a i + costOf B a i
  | 0, [], [], _ => by simp [mergeL, qtyOf, costOf]
  | 0, x :: A, _, h => by simp at h
  | 0, [], y :: B, h => by simp at h
  | n + 1, [], B, h => by rw [merge_right _ _ (by simpa using h)]; simp [qtyOf, costOf]
  | n + 1, x :: A, [], h => by rw [merge_left _ _ (by simpa using h)]; simp [qtyOf, costOf]
  | n + 1, x :: A, y :: B, h => by
    have qc : ∀ (p : T5) (r : List T5), qtyOf (p :: r) a i = (if p.1 = a ∧ p.2.1 = i then p.2.2.2.1 else 0) + qtyOf r a i := fun _ _ => rfl
    have cc : ∀ (p : T5) (r : List T5), costOf (p :: r) a i = (if p.1 = a ∧ p.2.1 = i then p.2.2.2.2 else 0) + costOf r a i := fun _ _ => rfl
    by_cases e : Bef x y
    · rw [merge_yes e]
      have := merge_sum a i n A (y :: B) (by simp at h ⊢; omega)
      rw [qc x (mergeL n A (y :: B)), cc x (mergeL n A (y :: B)), this.1, this.2, qc x A, cc x A]
      constructor <;> omega
    · rw [merge_no e]
      have := merge_sum a i n (x :: A) B (by simp at h ⊢; omega)
      rw [qc y (mergeL n (x :: A) B), cc y (mergeL n (x :: A) B), this.1, this.2, qc y B, cc y B]
      constructor <;> omega

/-- A lot that was opened: its place among those of its account and instrument. -/
theorem opened {ps R : List T5} {l : T5} (hR : R = mergeL (ps.length + 1) ps [l]) (h : Right R) :
    sumQ (ownL R l.1 l.2.1) = sumQ (ownL ps l.1 l.2.1) + l.2.2.2.1 ∧ sumC (ownL R l.1 l.2.1) = sumC (ownL ps l.1 l.2.1) + l.2.2.2.2 ∧ R.length = ps.length + 1 ∧
    ∃ t, t < (ownL R l.1 l.2.1).length ∧ el5 (ownL R l.1 l.2.1) t = l ∧ ∀ j, j < (ownL R l.1 l.2.1).length → (j < t → (el5 (ownL R l.1 l.2.1) j).2.2.1 < l.2.2.1) ∧ (t < j → l.2.2.1 < (el5 (ownL R l.1 l.2.1) j).2.2.1) := by
  have ln : ps.length + [l].length ≤ ps.length + 1 := by simp
  have ms := merge_sum l.1 l.2.1 (ps.length + 1) ps [l] ln
  rw [← hR] at ms
  obtain ⟨a1, a2⟩ := own_sums l.1 l.2.1 R
  obtain ⟨b1, b2⟩ := own_sums l.1 l.2.1 ps
  refine ⟨?_, ?_, ?_, ?_⟩
  · rw [a1, b1, ms.1]
    simp [qtyOf]
  · rw [a2, b2, ms.2]
    simp [costOf]
  · rw [hR, merge_len _ _ _ ln]
    simp
  · have mem : l ∈ R := by rw [hR, merge_mem _ _ _ ln]; simp
    have mw : l ∈ ownL R l.1 l.2.1 := List.mem_filter.2 ⟨mem, by simp⟩
    have asc := (own_asc h.asc l.1 l.2.1).1
    have key : ∀ p ∈ ownL R l.1 l.2.1, p.1 = l.1 ∧ p.2.1 = l.2.1 := fun p hp => key_own hp
    generalize ownL R l.1 l.2.1 = W at *
    obtain ⟨t, ht, e⟩ := mem_getD mw
    refine ⟨t, ht, e, fun j hj => ⟨fun lt => ?_, fun lt => ?_⟩⟩
    · have := List.pairwise_iff_getElem.1 asc j t hj ht lt
      have b : Bef (el5 W j) (el5 W t) := by simpa [el5, List.getD, hj, ht] using this
      have k := key _ (getD_mem hj)
      rw [e] at b
      unfold Bef at b
      omega
    · have := List.pairwise_iff_getElem.1 asc t j ht hj lt
      have b : Bef (el5 W t) (el5 W j) := by simpa [el5, List.getD, hj, ht] using this
      have k := key _ (getD_mem hj)
      rw [e] at b
      unfold Bef at b
      omega

/-- What is left of a taking from the first one on, seen from the end. -/
theorem first_shape {l : List T5} {q : Int} (h : ∀ p ∈ l, Pos p) : (leftF l q).length ≤ l.length ∧ ∀ j, j < (leftF l q).length →
    (el5 (leftF l q) ((leftF l q).length - 1 - j)).2.2.1 = (el5 l (l.length - 1 - j)).2.2.1 ∧ (j < (leftF l q).length - 1 → el5 (leftF l q) ((leftF l q).length - 1 - j) = el5 l (l.length - 1 - j)) ∧
    (el5 (leftF l q) ((leftF l q).length - 1 - j)).2.2.2.1 ≤ (el5 l (l.length - 1 - j)).2.2.2.1 ∧ (el5 (leftF l q) ((leftF l q).length - 1 - j)).2.2.2.2 ≤ (el5 l (l.length - 1 - j)).2.2.2.2 := by
  rcases leftF_shape l q h with e | ⟨A, p, p', r, e1, e2, e3, e4, e5, e6, e7⟩
  · rw [e]
    exact ⟨by simp, fun j hj => absurd hj (by simp)⟩
  · rw [e2]
    subst e1
    refine ⟨by simp, fun j hj => ?_⟩
    have hj : j < r.length + 1 := by simpa using hj
    have l1 : (p' :: r).length - 1 - j = r.length - j := by simp
    have l2 : (A ++ p :: r).length - 1 - j = A.length + (r.length - j) := by simp; omega
    rw [l1, l2]
    have g2 : el5 (A ++ p :: r) (A.length + (r.length - j)) = el5 (p :: r) (r.length - j) := by
      unfold el5
      rw [List.getD_eq_getElem?_getD, List.getD_eq_getElem?_getD, List.getElem?_append_right (by omega), show A.length + (r.length - j) - A.length = r.length - j by omega]
    rw [g2]
    by_cases z : j = r.length
    · subst z
      rw [Nat.sub_self]
      unfold k3 at e3
      simp only [Prod.mk.injEq] at e3
      refine ⟨e3.2.2, fun lt => absurd lt (by simp), e5, e7⟩
    · obtain ⟨m, hm⟩ : ∃ m, r.length - j = m + 1 := ⟨r.length - j - 1, by omega⟩
      rw [hm]
      have g : el5 (p' :: r) (m + 1) = el5 (p :: r) (m + 1) := rfl
      rw [g]
      exact ⟨rfl, fun _ => rfl, Int.le_refl _, Int.le_refl _⟩

/-- What is left of a taking from the last one on, seen from the beginning. -/
theorem last_shape {l : List T5} {q : Int} (h : ∀ p ∈ l, Pos p) : (leftF l.reverse q).reverse.length ≤ l.length ∧ ∀ j, j < (leftF l.reverse q).reverse.length →
    (el5 (leftF l.reverse q).reverse j).2.2.1 = (el5 l j).2.2.1 ∧ (j < (leftF l.reverse q).reverse.length - 1 → el5 (leftF l.reverse q).reverse j = el5 l j) ∧
    (el5 (leftF l.reverse q).reverse j).2.2.2.1 ≤ (el5 l j).2.2.2.1 := by
  have f := first_shape (l := l.reverse) (q := q) (fun p hp => h p (by simpa using hp))
  rw [List.length_reverse] at f
  refine ⟨by rw [List.length_reverse]; exact f.1, fun j hj => ?_⟩
  rw [List.length_reverse] at hj ⊢
  obtain ⟨k1, k2, k3, _⟩ := f.2 j hj
  have f1 := f.1
  have r1 : el5 (leftF l.reverse q).reverse j = el5 (leftF l.reverse q) ((leftF l.reverse q).length - 1 - j) := by simp [el5, List.getD, List.getElem?_reverse hj]
  have r2 : el5 l.reverse (l.length - 1 - j) = el5 l j := by
    unfold el5
    rw [List.getD_eq_getElem?_getD, List.getD_eq_getElem?_getD, List.getElem?_reverse (by omega), show l.length - 1 - (l.length - 1 - j) = j by omega]
  rw [r2] at k1 k2 k3
  rw [r1]
  exact ⟨k1, k2, k3⟩

end Go.Proofs.Ytdnpjjbphamcmaa.LotMore2
