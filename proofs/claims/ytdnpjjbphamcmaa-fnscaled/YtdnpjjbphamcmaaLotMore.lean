/- More on lots that are taken, scaled and opened, with no program in sight: what is left and what was taken add up, the lists stay right, and lots of others are as they were. -/
import Derived.Test.YtdnpjjbphamcmaaScale
namespace Go.Proofs.Ytdnpjjbphamcmaa.LotMore
open Tup5 Lots Takes Scale
set_option linter.unusedVariables false
set_option linter.unusedSimpArgs false

/-- A part of a list of which nothing stands in the other list. -/
theorem merge_part_l {f : T5 → Bool} : ∀ (n : Nat) (A B : List T5), A.length + B.length ≤ n → (∀ p ∈ B, f p = false) → (mergeL n A B).filter f = A.filter f
  | 0, [], [], _, _ => rfl
  | 0, x :: A, _, h, _ => by simp at h
  | 0, [], y :: B, h, _ => by simp at h
  | n + 1, [], B, h, hB => by rw [merge_right _ _ (by simpa using h), filter_none hB]; rfl
  | n + 1, x :: A, [], h, hB => by rw [merge_left _ _ (by simpa using h)]
  | n + 1, x :: A, y :: B, h, hB => by
    by_cases e : Bef x y
    · rw [merge_yes e, List.filter_cons, List.filter_cons, merge_part_l n A (y :: B) (by simp at h ⊢; omega) hB]
    · rw [merge_no e, List.filter_cons_of_neg (by rw [hB y List.mem_cons_self]; simp), merge_part_l n (x :: A) B (by simp at h ⊢; omega) (fun p hp => hB p (List.mem_cons_of_mem _ hp))]
theorem merge_part_r {f : T5 → Bool} : ∀ (n : Nat) (A B : List T5), A.length + B.length ≤ n → (∀ p ∈ A, f p = false) → (mergeL n A B).filter f = B.filter f
  | 0, [], [], _, _ => rfl
  | 0, x :: A, _, h, _ => by simp at h
  | 0, [], y :: B, h, _ => by simp at h
  | n + 1, [], B, h, hB => by rw [merge_right _ _ (by simpa using h)]
  | n + 1, x :: A, [], h, hB => by rw [merge_left _ _ (by simpa using h), filter_none hB]; rfl
  | n + 1, x :: A, y :: B, h, hA => by
    by_cases e : Bef x y
    · rw [merge_yes e, List.filter_cons_of_neg (by rw [hA x List.mem_cons_self]; simp), merge_part_r n A (y :: B) (by simp at h ⊢; omega) (fun p hp => hA p (List.mem_cons_of_mem _ hp))]
    · rw [merge_no e, List.filter_cons, List.filter_cons, merge_part_r n (x :: A) B (by simp at h ⊢; omega) hA]

theorem merge_mem : ∀ (n : Nat) (A B : List T5), A.length + B.length ≤ n → ∀ p, p ∈ mergeL n A B ↔ p ∈ A ∨ p ∈ B
  | 0, [], [], _, p => by simp [mergeL]
  | 0, x :: A, _, h, _ => by simp at h
  | 0, [], y :: B, h, _ => by simp at h
  | n + 1, [], B, h, p => by rw [merge_right _ _ (by simpa using h)]; simp
  | n + 1, x :: A, [], h, p => by rw [merge_left _ _ (by simpa using h)]; simp
  | n + 1, x :: A, y :: B, h, p => by
    by_cases e : Bef x y
    · rw [merge_yes e, List.mem_cons, merge_mem n A (y :: B) (by simp at h ⊢; omega), List.mem_cons, List.mem_cons]
      constructor
      · rintro (h | h | h)
        · exact .inl (.inl h)
        · exact .inl (.inr h)
        · exact .inr h
      · rintro ((h | h) | h)
        · exact .inl h
        · exact .inr (.inl h)
        · exact .inr (.inr h)
    · rw [merge_no e, List.mem_cons, merge_mem n (x :: A) B (by simp at h ⊢; omega), List.mem_cons, List.mem_cons]
      constructor
      · rintro (h | (h | h) | h)
        · exact .inr (.inl h)
        · exact .inl (.inl h)
        · exact .inl (.inr h)
        · exact .inr (.inr h)
      · rintro ((h | h) | h | h)
        · exact .inr (.inl (.inl h))
        · exact .inr (.inl (.inr h))
        · exact .inl h
        · exact .inr (.inr h)

theorem merge_asc : ∀ (n : Nat) (A B : List T5), A.length + B.length ≤ n → A.Pairwise Bef → B.Pairwise Bef → (∀ x ∈ A, ∀ y ∈ B, Bef x y ∨ Bef y x) → (mergeL n A B).Pairwise Bef
  | 0, [], [], _, _, _, _ => List.Pairwise.nil
  | 0, x :: A, _, h, _, _, _ => by simp at h
  | 0, [], y :: B, h, _, _, _ => by simp at h
  | n + 1, [], B, h, _, hB, _ => by rw [merge_right _ _ (by simpa using h)]; exact hB
  | n + 1, x :: A, [], h, hA, _, _ => by rw [merge_left _ _ (by simpa using h)]; exact hA
  | n + 1, x :: A, y :: B, h, hA, hB, hX => by
    obtain ⟨a1, a2⟩ := List.pairwise_cons.1 hA
    obtain ⟨b1, b2⟩ := List.pairwise_cons.1 hB
    by_cases e : Bef x y
    · rw [merge_yes e, List.pairwise_cons]
      have hn : A.length + (y :: B).length ≤ n := by simp at h ⊢; omega
      refine ⟨fun z hz => ?_, merge_asc n A (y :: B) hn a2 hB (fun x' hx y' hy => hX x' (List.mem_cons_of_mem _ hx) y' hy)⟩
      rcases (merge_mem n A (y :: B) hn z).1 hz with h | h
      · exact a1 z h
      · rcases List.mem_cons.1 h with rfl | h
        · exact e
        · exact bef_trans e (b1 z h)
    · rw [merge_no e, List.pairwise_cons]
      have e' : Bef y x := (hX x List.mem_cons_self y List.mem_cons_self).resolve_left e
      have hn : (x :: A).length + B.length ≤ n := by simp at h ⊢; omega
      refine ⟨fun z hz => ?_, merge_asc n (x :: A) B hn hA b2 (fun x' hx y' hy => hX x' hx y' (List.mem_cons_of_mem _ hy))⟩
      rcases (merge_mem n (x :: A) B hn z).1 hz with h | h
      · rcases List.mem_cons.1 h with rfl | h
        · exact e'
        · exact bef_trans e' (a1 z h)
      · exact b1 z h

/-- A list that ascends, of lots that are right, with sums that are none too great. -/
theorem right_of {ps : List T5} (h120 : ps.length ≤ 120) (h1 : ∀ p ∈ ps, One p) (h2 : ps.Pairwise Bef) (h3 : ∀ a i, qtyOf ps a i ≤ 1000000000000000 ∧ costOf ps a i ≤ 1000000000000000) : Right ps := by
  refine ⟨h120, fun i hi => ⟨h1 _ (getD_mem hi), fun i0 => ?_⟩, h3⟩
  have := List.pairwise_iff_getElem.1 h2 (i - 1) i (by omega) hi (by omega)
  simpa [el5, List.getD, hi, show i - 1 < ps.length by omega] using this
theorem right_one {ps : List T5} (h : Right ps) : ∀ p ∈ ps, One p := fun p hp => by
  obtain ⟨j, hj, rfl⟩ := mem_getD hp
  exact (h.2.1 j hj).1

theorem own_rest_len (a i : Int) : ∀ (ps : List T5), (ownL ps a i).length + (restL ps a i).length = ps.length
  | [] => rfl
  | p :: r => by
    have := own_rest_len a i r
    unfold ownL restL at this ⊢
    by_cases e : p.1 = a ∧ p.2.1 = i
    · rw [List.filter_cons_of_pos (by simpa using e), List.filter_cons_of_neg (by simp [e])]
      simp only [List.length_cons]
      omega
    · rw [List.filter_cons_of_neg (by simpa using e), List.filter_cons_of_pos (by simp [e])]
      simp only [List.length_cons]
      omega

theorem key_own {ps : List T5} {a i : Int} {p : T5} (h : p ∈ ownL ps a i) : p.1 = a ∧ p.2.1 = i := by simpa using (List.mem_filter.1 h).2
theorem key_rest {ps : List T5} {a i : Int} {p : T5} (h : p ∈ restL ps a i) : ¬ (p.1 = a ∧ p.2.1 = i) := by
  have := (List.mem_filter.1 h).2
  intro e
  rw [decide_eq_true e] at this
  simp at this

/-- Of others, those among the rest are all. -/
theorem own_of_rest {a i b j : Int} (h : ¬ (b = a ∧ j = i)) (ps : List T5) : ownL (restL ps a i) b j = ownL ps b j := by
  unfold ownL restL
  rw [List.filter_filter]
  apply List.filter_congr
  intro p _
  by_cases e : p.1 = b ∧ p.2.1 = j
  · have : ¬ (p.1 = a ∧ p.2.1 = i) := fun k => h ⟨e.1.symm.trans k.1, e.2.symm.trans k.2⟩
    simp [e, this, h]
  · simp [e]

/-- Other lots in the place of those of an account and an instrument. -/
structure Fits (ps L : List T5) (a i : Int) : Prop where
  key : ∀ p ∈ L, p.1 = a ∧ p.2.1 = i
  one : ∀ p ∈ L, One p
  asc : L.Pairwise Bef
  len : L.length ≤ (ownL ps a i).length
  qty : sumQ L ≤ 1000000000000000
  cost : sumC L ≤ 1000000000000000

theorem Fits.own {ps L : List T5} {a i : Int} {n : Nat} (f : Fits ps L a i) (hn : (restL ps a i).length + L.length ≤ n) : ownL (mergeL n (restL ps a i) L) a i = L := by
  unfold ownL
  rw [merge_part_r n _ _ hn (fun p hp => decide_eq_false (key_rest hp)), filter_all (fun p hp => decide_eq_true (f.key p hp))]
theorem Fits.other {ps L : List T5} {a i b j : Int} {n : Nat} (f : Fits ps L a i) (hn : (restL ps a i).length + L.length ≤ n) (h : ¬ (b = a ∧ j = i)) : ownL (mergeL n (restL ps a i) L) b j = ownL ps b j := by
  rw [← own_of_rest h ps]
  unfold ownL
  exact merge_part_l n _ _ hn (fun p hp => decide_eq_false fun e => h ⟨e.1.symm.trans (f.key p hp).1, e.2.symm.trans (f.key p hp).2⟩)
theorem Fits.right {ps L : List T5} {a i : Int} {n : Nat} (f : Fits ps L a i) (h : Right ps) (hn : (restL ps a i).length + L.length ≤ n) : Right (mergeL n (restL ps a i) L) := by
  refine right_of ?_ (fun p hp => ?_) ?_ (fun b j => ?_)
  · rw [merge_len _ _ _ hn]
    have := own_rest_len a i ps
    have := f.len
    have := h.1
    omega
  · rcases (merge_mem n _ _ hn p).1 hp with h1 | h1
    · exact right_one h p (List.mem_filter.1 h1).1
    · exact f.one p h1
  · refine merge_asc n _ _ hn (own_asc h.asc a i).2 f.asc (fun x hx y hy => ?_)
    have h1 := key_rest hx
    have h2 := f.key y hy
    unfold Bef
    omega
  · obtain ⟨e1, e2⟩ := own_sums b j (mergeL n (restL ps a i) L)
    rw [← e1, ← e2]
    by_cases e : b = a ∧ j = i
    · obtain ⟨rfl, rfl⟩ := e
      rw [f.own hn]
      exact ⟨f.qty, f.cost⟩
    · rw [f.other hn e]
      exact (own_pos h b j).2

/-- The marks of a lot: whose it is, and its number. -/
def k3 (p : T5) : Int × Int × Int := (p.1, p.2.1, p.2.2.1)
def Bef3 (p q : Int × Int × Int) : Prop := p.1 < q.1 ∨ (p.1 = q.1 ∧ (p.2.1 < q.2.1 ∨ (p.2.1 = q.2.1 ∧ p.2.2 < q.2.2)))
theorem asc_k3 (l : List T5) : l.Pairwise Bef ↔ (l.map k3).Pairwise Bef3 := by
  rw [List.pairwise_map]
  exact Iff.rfl

/-- What is left is the end of the list, its first lot perhaps lessened. -/
theorem leftF_shape : ∀ (l : List T5) (q : Int), (∀ p ∈ l, Pos p) → leftF l q = [] ∨ ∃ (A : List T5) (p p' : T5) (r : List T5), l = A ++ p :: r ∧ leftF l q = p' :: r ∧ k3 p' = k3 p ∧ 1 ≤ p'.2.2.2.1 ∧ p'.2.2.2.1 ≤ p.2.2.2.1 ∧ 0 ≤ p'.2.2.2.2 ∧ p'.2.2.2.2 ≤ p.2.2.2.2
  | [], q, _ => .inl rfl
  | p :: r, q, h => by
    have hp := h p List.mem_cons_self
    have hp2 := hp
    unfold Pos at hp
    rw [leftF_cons]
    by_cases c1 : q ≤ 0
    · rw [if_pos c1]
      exact .inr ⟨[], p, p, r, rfl, rfl, rfl, hp.1.1, Int.le_refl _, hp.2.1, Int.le_refl _⟩
    · rw [if_neg c1]
      by_cases c2 : p.2.2.2.1 ≤ q
      · rw [if_pos c2]
        rcases leftF_shape r (q - p.2.2.2.1) (fun z hz => h z (List.mem_cons_of_mem _ hz)) with e | ⟨A, x, x', s, e1, e2, e3⟩
        · exact .inl e
        · exact .inr ⟨p :: A, x, x', s, by rw [e1]; rfl, e2, e3⟩
      · rw [if_neg c2]
        have d := div_le (c := p.2.2.2.2) (t := q) (x := p.2.2.2.1) hp.2.1 (by omega) (by omega) hp.1.1
        refine .inr ⟨[], p, _, r, rfl, rfl, rfl, ?_, ?_, ?_, ?_⟩
        · show 1 ≤ p.2.2.2.1 - q; omega
        · show p.2.2.2.1 - q ≤ p.2.2.2.1; omega
        · show 0 ≤ p.2.2.2.2 - p.2.2.2.2 * q / p.2.2.2.1; omega
        · show p.2.2.2.2 - p.2.2.2.2 * q / p.2.2.2.1 ≤ p.2.2.2.2; omega

/-- What is left and what was taken add up. -/
theorem leftF_sums : ∀ (l : List T5) (q : Int), (∀ p ∈ l, Pos p) → 0 ≤ q → q ≤ sumQ l → sumQ (leftF l q) = sumQ l - q ∧ sumC (leftF l q) = sumC l - costF l q
  | [], q, _, q0, q1 => by
    have : q = 0 := by simp [sumQ] at q1; omega
    subst this
    simp [leftF, costF, sumQ, sumC]
  | p :: r, q, h, q0, q1 => by
    rw [leftF_cons, costF_cons]
    by_cases c1 : q ≤ 0
    · have : q = 0 := by omega
      rw [if_pos c1, if_pos c1]
      simp only [sumQ, sumC]
      omega
    · rw [if_neg c1, if_neg c1]
      by_cases c2 : p.2.2.2.1 ≤ q
      · rw [if_pos c2, if_pos c2]
        simp only [sumQ] at q1
        obtain ⟨e1, e2⟩ := leftF_sums r (q - p.2.2.2.1) (fun z hz => h z (List.mem_cons_of_mem _ hz)) (by omega) (by omega)
        simp only [sumQ, sumC]
        omega
      · rw [if_neg c2, if_neg c2]
        simp only [sumQ, sumC]
        omega

theorem leftF_all : ∀ (l : List T5), (∀ p ∈ l, Pos p) → leftF l (sumQ l) = [] ∧ costF l (sumQ l) = sumC l
  | [], _ => ⟨rfl, rfl⟩
  | p :: r, h => by
    have hp := h p List.mem_cons_self
    unfold Pos at hp
    have hr := sum_pos r (fun z hz => h z (List.mem_cons_of_mem _ hz))
    obtain ⟨i1, i2⟩ := leftF_all r (fun z hz => h z (List.mem_cons_of_mem _ hz))
    have e : sumQ (p :: r) = p.2.2.2.1 + sumQ r := rfl
    have c1 : ¬ sumQ (p :: r) ≤ 0 := by omega
    have c2 : p.2.2.2.1 ≤ sumQ (p :: r) := by omega
    rw [leftF_cons, costF_cons, if_neg c1, if_neg c1, if_pos c2, if_pos c2]
    rw [show sumQ (p :: r) - p.2.2.2.1 = sumQ r by omega, i1, i2]
    exact ⟨rfl, rfl⟩

section
variable {way q : Int} {own : List T5}

theorem take_sums (h : ∀ p ∈ own, Pos p) (hw : 1 ≤ way ∧ way ≤ 3) (q1 : 1 ≤ q) (q2 : q ≤ sumQ own) : sumQ (takeL way own q) = sumQ own - q ∧ sumC (takeL way own q) = sumC own - takeC way own q := by
  unfold takeL takeC
  by_cases w : way = 3
  · rw [if_pos w, if_pos w]
    unfold meanL meanC
    by_cases e : q = sumQ own
    · rw [if_pos e, ← e, Int.mul_ediv_cancel _ (by omega)]
      simp only [sumQ, sumC]
      omega
    · rw [if_neg e]
      simp only [sumQ, sumC]
      omega
  · rw [if_neg w, if_neg w]
    unfold leftW costW
    obtain ⟨d1, d2⟩ := dir_sum way (leftF (dirL way own) q)
    obtain ⟨d3, d4⟩ := dir_sum way own
    obtain ⟨e1, e2⟩ := leftF_sums (dirL way own) q (fun p hp => h p (dir_mem.1 hp)) (by omega) (by omega)
    rw [d1, d2, e1, e2, d3, d4]
    exact ⟨rfl, rfl⟩

theorem take_all (h : ∀ p ∈ own, Pos p) (e : q = sumQ own) (q1 : 1 ≤ q) : takeL way own q = [] ∧ takeC way own q = sumC own := by
  unfold takeL takeC
  by_cases w : way = 3
  · rw [if_pos w, if_pos w]
    unfold meanL meanC
    rw [if_pos e, e, Int.mul_ediv_cancel _ (by omega)]
    exact ⟨rfl, rfl⟩
  · rw [if_neg w, if_neg w]
    unfold leftW costW
    obtain ⟨d3, d4⟩ := dir_sum way own
    obtain ⟨e1, e2⟩ := leftF_all (dirL way own) (fun p hp => h p (dir_mem.1 hp))
    rw [e, ← d3, e1, e2, d4]
    refine ⟨?_, rfl⟩
    unfold dirL
    split <;> rfl

theorem takeC_bd (h : ∀ p ∈ own, Pos p) (q1 : 1 ≤ q) (q2 : q ≤ sumQ own) : 0 ≤ takeC way own q ∧ takeC way own q ≤ sumC own := by
  unfold takeC
  have sp := sum_pos own h
  by_cases w : way = 3
  · rw [if_pos w]
    unfold meanC
    exact div_le sp.2 (by omega) q2 (by omega)
  · rw [if_neg w]
    unfold costW
    have := costF_bd (dirL way own) q (by omega) (fun p hp => h p (dir_mem.1 hp))
    rw [(dir_sum way own).2] at this
    exact this
end

theorem dir_map {way : Int} (f : T5 → Int × Int × Int) (l : List T5) : (dirL way l).map f = if way = 2 then (l.map f).reverse else l.map f := by
  unfold dirL
  split
  · rw [List.map_reverse]
  · rfl

/-- The numbers that are left are of those that were. -/
theorem take_subl {way q : Int} {own : List T5} (h : ∀ p ∈ own, Pos p) (ne : 0 < own.length) : ((takeL way own q).map k3).Sublist (own.map k3) := by
  unfold takeL
  by_cases w : way = 3
  · rw [if_pos w]
    unfold meanL
    split
    · exact List.nil_sublist _
    · cases own with
      | nil => simp at ne
      | cons p r => exact List.Sublist.cons_cons _ (List.nil_sublist _)
  · rw [if_neg w]
    unfold leftW
    have key : ((leftF (dirL way own) q).map k3).Sublist ((dirL way own).map k3) := by
      rcases leftF_shape (dirL way own) q (fun p hp => h p (dir_mem.1 hp)) with e | ⟨A, p, p', r, e1, e2, e3, _⟩
      · rw [e]; exact List.nil_sublist _
      · rw [e2, e1, List.map_append, List.map_cons, List.map_cons, e3]
        exact List.sublist_append_right _ _
    rw [dir_map]
    rw [dir_map] at key
    by_cases w2 : way = 2
    · rw [if_pos w2] at key ⊢
      have := key.reverse
      rwa [List.reverse_reverse] at this
    · rw [if_neg w2] at key ⊢
      exact key

theorem one_of {p p' : T5} (h : One p) (k : k3 p' = k3 p) (h1 : 1 ≤ p'.2.2.2.1 ∧ p'.2.2.2.1 ≤ 1000000000000000) (h2 : 0 ≤ p'.2.2.2.2 ∧ p'.2.2.2.2 ≤ 1000000000000000) : One p' := by
  unfold k3 at k
  simp only [Prod.mk.injEq] at k
  obtain ⟨k1, k2, k4⟩ := k
  obtain ⟨a, b, c, _⟩ := h
  exact ⟨by rw [k1]; exact a, by rw [k2]; exact b, by rw [k4]; exact c, h1, h2⟩

theorem take_one {way q : Int} {own : List T5} (h1 : ∀ p ∈ own, One p) (hq : sumQ own ≤ 1000000000000000) (hc : sumC own ≤ 1000000000000000) (ne : 0 < own.length) (hw : 1 ≤ way ∧ way ≤ 3) (q1 : 1 ≤ q) (q2 : q ≤ sumQ own) : ∀ p ∈ takeL way own q, One p := by
  have h : ∀ p ∈ own, Pos p := fun p hp => (h1 p hp).2.2.2
  unfold takeL
  by_cases w : way = 3
  · rw [if_pos w]
    unfold meanL
    split
    · exact fun p hp => absurd hp List.not_mem_nil
    · intro p hp
      rw [List.mem_singleton] at hp
      subst hp
      have sp := sum_pos own h
      have d := div_le sp.2 (show (0 : Int) ≤ q by omega) q2 (by omega)
      refine one_of (h1 (el5 own 0) (getD_mem ne)) rfl ⟨?_, ?_⟩ ⟨?_, ?_⟩
      · show 1 ≤ sumQ own - q; omega
      · show sumQ own - q ≤ _; omega
      · show 0 ≤ sumC own - sumC own * q / sumQ own; omega
      · show sumC own - sumC own * q / sumQ own ≤ _; omega
  · rw [if_neg w]
    unfold leftW
    intro p hp
    have hp := dir_mem.1 hp
    rcases leftF_shape (dirL way own) q (fun p hp => h p (dir_mem.1 hp)) with e | ⟨A, x, x', r, e1, e2, e3, e4, e5, e6, e7⟩
    · rw [e] at hp; exact absurd hp List.not_mem_nil
    · rw [e2] at hp
      have mx : x ∈ own := dir_mem.1 (by rw [e1]; simp)
      rcases List.mem_cons.1 hp with rfl | hp
      · have := h1 x mx
        have := this.2.2.2
        exact one_of (h1 x mx) e3 (by omega) (by omega)
      · exact h1 p (dir_mem.1 (by rw [e1]; simp [hp]))

/-- What is left of a taking fits where the lots were. -/
theorem take_fits {ps : List T5} {a i way q : Int} (h : Right ps) (hw : 1 ≤ way ∧ way ≤ 3) (q1 : 1 ≤ q) (q2 : q ≤ sumQ (ownL ps a i)) : Fits ps (takeL way (ownL ps a i) q) a i := by
  obtain ⟨hp, s1, s2⟩ := own_pos h a i
  have on0 : 0 < (ownL ps a i).length := by
    generalize ownL ps a i = own at q2
    cases own with
    | nil => simp [sumQ] at q2; omega
    | cons x r => simp
  have tk := takeL_key (way := way) (q := q) (own := ownL ps a i) (a := a) (i := i) (fun p hp => key_own hp) on0
  have ts := take_sums hp hw q1 q2
  have tb := takeC_bd (way := way) hp q1 q2
  refine ⟨tk.1, take_one (fun p hp => right_one h p (List.mem_filter.1 hp).1) s1 s2 on0 hw q1 q2, ?_, tk.2, by omega, by omega⟩
  rw [asc_k3]
  exact ((asc_k3 _).1 (own_asc h.asc a i).1).sublist (take_subl hp on0)

end Go.Proofs.Ytdnpjjbphamcmaa.LotMore
