/- That shares are fair: what each weight gets, that those who get one more had something left over, that a greater weight gets no less, and that all shares together are the total. No program is walked here. -/
import Derived.Test.YtfoollmmendkiaaParts
import Derived.Test.YtfoollmmendkiaaHelps
namespace Go.Proofs.Ytfoollmmendkiaa.FairC
open Weigh Quota Order Parts Helps
set_option linter.unusedVariables false

/-- The share of weight i, when the first m of L get one more. -/
theorem bump_form (qs : List Int) (L : List Nat) (hn : ∀ j, j < L.length → L.getD j 0 < qs.length) (hd : ∀ i j, i < j → j < L.length → L.getD i 0 ≠ L.getD j 0) (m : Nat) (hm : m ≤ L.length) (i : Nat) :
    ((∃ j, j < m ∧ L.getD j 0 = i) ∧ (bump qs L m).getD i 0 = qs.getD i 0 + 1) ∨ ((∀ j, j < m → L.getD j 0 ≠ i) ∧ (bump qs L m).getD i 0 = qs.getD i 0) := by
  induction m with
  | zero => exact Or.inr ⟨fun j hj => absurd hj (by omega), rfl⟩
  | succ m ih =>
    have ih := ih (by omega)
    have e : (bump qs L (m + 1)).getD i 0 = if L.getD m 0 = i then (bump qs L m).getD (L.getD m 0) 0 + 1 else (bump qs L m).getD i 0 := by
      rw [bump, getD_set _ _ _ _ (by rw [bump_len]; exact hn m (by omega))]
    by_cases h : L.getD m 0 = i
    · rw [e, if_pos h, h]
      rcases ih with ⟨⟨j, hj, hj'⟩, _⟩ | ⟨_, k⟩
      · exact absurd (hj'.trans h.symm) (hd j m hj (by omega))
      · exact Or.inl ⟨⟨m, by omega, h⟩, by rw [k]⟩
    · rw [e, if_neg h]
      rcases ih with ⟨⟨j, hj, hj'⟩, k⟩ | ⟨k1, k2⟩
      · exact Or.inl ⟨⟨j, by omega, hj'⟩, k⟩
      · refine Or.inr ⟨fun j hj => ?_, k2⟩
        by_cases e : j = m
        · subst e; exact h
        · exact k1 j (by omega)

theorem S_congr (xs ys : List Int) (n : Nat) (h : ∀ i, i < n → xs.getD i 0 = ys.getD i 0) : S xs n = S ys n := by
  induction n with
  | zero => rfl
  | succ n ih =>
    show S xs n + xs.getD n 0 = S ys n + ys.getD n 0
    rw [ih (fun i hi => h i (by omega)), h n (by omega)]

theorem S_set (xs : List Int) (i n : Nat) (x : Int) (hi : i < xs.length) : S (xs.set i x) n = S xs n + (if i < n then x - xs.getD i 0 else 0) := by
  induction n with
  | zero => simp [S]
  | succ n ih =>
    show S (xs.set i x) n + (xs.set i x).getD n 0 = S xs n + xs.getD n 0 + _
    rw [ih, getD_set xs i n x hi]
    by_cases e : i = n
    · subst e; simp; omega
    · by_cases l : i < n
      · rw [if_pos l, if_neg e, if_pos (by omega)]; omega
      · rw [if_neg l, if_neg e, if_neg (by omega)]; omega

theorem S_bump (qs : List Int) (L : List Nat) (hn : ∀ j, j < L.length → L.getD j 0 < qs.length) (m : Nat) (hm : m ≤ L.length) : S (bump qs L m) qs.length = S qs qs.length + (m : Int) := by
  induction m with
  | zero => simp [bump]
  | succ m ih =>
    have h := hn m (by omega)
    rw [bump, S_set _ _ _ _ (by rw [bump_len]; exact h), if_pos h, ih (by omega)]
    omega

theorem S_wholes (t : Int) (xs : List Int) (n k : Nat) (h : k ≤ n) : S (wholes t xs n) k = SQ t xs k := by
  induction k with
  | zero => rfl
  | succ k ih =>
    show S (wholes t xs n) k + (wholes t xs n).getD k 0 = SQ t xs k + Q t xs k
    rw [ih (by omega), wholes_getD t xs n k (by omega)]

/-- The rests of a list of numbers together. -/
def sumR (t : Int) (xs : List Int) : List Nat → Int
  | [] => 0
  | a :: l => R t xs a + sumR t xs l

theorem sumR_append (t : Int) (xs : List Int) (l m : List Nat) : sumR t xs (l ++ m) = sumR t xs l + sumR t xs m := by
  induction l with
  | nil => simp [sumR]
  | cons a l ih => simp only [List.cons_append, sumR, ih]; omega

theorem sumR_perm {t : Int} {xs : List Int} {l m : List Nat} (h : l.Perm m) : sumR t xs l = sumR t xs m := by
  induction h with
  | nil => rfl
  | cons a _ ih => simp only [sumR, ih]
  | swap a b l => simp only [sumR]; omega
  | trans _ _ ih1 ih2 => exact ih1.trans ih2

theorem sumR_range (t : Int) (xs : List Int) (n : Nat) : sumR t xs (List.range n) = SR t xs n := by
  induction n with
  | zero => rfl
  | succ n ih =>
    rw [List.range_succ, sumR_append, ih]
    simp [sumR, SR]

theorem sumR_le (t : Int) (xs : List Int) (hg : Weigh.Good xs) (l : List Nat) : sumR t xs l ≤ (l.length : Int) * (S xs xs.length - 1) := by
  induction l with
  | nil => simp [sumR]
  | cons a l ih =>
    have := R_lt t xs a hg
    have e : ((a :: l).length : Int) * (S xs xs.length - 1) = (l.length : Int) * (S xs xs.length - 1) + (S xs xs.length - 1) := by
      rw [List.length_cons, Int.natCast_succ, Int.add_mul, Int.one_mul]
    rw [e]
    show R t xs a + sumR t xs l ≤ _
    generalize (l.length : Int) * (S xs xs.length - 1) = u at *
    omega

theorem sumR_zero (t : Int) (xs : List Int) (l : List Nat) (h : ∀ a ∈ l, R t xs a = 0) : sumR t xs l = 0 := by
  induction l with
  | nil => rfl
  | cons a l ih =>
    show R t xs a + sumR t xs l = 0
    rw [h a (List.mem_cons_self ..), ih (fun b hb => h b (List.mem_cons_of_mem _ hb))]
    rfl

/-- Who gets one more had something left over. -/
theorem rest_pos (t : Int) (xs : List Int) (L : List Nat) (M : Nat) (ht : Tot t) (hg : Weigh.Good xs) (ord : IsOrder t xs xs.length L) (hM : t - SQ t xs xs.length = (M : Int)) (hMn : M < xs.length) (j : Nat) (hj : j < M) : 0 < R t xs (L.getD j 0) := by
  have hl := ord.len
  have h0 := (R_lt t xs (L.getD j 0) hg).1
  by_cases z : 0 < R t xs (L.getD j 0)
  · exact z
  · have zz : R t xs (L.getD j 0) = 0 := by omega
    have tail : sumR t xs (L.drop j) = 0 := by
      apply sumR_zero
      intro a ha
      obtain ⟨i, hi, rfl⟩ := List.mem_iff_getElem.1 ha
      have hi' : j + i < L.length := by
        have : i < (L.drop j).length := hi
        simp at this; omega
      have e : (L.drop j)[i] = L.getD (j + i) 0 := by
        rw [List.getElem_drop, List.getD_eq_getElem?_getD, List.getElem?_eq_getElem hi']
        rfl
      rw [e]
      have r0 := (R_lt t xs (L.getD (j + i) 0) hg).1
      by_cases e : i = 0
      · subst e; simpa using zz
      · have := Ahead.rest (order_ahead ord j (j + i) (by omega) (by omega))
        omega
    have hd := sumR_le t xs hg (L.take j)
    have hlen : (L.take j).length = j := by simp; omega
    rw [hlen] at hd
    have tot : sumR t xs L = SR t xs xs.length := (sumR_perm ord.1).trans (sumR_range t xs xs.length)
    rw [← List.take_append_drop j L, sumR_append, tail] at tot
    obtain ⟨e, _, _⟩ := missing t xs ht hg
    rw [hM] at e
    have s0 := hg.2.2.1
    generalize S xs xs.length = s at *
    have h1 : s * (j + 1 : Int) ≤ s * (M : Int) := Int.mul_le_mul_of_nonneg_left (by omega) (by omega)
    have h2 : (j : Int) * (s - 1) = s * (j : Int) - (j : Int) := by rw [Int.mul_sub, Int.mul_one, Int.mul_comm]
    have h3 : s * (j + 1 : Int) = s * (j : Int) + s := by rw [Int.mul_add, Int.mul_one]
    omega

/-- What the law of shares asks of the share of each weight. -/
theorem share_form (t : Int) (xs : List Int) (L : List Nat) (M : Nat) (ht : Tot t) (hg : Weigh.Good xs) (ord : IsOrder t xs xs.length L) (hM : t - SQ t xs xs.length = (M : Int)) (hMn : M < xs.length) (i : Nat) (hi : i < xs.length) :
    ((∃ j, j < M ∧ L.getD j 0 = i) ∧ 0 < R t xs i ∧ (bump (wholes t xs xs.length) L M).getD i 0 = Q t xs i + 1) ∨ ((∀ j, j < M → L.getD j 0 ≠ i) ∧ (bump (wholes t xs xs.length) L M).getD i 0 = Q t xs i) := by
  have hl := ord.len
  have h := bump_form (wholes t xs xs.length) L (fun j hj => by rw [wholes_len]; exact ord.getD_lt j (by omega)) (fun i j hij hj => order_inj ord i j (by omega) (by omega) hij) M (by omega) i
  rw [wholes_getD t xs _ i hi] at h
  rcases h with ⟨⟨j, hj, hj'⟩, k⟩ | k
  · have := rest_pos t xs L M ht hg ord hM hMn j hj
    rw [hj'] at this
    exact Or.inl ⟨⟨j, hj, hj'⟩, this, k⟩
  · exact Or.inr k

theorem share_total (t : Int) (xs : List Int) (L : List Nat) (M : Nat) (ord : IsOrder t xs xs.length L) (hM : t - SQ t xs xs.length = (M : Int)) (hMn : M < xs.length) : S (bump (wholes t xs xs.length) L M) xs.length = t := by
  have hl := ord.len
  have h := S_bump (wholes t xs xs.length) L (fun j hj => by rw [wholes_len]; exact ord.getD_lt j (by omega)) M (by omega)
  rw [wholes_len, S_wholes t xs xs.length xs.length (Nat.le_refl _)] at h
  rw [h]
  omega

theorem share_zero (t : Int) (xs : List Int) (i : Nat) (h : xs.getD i 0 = 0) : Q t xs i = 0 ∧ R t xs i = 0 := by
  unfold Q R
  rw [h, Int.mul_zero]
  exact ⟨Int.zero_ediv _, Int.zero_emod _⟩

/-- A greater weight gets no less. -/
theorem share_mono (t : Int) (xs : List Int) (L : List Nat) (M : Nat) (ht : Tot t) (hg : Weigh.Good xs) (ord : IsOrder t xs xs.length L) (hM : t - SQ t xs xs.length = (M : Int)) (hMn : M < xs.length) (i k : Nat) (hi : i < xs.length) (hk : k < xs.length) (hx : xs.getD i 0 < xs.getD k 0) :
    (bump (wholes t xs xs.length) L M).getD i 0 ≤ (bump (wholes t xs xs.length) L M).getD k 0 := by
  have hl := ord.len
  have s0 := hg.2.2.1
  have fi := share_form t xs L M ht hg ord hM hMn i hi
  have fk := share_form t xs L M ht hg ord hM hMn k hk
  have mq : Q t xs i ≤ Q t xs k := Int.ediv_le_ediv (by omega) (Int.mul_le_mul_of_nonneg_left (by omega) ht.1)
  by_cases e : Q t xs i = Q t xs k
  · rcases fi with ⟨⟨a, ha, ha'⟩, ri, pi⟩ | ⟨_, pi⟩
    · have e1 : t * xs.getD i 0 = S xs xs.length * Q t xs i + R t xs i := (Int.mul_ediv_add_emod _ _).symm
      have e2 : t * xs.getD k 0 = S xs xs.length * Q t xs k + R t xs k := (Int.mul_ediv_add_emod _ _).symm
      have tp : 0 < t := by
        by_cases z : t = 0
        · exfalso
          have : R t xs i = 0 := by unfold R; rw [z, Int.zero_mul, Int.zero_emod]
          omega
        · have := ht.1; omega
      have lt : t * xs.getD i 0 < t * xs.getD k 0 := Int.mul_lt_mul_of_pos_left hx tp
      rw [← e] at e2
      have rk : R t xs i < R t xs k := by
        generalize S xs xs.length * Q t xs i = u at *
        omega
      rcases fk with ⟨_, _, pk⟩ | ⟨nk, _⟩
      · omega
      · exfalso
        have hkL : k ∈ L := ord.1.symm.subset (List.mem_range.2 hk)
        obtain ⟨b, hb, hb'⟩ := List.mem_iff_getElem.1 hkL
        have eb : L.getD b 0 = k := by rw [List.getD_eq_getElem?_getD, List.getElem?_eq_getElem hb]; exact hb'
        have bM : ¬ b < M := fun h => nk b h eb
        have := Ahead.rest (order_ahead ord a b (by omega) (by omega))
        rw [ha', eb] at this
        omega
    · rcases fk with ⟨_, _, pk⟩ | ⟨_, pk⟩ <;> omega
  · rcases fi with ⟨_, _, pi⟩ | ⟨_, pi⟩ <;> rcases fk with ⟨_, _, pk⟩ | ⟨_, pk⟩ <;> omega

end Go.Proofs.Ytfoollmmendkiaa.FairC
