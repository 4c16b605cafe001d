/- The arithmetic of shares: how many are missing behind the whole shares, and what the lists of shares are when the first ones of the order have got one more. No program is walked here. -/
import Derived.Test.YtdnpjjbphamcmaaOrder
namespace Go.Proofs.Ytdnpjjbphamcmaa.Parts
open Weigh Quota Order
set_option linter.unusedVariables false

/-- The whole shares of the first k weights together. -/
def SQ (t : Int) (xs : List Int) : Nat → Int
  | 0 => 0
  | k + 1 => SQ t xs k + Q t xs k
/-- The rests of the first k weights together. -/
def SR (t : Int) (xs : List Int) : Nat → Int
  | 0 => 0
  | k + 1 => SR t xs k + R t xs k

theorem split (t : Int) (xs : List Int) (k : Nat) : t * S xs k = S xs xs.length * SQ t xs k + SR t xs k := by
  induction k with
  | zero => simp [S, SQ, SR]
  | succ k ih =>
    have e : t * xs.getD k 0 = S xs xs.length * Q t xs k + R t xs k := (Int.mul_ediv_add_emod _ _).symm
    show t * (S xs k + xs.getD k 0) = S xs xs.length * (SQ t xs k + Q t xs k) + (SR t xs k + R t xs k)
    rw [Int.mul_add, Int.mul_add, ih, e]
    generalize S xs xs.length * SQ t xs k = a
    generalize S xs xs.length * Q t xs k = b
    omega

theorem SR_bd (t : Int) (xs : List Int) (hg : Weigh.Good xs) (k : Nat) : 0 ≤ SR t xs k ∧ SR t xs k ≤ (k : Int) * (S xs xs.length - 1) := by
  induction k with
  | zero => simp [SR]
  | succ k ih =>
    have := R_lt t xs k hg
    have e : ((k + 1 : Nat) : Int) * (S xs xs.length - 1) = (k : Int) * (S xs xs.length - 1) + (S xs xs.length - 1) := by
      rw [Int.natCast_succ, Int.add_mul, Int.one_mul]
    show 0 ≤ SR t xs k + R t xs k ∧ SR t xs k + R t xs k ≤ _
    rw [e]
    generalize (k : Int) * (S xs xs.length - 1) = a at *
    omega

theorem SQ_mono (t : Int) (xs : List Int) (ht : Tot t) (hg : Weigh.Good xs) (k n : Nat) (hk : k ≤ n) (hn : n ≤ xs.length) : SQ t xs k ≤ SQ t xs n := by
  induction n with
  | zero => obtain rfl : k = 0 := by omega
            exact Int.le_refl _
  | succ n ih =>
    by_cases e : k = n + 1
    · subst e; exact Int.le_refl _
    · have := ih (by omega) (by omega)
      have := (Q_le t xs n ht hg (by omega)).1
      show _ ≤ SQ t xs n + Q t xs n
      omega

/-- So many are missing. -/
theorem missing (t : Int) (xs : List Int) (ht : Tot t) (hg : Weigh.Good xs) : S xs xs.length * (t - SQ t xs xs.length) = SR t xs xs.length ∧ 0 ≤ t - SQ t xs xs.length ∧ t - SQ t xs xs.length < xs.length := by
  have h := split t xs xs.length
  obtain ⟨r0, r1⟩ := SR_bd t xs hg xs.length
  have s0 := hg.2.2.1
  have n0 := hg.1.1
  have e : S xs xs.length * (t - SQ t xs xs.length) = SR t xs xs.length := by
    rw [Int.mul_sub, Int.mul_comm _ t, h]
    generalize S xs xs.length * SQ t xs xs.length = a
    omega
  generalize hs : S xs xs.length = s at *
  generalize hm : t - SQ t xs xs.length = m at *
  refine ⟨e, ?_, ?_⟩
  · apply Int.le_of_lt_add_one
    by_cases z : 0 ≤ m
    · omega
    · have : s * m ≤ s * (-1) := Int.mul_le_mul_of_nonneg_left (by omega) (by omega)
      rw [Int.mul_neg_one] at this
      omega
  · by_cases z : m < (xs.length : Int)
    · exact z
    · have h1 : s * (xs.length : Int) ≤ s * m := Int.mul_le_mul_of_nonneg_left (by omega) (by omega)
      have h2 : (xs.length : Int) * (s - 1) = s * (xs.length : Int) - (xs.length : Int) := by rw [Int.mul_sub, Int.mul_one, Int.mul_comm]
      omega

/-- How many are missing, as a count. -/
theorem missing_nat (t : Int) (xs : List Int) (ht : Tot t) (hg : Weigh.Good xs) : ∃ M : Nat, t - SQ t xs xs.length = (M : Int) ∧ M < xs.length := by
  obtain ⟨_, h1, h2⟩ := missing t xs ht hg
  obtain ⟨M, hM⟩ := Int.eq_ofNat_of_zero_le h1
  exact ⟨M, hM, by omega⟩

/-- The whole shares of the first k numbers. -/
def wholes (t : Int) (xs : List Int) (k : Nat) : List Int := (List.range k).map (Q t xs)

theorem wholes_len (t : Int) (xs : List Int) (k : Nat) : (wholes t xs k).length = k := by simp [wholes]
theorem wholes_getD (t : Int) (xs : List Int) (k j : Nat) (h : j < k) : (wholes t xs k).getD j 0 = Q t xs j := by simp [wholes, List.getD, h]
theorem wholes_succ (t : Int) (xs : List Int) (k : Nat) : wholes t xs (k + 1) = wholes t xs k ++ [Q t xs k] := by simp [wholes, List.range_succ]

/-- One more for the first m numbers of L. -/
def bump (qs : List Int) (L : List Nat) : Nat → List Int
  | 0 => qs
  | m + 1 => (bump qs L m).set (L.getD m 0) ((bump qs L m).getD (L.getD m 0) 0 + 1)

theorem bump_len (qs : List Int) (L : List Nat) (m : Nat) : (bump qs L m).length = qs.length := by
  induction m with
  | zero => rfl
  | succ m ih => simp [bump, ih]

theorem getD_set (qs : List Int) (i j : Nat) (x : Int) (h : i < qs.length) : (qs.set i x).getD j 0 = if i = j then x else qs.getD j 0 := by
  simp only [List.getD_eq_getElem?_getD, List.getElem?_set]
  by_cases e : i = j
  · subst e; simp [h]
  · simp [e]

theorem getD_set_le (qs : List Int) (i j : Nat) (x : Int) : (qs.set i x).getD j 0 = if i = j ∧ i < qs.length then x else qs.getD j 0 := by
  by_cases h : i < qs.length
  · rw [getD_set qs i j x h]; simp [h]
  · rw [List.set_eq_of_length_le (by omega)]; simp [h]

theorem bump_bd (qs : List Int) (L : List Nat) (t : Int) (ht : 0 ≤ t) (h : ∀ j, 0 ≤ qs.getD j 0 ∧ qs.getD j 0 ≤ t) (m : Nat) : ∀ j, 0 ≤ (bump qs L m).getD j 0 ∧ (bump qs L m).getD j 0 ≤ t + (m : Int) := by
  induction m with
  | zero => intro j; have := h j; simp only [bump]; omega
  | succ m ih =>
    intro j
    rw [bump, getD_set_le]
    have h1 := ih (L.getD m 0)
    have h2 := ih j
    split <;> omega

theorem wholes_bd (t : Int) (xs : List Int) (ht : Tot t) (hg : Weigh.Good xs) (j : Nat) : 0 ≤ (wholes t xs xs.length).getD j 0 ∧ (wholes t xs xs.length).getD j 0 ≤ t := by
  by_cases h : j < xs.length
  · rw [wholes_getD t xs _ j h]
    exact Q_le t xs j ht hg h
  · have e : (wholes t xs xs.length).getD j 0 = 0 := by
      rw [List.getD_eq_getElem?_getD, List.getElem?_eq_none (by rw [wholes_len]; omega)]; rfl
    rw [e]
    exact ⟨Int.le_refl _, ht.1⟩

/-- What Shares tells. -/
def STells (t : Int) (xs : List Int) (ps : List Int) (ok : Bool) : Prop :=
  (Weigh.Good xs ∧ Tot t ∧ ok = true ∧ ∃ L, ∃ M : Nat, IsOrder t xs xs.length L ∧ t - SQ t xs xs.length = (M : Int) ∧ M < xs.length ∧ ps = bump (wholes t xs xs.length) L M) ∨ (¬ (Weigh.Good xs ∧ Tot t) ∧ ok = false ∧ ps = [])

theorem STells.unique {t : Int} {xs ps ps' : List Int} {ok ok' : Bool} (h : STells t xs ps ok) (k : STells t xs ps' ok') : ps = ps' ∧ ok = ok' := by
  rcases h with ⟨h1, h2, h3, L, M, h4, h5, _, h6⟩ | h
  · rcases k with ⟨_, _, k3, L', M', k4, k5, _, k6⟩ | k
    · obtain rfl := h4.unique k4
      obtain rfl : M = M' := by omega
      exact ⟨h6.trans k6.symm, h3.trans k3.symm⟩
    · exact absurd ⟨h1, h2⟩ k.1
  · rcases k with ⟨k1, k2, _⟩ | k
    · exact absurd ⟨k1, k2⟩ h.1
    · exact ⟨h.2.2.trans k.2.2.symm, h.2.1.trans k.2.1.symm⟩

theorem STells.len_le {t : Int} {xs ps : List Int} {ok : Bool} (h : STells t xs ps ok) : ps.length ≤ xs.length := by
  rcases h with ⟨_, _, _, L, M, _, _, _, rfl⟩ | h
  · rw [bump_len, wholes_len]; exact Nat.le_refl _
  · rw [h.2.2]; exact Nat.zero_le _

end Go.Proofs.Ytdnpjjbphamcmaa.Parts
