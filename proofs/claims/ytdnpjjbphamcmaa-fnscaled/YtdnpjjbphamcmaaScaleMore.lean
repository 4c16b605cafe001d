/- More on lots that are scaled, with no program in sight: the shares add up to the new number of pieces, the cost goes with them, and the lists stay right. -/
import Derived.Test.YtdnpjjbphamcmaaLotMore
import Derived.Test.YtdnpjjbphamcmaaSScale
namespace Go.Proofs.Ytdnpjjbphamcmaa.ScaleMore
open Tup5 Lots Takes Scale LotMore SScale Weigh Quota Order Parts
set_option linter.unusedVariables false
set_option linter.unusedSimpArgs false

theorem S_set (xs : List Int) (i n : Nat) (x : Int) (hi : i < xs.length) : S (xs.set i x) n = S xs n + (if i < n then x - xs.getD i 0 else 0) := by
  induction n with
  | zero => simp [S]
  | succ n ih =>
    show S (xs.set i x) n + (xs.set i x).getD n 0 = S xs n + xs.getD n 0 + _
    rw [ih, getD_set xs i n x hi]
    by_cases e : i = n
    · subst e; simp; omega
    · by_cases l : i < n
      · rw [if_pos l, if_neg e, if_pos (by omega)]; omega
      · rw [if_neg l, if_neg e, if_neg (by omega)]; omega

theorem S_bump (qs : List Int) (L : List Nat) (hn : ∀ j, j < L.length → L.getD j 0 < qs.length) (m : Nat) (hm : m ≤ L.length) : S (bump qs L m) qs.length = S qs qs.length + (m : Int) := by
  induction m with
  | zero => simp [bump]
  | succ m ih =>
    have h := hn m (by omega)
    rw [bump, S_set _ _ _ _ (by rw [bump_len]; exact h), if_pos h, ih (by omega)]
    omega

theorem S_wholes (t : Int) (xs : List Int) (n k : Nat) (h : k ≤ n) : S (wholes t xs n) k = SQ t xs k := by
  induction k with
  | zero => rfl
  | succ k ih =>
    show S (wholes t xs n) k + (wholes t xs n).getD k 0 = SQ t xs k + Q t xs k
    rw [ih (by omega), wholes_getD t xs n k (by omega)]

/-- All shares together are the total, and none is below nothing. -/
theorem shares_sum {t : Int} {xs ss : List Int} {ok : Bool} (h : STells t xs ss ok) (g : Weigh.Good xs) (ht : Tot t) : S ss xs.length = t ∧ ∀ j, 0 ≤ ss.getD j 0 := by
  rcases h with ⟨_, _, _, L, M, h4, h5, h6, rfl⟩ | ⟨k, _⟩
  · have ll := h4.len
    have lt : ∀ j, j < L.length → L.getD j 0 < (wholes t xs xs.length).length := fun j hj => by
      rw [wholes_len]
      exact h4.getD_lt j (by omega)
    have e := S_bump (wholes t xs xs.length) L lt M (by omega)
    rw [wholes_len, S_wholes t xs xs.length xs.length (Nat.le_refl _)] at e
    exact ⟨by omega, fun j => (bump_bd (wholes t xs xs.length) L t ht.1 (wholes_bd t xs ht g) M j).1⟩
  · exact absurd ⟨g, ht⟩ k

theorem s_le {ss : List Int} (h : ∀ j, 0 ≤ ss.getD j 0) : ∀ n, 0 ≤ S ss n ∧ ∀ k, k < n → ss.getD k 0 ≤ S ss n
  | 0 => ⟨by simp [S], fun k hk => absurd hk (by omega)⟩
  | n + 1 => by
    obtain ⟨h1, h2⟩ := s_le h n
    have hn := h n
    have e : S ss (n + 1) = S ss n + ss.getD n 0 := rfl
    refine ⟨by omega, fun k hk => ?_⟩
    by_cases c : k = n
    · subst c; omega
    · have := h2 k (by omega); omega

theorem kept_sumQ (own : List T5) (ss : List Int) : ∀ k, sumQ (keptN own ss k) = S ss k
  | 0 => rfl
  | k + 1 => by
    have e : S ss (k + 1) = S ss k + ss.getD k 0 := rfl
    unfold keptN
    rw [sumQ_append, kept_sumQ own ss k, e]
    by_cases c : ss.getD k 0 = 0
    · rw [if_pos c, c]; simp [sumQ]
    · rw [if_neg c]; simp [sumQ, withQ]

theorem add_sums (l : List T5) (c : Int) : sumQ (addFirst l c) = sumQ l ∧ (l.length ≠ 0 → sumC (addFirst l c) = sumC l + c) := by
  cases l with
  | nil => exact ⟨rfl, fun h => absurd rfl h⟩
  | cons p r => refine ⟨rfl, fun _ => ?_⟩; simp only [addFirst, sumC]; omega
theorem add_k3 (l : List T5) (c : Int) : (addFirst l c).map k3 = l.map k3 := by cases l <;> rfl

theorem kept_subl (own : List T5) (ss : List Int) : ∀ k, k ≤ own.length → ((keptN own ss k).map k3).Sublist ((own.take k).map k3)
  | 0, _ => List.nil_sublist _
  | k + 1, hk => by
    unfold keptN
    rw [take_next (by omega), List.map_append, List.map_append]
    refine List.Sublist.append (kept_subl own ss k (by omega)) ?_
    split
    · exact List.nil_sublist _
    · exact List.Sublist.refl _

theorem kept_one {own : List T5} (h : ∀ p ∈ own, One p) {ss : List Int} {q : Int} (hb : ∀ k, k < own.length → 0 ≤ ss.getD k 0 ∧ ss.getD k 0 ≤ q) (hq : q ≤ 1000000000000000) : ∀ k, k ≤ own.length → ∀ p ∈ keptN own ss k, One p
  | 0, _, p, hp => absurd hp List.not_mem_nil
  | k + 1, hk, p, hp => by
    unfold keptN at hp
    rcases List.mem_append.1 hp with hp | hp
    · exact kept_one h hb hq k (by omega) p hp
    · split at hp
      · exact absurd hp List.not_mem_nil
      · rename_i nz
        rw [List.mem_singleton] at hp
        subst hp
        have o := h (el5 own k) (getD_mem (by omega))
        have := hb k (by omega)
        have c := o.2.2.2.2
        exact one_of o rfl ⟨by show 1 ≤ ss.getD k 0; omega, by show ss.getD k 0 ≤ _; omega⟩ c

section
variable {ps : List T5} {a i q : Int} {ss : List Int} {ok : Bool}

/-- Lots that are scaled. -/
theorem scaled (h : Right ps) (q0 : 0 ≤ q) (q1 : q ≤ 1000000000000000) (hs : ¬ ((ownL ps a i).length = 0 ∧ 0 < q)) (hf : ¬ 40 < (ownL ps a i).length) (st : STells q (qtys (ownL ps a i)) ss ok) :
    Fits ps (scaleL (ownL ps a i) ss) a i ∧ sumQ (scaleL (ownL ps a i) ss) = q ∧ ((scaleL (ownL ps a i) ss).length = 0 ∨ sumC (scaleL (ownL ps a i) ss) = sumC (ownL ps a i)) := by
  obtain ⟨hp, s1, s2⟩ := own_pos h a i
  have one : ∀ p ∈ ownL ps a i, One p := fun p hp => right_one h p (List.mem_filter.1 hp).1
  have key : ∀ p ∈ ownL ps a i, p.1 = a ∧ p.2.1 = i := fun p hp => key_own hp
  have asc := (own_asc h.asc a i).1
  have len := Scale.scale_len (ownL ps a i) ss
  by_cases n0 : (ownL ps a i).length = 0
  · have e : scaleL (ownL ps a i) ss = [] := List.eq_nil_of_length_eq_zero (by omega)
    rw [e]
    refine ⟨⟨fun p hp => absurd hp List.not_mem_nil, fun p hp => absurd hp List.not_mem_nil, List.Pairwise.nil, by simp, by simp [sumQ], by simp [sumC]⟩, ?_, .inl rfl⟩
    simp only [sumQ]
    omega
  · have g := good_qtys hp s1 n0 (by omega)
    obtain ⟨sm, nn⟩ := shares_sum st g ⟨q0, q1⟩
    rw [qtys_len] at sm
    have fits : ∀ own : List T5, own = ownL ps a i → Fits ps (scaleL own ss) a i ∧ sumQ (scaleL own ss) = q ∧ ((scaleL own ss).length = 0 ∨ sumC (scaleL own ss) = sumC own) := by
      intro own eo
      rw [← eo] at hp one key asc len sm s2
      have kb : ∀ k, k < own.length → 0 ≤ ss.getD k 0 ∧ ss.getD k 0 ≤ q := fun k hk => ⟨nn k, by rw [← sm]; exact (s_le nn own.length).2 k hk⟩
      have lb := lost_bd hp ss own.length (Nat.le_refl _)
      rw [List.take_length] at lb
      have k1 := kept_one one kb q1 own.length (Nat.le_refl _)
      have kq := kept_sumQ own ss own.length
      have ks := kept_subl own ss own.length (Nat.le_refl _)
      rw [List.take_length] at ks
      have ad := add_sums (keptN own ss own.length) (lostN own ss own.length)
      have kp := sum_pos (keptN own ss own.length) (fun p hp => (k1 p hp).2.2.2)
      have al := add_len (keptN own ss own.length) (lostN own ss own.length)
      have a3 := add_k3 (keptN own ss own.length) (lostN own ss own.length)
      have sk := scale_key key ss
      unfold scaleL at *
      generalize lostN own ss own.length = c at *
      generalize keptN own ss own.length = l at *
      have sq : sumQ (addFirst l c) = q := by rw [ad.1, kq, sm]
      refine ⟨⟨sk, ?_, ?_, by rw [← eo]; exact len, by omega, ?_⟩, sq, ?_⟩
      · cases l with
        | nil => exact fun p hp => absurd hp List.not_mem_nil
        | cons p r =>
          intro z hz
          rcases List.mem_cons.1 hz with rfl | hz
          · have o := k1 p List.mem_cons_self
            have r1 := sum_pos r (fun p hp => (k1 p (List.mem_cons_of_mem _ hp)).2.2.2)
            have c1 := o.2.2.2.2
            have e : sumC (p :: r) = p.2.2.2.2 + sumC r := rfl
            exact one_of o rfl o.2.2.2.1 ⟨by show 0 ≤ p.2.2.2.2 + c; omega, by show p.2.2.2.2 + c ≤ _; omega⟩
          · exact k1 z (List.mem_cons_of_mem _ hz)
      · rw [asc_k3, a3]
        exact ((asc_k3 _).1 asc).sublist ks
      · by_cases z : l.length = 0
        · have : l = [] := List.eq_nil_of_length_eq_zero z
          subst this
          simp [addFirst, sumC]
        · rw [ad.2 z]; omega
      · by_cases z : l.length = 0
        · exact .inl (by rw [al]; exact z)
        · exact .inr (by rw [ad.2 z]; omega)
    exact fits _ rfl
end

end Go.Proofs.Ytdnpjjbphamcmaa.ScaleMore
