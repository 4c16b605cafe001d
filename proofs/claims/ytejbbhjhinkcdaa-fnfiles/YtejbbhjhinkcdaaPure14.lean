/- Disks, as lists: files ascending by their names; what is put, left out, found and crashed. -/
import Derived.Test.YtejbbhjhinkcdaaSCom14
import Derived.Test.YtejbbhjhinkcdaaSPut14
namespace Go.Proofs.Ytejbbhjhinkcdaa.Pure14
open Fil14 DiskH14 SDk14 SOk14 SRd14 SLess14 SRef14 SCom14 SPut14
set_option linter.unusedVariables false
set_option linter.unusedSimpArgs false
/-- Ascending by name. -/
def Asc (ps : List TF) : Prop := ps.Pairwise (fun p q => p.1 < q.1)
def Named (ps : List TF) : Prop := ∀ p ∈ ps, 0 ≤ p.1 ∧ p.1 ≤ 21
theorem elF_mem {ps : List TF} {i : Nat} (h : i < ps.length) : elF ps i ∈ ps := by
  rw [elF_get h]
  exact List.getElem_mem h
theorem mem_elF {ps : List TF} {p : TF} (h : p ∈ ps) : ∃ i, i < ps.length ∧ elF ps i = p := by
  obtain ⟨i, hi, e⟩ := List.getElem_of_mem h
  exact ⟨i, hi, by rw [elF_get hi]; exact e⟩
theorem ok_named {n : Int} : okN n = true ↔ 0 ≤ n ∧ n ≤ 21 := by unfold okN; simp
theorem step_lt {ps : List TF} (h : ∀ i, i < ps.length → okAt ps i) : ∀ j i, i < j → j < ps.length → (elF ps i).1 < (elF ps j).1
  | 0, i => fun a _ => absurd a (by omega)
  | j + 1, i => fun a b => by
    have s := (h (j + 1) b).2 (by omega)
    simp only [Nat.add_sub_cancel] at s
    by_cases e : i = j
    · subst e; exact s
    · have := step_lt h j i (by omega) (by omega)
      omega
theorem asc_of {room : Int} {ps : List TF} (h : OkD room ps) : Asc ps ∧ Named ps := by
  refine ⟨?_, fun p hp => ?_⟩
  · unfold Asc
    rw [List.pairwise_iff_getElem]
    intro i j hi hj l
    have := step_lt h.2.2.2 j i l hj
    rwa [elF_get hi, elF_get hj] at this
  · obtain ⟨i, hi, rfl⟩ := mem_elF hp
    exact ok_named.1 (h.2.2.2 i hi).1
theorem named_len : ∀ (ps : List TF) (lo : Int), 0 ≤ lo → lo ≤ 22 → Asc ps → (∀ p ∈ ps, lo ≤ p.1 ∧ p.1 ≤ 21) → (ps.length : Int) ≤ 22 - lo
  | [], lo, _, _, _, _ => by simp; omega
  | p :: ps, lo, h0, h1, ha, hn => by
    have hp := hn p (by simp)
    have ha' := List.pairwise_cons.1 ha
    have := named_len ps (p.1 + 1) (by omega) (by omega) ha'.2 (fun q hq => ⟨by have := ha'.1 q hq; omega, (hn q (by simp [hq])).2⟩)
    simp only [List.length_cons]
    omega
theorem okd_of {room : Int} {ps : List TF} (h1 : 0 ≤ room ∧ room ≤ 60000) (h3 : (sumZ ps : Int) ≤ room) (h4 : Asc ps) (h5 : Named ps) : OkD room ps := by
  refine ⟨h1, by have := named_len ps 0 (by omega) (by omega) h4 h5; omega, h3, fun i hi => ⟨ok_named.2 (h5 _ (elF_mem hi)), fun hz => ?_⟩⟩
  have := List.pairwise_iff_getElem.1 h4 (i - 1) i (by omega) hi (by omega)
  rw [elF_get hi, elF_get (show i - 1 < ps.length by omega)]
  exact this
def lows (ps : List TF) (n : Int) : List TF := ps.filter (fun p => decide (p.1 < n))
def highs (ps : List TF) (n : Int) : List TF := ps.filter (fun p => decide (n < p.1))
theorem lows_all {ps : List TF} {n : Int} (h : ∀ p ∈ ps, p.1 < n) : lows ps n = ps ∧ highs ps n = [] := by
  constructor
  · unfold lows; rw [List.filter_eq_self]; intro p hp; simpa using h p hp
  · unfold highs; rw [List.filter_eq_nil_iff]; intro p hp; have := h p hp; simp; omega
open Classical in
theorem putN_is {ps : List TF} (f : TF) (h : Asc ps) : ∀ k, k ≤ ps.length → putN ps f k = if ∃ p ∈ ps.take k, f.1 ≤ p.1 then (lows (ps.take k) f.1 ++ f :: highs (ps.take k) f.1, true) else (ps.take k, false)
  | 0, _ => by simp [putN]
  | k + 1, hk => by
    have ih := putN_is f h k (by omega)
    have tk : ps.take (k + 1) = ps.take k ++ [elF ps k] := by rw [List.take_succ_eq_append_getElem (show k < ps.length by omega), elF_get (show k < ps.length by omega)]
    have gt : ∀ q ∈ ps.take k, q.1 < (elF ps k).1 := by
      intro q hq
      obtain ⟨i, hi, e⟩ := List.getElem_of_mem hq
      have hi' : i < k := by simp at hi; omega
      rw [List.getElem_take] at e
      have := List.pairwise_iff_getElem.1 h i k (by omega) (by omega) hi'
      rw [elF_get (show k < ps.length by omega), ← e]
      exact this
    have hs := fun L pb (e : putN ps f k = (L, pb)) => putN_succ e
    generalize elF ps k = p at *
    by_cases c : ∃ q ∈ ps.take k, f.1 ≤ q.1
    · rw [if_pos c] at ih
      have pg : f.1 < p.1 := by obtain ⟨q, hq, hf⟩ := c; have := gt q hq; omega
      have c' : ∃ q ∈ ps.take (k + 1), f.1 ≤ q.1 := by obtain ⟨q, hq, hf⟩ := c; exact ⟨q, by rw [tk]; simp [hq], hf⟩
      rw [hs _ _ ih, if_pos c', tk]
      have n1 : ¬ p.1 = f.1 := by omega
      have n2 : ¬ p.1 < f.1 := by omega
      simp [lows, highs, List.filter_append, n1, n2, pg]
    · rw [if_neg c] at ih
      have lo : ∀ q ∈ ps.take k, q.1 < f.1 := fun q hq => by
        rcases Int.lt_or_le q.1 f.1 with l | l
        · exact l
        · exact absurd ⟨q, hq, l⟩ c
      obtain ⟨l1, l2⟩ := lows_all lo
      rw [hs _ _ ih]
      by_cases d : f.1 ≤ p.1
      · have c' : ∃ q ∈ ps.take (k + 1), f.1 ≤ q.1 := ⟨p, by rw [tk]; simp, d⟩
        rw [if_pos c', tk]
        unfold lows at l1
        unfold highs at l2
        by_cases e : p.1 = f.1
        · have n2 : ¬ p.1 < f.1 := by omega
          have n3 : ¬ f.1 < p.1 := by omega
          simp only [lows, highs, List.filter_append, l1, l2]
          simp [e]
        · have n2 : ¬ p.1 < f.1 := by omega
          have n3 : f.1 < p.1 := by omega
          simp only [lows, highs, List.filter_append, l1, l2]
          simp [e, d, n2, n3]
      · have c' : ¬ ∃ q ∈ ps.take (k + 1), f.1 ≤ q.1 := by
          rintro ⟨q, hq, hf⟩
          rw [tk] at hq
          simp at hq
          rcases hq with hq | rfl
          · exact c ⟨q, hq, hf⟩
          · exact d hf
        have n1 : ¬ p.1 = f.1 := by omega
        rw [if_neg c', tk]
        simp [n1, d]
theorem put_is {ps : List TF} (f : TF) (h : Asc ps) : putF ps f = lows ps f.1 ++ f :: highs ps f.1 := by
  have q := putN_is f h ps.length (Nat.le_refl _)
  rw [List.take_length] at q
  unfold putF
  rw [q]
  by_cases c : ∃ p ∈ ps, f.1 ≤ p.1
  · rw [if_pos c]; simp
  · rw [if_neg c]
    obtain ⟨l1, l2⟩ := lows_all (ps := ps) (n := f.1) (fun q hq => by
      rcases Int.lt_or_le q.1 f.1 with l | l
      · exact l
      · exact absurd ⟨q, hq, l⟩ c)
    rw [l1, l2]
    simp
theorem low_mem {ps : List TF} {n : Int} {p : TF} : p ∈ lows ps n ↔ p ∈ ps ∧ p.1 < n := by simp [lows]
theorem high_mem {ps : List TF} {n : Int} {p : TF} : p ∈ highs ps n ↔ p ∈ ps ∧ n < p.1 := by simp [highs]
theorem put_mem {ps : List TF} {f p : TF} (h : Asc ps) : p ∈ putF ps f ↔ p = f ∨ (p ∈ ps ∧ p.1 ≠ f.1) := by
  rw [put_is f h]
  simp only [List.mem_append, List.mem_cons, low_mem, high_mem]
  constructor
  · rintro (⟨a, b⟩ | rfl | ⟨a, b⟩)
    · exact .inr ⟨a, by omega⟩
    · exact .inl rfl
    · exact .inr ⟨a, by omega⟩
  · rintro (rfl | ⟨a, b⟩)
    · exact .inr (.inl rfl)
    · rcases Int.lt_trichotomy p.1 f.1 with l | l | l
      · exact .inl ⟨a, l⟩
      · exact absurd l b
      · exact .inr (.inr ⟨a, l⟩)
theorem put_asc {ps : List TF} (f : TF) (h : Asc ps) : Asc (putF ps f) := by
  rw [put_is f h]
  unfold Asc
  rw [List.pairwise_append]
  refine ⟨h.filter _, ?_, ?_⟩
  · rw [List.pairwise_cons]
    exact ⟨fun q hq => (high_mem.1 hq).2, h.filter _⟩
  · intro p hp q hq
    have := (low_mem.1 hp).2
    rcases List.mem_cons.1 hq with rfl | hq
    · exact this
    · have := (high_mem.1 hq).2
      omega
theorem put_named {ps : List TF} {f : TF} (h : Asc ps) (hn : Named ps) (hf : 0 ≤ f.1 ∧ f.1 ≤ 21) : Named (putF ps f) := fun p hp => by
  rcases (put_mem h).1 hp with rfl | ⟨a, _⟩
  · exact hf
  · exact hn p a
theorem find_no {ps : List TF} {nm : Int} (h : ∀ p ∈ ps, p.1 ≠ nm) : findF ps nm = -1 := findF_no (fun j hj => h _ (elF_mem hj))
theorem asc_lt {ps : List TF} (h : Asc ps) {i j : Nat} (l : i < j) (hj : j < ps.length) : (elF ps i).1 < (elF ps j).1 := by
  have := List.pairwise_iff_getElem.1 h i j (by omega) hj l
  rwa [elF_get (show i < ps.length by omega), elF_get hj]
theorem find_ix {ps : List TF} (h : Asc ps) {i : Nat} (hi : i < ps.length) : findF ps (elF ps i).1 = i :=
  findF_at hi (fun j hj => by have := asc_lt h hj hi; omega) rfl
theorem find_yes {ps : List TF} (h : Asc ps) {f : TF} (hf : f ∈ ps) : ∃ k : Nat, findF ps f.1 = k ∧ k < ps.length ∧ elF ps k = f := by
  obtain ⟨i, hi, rfl⟩ := mem_elF hf
  exact ⟨i, find_ix h hi, hi, rfl⟩
theorem find_neg {ps : List TF} {nm : Int} (h : findF ps nm < 0) : ∀ p ∈ ps, p.1 ≠ nm := fun p hp e => by
  have : 0 ≤ findF ps nm := by
    unfold findF
    have : (ps.findIdx? (fun p => p.1 == nm)).isSome = true := by
      rw [List.findIdx?_isSome]
      exact List.any_eq_true.2 ⟨p, hp, by simpa using e⟩
    obtain ⟨i, hi⟩ := Option.isSome_iff_exists.1 this
    rw [hi]
    simp
  omega
/-- The files at a place, ahead of it and behind it. -/
theorem parts {ps : List TF} (h : Asc ps) {k : Nat} (hk : k < ps.length) : lows ps (elF ps k).1 = ps.take k ∧ highs ps (elF ps k).1 = ps.drop (k + 1) := by
  have e : ps = ps.take k ++ elF ps k :: ps.drop (k + 1) := by
    rw [elF_get hk, List.getElem_cons_drop, List.take_append_drop]
  have a : ∀ q ∈ ps.take k, q.1 < (elF ps k).1 := by
    intro q hq
    obtain ⟨i, hi, e⟩ := List.getElem_of_mem hq
    have hi' : i < k := by simp at hi; omega
    rw [List.getElem_take] at e
    have := asc_lt h hi' hk
    rw [elF_get (show i < ps.length by omega)] at this
    rw [← e]
    exact this
  have b : ∀ q ∈ ps.drop (k + 1), (elF ps k).1 < q.1 := by
    intro q hq
    obtain ⟨i, hi, e⟩ := List.getElem_of_mem hq
    rw [List.getElem_drop] at e
    simp at hi
    have := asc_lt h (show k < k + 1 + i by omega) (by omega)
    rw [elF_get (show k + 1 + i < ps.length by omega)] at this
    rw [← e]
    exact this
  generalize elF ps k = p at *
  constructor
  · conv => lhs; rw [e]
    unfold lows
    rw [List.filter_append, List.filter_cons]
    rw [List.filter_eq_self.2 (fun q hq => by simpa using a q hq)]
    rw [List.filter_eq_nil_iff.2 (fun q hq => by have := b q hq; simp; omega)]
    simp
  · conv => lhs; rw [e]
    unfold highs
    have h1 : (ps.take k).filter (fun q => decide (p.1 < q.1)) = [] := List.filter_eq_nil_iff.2 (fun q hq => by have := a q hq; simp; omega)
    have h2 : (ps.drop (k + 1)).filter (fun q => decide (p.1 < q.1)) = ps.drop (k + 1) := List.filter_eq_self.2 (fun q hq => by simpa using b q hq)
    rw [List.filter_append, List.filter_cons, h1, h2]
    simp
theorem lessN_is (ps : List TF) (k : Nat) : ∀ n, n ≤ ps.length → lessN ps k n = (ps.take n).eraseIdx k
  | 0, _ => by simp [lessN]
  | n + 1, h => by
    have ih := lessN_is ps k n (by omega)
    have tk : ps.take (n + 1) = ps.take n ++ [elF ps n] := by rw [List.take_succ_eq_append_getElem (show n < ps.length by omega), elF_get (show n < ps.length by omega)]
    have ln : (ps.take n).length = n := by simp; omega
    simp only [lessN]
    rw [tk]
    by_cases e : (n : Int) = k
    · have e' : n = k := by omega
      rw [if_pos e, ih, List.eraseIdx_of_length_le (by omega), List.eraseIdx_append_of_length_le (by omega)]
      rw [ln, e', Nat.sub_self]
      simp
    · rw [if_neg e, ih]
      by_cases l : k < n
      · rw [List.eraseIdx_append_of_lt_length (by omega)]
      · rw [List.eraseIdx_of_length_le (by omega), List.eraseIdx_of_length_le (by simp; omega)]
theorem less_is {ps : List TF} (h : Asc ps) {k : Nat} (hk : k < ps.length) : lessN ps k ps.length = lows ps (elF ps k).1 ++ highs ps (elF ps k).1 := by
  rw [lessN_is ps k ps.length (Nat.le_refl _), List.take_length, (parts h hk).1, (parts h hk).2, List.eraseIdx_eq_take_drop_succ]
theorem less_asc {ps : List TF} (h : Asc ps) {k : Nat} (hk : k < ps.length) : Asc (lessN ps k ps.length) := by
  rw [lessN_is ps k ps.length (Nat.le_refl _), List.take_length]
  exact h.sublist (List.eraseIdx_sublist _ _)
theorem less_mem {ps : List TF} (h : Asc ps) {k : Nat} (hk : k < ps.length) {p : TF} : p ∈ lessN ps k ps.length ↔ p ∈ ps ∧ p.1 ≠ (elF ps k).1 := by
  rw [less_is h hk]
  simp only [List.mem_append, low_mem, high_mem]
  constructor
  · rintro (⟨a, b⟩ | ⟨a, b⟩)
    · exact ⟨a, by omega⟩
    · exact ⟨a, by omega⟩
  · rintro ⟨a, b⟩
    rcases Int.lt_trichotomy p.1 (elF ps k).1 with l | l | l
    · exact .inl ⟨a, l⟩
    · exact absurd l b
    · exact .inr ⟨a, l⟩
theorem less_len' {ps : List TF} {k : Nat} (hk : k < ps.length) : (lessN ps k ps.length).length = ps.length - 1 := by
  rw [lessN_is ps k ps.length (Nat.le_refl _), List.take_length, List.length_eraseIdx_of_lt hk]
theorem sum_cons (p : TF) (ps : List TF) : sumZ (p :: ps) = (p.2.1.size + p.2.2.size) + sumZ ps := by simp [sumZ]
theorem sum_mid (l r : List TF) (p : TF) : sumZ (l ++ p :: r) = sumZ l + (p.2.1.size + p.2.2.size) + sumZ r := by rw [sumZ_append, sum_cons]; omega
/-- All bytes of the files but those of one name. -/
theorem sum_rest {ps : List TF} (h : Asc ps) {k : Nat} (hk : k < ps.length) : sumZ ps = sumZ (lows ps (elF ps k).1) + ((elF ps k).2.1.size + (elF ps k).2.2.size) + sumZ (highs ps (elF ps k).1) := by
  rw [(parts h hk).1, (parts h hk).2, ← sum_mid]
  congr 1
  rw [elF_get hk, List.getElem_cons_drop, List.take_append_drop]
theorem parts_no : ∀ {ps : List TF} {n : Int}, Asc ps → (∀ p ∈ ps, p.1 ≠ n) → lows ps n ++ highs ps n = ps
  | [], n, _, _ => by simp [lows, highs]
  | p :: ps, n, h, hn => by
    have ha := List.pairwise_cons.1 h
    have hp := hn p (by simp)
    have ih := parts_no ha.2 (fun q hq => hn q (by simp [hq]))
    rcases Int.lt_trichotomy p.1 n with l | l | l
    · have n2 : ¬ n < p.1 := by omega
      simp only [lows, highs, List.filter_cons] at ih ⊢
      simp [l, n2, ih]
    · exact absurd l hp
    · have al : ∀ q ∈ ps, n < q.1 := fun q hq => by have := ha.1 q hq; omega
      have n2 : ¬ p.1 < n := by omega
      simp only [lows, highs, List.filter_cons]
      rw [List.filter_eq_nil_iff.2 (fun q hq => by have := al q hq; simp; omega), List.filter_eq_self.2 (fun q hq => by simpa using al q hq)]
      simp [l, n2]
theorem sum_new {ps : List TF} (h : Asc ps) {n : Int} (hn : ∀ p ∈ ps, p.1 ≠ n) : sumZ ps = sumZ (lows ps n) + sumZ (highs ps n) := by
  conv => lhs; rw [← parts_no h hn]
  rw [sumZ_append]
theorem sum_put {ps : List TF} (f : TF) (h : Asc ps) : sumZ (putF ps f) = sumZ (lows ps f.1) + (f.2.1.size + f.2.2.size) + sumZ (highs ps f.1) := by rw [put_is f h, sum_mid]
end Go.Proofs.Ytejbbhjhinkcdaa.Pure14
