/- What follows of a post, with no program in sight: each balance turns by just what legs give it, all of an instrument stay together what they were, and legs turned round lead back. -/
import Derived.Test.YtnfopmmkecdmgaaBals
namespace Go.Proofs.Ytnfopmmkecdmgaa.PostMore
open Bals
set_option linter.unusedVariables false
set_option linter.unusedSimpArgs false

/-- A leg turned round. -/
def neg (l : T3) : T3 := (l.1, l.2.1, -l.2.2)

/-- All legs turned round, from the last one on. -/
def back (ls : List T3) : List T3 := ls.reverse.map neg

theorem back_cons (l : T3) (r : List T3) : back (l :: r) = back r ++ [neg l] := by simp [back]
theorem back_len (ls : List T3) : (back ls).length = ls.length := by simp [back]

theorem posts_append : ∀ (l₁ l₂ : List T3) (f : Int → Int → Int), posts f (l₁ ++ l₂) = (posts f l₁).bind (fun g => posts g l₂)
  | [], l₂, f => rfl
  | l :: r, l₂, f => by
    simp only [List.cons_append, posts]
    split
    · exact posts_append r l₂ _
    · rfl

theorem posts_back : ∀ (ls : List T3) (f f' : Int → Int → Int), (∀ a i, Amt (f a i)) → posts f ls = some f' → posts f' (back ls) = some f
  | [], f, f', _, h => by
    cases h
    rfl
  | l :: r, f, f', hA, h => by
    unfold posts at h
    split at h
    · rename_i am
      have hA' : ∀ a i, Amt (upd f l.1 l.2.1 (f l.1 l.2.1 + l.2.2) a i) := by
        intro a i
        by_cases e : a = l.1 ∧ i = l.2.1
        · obtain ⟨rfl, rfl⟩ := e
          rw [upd_same]
          exact am
        · rw [upd_other _ _ _ _ _ _ e]
          exact hA a i
      have ih := posts_back r _ f' hA' h
      rw [back_cons, posts_append, ih]
      show posts _ [neg l] = some f
      have e1 : upd f l.1 l.2.1 (f l.1 l.2.1 + l.2.2) (neg l).1 (neg l).2.1 + (neg l).2.2 = f l.1 l.2.1 := by
        show upd f l.1 l.2.1 (f l.1 l.2.1 + l.2.2) l.1 l.2.1 + -l.2.2 = _
        rw [upd_same]
        omega
      unfold posts
      rw [e1, if_pos (by have := hA l.1 l.2.1; unfold Amt at this; exact this)]
      show some _ = some f
      congr 1
      funext a i
      show upd (upd f l.1 l.2.1 (f l.1 l.2.1 + l.2.2)) l.1 l.2.1 (f l.1 l.2.1) a i = f a i
      by_cases e : a = l.1 ∧ i = l.2.1
      · obtain ⟨rfl, rfl⟩ := e
        rw [upd_same]
      · rw [upd_other _ _ _ _ _ _ e, upd_other _ _ _ _ _ _ e]
    · cases h

/-- What legs give an account of an instrument. -/
def sumK : List T3 → Int → Int → Int
  | [], _, _ => 0
  | p :: r, a, i => (if p.1 = a ∧ p.2.1 = i then p.2.2 else 0) + sumK r a i

theorem sumK_append (a i : Int) : ∀ (ps qs : List T3), sumK (ps ++ qs) a i = sumK ps a i + sumK qs a i
  | [], qs => by simp [sumK]
  | p :: r, qs => by
    have := sumK_append a i r qs
    simp only [List.cons_append, sumK, this]
    omega

theorem sumK_next {ps : List T3} {k : Nat} (h : k < ps.length) (a i : Int) : sumK (ps.take (k + 1)) a i = sumK (ps.take k) a i + (if (el3 ps k).1 = a ∧ (el3 ps k).2.1 = i then (el3 ps k).2.2 else 0) := by
  rw [take_next h, sumK_append]
  simp [sumK]

theorem sumK_bound {ps : List T3} (a i : Int) (h : ∀ j, j < ps.length → Amt (el3 ps j).2.2) : ∀ k, k ≤ ps.length → -(1000000000000000 * (k : Int)) ≤ sumK (ps.take k) a i ∧ sumK (ps.take k) a i ≤ 1000000000000000 * (k : Int)
  | 0, _ => by simp [sumK]
  | k + 1, hk => by
    have ih := sumK_bound a i h k (by omega)
    have am := h k (by omega)
    rw [sumK_next (by omega)]
    unfold Amt at am
    split <;> omega

theorem posts_sum : ∀ (ls : List T3) (f f' : Int → Int → Int), posts f ls = some f' → ∀ a i, f' a i = f a i + sumK ls a i
  | [], f, f', h, a, i => by
    cases h
    simp [sumK]
  | l :: r, f, f', h, a, i => by
    unfold posts at h
    split at h
    · have ih := posts_sum r _ f' h a i
      rw [ih]
      simp only [sumK]
      by_cases e : a = l.1 ∧ i = l.2.1
      · obtain ⟨rfl, rfl⟩ := e
        rw [upd_same, if_pos ⟨rfl, rfl⟩]
        omega
      · rw [upd_other _ _ _ _ _ _ e, if_neg (fun q => e ⟨q.1.symm, q.2.symm⟩)]
        omega
    · cases h

theorem val_none : ∀ (ps : List T3) (a i : Int), (∀ p ∈ ps, ¬ (p.1 = a ∧ p.2.1 = i)) → val ps a i = 0
  | [], _, _, _ => rfl
  | p :: r, a, i, h => by
    unfold val
    rw [if_neg (h p List.mem_cons_self)]
    exact val_none r a i (fun q hq => h q (List.mem_cons_of_mem _ hq))

theorem sum_true (x : T3) (j : Int) : ∀ (ps : List T3), ps.Pairwise Bef → sumI (putL x ps true) j = sumI ps j - (if x.2.1 = j then val ps x.1 x.2.1 else 0)
  | [], _ => by simp [putL, sumI, val]
  | y :: r, h => by
    obtain ⟨h1, h2⟩ := List.pairwise_cons.1 h
    have ih := sum_true x j r h2
    by_cases c : y.1 ≠ x.1 ∨ y.2.1 ≠ x.2.1
    · have e : putL x (y :: r) true = y :: putL x r true := by simp [putL, c]
      have v : val (y :: r) x.1 x.2.1 = val r x.1 x.2.1 := by
        rw [val, if_neg (by omega)]
      rw [e, v]
      simp only [sumI, ih]
      omega
    · have e : putL x (y :: r) true = putL x r true := by simp [putL, c]
      have k1 : y.1 = x.1 := by omega
      have k2 : y.2.1 = x.2.1 := by omega
      have v : val (y :: r) x.1 x.2.1 = y.2.2 := by rw [val, if_pos ⟨k1, k2⟩]
      have z : val r x.1 x.2.1 = 0 := val_none r _ _ (fun q hq e => by have := h1 q hq; unfold Bef at this; omega)
      rw [e, ih, z, v]
      simp only [sumI]
      rw [k2]
      split <;> omega

theorem sum_false (x : T3) (j : Int) : ∀ (ps : List T3), ps.Pairwise Bef → sumI (putL x ps false) j = sumI ps j + (if x.2.1 = j then x.2.2 - val ps x.1 x.2.1 else 0)
  | [], _ => by simp [putL, sumI, val]
  | y :: r, h => by
    obtain ⟨h1, h2⟩ := List.pairwise_cons.1 h
    by_cases b : Bef y x
    · have ih := sum_false x j r h2
      have b' := b
      unfold Bef at b'
      have c : y.1 ≠ x.1 ∨ y.2.1 ≠ x.2.1 := by omega
      have e : putL x (y :: r) false = y :: putL x r false := by simp [putL, b', c]
      have v : val (y :: r) x.1 x.2.1 = val r x.1 x.2.1 := by rw [val, if_neg (by omega)]
      rw [e, v]
      simp only [sumI, ih]
      omega
    · have b' := b
      unfold Bef at b'
      have e : putL x (y :: r) false = x :: putL x (y :: r) true := by simp [putL, b']
      have t := sum_true x j (y :: r) h
      rw [e]
      simp only [sumI] at t ⊢
      rw [t]
      split <;> omega

/-- What a put makes of a sum. -/
theorem put_sum (x : T3) (ps : List T3) (j : Int) (h : Good ps) : ∃ qs, ListOf (upd (val ps) x.1 x.2.1 x.2.2) qs ∧ sumI qs j = sumI ps j + (if x.2.1 = j then x.2.2 - val ps x.1 x.2.1 else 0) := by
  by_cases z : x.2.2 = 0
  · refine ⟨putL x ps true, put_val x ps true h ⟨fun _ => z, fun _ => rfl⟩, ?_⟩
    rw [sum_true x j ps h.1, z]
    split <;> omega
  · exact ⟨putL x ps false, put_val x ps false h ⟨fun e => Bool.noConfusion e, fun e => absurd e z⟩, sum_false x j ps h.1⟩

theorem posts_sumI (j : Int) : ∀ (ls ps qs : List T3) (f' : Int → Int → Int), Good ps → posts (val ps) ls = some f' → ListOf f' qs → sumI qs j = sumI ps j + sumI ls j
  | [], ps, qs, f', h, e, l => by
    cases e
    have : qs = ps := l.1.ext h l.2
    rw [this]
    simp [sumI]
  | l :: r, ps, qs, f', h, e, lo => by
    unfold posts at e
    split at e
    · obtain ⟨us, hu, hs⟩ := put_sum (l.1, l.2.1, val ps l.1 l.2.1 + l.2.2) ps j h
      have ev : val us = upd (val ps) l.1 l.2.1 (val ps l.1 l.2.1 + l.2.2) := funext fun a => funext fun i => hu.2 a i
      rw [← ev] at e
      have ih := posts_sumI j r us qs f' hu.1 e lo
      rw [ih, hs]
      simp only [sumI]
      split <;> omega
    · cases e

theorem sumI_neg (j : Int) : ∀ (ls : List T3), sumI (ls.map neg) j = - sumI ls j
  | [] => rfl
  | l :: r => by
    simp only [List.map_cons, sumI, sumI_neg j r]
    show (if l.2.1 = j then -l.2.2 else 0) + _ = _
    split <;> omega

theorem sumI_rev (j : Int) : ∀ (ls : List T3), sumI ls.reverse j = sumI ls j
  | [] => rfl
  | l :: r => by
    rw [List.reverse_cons, sumI_append, sumI_rev j r]
    simp only [sumI]
    omega

theorem even_back {ls : List T3} (h : Even ls) : Even (back ls) := by
  intro j
  unfold back
  rw [sumI_neg, sumI_rev, h j]
  rfl

theorem formed_mem {ls : List T3} : Formed ls ↔ ls.length ≤ 160 ∧ ∀ p ∈ ls, NoOk p.1 ∧ NoOk p.2.1 ∧ Amt p.2.2 := by
  constructor
  · rintro ⟨h1, h2⟩
    refine ⟨h1, fun p hp => ?_⟩
    obtain ⟨i, hi, rfl⟩ := mem_getD hp
    exact h2 i hi
  · rintro ⟨h1, h2⟩
    exact ⟨h1, fun i hi => h2 _ (getD_mem hi)⟩

theorem formed_back {ls : List T3} (h : Formed ls) : Formed (back ls) := by
  rw [formed_mem] at h ⊢
  refine ⟨by rw [back_len]; exact h.1, fun p hp => ?_⟩
  unfold back at hp
  obtain ⟨q, hq, rfl⟩ := List.mem_map.1 hp
  obtain ⟨a, b, c⟩ := h.2 q (List.mem_reverse.1 hq)
  refine ⟨a, b, ?_⟩
  unfold Amt at c ⊢
  show -1000000000000000 ≤ -q.2.2 ∧ -q.2.2 ≤ 1000000000000000
  omega

section
variable {ps ls qs rs : List T3} {xs : List Int} {c : Int}

/-- All that a post that is done says. -/
structure Done (ps ls : List T3) (xs : List Int) (qs : List T3) : Prop where
  rp : Right ps
  fl : Formed ls
  sx : xs.length ≤ 20
  ev : Even ls
  rq : Right qs
  back : posts (val qs) (back ls) = some (val ps)
  told : ∀ a i, val qs a i = val ps a i + sumK ls a i
  sum : ∀ j, sumI qs j = sumI ps j
  lack : ∀ k, k < ls.length → val qs (el3 ls k).1 (el3 ls k).2.1 < 0 → (el3 ls k).1 ∈ xs

theorem post_done (h : IsPost ps ls xs qs 0) : Done ps ls xs qs := by
  rcases h with ⟨_, _, e⟩ | ⟨_, _, _, e⟩ | ⟨_, _, _, _, e⟩ | ⟨_, _, _, _, _, _, e⟩ | ⟨_, _, _, _, _, _, _, _, _, e⟩ | ⟨f, h1, h2, h3, h4, h5, h6, _⟩
  · omega
  · omega
  · omega
  · omega
  · omega
  · skip
    have ff : Fine f := posts_fine ls _ f (fine_of h1.1) (fun l hl => by
      obtain ⟨a, b, _⟩ := (formed_mem.1 h1.2.1).2 l hl
      exact ⟨a, b⟩) h3
    have ev : val qs = f := funext fun a => funext fun i => h5.2 a i
    refine ⟨h1.1, h1.2.1, h1.2.2, h2, h5.right ff h6, ?_, ?_, ?_, ?_⟩
    · rw [ev]
      exact posts_back ls _ f (fun a i => (fine_of h1.1 a i).1) h3
    · intro a i
      rw [ev]
      exact posts_sum ls _ f h3 a i
    · intro j
      rw [posts_sumI j ls ps qs f h1.1.good h3 h5, h2 j, Int.add_zero]
    · intro k hk hn
      rw [ev] at hn
      exact Classical.byContradiction fun no => h4 ⟨k, hk, hn, no⟩

theorem post_bad (h : IsPost ps ls xs qs 1) : qs = [] := by
  rcases h with ⟨_, h, _⟩ | ⟨_, _, _, e⟩ | ⟨_, _, _, _, e⟩ | ⟨_, _, _, _, _, _, e⟩ | ⟨_, _, _, _, _, _, _, _, _, e⟩ | ⟨_, _, _, _, _, _, _, e⟩
  · exact h
  · omega
  · omega
  · omega
  · omega
  · omega

theorem post_else (h : IsPost ps ls xs qs c) (c0 : c ≠ 0) (c1 : c ≠ 1) : qs = ps ∧ (Even ls ↔ c ≠ 2) ∧ Formed ls := by
  rcases h with ⟨_, _, e⟩ | ⟨h1, h2, h, e⟩ | ⟨h1, h2, _, h, e⟩ | ⟨_, h1, h2, _, _, h, e⟩ | ⟨_, _, h1, h2, _, _, _, _, h, e⟩ | ⟨_, _, _, _, _, _, _, e⟩
  · exact absurd e c1
  · exact ⟨h, ⟨fun q => absurd q h2, fun q => absurd e q⟩, h1.2.1⟩
  · exact ⟨h, ⟨fun _ => by omega, fun _ => h2⟩, h1.2.1⟩
  · exact ⟨h, ⟨fun _ => by omega, fun _ => h2⟩, h1.2.1⟩
  · exact ⟨h, ⟨fun _ => by omega, fun _ => h2⟩, h1.2.1⟩
  · exact absurd e c0

theorem back_done (d : Done ps ls xs qs) (h : IsPost qs (back ls) xs rs c) : (c = 0 ∧ rs = ps) ∨ (c = 3 ∧ rs = qs) := by
  have lo : ListOf (val ps) ps := ⟨d.rp.good, fun _ _ => rfl⟩
  rcases h with ⟨h1, _, _⟩ | ⟨_, h2, _, _⟩ | ⟨_, _, h3, _, _⟩ | ⟨_, _, _, _, _, h, e⟩ | ⟨f, us, _, _, h3, _, h5, h6, _, _⟩ | ⟨f, _, _, h3, _, h5, _, e⟩
  · exact absurd ⟨d.rq, formed_back d.fl, d.sx⟩ h1
  · exact absurd (even_back d.ev) h2
  · rw [d.back] at h3; cases h3
  · exact .inr ⟨e, h⟩
  · rw [d.back] at h3
    cases h3
    rw [h5.same lo] at h6
    exact absurd d.rp.1 h6
  · rw [d.back] at h3
    cases h3
    exact .inl ⟨e, h5.same lo⟩
end

end Go.Proofs.Ytnfopmmkecdmgaa.PostMore
