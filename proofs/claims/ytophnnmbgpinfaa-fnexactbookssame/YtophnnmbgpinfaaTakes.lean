/- Lots put together in order, cut out of a list, and taken from either end or by the mean, with no program in sight. -/
import Derived.Test.YtophnnmbgpinfaaLots
namespace Go.Proofs.Ytophnnmbgpinfaa.Takes
open Tup5 Lots
set_option linter.unusedVariables false
set_option linter.unusedSimpArgs false

theorem merge_left : ∀ (n : Nat) (a : List T5), a.length ≤ n → mergeL n a [] = a
  | 0, [], _ => rfl
  | 0, x :: a, h => by simp at h
  | n + 1, [], _ => rfl
  | n + 1, x :: a, _ => rfl
theorem merge_right : ∀ (n : Nat) (b : List T5), b.length ≤ n → mergeL n [] b = b
  | 0, [], _ => rfl
  | 0, x :: a, h => by simp at h
  | n + 1, [], _ => rfl
  | n + 1, x :: a, _ => rfl
theorem merge_yes {n : Nat} {x y : T5} {a b : List T5} (h : Bef x y) : mergeL (n + 1) (x :: a) (y :: b) = x :: mergeL n a (y :: b) := by
  unfold Bef at h
  simp [mergeL, h]
theorem merge_no {n : Nat} {x y : T5} {a b : List T5} (h : ¬ Bef x y) : mergeL (n + 1) (x :: a) (y :: b) = y :: mergeL n (x :: a) b := by
  unfold Bef at h
  simp [mergeL, h]
theorem merge_len : ∀ (n : Nat) (a b : List T5), a.length + b.length ≤ n → (mergeL n a b).length = a.length + b.length
  | 0, [], [], _ => rfl
  | 0, x :: a, _, h => by simp at h
  | 0, [], y :: b, h => by simp at h
  | n + 1, [], b, h => by rw [merge_right _ _ (by simpa using h)]; simp
  | n + 1, x :: a, [], h => by rw [merge_left _ _ (by simpa using h)]; simp
  | n + 1, x :: a, y :: b, h => by
    by_cases e : Bef x y
    · rw [merge_yes e]
      have := merge_len n a (y :: b) (by simp at h ⊢; omega)
      simp [this]; omega
    · rw [merge_no e]
      have := merge_len n (x :: a) b (by simp at h ⊢; omega)
      simp [this]; omega

/-- A list whose place is between two parts of another one. -/
theorem merge_mid : ∀ (n : Nat) (A L B : List T5), A.length + L.length + B.length ≤ n → (∀ x ∈ A, ∀ y ∈ L, Bef x y) → (∀ x ∈ B, ∀ y ∈ L, ¬ Bef x y) → mergeL n (A ++ B) L = A ++ (L ++ B)
  | n, A, [], B, h, _, _ => by rw [merge_left _ _ (by simp at h ⊢; omega)]; simp
  | 0, A, y :: L, B, h, _, _ => by simp at h
  | n + 1, [], y :: L, [], h, _, _ => by rw [List.nil_append, merge_right _ _ (by simp at h ⊢; omega)]; simp
  | n + 1, [], y :: L, x :: B, h, hA, hB => by
    rw [List.nil_append, merge_no (hB x List.mem_cons_self y List.mem_cons_self)]
    have := merge_mid n [] L (x :: B) (by simp at h ⊢; omega) (fun _ h => absurd h List.not_mem_nil) (fun x hx z hz => hB x hx z (List.mem_cons_of_mem _ hz))
    rw [List.nil_append] at this
    rw [this]
    rfl
  | n + 1, x :: A, y :: L, B, h, hA, hB => by
    rw [List.cons_append, merge_yes (hA x List.mem_cons_self y List.mem_cons_self)]
    have := merge_mid n A (y :: L) B (by simp at h ⊢; omega) (fun z hz => hA z (List.mem_cons_of_mem _ hz)) hB
    rw [this]
    rfl

theorem mem_drop {ps : List T5} {k : Nat} {p : T5} (h : p ∈ ps.drop k) : ∃ i, k ≤ i ∧ i < ps.length ∧ el5 ps i = p := by
  obtain ⟨i, hi, e⟩ := mem_getD h
  have h1 : k + i < ps.length := by simp at hi; omega
  refine ⟨k + i, by omega, h1, ?_⟩
  rw [← e]
  simp [el5, List.getD]

/-- Where a lot goes. -/
def IsPl (ps : List T5) (l : T5) (c : Nat) : Prop := c ≤ ps.length ∧ (∀ t, t < c → Bef (el5 ps t) l) ∧ ∀ t, c ≤ t → t < ps.length → ¬ Bef (el5 ps t) l

/-- The list with a lot at place c. -/
def insL (ps : List T5) (c : Nat) (l : T5) : List T5 := ps.take c ++ ([l] ++ ps.drop c)

theorem ins_len {ps : List T5} {c : Nat} (l : T5) (h : c ≤ ps.length) : (insL ps c l).length = ps.length + 1 := by
  unfold insL
  simp
  omega

theorem open_merge {ps : List T5} {l : T5} {c n : Nat} (h : IsPl ps l c) (hn : ps.length + 1 ≤ n) : mergeL n ps [l] = insL ps c l := by
  have e := merge_mid n (ps.take c) [l] (ps.drop c) (by have := h.1; simp; omega) (fun x hx y hy => by
    obtain ⟨t, ht, _, rfl⟩ := mem_take hx
    rw [List.mem_singleton] at hy
    subst hy
    exact h.2.1 t ht) (fun x hx y hy => by
    obtain ⟨t, ht, hl, rfl⟩ := mem_drop hx
    rw [List.mem_singleton] at hy
    subst hy
    exact h.2.2 t ht hl)
  rw [List.take_append_drop] at e
  exact e

/-- A key ahead of, or behind, an account and an instrument. -/
def KLt (p : T5) (a i : Int) : Prop := p.1 < a ∨ (p.1 = a ∧ p.2.1 < i)
def KGt (p : T5) (a i : Int) : Prop := a < p.1 ∨ (a = p.1 ∧ i < p.2.1)

/-- The lots of both are those from place f up to place u. -/
def Cut (ps : List T5) (a i : Int) (f u : Nat) : Prop :=
  f ≤ u ∧ u ≤ ps.length ∧ (∀ t, t < f → KLt (el5 ps t) a i) ∧ (∀ t, f ≤ t → t < u → (el5 ps t).1 = a ∧ (el5 ps t).2.1 = i) ∧ ∀ t, u ≤ t → t < ps.length → KGt (el5 ps t) a i

/-- The lots from place f up to place u. -/
def midL (ps : List T5) (f u : Nat) : List T5 := (ps.drop f).take (u - f)

theorem mid_len {ps : List T5} {f u : Nat} (h : f ≤ u) (k : u ≤ ps.length) : (midL ps f u).length = u - f := by
  unfold midL
  simp
  omega
theorem mid_el {ps : List T5} {f u t : Nat} (h : t < u - f) : el5 (midL ps f u) t = el5 ps (f + t) := by
  unfold midL el5
  simp [List.getD, h, List.getElem?_take]
theorem mem_mid {ps : List T5} {f u : Nat} {p : T5} (h : p ∈ midL ps f u) : ∃ t, f ≤ t ∧ t < u ∧ t < ps.length ∧ el5 ps t = p := by
  unfold midL at h
  obtain ⟨i, hi, hl, e⟩ := mem_take h
  have hl : i < ps.length - f := by simpa using hl
  refine ⟨f + i, by omega, by omega, by omega, ?_⟩
  rw [← e]
  simp [el5, List.getD]
theorem cut_split {ps : List T5} {f u : Nat} (h : f ≤ u) : ps = ps.take f ++ (midL ps f u ++ ps.drop u) := by
  unfold midL
  have e : ps.drop u = (ps.drop f).drop (u - f) := by rw [List.drop_drop, show f + (u - f) = u by omega]
  rw [e, List.take_append_drop, List.take_append_drop]

theorem filter_all {l : List T5} {f : T5 → Bool} (h : ∀ p ∈ l, f p = true) : l.filter f = l := List.filter_eq_self.2 h
theorem filter_none {l : List T5} {f : T5 → Bool} (h : ∀ p ∈ l, f p = false) : l.filter f = [] := by
  rw [List.filter_eq_nil_iff]
  intro p hp
  rw [h p hp]
  simp

theorem cut_own {ps : List T5} {a i : Int} {f u : Nat} (h : Cut ps a i f u) : ownL ps a i = midL ps f u ∧ restL ps a i = ps.take f ++ ps.drop u := by
  obtain ⟨h1, h2, h3, h4, h5⟩ := h
  have hA : ∀ p ∈ ps.take f, ¬ (p.1 = a ∧ p.2.1 = i) := fun p hp => by
    obtain ⟨t, ht, _, rfl⟩ := mem_take hp
    have := h3 t ht
    unfold KLt at this
    omega
  have hM : ∀ p ∈ midL ps f u, p.1 = a ∧ p.2.1 = i := fun p hp => by
    obtain ⟨t, ht, hu, _, rfl⟩ := mem_mid hp
    exact h4 t ht hu
  have hB : ∀ p ∈ ps.drop u, ¬ (p.1 = a ∧ p.2.1 = i) := fun p hp => by
    obtain ⟨t, ht, hl, rfl⟩ := mem_drop hp
    have := h5 t ht hl
    unfold KGt at this
    omega
  constructor
  · unfold ownL
    rw [show ps.filter (fun p => decide (p.1 = a ∧ p.2.1 = i)) = (ps.take f ++ (midL ps f u ++ ps.drop u)).filter (fun p => decide (p.1 = a ∧ p.2.1 = i)) by rw [← cut_split h1]]
    rw [List.filter_append, List.filter_append, filter_none (fun p hp => decide_eq_false (hA p hp)), filter_all (fun p hp => decide_eq_true (hM p hp)), filter_none (fun p hp => decide_eq_false (hB p hp))]
    simp
  · unfold restL
    rw [show ps.filter (fun p => !decide (p.1 = a ∧ p.2.1 = i)) = (ps.take f ++ (midL ps f u ++ ps.drop u)).filter (fun p => !decide (p.1 = a ∧ p.2.1 = i)) by rw [← cut_split h1]]
    rw [List.filter_append, List.filter_append, filter_all (fun p hp => by rw [decide_eq_false (hA p hp)]; rfl), filter_none (fun p hp => by rw [decide_eq_true (hM p hp)]; rfl), filter_all (fun p hp => by rw [decide_eq_false (hB p hp)]; rfl)]
    simp

/-- Other lots of both in the place of those that were there. -/
def putBack (ps : List T5) (f u : Nat) (L : List T5) : List T5 := ps.take f ++ (L ++ ps.drop u)

theorem cut_merge {ps L : List T5} {a i : Int} {f u n : Nat} (h : Cut ps a i f u) (hL : ∀ y ∈ L, y.1 = a ∧ y.2.1 = i) (hn : ps.length + L.length ≤ n) : mergeL n (restL ps a i) L = putBack ps f u L := by
  rw [(cut_own h).2]
  obtain ⟨h1, h2, h3, h4, h5⟩ := h
  refine merge_mid n _ _ _ (by simp; omega) (fun x hx y hy => ?_) (fun x hx y hy => ?_)
  · obtain ⟨t, ht, _, rfl⟩ := mem_take hx
    have := h3 t ht
    have := hL y hy
    unfold KLt at *
    unfold Bef
    omega
  · obtain ⟨t, ht, hl, rfl⟩ := mem_drop hx
    have := h5 t ht hl
    have := hL y hy
    unfold KGt at *
    unfold Bef
    omega

/-- All pieces, and all costs. -/
def sumQ : List T5 → Int
  | [] => 0
  | p :: r => p.2.2.2.1 + sumQ r
def sumC : List T5 → Int
  | [] => 0
  | p :: r => p.2.2.2.2 + sumC r
theorem sumQ_append : ∀ (a b : List T5), sumQ (a ++ b) = sumQ a + sumQ b
  | [], b => by simp [sumQ]
  | p :: r, b => by simp only [List.cons_append, sumQ, sumQ_append r b]; omega
theorem sumC_append : ∀ (a b : List T5), sumC (a ++ b) = sumC a + sumC b
  | [], b => by simp [sumC]
  | p :: r, b => by simp only [List.cons_append, sumC, sumC_append r b]; omega
theorem sumQ_next {ps : List T5} {k : Nat} (h : k < ps.length) : sumQ (ps.take (k + 1)) = sumQ (ps.take k) + (el5 ps k).2.2.2.1 := by
  rw [take_next h, sumQ_append]
  simp [sumQ]
theorem sumC_next {ps : List T5} {k : Nat} (h : k < ps.length) : sumC (ps.take (k + 1)) = sumC (ps.take k) + (el5 ps k).2.2.2.2 := by
  rw [take_next h, sumC_append]
  simp [sumC]
theorem sumQ_rev : ∀ (a : List T5), sumQ a.reverse = sumQ a
  | [] => rfl
  | p :: r => by rw [List.reverse_cons, sumQ_append, sumQ_rev r]; simp [sumQ]; omega
theorem sumC_rev : ∀ (a : List T5), sumC a.reverse = sumC a
  | [] => rfl
  | p :: r => by rw [List.reverse_cons, sumC_append, sumC_rev r]; simp [sumC]; omega

theorem own_sums (a i : Int) : ∀ (ps : List T5), sumQ (ownL ps a i) = qtyOf ps a i ∧ sumC (ownL ps a i) = costOf ps a i
  | [] => ⟨rfl, rfl⟩
  | p :: r => by
    obtain ⟨h1, h2⟩ := own_sums a i r
    unfold ownL at h1 h2 ⊢
    by_cases e : p.1 = a ∧ p.2.1 = i
    · rw [List.filter_cons_of_pos (by simpa using e)]
      simp only [sumQ, sumC, qtyOf, costOf, if_pos e, h1, h2]
      exact ⟨trivial, trivial⟩
    · rw [List.filter_cons_of_neg (by simpa using e)]
      simp only [qtyOf, costOf, if_neg e, h1, h2]
      omega

/-- Pieces and a cost as a lot has them. -/
def Pos (p : T5) : Prop := (1 ≤ p.2.2.2.1 ∧ p.2.2.2.1 ≤ 1000000000000000) ∧ 0 ≤ p.2.2.2.2 ∧ p.2.2.2.2 ≤ 1000000000000000

theorem sum_pos : ∀ (l : List T5), (∀ p ∈ l, Pos p) → 0 ≤ sumQ l ∧ 0 ≤ sumC l
  | [], _ => by simp [sumQ, sumC]
  | p :: r, h => by
    obtain ⟨i1, i2⟩ := sum_pos r (fun q hq => h q (List.mem_cons_of_mem _ hq))
    have hp := h p List.mem_cons_self
    unfold Pos at hp
    unfold sumQ sumC
    omega

/-- What is left of lots from the first one on, and what was taken cost. -/
def leftF : List T5 → Int → List T5
  | [], _ => []
  | p :: r, q => if q ≤ 0 then p :: r else if p.2.2.2.1 ≤ q then leftF r (q - p.2.2.2.1) else (p.1, p.2.1, p.2.2.1, p.2.2.2.1 - q, p.2.2.2.2 - p.2.2.2.2 * q / p.2.2.2.1) :: r
def costF : List T5 → Int → Int
  | [], _ => 0
  | p :: r, q => if q ≤ 0 then 0 else if p.2.2.2.1 ≤ q then p.2.2.2.2 + costF r (q - p.2.2.2.1) else p.2.2.2.2 * q / p.2.2.2.1

theorem leftF_cons (p : T5) (r : List T5) (q : Int) : leftF (p :: r) q = if q ≤ 0 then p :: r else if p.2.2.2.1 ≤ q then leftF r (q - p.2.2.2.1) else (p.1, p.2.1, p.2.2.1, p.2.2.2.1 - q, p.2.2.2.2 - p.2.2.2.2 * q / p.2.2.2.1) :: r := rfl
theorem costF_cons (p : T5) (r : List T5) (q : Int) : costF (p :: r) q = if q ≤ 0 then 0 else if p.2.2.2.1 ≤ q then p.2.2.2.2 + costF r (q - p.2.2.2.1) else p.2.2.2.2 * q / p.2.2.2.1 := rfl
theorem leftF_zero : ∀ (l : List T5), leftF l 0 = l
  | [] => rfl
  | p :: r => by simp [leftF]
theorem costF_zero : ∀ (l : List T5), costF l 0 = 0
  | [] => rfl
  | p :: r => by simp [costF]

/-- The part of a lot that is taken. -/
def prt (q x : Int) : Int := if q ≤ x then q else x
/-- What it costs. -/
def pcost (c x q : Int) : Int := c * prt q x / x
/-- The lot behind it. -/
def after (p : T5) (q : Int) : T5 := (p.1, p.2.1, p.2.2.1, p.2.2.2.1 - prt q p.2.2.2.1, p.2.2.2.2 - pcost p.2.2.2.2 p.2.2.2.1 q)

theorem div_le {c t x : Int} (c0 : 0 ≤ c) (t0 : 0 ≤ t) (tx : t ≤ x) (x1 : 1 ≤ x) : 0 ≤ c * t / x ∧ c * t / x ≤ c := by
  constructor
  · exact Int.ediv_nonneg (Int.mul_nonneg c0 t0) (by omega)
  · have h : c * t ≤ c * x := Int.mul_le_mul_of_nonneg_left tx c0
    have h2 : c * t / x ≤ c * x / x := Int.ediv_le_ediv (by omega) h
    rwa [Int.mul_ediv_cancel _ (by omega)] at h2

theorem part_bd {q x : Int} (q0 : 0 ≤ q) (x1 : 1 ≤ x) : 0 ≤ prt q x ∧ prt q x ≤ x ∧ prt q x ≤ q := by unfold prt; split <;> omega
theorem pcost_bd {c x q : Int} (c0 : 0 ≤ c) (q0 : 0 ≤ q) (x1 : 1 ≤ x) : 0 ≤ pcost c x q ∧ pcost c x q ≤ c := by
  obtain ⟨h1, h2, _⟩ := part_bd q0 x1
  exact div_le c0 h1 h2 x1

/-- Those that have pieces. -/
def fz (l : List T5) : List T5 := l.filter fun p => !decide (p.2.2.2.1 = 0)
theorem fz_append (a b : List T5) : fz (a ++ b) = fz a ++ fz b := List.filter_append a b
theorem fz_pos {l : List T5} (h : ∀ p ∈ l, Pos p) : fz l = l := filter_all (fun p hp => by
  have := h p hp
  unfold Pos at this
  rw [decide_eq_false (by omega)]
  rfl)
theorem fz_rev (l : List T5) : fz l.reverse = (fz l).reverse := by unfold fz; rw [List.filter_reverse]

/-- One lot more is looked at. -/
theorem take_step {p : T5} {r : List T5} {q : Int} (hp : Pos p) (q0 : 0 < q) : fz [after p q] ++ leftF r (q - prt q p.2.2.2.1) = leftF (p :: r) q ∧ pcost p.2.2.2.2 p.2.2.2.1 q + costF r (q - prt q p.2.2.2.1) = costF (p :: r) q := by
  obtain ⟨⟨x1, x2⟩, c0, c1⟩ := hp
  have q1 : ¬ q ≤ 0 := by omega
  rw [leftF_cons, costF_cons, if_neg q1, if_neg q1]
  by_cases f : p.2.2.2.1 ≤ q
  · have e : prt q p.2.2.2.1 = p.2.2.2.1 := by unfold prt; split <;> omega
    rw [if_pos f, if_pos f, e]
    constructor
    · have : fz [after p q] = [] := filter_none (fun z hz => by
        rw [List.mem_singleton] at hz
        subst hz
        unfold after
        simp [e])
      rw [this, List.nil_append]
    · unfold pcost
      rw [e, Int.mul_ediv_cancel _ (by omega)]
  · have e : prt q p.2.2.2.1 = q := by unfold prt; split <;> omega
    rw [if_neg f, if_neg f, e, Int.sub_self, leftF_zero, costF_zero, Int.add_zero]
    constructor
    · have : fz [after p q] = [after p q] := filter_all (fun z hz => by
        rw [List.mem_singleton] at hz
        subst hz
        unfold after
        simp [e]
        omega)
      rw [this]
      unfold after pcost
      rw [e]
      rfl
    · unfold pcost
      rw [e]

/-- What is taken costs no more than all. -/
theorem costF_bd : ∀ (l : List T5) (q : Int), 0 ≤ q → (∀ p ∈ l, Pos p) → 0 ≤ costF l q ∧ costF l q ≤ sumC l
  | [], q, _, _ => by simp [costF, sumC]
  | p :: r, q, q0, h => by
    have hp := h p List.mem_cons_self
    have hr := sum_pos r (fun z hz => h z (List.mem_cons_of_mem _ hz))
    unfold Pos at hp
    unfold costF sumC
    split
    · omega
    · split
      · have := costF_bd r (q - p.2.2.2.1) (by omega) (fun z hz => h z (List.mem_cons_of_mem _ hz))
        omega
      · have := div_le (c := p.2.2.2.2) (t := q) (x := p.2.2.2.1) hp.2.1 (by omega) (by omega) hp.1.1
        omega

/-- The lots in the order in which they are taken. -/
def dirL (way : Int) (l : List T5) : List T5 := if way = 2 then l.reverse else l
theorem dir_len (way : Int) (l : List T5) : (dirL way l).length = l.length := by unfold dirL; split <;> simp
theorem dir_dir (way : Int) (l : List T5) : dirL way (dirL way l) = l := by
  unfold dirL
  by_cases h : way = 2
  · rw [if_pos h, if_pos h, List.reverse_reverse]
  · rw [if_neg h, if_neg h]
theorem dir_mem {way : Int} {l : List T5} {p : T5} : p ∈ dirL way l ↔ p ∈ l := by unfold dirL; split <;> simp
theorem dir_sum (way : Int) (l : List T5) : sumQ (dirL way l) = sumQ l ∧ sumC (dirL way l) = sumC l := by
  unfold dirL
  split
  · exact ⟨sumQ_rev l, sumC_rev l⟩
  · exact ⟨rfl, rfl⟩
theorem dir_fz (way : Int) (l : List T5) : fz (dirL way l) = dirL way (fz l) := by
  unfold dirL
  split
  · exact fz_rev l
  · rfl

/-- What is left of a taking from either end, and what was taken cost. -/
def leftW (way : Int) (own : List T5) (q : Int) : List T5 := dirL way (leftF (dirL way own) q)
def costW (way : Int) (own : List T5) (q : Int) : Int := costF (dirL way own) q

/-- The place that is looked at next. -/
def atI (way : Int) (n : Nat) : Nat := if way = 2 then n - 1 else 0

theorem el_cons (x : T5) (r : List T5) : el5 (x :: r) 0 = x := rfl

theorem mod_last (f : T5 → T5) (x : T5) : ∀ r : List T5, (r ++ [x]).modify r.length f = r ++ [f x]
  | [] => rfl
  | y :: r => by
    have := mod_last f x r
    simp [this]

theorem dir_at (way : Int) (cur : List T5) (h : 0 < cur.length) : ∃ r, dirL way cur = el5 cur (atI way cur.length) :: r ∧ dirL way (cur.take (atI way cur.length) ++ cur.drop (atI way cur.length + 1)) = r ∧ ∀ f : T5 → T5, dirL way (cur.modify (atI way cur.length) f) = f (el5 cur (atI way cur.length)) :: r := by
  unfold dirL atI
  by_cases w : way = 2
  · simp only [if_pos w]
    rcases List.eq_nil_or_concat cur with e | ⟨r, x, e⟩
    · rw [e] at h; simp at h
    · rw [List.concat_eq_append] at e
      subst e
      refine ⟨r.reverse, ?_, ?_, fun f => ?_⟩
      · simp [el5, List.getD]
      · simp
      · have : (r ++ [x]).modify ((r ++ [x]).length - 1) f = r ++ [f x] := by
          rw [show (r ++ [x]).length - 1 = r.length by simp]
          exact mod_last f x r
        rw [this]
        simp [el5, List.getD]
  · simp only [if_neg w]
    cases cur with
    | nil => simp at h
    | cons x r => exact ⟨r, rfl, by simp, fun f => rfl⟩

/-- The place of lot j in the order in which they are taken. -/
def plI (way : Int) (n j : Nat) : Nat := if way = 2 then n - 1 - j else j

theorem dir_el (way : Int) (l : List T5) (j : Nat) (h : j < l.length) : el5 (dirL way l) j = el5 l (plI way l.length j) := by
  unfold dirL plI
  by_cases w : way = 2
  · rw [if_pos w, if_pos w]
    simp [el5, List.getD, List.getElem?_reverse h]
  · rw [if_neg w, if_neg w]

theorem el_ext {ps qs : List T5} (hl : ps.length = qs.length) (h : ∀ i, i < ps.length → el5 ps i = el5 qs i) : ps = qs := by
  apply List.ext_getElem hl
  intro i h1 h2
  have := h i h1
  simpa [el5, List.getD, h1, h2] using this

theorem el_modify (l : List T5) (k i : Nat) (f : T5 → T5) (h : i < l.length) : el5 (l.modify k f) i = if k = i then f (el5 l i) else el5 l i := by
  unfold el5
  rw [List.getD_eq_getElem?_getD, List.getD_eq_getElem?_getD, List.getElem?_modify, List.getElem?_eq_getElem h]
  by_cases e : k = i
  · simp [e]
  · simp [e]

theorem dir_modify (way : Int) (l : List T5) (j : Nat) (f : T5 → T5) (h : j < l.length) : dirL way (l.modify (plI way l.length j) f) = (dirL way l).modify j f := by
  apply el_ext
  · rw [dir_len]; simp [dir_len]
  · intro i hi
    rw [dir_len] at hi
    have hi : i < l.length := by simpa using hi
    rw [dir_el _ _ _ (by simpa using hi), el_modify _ _ _ _ (by unfold plI; simp; split <;> omega), el_modify _ _ _ _ (by rw [dir_len]; exact hi), dir_el _ _ _ hi]
    rw [show (l.modify (plI way l.length j) f).length = l.length by simp]
    unfold plI
    by_cases w : way = 2
    · rw [if_pos w, if_pos w]
      by_cases e : j = i
      · rw [if_pos (by omega), if_pos e]
      · rw [if_neg (by omega), if_neg e]
    · rw [if_neg w, if_neg w]

theorem take_modify (l : List T5) (j : Nat) (f : T5 → T5) (h : j < l.length) : (l.modify j f).take (j + 1) = l.take j ++ [f (el5 l j)] ∧ (l.modify j f).drop (j + 1) = l.drop (j + 1) := by
  constructor
  · rw [take_next (by simpa using h), el_modify _ _ _ _ h, if_pos rfl, List.take_modify]
    congr 1
    apply el_ext
    · simp
    · intro i hi
      have hi : i < j := by simp at hi; omega
      rw [el_modify _ _ _ _ (by simp; omega), if_neg (by omega)]
  · apply el_ext
    · simp
    · intro i hi
      simp at hi
      simp only [el5, List.getD, List.getElem?_drop, List.getElem?_modify]
      have ne : ¬ j = j + 1 + i := by omega
      simp [ne]

/-- Taking by the mean. -/
def meanL (own : List T5) (q : Int) : List T5 := if q = sumQ own then [] else [((el5 own 0).1, (el5 own 0).2.1, (el5 own 0).2.2.1, sumQ own - q, sumC own - sumC own * q / sumQ own)]
def meanC (own : List T5) (q : Int) : Int := sumC own * q / sumQ own

/-- What is left, and what was taken cost, by any way. -/
def takeL (way : Int) (own : List T5) (q : Int) : List T5 := if way = 3 then meanL own q else leftW way own q
def takeC (way : Int) (own : List T5) (q : Int) : Int := if way = 3 then meanC own q else costW way own q

theorem leftF_key {a i : Int} : ∀ (l : List T5) (q : Int), (∀ p ∈ l, p.1 = a ∧ p.2.1 = i) → (∀ p ∈ leftF l q, p.1 = a ∧ p.2.1 = i) ∧ (leftF l q).length ≤ l.length
  | [], q, h => ⟨by simp [leftF], by simp [leftF]⟩
  | p :: r, q, h => by
    have hp := h p List.mem_cons_self
    have hr : ∀ z ∈ r, z.1 = a ∧ z.2.1 = i := fun z hz => h z (List.mem_cons_of_mem _ hz)
    unfold leftF
    split
    · exact ⟨h, Nat.le_refl _⟩
    · split
      · obtain ⟨h1, h2⟩ := leftF_key r (q - p.2.2.2.1) hr
        exact ⟨h1, by simp; omega⟩
      · refine ⟨fun z hz => ?_, by simp⟩
        rcases List.mem_cons.1 hz with rfl | hz
        · exact hp
        · exact hr z hz

theorem takeL_key {a i : Int} {way : Int} {own : List T5} {q : Int} (h : ∀ p ∈ own, p.1 = a ∧ p.2.1 = i) (ne : 0 < own.length) : (∀ p ∈ takeL way own q, p.1 = a ∧ p.2.1 = i) ∧ (takeL way own q).length ≤ own.length := by
  unfold takeL
  split
  · unfold meanL
    split
    · exact ⟨by simp, by simp⟩
    · refine ⟨fun p hp => ?_, by simp; omega⟩
      rw [List.mem_singleton] at hp
      subst hp
      exact h (el5 own 0) (getD_mem ne)
  · unfold leftW
    have := leftF_key (dirL way own) q (fun p hp => h p (dir_mem.1 hp))
    refine ⟨fun p hp => this.1 p (dir_mem.1 hp), ?_⟩
    rw [dir_len]
    have := this.2
    rw [dir_len] at this
    exact this

/-- What LotsOf answers. -/
def ofL (ps : List T5) (a i : Int) (ok : Bool) : List T5 := if ok = true then ownL ps a i else []

theorem of_len (ps : List T5) (a i : Int) (ok : Bool) : (ofL ps a i ok).length ≤ ps.length := by
  unfold ofL
  split
  · exact List.length_filter_le _ _
  · simp

theorem right_pos {ps : List T5} (h : Right ps) : ∀ p ∈ ps, Pos p := by
  intro p hp
  obtain ⟨i, hi, rfl⟩ := mem_getD hp
  have := (h.2.1 i hi).1
  exact this.2.2.2

theorem own_pos {ps : List T5} (h : Right ps) (a i : Int) : (∀ p ∈ ownL ps a i, Pos p) ∧ sumQ (ownL ps a i) ≤ 1000000000000000 ∧ sumC (ownL ps a i) ≤ 1000000000000000 := by
  refine ⟨fun p hp => right_pos h p (List.mem_filter.1 hp).1, ?_⟩
  obtain ⟨e1, e2⟩ := own_sums a i ps
  rw [e1, e2]
  exact h.2.2 a i

theorem of_good {ps : List T5} {ok : Bool} (a i : Int) (h : Says ok (Right ps)) : (∀ p ∈ ofL ps a i ok, Pos p) ∧ sumQ (ofL ps a i ok) ≤ 1000000000000000 ∧ sumC (ofL ps a i ok) ≤ 1000000000000000 := by
  cases ok
  · exact ⟨fun p hp => absurd hp List.not_mem_nil, by simp [ofL, sumQ], by simp [ofL, sumC]⟩
  · exact own_pos h.yes a i

theorem left_part {p : T5} {r : List T5} {q : Int} (q0 : 0 < q) (lt : q < p.2.2.2.1) : leftF (p :: r) q = after p q :: r ∧ costF (p :: r) q = pcost p.2.2.2.2 p.2.2.2.1 q := by
  have e : prt q p.2.2.2.1 = q := by unfold prt; split <;> omega
  have q1 : ¬ q ≤ 0 := by omega
  have q2 : ¬ p.2.2.2.1 ≤ q := by omega
  rw [leftF_cons, costF_cons, if_neg q1, if_neg q1, if_neg q2, if_neg q2]
  unfold after pcost
  rw [e]
  exact ⟨rfl, rfl⟩
theorem left_full {p : T5} {r : List T5} {q : Int} (q0 : 0 < q) (le : p.2.2.2.1 ≤ q) : leftF (p :: r) q = leftF r (q - p.2.2.2.1) ∧ costF (p :: r) q = p.2.2.2.2 + costF r (q - p.2.2.2.1) := by
  have q1 : ¬ q ≤ 0 := by omega
  rw [leftF_cons, costF_cons, if_neg q1, if_neg q1, if_pos le, if_pos le]
  exact ⟨rfl, rfl⟩

/-- Two fields of an element that are stored one behind the other. -/
theorem mod_mod (l : List T5) (m : Nat) (x y : Int) : (l.modify m (fun p => (p.1, p.2.1, p.2.2.1, x, p.2.2.2.2))).modify m (fun p => (p.1, p.2.1, p.2.2.1, p.2.2.2.1, y)) = l.modify m (fun p => (p.1, p.2.1, p.2.2.1, x, y)) := by
  apply el_ext
  · simp
  · intro i hi
    have hi : i < l.length := by simpa using hi
    rw [el_modify _ _ _ _ (by simpa using hi), el_modify _ _ _ _ hi, el_modify _ _ _ _ hi]
    by_cases e : m = i
    · simp [e]
    · simp [e]
theorem mod_take (l : List T5) (m : Nat) (f : T5 → T5) (h : m < l.length) : (l.modify m f).take m = l.take m ∧ (l.modify m f).drop (m + 1) = l.drop (m + 1) := by
  refine ⟨?_, (take_modify l m f h).2⟩
  apply el_ext
  · simp
  · intro i hi
    have hi : i < m := by simp at hi; omega
    have a : el5 ((l.modify m f).take m) i = el5 (l.modify m f) i := by simp [el5, List.getD, hi]
    have b : el5 (l.take m) i = el5 l i := by simp [el5, List.getD, hi]
    rw [a, b, el_modify _ _ _ _ (by omega), if_neg (by omega)]
theorem mod_mem {l : List T5} {m : Nat} {f : T5 → T5} {p : T5} (h : m < l.length) (hp : p ∈ l.modify m f) : p ∈ l ∨ p = f (el5 l m) := by
  obtain ⟨i, hi, rfl⟩ := mem_getD hp
  have hi : i < l.length := by simpa using hi
  rw [el_modify _ _ _ _ hi]
  by_cases e : m = i
  · subst e; rw [if_pos rfl]; exact .inr rfl
  · rw [if_neg e]; exact .inl (getD_mem hi)
theorem cutout_mem {l : List T5} {m : Nat} {p : T5} (hp : p ∈ l.take m ++ l.drop (m + 1)) : p ∈ l := by
  rcases List.mem_append.1 hp with h | h
  · exact List.mem_of_mem_take h
  · exact List.mem_of_mem_drop h

end Go.Proofs.Ytophnnmbgpinfaa.Takes
