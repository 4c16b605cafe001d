/- The order of shares: whose rest is more comes first, of several with as much the lower number. There is just one such order of all numbers; inserting the next number where the model does keeps it; an array that is sorted by the program's comparison is it. No program is walked here. -/
import Derived.Test.YtdnpjjbphamcmaaQuota
import Derived.Sort.Statements
namespace Go.Proofs.Ytdnpjjbphamcmaa.Order
open Weigh Quota

/-- Number a stands ahead of number b. -/
def Ahead (t : Int) (xs : List Int) (a b : Nat) : Prop := R t xs b < R t xs a ∨ (R t xs a = R t xs b ∧ a < b)

theorem Ahead.asymm {t : Int} {xs : List Int} {a b : Nat} (h : Ahead t xs a b) (k : Ahead t xs b a) : False := by
  unfold Ahead at *; omega
theorem Ahead.total (t : Int) (xs : List Int) (a b : Nat) (h : a ≠ b) : Ahead t xs a b ∨ Ahead t xs b a := by
  unfold Ahead; omega
theorem Ahead.rest {t : Int} {xs : List Int} {a b : Nat} (h : Ahead t xs a b) : R t xs b ≤ R t xs a := by
  unfold Ahead at h; omega

/-- The order of the first n numbers. -/
def IsOrder (t : Int) (xs : List Int) (n : Nat) (L : List Nat) : Prop := L.Perm (List.range n) ∧ L.Pairwise (Ahead t xs)

theorem perm_unique (t : Int) (xs : List Int) : ∀ (L M : List Nat), L.Perm M → L.Pairwise (Ahead t xs) → M.Pairwise (Ahead t xs) → L = M := by
  intro L
  induction L with
  | nil => intro M h _ _; exact (List.Perm.nil_eq h)
  | cons a L ih =>
    intro M h h1 h2
    cases M with
    | nil => exact absurd h.length_eq (by simp)
    | cons b M =>
      have e : a = b := by
        by_cases e : a = b
        · exact e
        · have m1 : a ∈ b :: M := h.subset (List.mem_cons_self ..)
          have m2 : b ∈ a :: L := h.symm.subset (List.mem_cons_self ..)
          have m1' : a ∈ M := by simpa [e] using m1
          have m2' : b ∈ L := by simpa [Ne.symm e] using m2
          exact (Ahead.asymm ((List.pairwise_cons.1 h1).1 b m2') ((List.pairwise_cons.1 h2).1 a m1')).elim
      subst e
      rw [ih M (List.Perm.cons_inv h) (List.pairwise_cons.1 h1).2 (List.pairwise_cons.1 h2).2]

theorem IsOrder.unique {t : Int} {xs : List Int} {n : Nat} {L M : List Nat} (h : IsOrder t xs n L) (k : IsOrder t xs n M) : L = M :=
  perm_unique t xs L M (h.1.trans k.1.symm) h.2 k.2

theorem IsOrder.len {t : Int} {xs : List Int} {n : Nat} {L : List Nat} (h : IsOrder t xs n L) : L.length = n := by
  have := h.1.length_eq; simpa using this

theorem IsOrder.lt {t : Int} {xs : List Int} {n : Nat} {L : List Nat} (h : IsOrder t xs n L) (a : Nat) (ha : a ∈ L) : a < n := by
  have := h.1.subset ha; simpa using this

theorem IsOrder.getD_lt {t : Int} {xs : List Int} {n : Nat} {L : List Nat} (h : IsOrder t xs n L) (j : Nat) (hj : j < n) : L.getD j 0 < n := by
  have hl := h.len
  refine h.lt _ ?_
  rw [List.getD_eq_getElem?_getD, List.getElem?_eq_getElem (by omega)]
  exact List.getElem_mem _

/-- Where the next number goes. -/
theorem IsOrder.insert {t : Int} {xs : List Int} {n : Nat} {L : List Nat} (h : IsOrder t xs n L) (k : Nat) (hk : k ≤ n)
    (hd : ∀ j, k ≤ j → j < n → R t xs (L.getD j 0) < R t xs n) (ht : k = 0 ∨ R t xs n ≤ R t xs (L.getD (k - 1) 0)) :
    IsOrder t xs (n + 1) (L.take k ++ n :: L.drop k) := by
  have hl := h.len
  constructor
  · refine List.perm_middle.trans ?_
    rw [List.take_append_drop, List.range_succ]
    exact (List.Perm.cons n h.1).trans (List.perm_append_singleton n (List.range n)).symm
  · have hp := h.2
    rw [← List.take_append_drop k L, List.pairwise_append] at hp
    obtain ⟨p1, p2, p3⟩ := hp
    rw [List.pairwise_append, List.pairwise_cons]
    refine ⟨p1, ⟨fun b hb => ?_, p2⟩, fun a ha b hb => ?_⟩
    · obtain ⟨j, hj, rfl⟩ := List.mem_iff_getElem.1 hb
      have hj' : k + j < L.length := by simpa [Nat.lt_sub_iff_add_lt'] using hj
      have := hd (k + j) (by omega) (by omega)
      rw [List.getD_eq_getElem?_getD, List.getElem?_eq_getElem hj'] at this
      left
      simpa using this
    · rcases List.mem_cons.1 hb with rfl | hb
      · have ha' : a ∈ L := List.mem_of_mem_take ha
        have han := h.lt a ha'
        rcases ht with rfl | ht
        · simp at ha
        · have hk0 : 0 < k := by
            cases k with
            | zero => simp at ha
            | succ k => omega
          obtain ⟨j, hj, rfl⟩ := List.mem_iff_getElem.1 ha
          have hj' : j < k := by
            have : (L.take k).length ≤ k := by simp; omega
            omega
          have hjl : j < L.length := by omega
          have e : (L.take k)[j] = L[j] := by simp
          have e2 : L.getD (k - 1) 0 = L[k - 1]'(by omega) := by rw [List.getD_eq_getElem?_getD, List.getElem?_eq_getElem (by omega)]; rfl
          have hr : R t xs (L[k - 1]'(by omega)) ≤ R t xs L[j] := by
            by_cases ej : j = k - 1
            · subst ej; exact Int.le_refl _
            · exact Ahead.rest (List.pairwise_iff_getElem.1 h.2 j (k - 1) hjl (by omega) (by omega))
          rw [e2] at ht
          rw [e] at han ⊢
          unfold Ahead
          omega
      · exact p3 a ha b hb

/-- The program's comparison of two numbers. -/
def cf (t : Int) (xs : List Int) {n : Nat} (x y : Fin n) : Int :=
  let c (u v : Int) : Int := if u < v then -1 else if v < u then 1 else 0
  if c (R t xs y.val) (R t xs x.val) = 0 then c x.val y.val else c (R t xs y.val) (R t xs x.val)

theorem cf_neg (t : Int) (xs : List Int) {n : Nat} (x y : Fin n) : cf t xs x y < 0 ↔ Ahead t xs x.val y.val := by
  unfold cf Ahead
  generalize R t xs y.val = u
  generalize R t xs x.val = v
  simp only
  repeat' split
  all_goals omega

/-- All numbers below n. -/
def allOf (n : Nat) : Array (Fin n) := Array.ofFn fun i => i

theorem allOf_vals (n : Nat) : (allOf n).toList.map Fin.val = List.range n := by
  apply List.ext_getElem
  · simp [allOf]
  · intro i h1 h2
    simp [allOf]

theorem extract_all {α : Type} (d : Array α) (n : Nat) (h : d.size = n) : d.extract 0 n = d := by
  subst h
  exact Array.extract_size

theorem isOrder_of_sorted (t : Int) (xs : List Int) (m : Nat) (d : Array (Fin (m + 1))) (hp : Go.Sort.PermIn 0 (allOf (m + 1)).size (allOf (m + 1)) d)
    (hs : Go.Sort.SortedIn (fun x y => decide (cf t xs x y < 0)) 0 (allOf (m + 1)).size d) : IsOrder t xs (m + 1) (d.toList.map Fin.val) := by
  obtain ⟨hsz, _, hperm⟩ := hp
  have hn : (allOf (m + 1)).size = m + 1 := by simp [allOf]
  rw [hn] at hsz hs hperm
  rw [extract_all d _ hsz, extract_all (allOf (m + 1)) _ hn] at hperm
  have hp2 : (d.toList.map Fin.val).Perm (List.range (m + 1)) := by
    rw [← allOf_vals]
    exact hperm.map _
  refine ⟨hp2, ?_⟩
  have nd : (d.toList.map Fin.val).Nodup := hp2.nodup_iff.2 List.nodup_range
  rw [List.pairwise_iff_getElem]
  intro i j hi hj hij
  have hi' : i < d.size := by simpa using hi
  have hj' : j < d.size := by simpa using hj
  have h := hs i j (Nat.zero_le _) hij (by omega)
  rw [getElem!_pos d i hi', getElem!_pos d j hj'] at h
  have hne : d[i].val ≠ d[j].val := by
    have := List.pairwise_iff_getElem.1 nd i j hi hj hij
    simpa using this
  simp only [decide_eq_false_iff_not, cf_neg] at h
  simp only [List.getElem_map, Array.getElem_toList]
  rcases Ahead.total t xs _ _ hne with k | k
  · exact k
  · exact absurd k h

/-- Numbers as the memory holds them. -/
def ints (L : List Nat) : List Int := L.map fun (i : Nat) => (i : Int)

theorem ints_len (L : List Nat) : (ints L).length = L.length := by simp [ints]
theorem ints_getD (L : List Nat) (j : Nat) : (ints L).getD j 0 = ((L.getD j 0 : Nat) : Int) := by
  unfold ints
  rw [List.getD_eq_getElem?_getD, List.getD_eq_getElem?_getD, List.getElem?_map]
  cases L[j]? <;> rfl

/-- The rests of the first k numbers. -/
def rests (t : Int) (xs : List Int) (k : Nat) : List Int := (List.range k).map (R t xs)

theorem rests_len (t : Int) (xs : List Int) (k : Nat) : (rests t xs k).length = k := by simp [rests]
theorem rests_getD (t : Int) (xs : List Int) (k j : Nat) (h : j < k) : (rests t xs k).getD j 0 = R t xs j := by simp [rests, List.getD, h]
theorem rests_succ (t : Int) (xs : List Int) (k : Nat) : rests t xs (k + 1) = rests t xs k ++ [R t xs k] := by simp [rests, List.range_succ]

/-- What ShareOrder tells. -/
def OTells (t : Int) (xs : List Int) (L : List Nat) : Prop := (Weigh.Good xs ∧ Tot t ∧ IsOrder t xs xs.length L) ∨ (¬ (Weigh.Good xs ∧ Tot t) ∧ L = [])

theorem OTells.len_le {t : Int} {xs : List Int} {L : List Nat} (h : OTells t xs L) : L.length ≤ xs.length := by
  rcases h with h | h
  · exact Nat.le_of_eq h.2.2.len
  · rw [h.2]; exact Nat.zero_le _

theorem OTells.unique {t : Int} {xs : List Int} {L M : List Nat} (h : OTells t xs L) (k : OTells t xs M) : L = M := by
  rcases h with h | h
  · rcases k with k | k
    · exact h.2.2.unique k.2.2
    · exact absurd ⟨h.1, h.2.1⟩ k.1
  · rcases k with k | k
    · exact absurd ⟨k.1, k.2.1⟩ h.1
    · rw [h.2, k.2]

end Go.Proofs.Ytdnpjjbphamcmaa.Order
