/- Sealed bytes, read again; and with one byte turned. No memory, lists alone. -/
import Derived.Test.YtpplmecddmpjbaaRT11
import Derived.Test.YtpplmecddmpjbaaSSeal11
import Derived.Test.YtpplmecddmpjbaaSUnseal11
namespace Go.Proofs.Ytpplmecddmpjbaa.RTS11
open Go.ChangeShapes Go.WideShapes Go.ChangeAt Go.RowKit SBytes SPut11 SPuts11 SSeal11 SUnseal11 RT11
set_option linter.unusedVariables false
set_option linter.unusedSimpArgs false

theorem getD_app_r (l r : List Int) (i : Nat) : (l ++ r).getD (l.length + i) 0 = r.getD i 0 := by
  unfold List.getD
  rw [List.getElem?_append_right (by omega)]
  simp

theorem piece_mid (l m r : List Int) : piece (l ++ (m ++ r)) l.length m.length = m := by simp [piece]

theorem fourN_app (l r : List Int) : fourN (l ++ r) l.length = r.getD 0 0 + r.getD 1 0 * 256 + r.getD 2 0 * 65536 + r.getD 3 0 * 16777216 := by
  unfold fourN
  rw [getD_app_r l r 1, getD_app_r l r 2, getD_app_r l r 3, ← getD_app_r l r 0, Nat.add_zero]

/-- Bytes whose head is a length's form, then as many bytes, then four: what Unseal makes of them. -/
theorem unseal_at (l d c ys : List Int) (hd : d.length ≤ 9000) (hc : c.length = 4) (zs : List Int) (hz : zs = l ++ (numF d.length ++ (d ++ (c ++ ys)))) :
    unsealN zs l.length = if chkB d = c.getD 0 0 + c.getD 1 0 * 256 + c.getD 2 0 * 65536 + c.getD 3 0 * 16777216 then (d, ((l.length + (numF d.length).length + d.length + 4 : Nat) : Int), 0) else ([], 0, 3) := by
  have g := getN_num l (d ++ (c ++ ys)) d.length (by omega)
  rw [← hz] at g
  unfold unsealN
  rw [g]
  simp only
  have hlen : zs.length = l.length + (numF d.length).length + d.length + 4 + ys.length := by rw [hz]; simp; omega
  rw [if_neg (by simp; omega), if_neg (by omega), Int.toNat_natCast, Int.toNat_natCast]
  have e1 : piece zs (l.length + (numF d.length).length) d.length = d := by
    have := piece_mid (l ++ numF d.length) d (c ++ ys)
    rw [List.length_append] at this
    rw [hz, ← List.append_assoc]
    exact this
  have e2 : fourN zs (l.length + (numF d.length).length + d.length) = c.getD 0 0 + c.getD 1 0 * 256 + c.getD 2 0 * 65536 + c.getD 3 0 * 16777216 := by
    have := fourN_app (l ++ numF d.length ++ d) (c ++ ys)
    rw [List.length_append, List.length_append] at this
    rw [hz, ← List.append_assoc, ← List.append_assoc, this]
    match c, hc with
    | [c0, c1, c2, c3], _ => simp [List.getD]
  rw [e1, e2]
  split
  · refine Prod.ext rfl (Prod.ext ?_ rfl)
    simp only
    omega
  · rfl

theorem four_back (n : Int) (h0 : 0 ≤ n) (h1 : n ≤ 4294967295) : n = (four n).getD 0 0 + (four n).getD 1 0 * 256 + (four n).getD 2 0 * 65536 + (four n).getD 3 0 * 16777216 := by
  simp only [four, List.getD, List.getElem?_cons_zero, List.getElem?_cons_succ, Option.getD_some]
  omega

/-- What is sealed is read as itself. -/
theorem unseal_seal (l d ys : List Int) (hd : d.length ≤ 9000) : unsealN (l ++ (sealB d ++ ys)) l.length = (d, ((l.length + (sealB d).length : Nat) : Int), 0) := by
  have e : sealB d = numF d.length ++ (d ++ four (chkB d)) := by
    unfold sealB
    rw [if_pos hd, numB_pos (by omega), List.append_assoc, Int.toNat_natCast]
  have := unseal_at l d (four (chkB d)) ys hd rfl (l ++ (sealB d ++ ys)) (by rw [e]; simp)
  rw [this, if_pos (four_back _ (chkB_in d).1 (chkB_in d).2), e]
  refine Prod.ext rfl (Prod.ext ?_ rfl)
  simp [four]
  omega

/-- The sum of the first k bytes, each with one more. -/
def sums (xs : List Int) : Nat → Int
  | 0 => 0
  | k + 1 => sums xs k + xs.getD k 0 + 1
theorem chk_sums (xs : List Int) (k : Nat) : (chk xs k).1 = sums xs k % 65535 := by
  induction k with
  | zero => rfl
  | succ k ih =>
    simp only [chk, stepC, sums]
    rw [ih]
    omega

theorem getD_set_ne (xs : List Int) (i k : Nat) (y : Int) (h : i ≠ k) : (xs.set i y).getD k 0 = xs.getD k 0 := by simp [List.getD, h]
theorem getD_set_eq (xs : List Int) (i : Nat) (y : Int) (h : i < xs.length) : (xs.set i y).getD i 0 = y := by simp [List.getD, h]

theorem sums_set (xs : List Int) (i : Nat) (y : Int) (h : i < xs.length) : ∀ k, sums (xs.set i y) k = sums xs k + if i < k then y - xs.getD i 0 else 0
  | 0 => by simp [sums]
  | k + 1 => by
    simp only [sums]
    rw [sums_set xs i y h k]
    by_cases e : i = k
    · subst e
      rw [getD_set_eq xs i y h, if_neg (by omega), if_pos (by omega)]
      omega
    · rw [getD_set_ne xs i k y e]
      by_cases t : i < k
      · rw [if_pos t, if_pos (by omega)]; omega
      · rw [if_neg t, if_neg (by omega)]; omega

/-- One byte turned makes another sum. -/
theorem chkB_set (xs : List Int) (i : Nat) (y : Int) (h : i < xs.length) (hx : 0 ≤ xs.getD i 0 ∧ xs.getD i 0 ≤ 255) (hy : 0 ≤ y ∧ y ≤ 255) (ne : y ≠ xs.getD i 0) : chkB (xs.set i y) ≠ chkB xs := by
  intro e
  have a := chk_in xs xs.length
  have b := chk_in (xs.set i y) (xs.set i y).length
  have e1 : (chk (xs.set i y) (xs.set i y).length).1 = (chk xs xs.length).1 := by
    unfold chkB at e
    omega
  rw [chk_sums, chk_sums, List.length_set, sums_set xs i y h, if_pos h] at e1
  omega

/-- Sealed bytes with one byte behind the length turned are refused. -/
theorem unseal_turned (d : List Int) (hd : d.length ≤ 9000) (hi : ∀ i, i < d.length → 0 ≤ d.getD i 0 ∧ d.getD i 0 ≤ 255) (i : Nat) (y : Int) (h0 : (numF d.length).length ≤ i) (h1 : i < (sealB d).length) (hy : 0 ≤ y ∧ y ≤ 255) (ne : y ≠ (sealB d).getD i 0) :
    unsealN ((sealB d).set i y) 0 = ([], 0, 3) := by
  have e : sealB d = numF d.length ++ (d ++ four (chkB d)) := by
    unfold sealB
    rw [if_pos hd, numB_pos (by omega), List.append_assoc, Int.toNat_natCast]
  obtain ⟨j, rfl⟩ : ∃ j, i = (numF d.length).length + j := ⟨i - (numF d.length).length, by omega⟩
  have hc := chkB_in d
  rw [e] at ne h1 ⊢
  rw [getD_app_r] at ne
  have hs : (numF d.length ++ (d ++ four (chkB d))).set ((numF d.length).length + j) y = numF d.length ++ (d ++ four (chkB d)).set j y := by
    rw [List.set_append_right _ _ (by omega)]
    simp
  rw [hs]
  by_cases t : j < d.length
  · have s1 : (d ++ four (chkB d)).set j y = d.set j y ++ four (chkB d) := List.set_append_left _ _ t
    have g1 : (d ++ four (chkB d)).getD j 0 = d.getD j 0 := by
      unfold List.getD
      rw [List.getElem?_append_left t]
    rw [g1] at ne
    rw [s1]
    have u := unseal_at [] (d.set j y) (four (chkB d)) [] (by simpa using hd) rfl _ rfl
    simp only [List.nil_append, List.append_nil, List.length_nil, List.length_set] at u
    have z : ((0 : Nat) : Int) = 0 := rfl
    rw [z] at u
    rw [u, if_neg]
    rw [← four_back _ hc.1 hc.2]
    exact chkB_set d j y t (hi j t) hy ne
  · obtain ⟨k, rfl⟩ : ∃ k, j = d.length + k := ⟨j - d.length, by omega⟩
    have hk : k < 4 := by simp [four] at h1; omega
    have s1 : (d ++ four (chkB d)).set (d.length + k) y = d ++ (four (chkB d)).set k y := by
      rw [List.set_append_right _ _ (by omega)]
      simp
    rw [getD_app_r] at ne
    rw [s1]
    have u := unseal_at [] d ((four (chkB d)).set k y) [] hd (by simp [four]) _ rfl
    simp only [List.nil_append, List.append_nil, List.length_nil] at u
    have z : ((0 : Nat) : Int) = 0 := rfl
    rw [z] at u
    rw [u, if_neg]
    have : k = 0 ∨ k = 1 ∨ k = 2 ∨ k = 3 := by omega
    generalize chkB d = n at *
    rcases this with rfl | rfl | rfl | rfl
    all_goals
      simp [four, List.getD] at ne ⊢
      omega

end Go.Proofs.Ytpplmecddmpjbaa.RTS11
