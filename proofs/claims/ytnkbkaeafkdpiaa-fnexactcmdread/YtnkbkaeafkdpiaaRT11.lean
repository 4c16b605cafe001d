/- Forms of numbers and sealed bytes, read again: no memory, lists alone. -/
import Derived.Test.YtnkbkaeafkdpiaaSPuts11
namespace Go.Proofs.Ytnkbkaeafkdpiaa.RT11
open Go.ChangeShapes Go.WideShapes Go.ChangeAt Go.RowKit SBytes SPut11 SPuts11
set_option linter.unusedVariables false
set_option linter.unusedSimpArgs false

theorem getD_mid (l : List Int) (y : Int) (r : List Int) (q : Nat) (h : l.length = q) : (l ++ y :: r).getD q 0 = y := by
  subst h
  simp [List.getD]

theorem numF_ne (x : Nat) : numF x ≠ [] := by
  by_cases t : 127 < x
  · rw [numF_more t]; simp
  · rw [numF_last t]; simp

theorem getF_num (xs : List Int) (q : Nat) : ∀ (f x k : Nat) (l ys : List Int), xs = l ++ (numF x ++ ys) → l.length = q + k → (numF x).length ≤ f → (x = 0 → k = 0) →
    getF xs q f k = (val xs q k + (x : Int) * 128 ^ k, ((q + k + (numF x).length : Nat) : Int), true) := by
  intro f
  induction f with
  | zero =>
    intro x k l ys _ _ h _
    exact absurd (List.eq_nil_of_length_eq_zero (Nat.le_zero.1 h)) (numF_ne x)
  | succ f ih =>
    intro x k l ys hx hl hf h0
    by_cases t : 127 < x
    · rw [numF_more t] at hx hf
      have hb : xs.getD (q + k) 0 = ((x % 128 + 128 : Nat) : Int) := by rw [hx]; exact getD_mid l _ _ _ hl
      have hlen : q + k < xs.length := by rw [hx]; simp; omega
      simp only [getF]
      rw [if_pos hlen, if_neg (by rw [hb]; omega)]
      rw [ih (x / 128) (k + 1) (l ++ [((x % 128 + 128 : Nat) : Int)]) ys (by rw [hx]; simp) (by simp; omega) (by simpa using hf) (by omega)]
      have e1 : (numF x).length = (numF (x / 128)).length + 1 := by rw [numF_more t]; simp
      have e2 : val xs q (k + 1) = val xs q k + ((x % 128 : Nat) : Int) * 128 ^ k := by
        simp only [val]
        rw [hb, show (((x % 128 + 128 : Nat) : Int)) % 128 = ((x % 128 : Nat) : Int) by omega]
      have e3 : ((x : Nat) : Int) = ((x % 128 : Nat) : Int) + ((x / 128 : Nat) : Int) * 128 := by omega
      rw [e1, e2, pow_more]
      refine Prod.ext ?_ (Prod.ext ?_ rfl)
      · simp only
        rw [e3, Int.add_mul, Int.mul_assoc, Int.mul_comm (128 : Int) (128 ^ k), Int.add_assoc]
      · simp only
        omega
    · rw [numF_last t] at hx hf ⊢
      have hb : xs.getD (q + k) 0 = (x : Int) := by rw [hx]; exact getD_mid l _ _ _ hl
      have hlen : q + k < xs.length := by rw [hx]; simp; omega
      simp only [getF]
      rw [if_pos hlen, if_pos (by rw [hb]; omega), if_neg (by rw [hb]; intro h; have := h0 (by omega); omega)]
      refine Prod.ext ?_ (Prod.ext ?_ rfl)
      · simp only [val]
        rw [hb, show (x : Int) % 128 = x by omega]
      · simp

/-- A form is read as its number, behind other bytes too, whatever stands behind it. -/
theorem getN_num (l ys : List Int) (x : Nat) (hx : x ≤ 9223372036854775807) : getN (l ++ (numF x ++ ys)) l.length = ((x : Int), ((l.length + (numF x).length : Nat) : Int), true) := by
  have hp : (numF x).length ≠ 0 := fun h => numF_ne x (List.eq_nil_of_length_eq_zero h)
  unfold getN
  rw [if_neg (by simp; omega)]
  have := getF_num (l ++ (numF x ++ ys)) l.length 9 x 0 l ys rfl rfl (numF_nine hx) (fun _ => rfl)
  rw [show ((l.length : Int)).toNat = l.length by omega, this]
  simp [val]

/-- Forms one behind the other are read as their numbers. -/
theorem gets_nums : ∀ (xs l ys acc : List Int), (∀ x ∈ xs, 0 ≤ x ∧ x ≤ 9223372036854775807) → ∀ zs, zs = l ++ (xs.flatMap numB ++ ys) →
    gets zs xs.length l.length acc = (acc ++ xs, ((l.length + (xs.flatMap numB).length : Nat) : Int), true)
  | [], l, ys, acc, _, zs, hz => by simp [gets]
  | x :: r, l, ys, acc, h, zs, hz => by
    obtain ⟨x0, x1⟩ := h x (by simp)
    have e : numB x = numF x.toNat := numB_pos x0
    rw [List.flatMap_cons, e, List.append_assoc] at hz
    have g := getN_num l (r.flatMap numB ++ ys) x.toNat (by omega)
    rw [← hz] at g
    simp only [List.length_cons, gets]
    rw [g]
    simp only [if_true]
    have ih := gets_nums r (l ++ numF x.toNat) ys (acc ++ [x]) (fun y hy => h y (by simp [hy])) zs (by rw [hz]; simp)
    rw [show ((x.toNat : Nat) : Int) = x by omega]
    rw [List.length_append] at ih
    rw [ih]
    refine Prod.ext (by simp) (Prod.ext ?_ rfl)
    simp only
    rw [List.flatMap_cons, e, List.length_append]
    omega

end Go.Proofs.Ytnkbkaeafkdpiaa.RT11
