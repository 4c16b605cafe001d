/- Bytes: the specification's Unseal. -/
import Derived.Test.YtpplmecddmpjbaaSPut11
import Derived.Deep.RegionHeld3
namespace Go.Proofs.Ytpplmecddmpjbaa.SUnseal11
open Go.ChangeShapes Go.WideShapes Go.ChangeAt Go.RowKit SBytes SPut11
open ByteH (Own At)
set_option linter.unusedVariables false
set_option linter.unusedSimpArgs false

theorem w64 (x : Int) (h0 : 0 ≤ x) (h1 : x ≤ 9223372036854775807) : IntKind.i64.wrap x = x := by
  rw [IntKind.wrap_i64]
  omega

/-- The bytes of a list from a place on. -/
def piece (xs : List Int) (f n : Nat) : List Int := (xs.drop f).take n
theorem piece_len {xs : List Int} {f n : Nat} (h : f + n ≤ xs.length) : (piece xs f n).length = n := by simp [piece]; omega
theorem piece_get {xs : List Int} {f n i : Nat} (h : i < n) : (piece xs f n).getD i 0 = xs.getD (f + i) 0 := by simp [piece, List.getD, h]

/-- Four bytes as a number, the lowest first. -/
def fourN (xs : List Int) (f : Nat) : Int := xs.getD f 0 + xs.getD (f + 1) 0 * 256 + xs.getD (f + 2) 0 * 65536 + xs.getD (f + 3) 0 * 16777216

/-- What Unseal answers. -/
def unsealN (xs : List Int) (p : Int) : List Int × Int × Int :=
  if (getN xs p).2.2 = false ∨ 9000 < (getN xs p).1 then ([], 0, 1)
  else if (xs.length : Int) - (getN xs p).2.1 < (getN xs p).1 + 4 then ([], 0, 2)
  else if chkB (piece xs (getN xs p).2.1.toNat (getN xs p).1.toNat) = fourN xs ((getN xs p).2.1.toNat + (getN xs p).1.toNat) then (piece xs (getN xs p).2.1.toNat (getN xs p).1.toNat, (getN xs p).2.1 + (getN xs p).1 + 4, 0)
  else ([], 0, 3)

theorem getF_in (xs : List Int) (q : Nat) : ∀ f k, (getF xs q f k).2.2 = true → 0 ≤ (getF xs q f k).1 ∧ 0 ≤ (getF xs q f k).2.1 ∧ (getF xs q f k).2.1 ≤ xs.length
  | 0, k => by simp [getF]
  | f + 1, k => by
    intro h
    simp only [getF] at h ⊢
    by_cases a : q + k < xs.length
    · rw [if_pos a] at h ⊢
      by_cases b : xs.getD (q + k) 0 < 128
      · rw [if_pos b] at h ⊢
        by_cases c : xs.getD (q + k) 0 = 0 ∧ 0 < k
        · rw [if_pos c] at h; simp at h
        · rw [if_neg c]
          exact ⟨(val_in xs q (k + 1)).1, by simp only; omega, by simp only; omega⟩
      · rw [if_neg b] at h ⊢
        exact getF_in xs q f (k + 1) h
    · rw [if_neg a] at h; simp at h

theorem getN_in (xs : List Int) (p : Int) (h : (getN xs p).2.2 = true) : 0 ≤ (getN xs p).1 ∧ 0 ≤ (getN xs p).2.1 ∧ (getN xs p).2.1 ≤ xs.length := by
  unfold getN at h ⊢
  by_cases a : p < 0 ∨ (xs.length : Int) ≤ p
  · rw [if_pos a] at h; simp at h
  · rw [if_neg a] at h ⊢
    exact getF_in xs _ 9 0 h

end Go.Proofs.Ytpplmecddmpjbaa.SUnseal11
