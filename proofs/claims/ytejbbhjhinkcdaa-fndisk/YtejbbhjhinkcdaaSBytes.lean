/- Bytes: the specification's Check. -/
import Derived.Test.YtejbbhjhinkcdaaRows
import Derived.WalkKit
import Derived.ProofKit
import Derived.OpenShut
import Derived.Below
import Derived.BigQuiet
namespace Go.Proofs.Ytejbbhjhinkcdaa.SBytes
open Go.ChangeShapes Go.WideShapes Go.ChangeAt Go.RowKit
set_option linter.unusedVariables false
set_option linter.unusedSimpArgs false

theorem hide {p : Prop} (h : p) : Hid p := h
theorem unhide {p : Prop} (h : Hid p) : p := h

/-- The bytes of a list: block g from its head on. -/
def AtB (w : World) (g : Nat) (xs : List Int) : Prop := ∀ i, i < xs.length → w.cell? ⟨g, i, none⟩ = some (.int .u8 (xs.getD i 0)) ∧ 0 ≤ xs.getD i 0 ∧ xs.getD i 0 ≤ 255

/-- One byte more in the sum. -/
def stepC (p : Int × Int) (d : Int) : Int × Int := ((p.1 + d + 1) % 65535, (p.2 + (p.1 + d + 1) % 65535) % 65535)
/-- The sum of the first k bytes. -/
def chk (xs : List Int) : Nat → Int × Int
  | 0 => (0, 0)
  | k + 1 => stepC (chk xs k) (xs.getD k 0)

theorem chk_in (xs : List Int) (k : Nat) : 0 ≤ (chk xs k).1 ∧ (chk xs k).1 < 65535 ∧ 0 ≤ (chk xs k).2 ∧ (chk xs k).2 < 65535 := by
  cases k with
  | zero => simp [chk]
  | succ k => simp only [chk, stepC]; omega

theorem AtB.below {w w' : World} {g B : Nat} {xs : List Int} (h : AtB w g xs) (k : Below B w w') (hg : g < B) : AtB w' g xs := fun i hi => ⟨(k.cell (p := ⟨g, i, none⟩) hg).trans (h i hi).1, (h i hi).2⟩

/-- Check of bytes. -/
def chkB (xs : List Int) : Int := 65536 * (chk xs xs.length).2 + (chk xs xs.length).1

theorem tmod_pos (a : Int) (h : 0 ≤ a) : a.tmod 65535 = a % 65535 := Int.tmod_eq_emod_of_nonneg h

/-- What the first k bytes from at on are worth. -/
def val (xs : List Int) (at' : Nat) : Nat → Int
  | 0 => 0
  | k + 1 => val xs at' k + xs.getD (at' + k) 0 % 128 * 128 ^ k
/-- The number that is read from at on, k bytes being read and f left. -/
def getF (xs : List Int) (at' : Nat) : Nat → Nat → Int × Int × Bool
  | 0, _ => (0, 0, false)
  | f + 1, k => if at' + k < xs.length then (if xs.getD (at' + k) 0 < 128 then (if xs.getD (at' + k) 0 = 0 ∧ 0 < k then (0, 0, false) else (val xs at' (k + 1), ((at' + k + 1 : Nat) : Int), true)) else getF xs at' f (k + 1)) else (0, 0, false)
/-- The number that is read from at on. -/
def getN (xs : List Int) (at' : Int) : Int × Int × Bool := if at' < 0 ∨ (xs.length : Int) ≤ at' then (0, 0, false) else getF xs at'.toNat 9 0

theorem pow_le (k : Nat) (h : k ≤ 8) : 1 ≤ (128 : Int) ^ k ∧ (128 : Int) ^ k ≤ 72057594037927936 := by
  have : k = 0 ∨ k = 1 ∨ k = 2 ∨ k = 3 ∨ k = 4 ∨ k = 5 ∨ k = 6 ∨ k = 7 ∨ k = 8 := by omega
  rcases this with rfl | rfl | rfl | rfl | rfl | rfl | rfl | rfl | rfl <;> decide

theorem pow_more (k : Nat) : (128 : Int) ^ (k + 1) = 128 ^ k * 128 := Int.pow_succ 128 k

theorem val_in (xs : List Int) (at' k : Nat) : 0 ≤ val xs at' k ∧ val xs at' k < 128 ^ k := by
  induction k with
  | zero => simp [val]
  | succ k ih =>
    have p : (0 : Int) ≤ 128 ^ k := by omega
    have d0 : 0 ≤ xs.getD (at' + k) 0 % 128 := by omega
    have d1 : xs.getD (at' + k) 0 % 128 ≤ 127 := by omega
    have m0 := Int.mul_nonneg d0 p
    have m1 := Int.mul_le_mul_of_nonneg_right d1 p
    rw [pow_more]
    simp only [val]
    omega

end Go.Proofs.Ytejbbhjhinkcdaa.SBytes
