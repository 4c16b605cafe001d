/- Bytes: the program's GetNums. -/
import Derived.Test.YtnkbkaeafkdpiaaIRd11
import Derived.Test.YtnkbkaeafkdpiaaSGets11
import Derived.Test.YtnkbkaeafkdpiaaVOI
namespace Go.Proofs.Ytnkbkaeafkdpiaa.IGets11
open Go.ChangeShapes Go.WideShapes Go.ChangeAt Go.RowKit SBytes SPut11 SPuts11 IRd11
set_option linter.unusedVariables false
set_option linter.unusedSimpArgs false

theorem getN_next (xs : List Int) (x : Int) (h20 : xs.length ≤ 1048576) (h : (getN xs x).2.2 = true) : (getN xs x).2.1 ≤ 9223372036854775807 := by
  have : ∀ f k, (getF xs x.toNat f k).2.2 = true → (getF xs x.toNat f k).2.1 ≤ xs.length := by
    intro f
    induction f with
    | zero => intro k; simp [getF]
    | succ f ih =>
      intro k h
      simp only [getF] at h ⊢
      by_cases a : x.toNat + k < xs.length
      · rw [if_pos a] at h ⊢
        by_cases b : xs.getD (x.toNat + k) 0 < 128
        · rw [if_pos b] at h ⊢
          by_cases c : xs.getD (x.toNat + k) 0 = 0 ∧ 0 < k
          · rw [if_pos c] at h; simp at h
          · rw [if_neg c]; simp only; omega
        · rw [if_neg b] at h ⊢
          exact ih (k + 1) h
      · rw [if_neg a] at h; simp at h
  unfold getN at h ⊢
  by_cases a : x < 0 ∨ (xs.length : Int) ≤ x
  · rw [if_pos a]; simp
  · rw [if_neg a] at h ⊢
    have := this 9 0 h
    omega

theorem cell_app {u w5 : World} {o : Obj} {g : Nat} (gr : (u.alloc o).grownBy w5 (some g)) {b : Nat} (i : Nat) (hb : b < u.heap.size) (hg : b ≠ g) : w5.cell? ⟨b, i, none⟩ = u.cell? ⟨b, i, none⟩ :=
  World.cell?_of_block (w := u) ((gr.block b (by simp; omega) (by simpa using hg)).trans (Below.heap_alloc u _ _ hb))

end Go.Proofs.Ytnkbkaeafkdpiaa.IGets11
