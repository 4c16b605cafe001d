/- Marks on lists of files. Conditions: lists of at most 2^20 files. -/
import Derived.Test.YtejbbhjhinkcdaaMarkF14
namespace Go.Proofs.Ytejbbhjhinkcdaa.MarkFS14
open Go.ChangeShapes Go.WideShapes Go.ChangeAt Go.RowKit Fil14 MarkF14
set_option linter.unusedVariables false
set_option linter.unusedSimpArgs false

/-- The marks of n files. -/
def marks (s : Int) (n : Nat) : List TF := (List.range n).map fun (i : Nat) => (s + 3 * (i : Int), mt (s + 3 * (i : Int) + 1), mt (s + 3 * (i : Int) + 2))

theorem marks_len (s : Int) (n : Nat) : (marks s n).length = n := by simp [marks]
theorem marks_getD (s : Int) (n i : Nat) (h : i < n) : elF (marks s n) i = (s + 3 * (i : Int), mt (s + 3 * (i : Int) + 1), mt (s + 3 * (i : Int) + 2)) := by simp [marks, List.getD, h]

/-- The marks so far, and what stood behind. -/
def marked (s : Int) (ps : List TF) (n j : Nat) : List TF := (marks s n).take j ++ ps.drop j

theorem marked_zero (s : Int) (ps : List TF) (n : Nat) : marked s ps n 0 = ps := by simp [marked]
theorem marked_all (s : Int) (ps : List TF) (n : Nat) (h : ps.length = n) : marked s ps n n = marks s n := by
  unfold marked
  rw [List.take_of_length_le (by rw [marks_len]; exact Nat.le_refl _), List.drop_of_length_le (by omega), List.append_nil]

theorem marked_step (s : Int) (ps : List TF) (n j : Nat) (h : ps.length = n) (hj : j < n) : (((marked s ps n j).modify j fun p => (s + 3 * (j : Int), p.2)).modify j (fun p => (p.1, mt (s + 3 * (j : Int) + 1), p.2.2))).modify j (fun p => (p.1, p.2.1, mt (s + 3 * (j : Int) + 2))) = marked s ps n (j + 1) := by
  unfold marked
  have l := marks_len s n
  have g := marks_getD s n j hj
  have l1 : ((marks s n).take j).length = j := by simp; omega
  have l2 : ((marks s n).take (j + 1)).length = j + 1 := by simp; omega
  apply List.ext_getElem?
  intro i
  rw [List.getElem?_modify, List.getElem?_modify, List.getElem?_modify]
  by_cases e : j = i
  · subst e
    rw [List.getElem?_append_right (by omega), List.getElem?_append_left (by omega), List.getElem?_take, if_pos (by omega), l1]
    have hg : (marks s n)[j]? = some (s + 3 * (j : Int), mt (s + 3 * (j : Int) + 1), mt (s + 3 * (j : Int) + 2)) := by
      rw [← g]; simp [List.getD, l, hj]
    rw [hg]
    simp [List.getElem?_drop, h, hj]
  · by_cases d : i < j
    · rw [List.getElem?_append_left (by omega), List.getElem?_append_left (by omega), List.getElem?_take, List.getElem?_take, if_pos d, if_pos (by omega)]
      simp [e]
    · rw [List.getElem?_append_right (by omega), List.getElem?_append_right (by omega), l1, l2]
      simp only [List.getElem?_drop]
      rw [show j + (i - j) = i by omega, show j + 1 + (i - (j + 1)) = i by omega]
      simp [e]

end Go.Proofs.Ytejbbhjhinkcdaa.MarkFS14
