/- The laws' own marks on lists of pairs (Account), from any number on; what is counted off of a size. -/
import Derived.Test.YtophnnmbgpinfaaAccountHelp
namespace Go.Proofs.Ytophnnmbgpinfaa.AccountMark
open Go.ChangeShapes Go.WideShapes Go.ChangeAt Go.RowKit Pairs
set_option linter.unusedVariables false
set_option linter.unusedSimpArgs false

/-- The marks. -/
def marks (s : Int) (n : Nat) : List (Int × Int) := (List.range n).map fun (i : Nat) => (s + 2 * (i : Int), s + 2 * (i : Int) + 1)

theorem marks_len (s : Int) (n : Nat) : (marks s n).length = n := by simp [marks]
theorem marks_getD (s : Int) (n i : Nat) (h : i < n) : (marks s n).getD i (0, 0) = (s + 2 * (i : Int), s + 2 * (i : Int) + 1) := by simp [marks, List.getD, h]

/-- The marks so far, and what stood behind. -/
def marked (s : Int) (ps : List (Int × Int)) (n j : Nat) : List (Int × Int) := (marks s n).take j ++ ps.drop j

theorem marked_zero (s : Int) (ps : List (Int × Int)) (n : Nat) : marked s ps n 0 = ps := by simp [marked]
theorem marked_all (s : Int) (ps : List (Int × Int)) (n : Nat) (h : ps.length = n) : marked s ps n n = marks s n := by
  unfold marked
  rw [List.take_of_length_le (by rw [marks_len]; exact Nat.le_refl _), List.drop_of_length_le (by omega), List.append_nil]

theorem marked_step (s : Int) (ps : List (Int × Int)) (n j : Nat) (h : ps.length = n) (hj : j < n) : ((marked s ps n j).modify j fun p => (s + 2 * (j : Int), p.2)).modify j (fun p => (p.1, s + 2 * (j : Int) + 1)) = marked s ps n (j + 1) := by
  unfold marked
  have l := marks_len s n
  have g := marks_getD s n j hj
  have l1 : ((marks s n).take j).length = j := by simp; omega
  have l2 : ((marks s n).take (j + 1)).length = j + 1 := by simp; omega
  apply List.ext_getElem?
  intro i
  rw [List.getElem?_modify, List.getElem?_modify]
  by_cases e : j = i
  · subst e
    rw [List.getElem?_append_right (by omega), List.getElem?_append_left (by omega), List.getElem?_take, if_pos (by omega), l1]
    have hg : (marks s n)[j]? = some (s + 2 * (j : Int), s + 2 * (j : Int) + 1) := by
      rw [← g]; simp [List.getD, l, hj]
    rw [hg]
    simp [List.getElem?_drop, h, hj]
  · by_cases q : i < j
    · rw [List.getElem?_append_left (by omega), List.getElem?_append_left (by omega), List.getElem?_take, List.getElem?_take, if_pos q, if_pos (by omega)]
      simp [e]
    · rw [List.getElem?_append_right (by omega), List.getElem?_append_right (by omega), l1, l2]
      simp only [List.getElem?_drop]
      rw [show j + (i - j) = i by omega, show j + 1 + (i - (j + 1)) = i by omega]
      simp [e]

theorem sz_yes (a : Option Addr) (len cap : Nat) (l : Int) (w : World) (h : (len : Int) ≤ l) (hl : l ≤ 1048576) :
    Calls Try.prog 25 #[.slice a len cap, .int .i64 l] w fun e w' => e = .returned (.int .i64 (l - (len : Int))) ∧ w' = w := by
  have h1 : (0 : Int) ≤ l - (len : Int) := by omega
  have h2 : wrap64 (l - (len : Int)) = l - (len : Int) := by rw [wrap64]; omega
  go_enter Try.func25, Try.ntmps25
  go_wp2
  go_ret
  exact ⟨rfl, rfl⟩

theorem sz_no (a : Option Addr) (len cap : Nat) (l : Int) (w : World) (h : ¬ (len : Int) ≤ l) (hl : l ≤ 1048576) (h0 : 0 ≤ l) (hm : len ≤ 9223372036854775807) :
    Calls Try.prog 25 #[.slice a len cap, .int .i64 l] w fun e w' => e = .returned (.int .i64 (-1)) ∧ w' = w := by
  have h1 : l - (len : Int) < 0 := by omega
  have h2 : wrap64 (l - (len : Int)) = l - (len : Int) := by rw [wrap64]; omega
  go_enter Try.func25, Try.ntmps25
  go_wp2
  go_ret
  exact ⟨rfl, rfl⟩

end Go.Proofs.Ytophnnmbgpinfaa.AccountMark
