/- Shares are always told, with no program in sight. -/
import Derived.Test.YtdnpjjbphamcmaaParts
namespace Go.Proofs.Ytdnpjjbphamcmaa.OrderEx
open Quota Order Parts
set_option linter.unusedVariables false
set_option linter.unusedSimpArgs false

/-- Not behind. -/
def leB (t : Int) (xs : List Int) (a b : Nat) : Bool := decide (R t xs b < R t xs a ∨ (R t xs a = R t xs b ∧ a ≤ b))

theorem order_ex (t : Int) (xs : List Int) (n : Nat) : ∃ L, IsOrder t xs n L := by
  refine ⟨(List.range n).mergeSort (leB t xs), List.mergeSort_perm _ _, ?_⟩
  have h1 : ((List.range n).mergeSort (leB t xs)).Pairwise (fun a b => leB t xs a b = true) := List.pairwise_mergeSort (fun a b c h k => by
    unfold leB at *
    simp only [decide_eq_true_eq] at *
    omega) (fun a b => by
    unfold leB
    simp only [Bool.or_eq_true, decide_eq_true_eq]
    omega) _
  have h2 : ((List.range n).mergeSort (leB t xs)).Pairwise (fun a b => a ≠ b) := (List.mergeSort_perm _ _).nodup_iff.2 List.nodup_range
  rw [List.pairwise_iff_getElem] at h1 h2 ⊢
  intro i j hi hj hij
  have h := h1 i j hi hj hij
  have k := h2 i j hi hj hij
  generalize ((List.range n).mergeSort (leB t xs))[i] = a at *
  generalize ((List.range n).mergeSort (leB t xs))[j] = b at *
  unfold leB at h
  simp only [decide_eq_true_eq] at h
  unfold Ahead
  omega

theorem stells_ex (t : Int) (xs : List Int) : ∃ ps ok, STells t xs ps ok := by
  by_cases h : Weigh.Good xs ∧ Tot t
  · obtain ⟨L, hL⟩ := order_ex t xs xs.length
    obtain ⟨M, h1, h2⟩ := missing_nat t xs h.2 h.1
    exact ⟨_, true, .inl ⟨h.1, h.2, rfl, L, M, hL, h1, h2, rfl⟩⟩
  · exact ⟨[], false, .inr ⟨h, rfl, rfl⟩⟩

end Go.Proofs.Ytdnpjjbphamcmaa.OrderEx
