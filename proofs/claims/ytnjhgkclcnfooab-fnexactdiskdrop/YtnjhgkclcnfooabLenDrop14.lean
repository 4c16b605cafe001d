/- Disks: how many files DiskDrop tells. -/
import Derived.Test.YtnjhgkclcnfooabSDrop14
namespace Go.Proofs.Ytnjhgkclcnfooab.LenDrop14
open Go.ChangeShapes Go.WideShapes Go.ChangeAt Go.RowKit Fil14 OpensF14 DiskH14 DkH14 SDk14 SOk14 SRd14 App14 SLess14 SCopy14 SRef14 SCom14 SDrop14
set_option linter.unusedVariables false
set_option linter.unusedSimpArgs false

theorem ref_len {code room : Int} {ps : List TF} (h : ps.length ≤ 1048576) : (refD code room ps).2.length ≤ 1048576 := by
  unfold refD
  split
  · simp
  · exact h
theorem less_len (ps : List TF) (nm : Int) : ∀ n, (lessN ps nm n).length ≤ n
  | 0 => by simp [lessN]
  | n + 1 => by
    have := less_len ps nm n
    simp only [lessN]
    split <;> simp <;> omega
theorem len_drop {room : Int} {ps : List TF} (nm : Int) (h : ps.length ≤ 1048576) : (dropD room ps nm).1.2.length ≤ 1048576 := by
  unfold dropD
  by_cases q : (atD room ps nm).2 = 0
  · rw [if_pos q]
    have := less_len ps (atD room ps nm).1 ps.length
    show (lessN _ _ _).length ≤ _
    omega
  · rw [if_neg q]
    exact ref_len h

end Go.Proofs.Ytnjhgkclcnfooab.LenDrop14
