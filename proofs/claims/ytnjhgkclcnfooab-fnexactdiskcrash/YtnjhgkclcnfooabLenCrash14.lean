/- Disks: how many files DiskCrash tells. -/
import Derived.Test.YtnjhgkclcnfooabSCrash14
namespace Go.Proofs.Ytnjhgkclcnfooab.LenCrash14
open Go.ChangeShapes Go.WideShapes Go.ChangeAt Go.RowKit Fil14 OpensF14 DiskH14 DkH14 SDk14 SOk14 SRd14 App14 SLess14 SCopy14 SRef14 SCom14 SCrash14
set_option linter.unusedVariables false
set_option linter.unusedSimpArgs false

theorem len_crash {room : Int} {ps : List TF} (keep : Int) (h : ps.length ≤ 1048576) : (crashD room ps keep).2.length ≤ 1048576 := by
  unfold crashD
  split
  · simpa using h
  · simp

end Go.Proofs.Ytnjhgkclcnfooab.LenCrash14
