/- Disks: how many files DiskSync tells. -/
import Derived.Test.YtnjhgkclcnfooaaSSync14
namespace Go.Proofs.Ytnjhgkclcnfooaa.LenSync14
open Go.ChangeShapes Go.WideShapes Go.ChangeAt Go.RowKit Fil14 OpensF14 DiskH14 DkH14 SDk14 SOk14 SRd14 App14 SLess14 SCopy14 SRef14 SCom14 SPut14 SSync14
set_option linter.unusedVariables false
set_option linter.unusedSimpArgs false

theorem ref_len {code room : Int} {ps : List TF} (h : ps.length ≤ 1048576) : (refD code room ps).2.length ≤ 1048576 := by
  unfold refD
  split
  · simp
  · exact h
theorem putN_len (ps : List TF) (f : TF) : ∀ k, (putN ps f k).1.length ≤ k + (if (putN ps f k).2 = true then 1 else 0)
  | 0 => by simp [putN]
  | k + 1 => by
    have ih := putN_len ps f k
    obtain ⟨L, pb⟩ : ∃ L, ∃ pb, putN ps f k = (L, pb) := ⟨_, _, rfl⟩
    obtain ⟨pb, e⟩ := pb
    rw [putN_succ e]
    rw [e] at ih
    simp only at ih ⊢
    generalize elF ps k = p
    cases pb <;> by_cases a : f.1 ≤ p.1 <;> by_cases b : p.1 = f.1 <;> simp [a, b] at ih ⊢ <;> omega
theorem put_len (ps : List TF) (f : TF) : (putF ps f).length ≤ ps.length + 1 := by
  have h := putN_len ps f ps.length
  unfold putF
  split
  · rename_i q
    rw [if_pos q] at h
    exact h
  · rename_i q
    rw [if_neg q] at h
    simp
    omega
theorem len_sync {room : Int} {ps : List TF} (nm : Int) (h : ps.length ≤ 1048576) : (syncD room ps nm).1.2.length ≤ 1048576 := by
  unfold syncD
  by_cases q : (atD room ps nm).2 = 0
  · rw [if_pos q]
    have := put_len ps (nm, bytesAt ps (atD room ps nm).1.toNat, ByteArray.empty)
    have := (at_in q).1.2.1
    show (putF _ _).length ≤ _
    omega
  · rw [if_neg q]
    exact ref_len h

end Go.Proofs.Ytnjhgkclcnfooaa.LenSync14
