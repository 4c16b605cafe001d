/- Files and names: what the program's small functions tell of them. -/
import Derived.Test.YtejbbhjhinkcdaaSCom14
namespace Go.Proofs.Ytejbbhjhinkcdaa.IFile14
open Go.ChangeShapes Go.WideShapes Go.ChangeAt Go.RowKit Fil14 DiskH14 DkH14 SDk14 SOk14
set_option linter.unusedVariables false
set_option linter.unusedSimpArgs false
set_option maxRecDepth 100000 in
theorem iName (w : World) (n : Int) : Calls Try.prog 28 #[.int .i64 n] w fun e w' => e = .returned (.bool (okN n)) ∧ w' = w := by
  unfold okN
  by_cases h0 : 0 ≤ n
  · by_cases h1 : n ≤ 21
    · rw [decide_eq_true ⟨h0, h1⟩]
      have a : n ≥ 0 := h0
      have b : n < 22 := by omega
      clear h1
      go_enter Try.func28, Try.ntmps28
      go_wp2
      go_ret
      exact ⟨rfl, rfl⟩
    · rw [decide_eq_false (fun q => h1 q.2)]
      have a : n ≥ 0 := h0
      have b : ¬ n < 22 := by omega
      clear h1
      go_enter Try.func28, Try.ntmps28
      go_wp2
      go_ret
      exact ⟨rfl, rfl⟩
  · rw [decide_eq_false (fun q => h0 q.1)]
    have a : ¬ n ≥ 0 := h0
    go_enter Try.func28, Try.ntmps28
    go_wp2
    go_ret
    exact ⟨rfl, rfl⟩
theorem iNameB (w : World) (n : Int) (b : Bool) (h : okN n = b) : Calls Try.prog 28 #[.int .i64 n] w fun e w' => e = .returned (.bool b) ∧ w' = w := by
  rw [← h]
  exact iName w n
set_option maxRecDepth 100000 in
/-- How many bytes a file has. -/
theorem iSizeF (w : World) (p0 : Int) (p1 p2 : ByteArray) (h : p1.size + p2.size ≤ 1048576) : Calls Try.prog 30 #[.agg #[.int .i64 p0, .string p1, .string p2]] w fun e w' => e = .returned (.int .i64 ((p1.size : Int) + p2.size)) ∧ Below w.heap.size w w' := by
  have B := hide (one_more w (.cells #[.int .i64 p0, .string p1, .string p2] 32))
  have a1 : wrap64 ((p1.size : Int) + p2.size) = p1.size + p2.size := by rw [wrap64]; omega
  go_enter Try.func30, Try.ntmps30
  go_wp2
  go_ret
  exact ⟨rfl, unhide B⟩
set_option maxRecDepth 100000 in
/-- The bytes of a file. -/
theorem iText (w : World) (p0 : Int) (p1 p2 : ByteArray) (h : p1.size + p2.size ≤ 1048576) : Calls Try.prog 27 #[.agg #[.int .i64 p0, .string p1, .string p2]] w fun e w' => e = .returned (.string (p1 ++ p2)) ∧ Below w.heap.size w w' := by
  have B := hide (one_more w (.cells #[.int .i64 p0, .string p1, .string p2] 32))
  go_enter Try.func27, Try.ntmps27
  go_wp2
  go_ret
  exact ⟨rfl, unhide B⟩
end Go.Proofs.Ytejbbhjhinkcdaa.IFile14
