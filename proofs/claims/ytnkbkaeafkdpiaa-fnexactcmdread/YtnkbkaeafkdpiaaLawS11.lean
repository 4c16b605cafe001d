/- Numbers that came in. -/
import Derived.Test.YtnkbkaeafkdpiaaLaw11
namespace Go.Proofs.Ytnkbkaeafkdpiaa.LawS11
open Go.ChangeShapes Go.WideShapes Go.ChangeAt Go.RowKit
set_option linter.unusedVariables false

theorem int_le {x : Int} (h : (Lit.int .i64 x).wf = true) : x ≤ 9223372036854775807 := by
  have e0 : IntKind.i64.min = -9223372036854775808 := rfl
  have e1 : IntKind.i64.max = 9223372036854775807 := rfl
  simp only [Lit.wf, e0, e1, Bool.and_eq_true, decide_eq_true_eq] at h
  exact h.2

theorem row_ints {w : World} {a : Option Addr} {len cap : Nat} {zs : List Int} (h : Ints.IsRow .i64 w a len cap zs) : (zs.take len).length = len ∧ Ints.Reads w a (zs.take len) ∧ (∀ i, i < (zs.take len).length → (zs.take len).getD i 0 ≤ 9223372036854775807) ∧ len ≤ 9223372036854775807 := by
  obtain ⟨h1, h2⟩ := Ints.row_reads h
  refine ⟨h1, h2, fun i hi => ?_, Ints.row_max h⟩
  rw [h1] at hi
  rcases h with ⟨rfl, rfl, rfl, rfl⟩ | ⟨x, rfl, hl, hm, hz, hcell, hwz⟩
  · simp at hi
  · rw [Ints.getD_take zs len i hi]
    have hj : i < zs.length := by omega
    exact int_le (hwz (zs.getD i 0) (by simp [List.getD, hj]))

end Go.Proofs.Ytnkbkaeafkdpiaa.LawS11
