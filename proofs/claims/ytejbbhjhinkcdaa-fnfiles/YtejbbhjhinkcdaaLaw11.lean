/- What chapter 11's laws carry from call to call: bytes that came in, and copies of them. -/
import Derived.Test.YtejbbhjhinkcdaaVOB
import Derived.Test.YtejbbhjhinkcdaaInts
import Derived.Test.YtejbbhjhinkcdaaSBytes
namespace Go.Proofs.Ytejbbhjhinkcdaa.Law11
open Go.ChangeShapes Go.WideShapes Go.ChangeAt Go.RowKit
set_option linter.unusedVariables false
set_option linter.unusedSimpArgs false
/-- Bytes that came in, as the helpers want them. -/
theorem row_bytes {w : World} {a : Option Addr} {len cap : Nat} {zs : List Int} (h : Ints.IsRow .u8 w a len cap zs) : (zs.take len).length = len ∧ ByteH.Reads w a (zs.take len) ∧ ByteH.In (zs.take len) ∧ len ≤ 9223372036854775807 := by
  rcases h with ⟨rfl, rfl, rfl, rfl⟩ | ⟨x, rfl, hl, hm, hz, hcell, hwz⟩
  · exact ⟨rfl, .inl rfl, fun i hi => absurd hi (by simp), by omega⟩
  · have hlen : (zs.take len).length = len := by simp; omega
    have hin : ByteH.In (zs.take len) := fun i hi => by
      rw [hlen] at hi
      rw [ByteH.getD_take zs len i hi]
      have hj : i < zs.length := by omega
      have := hwz (zs.getD i 0) (by simp [List.getD, hj])
      have e0 : IntKind.u8.min = 0 := rfl
      have e1 : IntKind.u8.max = 255 := rfl
      simp only [Lit.wf, e0, e1, Bool.and_eq_true, decide_eq_true_eq] at this
      exact this
    refine ⟨hlen, ?_, hin, by unfold maxLen at hm; omega⟩
    by_cases z : len = 0
    · exact .inl (by omega)
    · obtain ⟨b, off, spot⟩ := x
      have hc := hcell 0 (by omega)
      have hspot : spot = none := by simpa [Addr.add] using World.cell?_spot hc
      subst hspot
      have hc0 : w.cell? ⟨b, off, none⟩ = some (.int .u8 (zs.getD 0 0)) := by simpa [Addr.add] using hc
      refine .inr ⟨b, off, rfl, World.block_lt_of_cell? w _ hc0, fun i hi => ?_⟩
      have k := hcell i (by omega)
      rw [ByteH.getD_take zs len i (by omega)]
      by_cases z : i = 0
      · subst z; simpa [Addr.add] using k
      · simpa [Addr.add, z] using k
end Go.Proofs.Ytejbbhjhinkcdaa.Law11
