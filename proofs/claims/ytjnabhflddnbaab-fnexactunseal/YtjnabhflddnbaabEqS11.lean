/- Bytes: whether two sums of four bytes are one. -/
import Derived.Test.YtjnabhflddnbaabByteH
import Derived.ChangeKeysEq
namespace Go.Proofs.Ytjnabhflddnbaab.EqS11
open Go.ChangeShapes Go.WideShapes Go.ChangeAt Go.RowKit
set_option linter.unusedVariables false
set_option linter.unusedSimpArgs false

theorem eqSum (a b c d x y z v : Int) (w : World) : (Op.equalIn 10000 41 (.agg #[.int .u8 a, .int .u8 b, .int .u8 c, .int .u8 d]) (.agg #[.int .u8 x, .int .u8 y, .int .u8 z, .int .u8 v])).run Try.prog w = .ok (a == x && b == y && c == z && d == v) w := by
  obtain ⟨i0, hi, _⟩ := info_parts ByteH.info8
  have u3 := Try.underlying5
  have a3 := Try.isAgg5
  have hc : Try.prog.cellsOf 5 = 1 := by kernel_rfl
  rw [show (10000 : Nat) = 9999 + 1 from rfl, run_equalIn_array w 9999 _ _ Try.underlying41 hi, hc, show List.range 4 = [0, 1, 2, 3] from rfl]
  simp only [Op.eqItems]
  go_simp
  by_cases h1 : a = x <;> by_cases h2 : b = y <;> by_cases h3 : c = z <;> by_cases h4 : d = v <;> simp [h1, h2, h3, h4]

end Go.Proofs.Ytjnabhflddnbaab.EqS11
