/- Bytes: the specification's Seal. -/
import Derived.Test.YtpplmecddmpjbaaSGets11
namespace Go.Proofs.Ytpplmecddmpjbaa.SSeal11
open Go.ChangeShapes Go.WideShapes Go.ChangeAt Go.RowKit SBytes SPut11 SPuts11
open ByteH (Own At)
set_option linter.unusedVariables false
set_option linter.unusedSimpArgs false

theorem chkB_in (xs : List Int) : 0 ≤ chkB xs ∧ chkB xs ≤ 4294967295 := by
  have := chk_in xs xs.length
  unfold chkB
  omega
/-- A sum as four bytes, the lowest first. -/
def four (n : Int) : List Int := [n % 256, n / 256 % 256, n / 65536 % 256, n / 16777216 % 256]
/-- Sealed bytes. -/
def sealB (xs : List Int) : List Int := if xs.length ≤ 9000 then numB xs.length ++ xs ++ four (chkB xs) else []

theorem lit_four (w : World) (a b c d : Int) : AtO (w.alloc (.cells #[.int .u8 a, .int .u8 b, .int .u8 c, .int .u8 d] 5)) w.heap.size 0 [a, b, c, d] := by
  intro i hi
  have : i = 0 ∨ i = 1 ∨ i = 2 ∨ i = 3 := by simp at hi; omega
  rcases this with rfl | rfl | rfl | rfl <;> simp

end Go.Proofs.Ytpplmecddmpjbaa.SSeal11
