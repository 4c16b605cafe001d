/- Contracts of the small functions on amounts of the program: AmountOk, AddIn. Each is told way by way: what comes in is an amount, or it is not. -/
import Derived.Test.YtdnpjjbphamcmaaRows
import Derived.Test.YtdnpjjbphamcmaaWide
import Derived.BigQuiet
namespace Go.Proofs.Ytdnpjjbphamcmaa.Small
open Go.ChangeShapes Go.WideShapes Go.ChangeAt Go.RowKit Wide
set_option linter.unusedVariables false

/-- An amount. -/
def Amt (x : Int) : Prop := -1000000000000000 ≤ x ∧ x ≤ 1000000000000000
/-- No amount. -/
def NoAmt (x : Int) : Prop := ¬ -1000000000000000 ≤ x ∨ (-1000000000000000 ≤ x ∧ ¬ x ≤ 1000000000000000)

theorem amt_or (x : Int) : Amt x ∨ NoAmt x := by unfold Amt NoAmt; omega

theorem iAmt_yes (x : Int) (w : World) (h : Amt x) : Calls Try.prog 37 #[.int .i64 x] w fun e w' => e = .returned (.bool true) ∧ w' = w := by
  obtain ⟨h1, h2⟩ := h
  go_enter Try.func37, Try.ntmps37
  go_wp2
  go_ret
  exact ⟨rfl, rfl⟩

theorem iAmt_no (x : Int) (w : World) (h : NoAmt x) : Calls Try.prog 37 #[.int .i64 x] w fun e w' => e = .returned (.bool false) ∧ w' = w := by
  rcases h with h | ⟨h1, h2⟩
  all_goals
    go_enter Try.func37, Try.ntmps37
    go_wp2
    go_ret
    exact ⟨rfl, rfl⟩

/-- What makes a sum be no amount: the first of its parts, the second, or the sum. -/
def Bad (a b s : Int) : Prop := NoAmt a ∨ (Amt a ∧ NoAmt b) ∨ (Amt a ∧ Amt b ∧ NoAmt s)

set_option maxRecDepth 100000 in
theorem iAdd_yes (a b : Int) (w : World) (ha : Amt a) (hb : Amt b) (hs : Amt (a + b)) : Calls Try.prog 98 #[.int .i64 a, .int .i64 b] w fun e w' => e = .returned (.tuple #[.int .i64 (a + b), .bool true]) ∧ w' = w := by
  obtain ⟨h1, h2⟩ := ha
  obtain ⟨h3, h4⟩ := hb
  obtain ⟨h5, h6⟩ := hs
  go_enter Try.func98, Try.ntmps98
  go_wp2
  go_ret2
  exact ⟨rfl, rfl⟩

set_option maxRecDepth 100000 in
theorem iAdd_no (a b : Int) (w : World) (h : Bad a b (a + b)) : Calls Try.prog 98 #[.int .i64 a, .int .i64 b] w fun e w' => e = .returned (.tuple #[.int .i64 0, .bool false]) ∧ w' = w := by
  rcases h with (h | ⟨h1, h2⟩) | ⟨⟨a1, a2⟩, (h | ⟨h1, h2⟩)⟩ | ⟨⟨a1, a2⟩, ⟨b1, b2⟩, (h | ⟨h1, h2⟩)⟩
  all_goals
    go_enter Try.func98, Try.ntmps98
    go_wp2
    go_ret2
    exact ⟨rfl, rfl⟩

end Go.Proofs.Ytdnpjjbphamcmaa.Small
