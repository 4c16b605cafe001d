/- Contracts of the small functions on amounts, the program's and the model's: AmountOk, AddIn, SubIn, DivFloor, sizes. Each is told way by way: what comes in is an amount, or it is not. -/
import Derived.Test.YthgpimkclpkapaaRows
import Derived.Test.YthgpimkclpkapaaWide
import Derived.BigQuiet
namespace Go.Proofs.Ythgpimkclpkapaa.Small
open Go.ChangeShapes Go.WideShapes Go.ChangeAt Go.RowKit Wide
set_option linter.unusedVariables false

/-- An amount. -/
def Amt (x : Int) : Prop := -1000000000000000 ≤ x ∧ x ≤ 1000000000000000
/-- No amount. -/
def NoAmt (x : Int) : Prop := ¬ -1000000000000000 ≤ x ∨ (-1000000000000000 ≤ x ∧ ¬ x ≤ 1000000000000000)

theorem amt_or (x : Int) : Amt x ∨ NoAmt x := by unfold Amt NoAmt; omega

theorem iAmt_yes (x : Int) (w : World) (h : Amt x) : Calls Try.prog 17 #[.int .i64 x] w fun e w' => e = .returned (.bool true) ∧ w' = w := by
  obtain ⟨h1, h2⟩ := h
  go_enter Try.func17, Try.ntmps17
  go_wp2
  go_ret
  exact ⟨rfl, rfl⟩

theorem iAmt_no (x : Int) (w : World) (h : NoAmt x) : Calls Try.prog 17 #[.int .i64 x] w fun e w' => e = .returned (.bool false) ∧ w' = w := by
  rcases h with h | ⟨h1, h2⟩
  all_goals
    go_enter Try.func17, Try.ntmps17
    go_wp2
    go_ret
    exact ⟨rfl, rfl⟩

theorem sAmt_yes (x : Int) (w : World) (h : Amt x) : Calls Try.prog 29 #[.int .i64 x] w fun e w' => e = .returned (.bool true) ∧ w' = w := by
  obtain ⟨h1, h2⟩ := h
  go_enter Try.func29, Try.ntmps29
  go_wp2
  go_ret
  exact ⟨rfl, rfl⟩

theorem sAmt_no (x : Int) (w : World) (h : NoAmt x) : Calls Try.prog 29 #[.int .i64 x] w fun e w' => e = .returned (.bool false) ∧ w' = w := by
  rcases h with h | ⟨h1, h2⟩
  all_goals
    go_enter Try.func29, Try.ntmps29
    go_wp2
    go_ret
    exact ⟨rfl, rfl⟩

/-- What makes a sum be no amount: the first of its parts, the second, or the sum. -/
def Bad (a b s : Int) : Prop := NoAmt a ∨ (Amt a ∧ NoAmt b) ∨ (Amt a ∧ Amt b ∧ NoAmt s)

set_option maxRecDepth 100000 in
theorem iAdd_yes (a b : Int) (w : World) (ha : Amt a) (hb : Amt b) (hs : Amt (a + b)) : Calls Try.prog 13 #[.int .i64 a, .int .i64 b] w fun e w' => e = .returned (.tuple #[.int .i64 (a + b), .bool true]) ∧ w' = w := by
  obtain ⟨h1, h2⟩ := ha
  obtain ⟨h3, h4⟩ := hb
  obtain ⟨h5, h6⟩ := hs
  go_enter Try.func13, Try.ntmps13
  go_wp2
  go_ret2
  exact ⟨rfl, rfl⟩

set_option maxRecDepth 100000 in
theorem iAdd_no (a b : Int) (w : World) (h : Bad a b (a + b)) : Calls Try.prog 13 #[.int .i64 a, .int .i64 b] w fun e w' => e = .returned (.tuple #[.int .i64 0, .bool false]) ∧ w' = w := by
  rcases h with (h | ⟨h1, h2⟩) | ⟨⟨a1, a2⟩, (h | ⟨h1, h2⟩)⟩ | ⟨⟨a1, a2⟩, ⟨b1, b2⟩, (h | ⟨h1, h2⟩)⟩
  all_goals
    go_enter Try.func13, Try.ntmps13
    go_wp2
    go_ret2
    exact ⟨rfl, rfl⟩

set_option maxRecDepth 100000 in
theorem sAdd_yes (a b : Int) (w : World) (ha : Amt a) (hb : Amt b) (hs : Amt (a + b)) : Calls Try.prog 14 #[.int .i64 a, .int .i64 b] w fun e w' => e = .returned (.tuple #[.int .i64 (a + b), .bool true]) ∧ w' = w := by
  obtain ⟨h1, h2⟩ := ha
  obtain ⟨h3, h4⟩ := hb
  obtain ⟨h5, h6⟩ := hs
  go_enter Try.func14, Try.ntmps14
  go_wp2
  go_ret2
  exact ⟨rfl, rfl⟩

set_option maxRecDepth 100000 in
theorem sAdd_no (a b : Int) (w : World) (h : Bad a b (a + b)) : Calls Try.prog 14 #[.int .i64 a, .int .i64 b] w fun e w' => e = .returned (.tuple #[.int .i64 0, .bool false]) ∧ w' = w := by
  rcases h with (h | ⟨h1, h2⟩) | ⟨⟨a1, a2⟩, (h | ⟨h1, h2⟩)⟩ | ⟨⟨a1, a2⟩, ⟨b1, b2⟩, (h | ⟨h1, h2⟩)⟩
  all_goals
    go_enter Try.func14, Try.ntmps14
    go_wp2
    go_ret2
    exact ⟨rfl, rfl⟩

set_option maxRecDepth 100000 in
theorem iSub_yes (a b : Int) (w : World) (ha : Amt a) (hb : Amt b) (hs : Amt (a - b)) : Calls Try.prog 15 #[.int .i64 a, .int .i64 b] w fun e w' => e = .returned (.tuple #[.int .i64 (a - b), .bool true]) ∧ w' = w := by
  obtain ⟨h1, h2⟩ := ha
  obtain ⟨h3, h4⟩ := hb
  obtain ⟨h5, h6⟩ := hs
  go_enter Try.func15, Try.ntmps15
  go_wp2
  go_ret2
  exact ⟨rfl, rfl⟩

set_option maxRecDepth 100000 in
theorem iSub_no (a b : Int) (w : World) (h : Bad a b (a - b)) : Calls Try.prog 15 #[.int .i64 a, .int .i64 b] w fun e w' => e = .returned (.tuple #[.int .i64 0, .bool false]) ∧ w' = w := by
  rcases h with (h | ⟨h1, h2⟩) | ⟨⟨a1, a2⟩, (h | ⟨h1, h2⟩)⟩ | ⟨⟨a1, a2⟩, ⟨b1, b2⟩, (h | ⟨h1, h2⟩)⟩
  all_goals
    go_enter Try.func15, Try.ntmps15
    go_wp2
    go_ret2
    exact ⟨rfl, rfl⟩

set_option maxRecDepth 100000 in
theorem sSub_yes (a b : Int) (w : World) (ha : Amt a) (hb : Amt b) (hs : Amt (a - b)) : Calls Try.prog 16 #[.int .i64 a, .int .i64 b] w fun e w' => e = .returned (.tuple #[.int .i64 (a - b), .bool true]) ∧ w' = w := by
  obtain ⟨h1, h2⟩ := ha
  obtain ⟨h3, h4⟩ := hb
  obtain ⟨h5, h6⟩ := hs
  go_enter Try.func16, Try.ntmps16
  go_wp2
  go_ret2
  exact ⟨rfl, rfl⟩

set_option maxRecDepth 100000 in
theorem sSub_no (a b : Int) (w : World) (h : Bad a b (a - b)) : Calls Try.prog 16 #[.int .i64 a, .int .i64 b] w fun e w' => e = .returned (.tuple #[.int .i64 0, .bool false]) ∧ w' = w := by
  rcases h with (h | ⟨h1, h2⟩) | ⟨⟨a1, a2⟩, (h | ⟨h1, h2⟩)⟩ | ⟨⟨a1, a2⟩, ⟨b1, b2⟩, (h | ⟨h1, h2⟩)⟩
  all_goals
    go_enter Try.func16, Try.ntmps16
    go_wp2
    go_ret2
    exact ⟨rfl, rfl⟩


end Go.Proofs.Ythgpimkclpkapaa.Small
