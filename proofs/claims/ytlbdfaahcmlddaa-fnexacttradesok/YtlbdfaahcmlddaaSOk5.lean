/- Contracts of the model's LotsOk and what it calls. Condition: a list of at most 2^20 lots. -/
import Derived.Test.YtlbdfaahcmlddaaLots
import Derived.Test.YtlbdfaahcmlddaaQuieter
import Derived.WalkSmall
namespace Go.Proofs.Ytlbdfaahcmlddaa.SOk5
open Go.ChangeShapes Go.WideShapes Go.ChangeAt Go.RowKit Tup5 Lots Quieter
set_option linter.unusedVariables false
set_option linter.unusedSimpArgs false

theorem sIn (x lo hi : Int) (b : Bool) (w : World) (hb : Says b (lo ≤ x ∧ x ≤ hi)) :
    Calls Try.prog 11 #[.int .i64 x, .int .i64 lo, .int .i64 hi] w fun e w' => e = .returned (.bool b) ∧ w' = w := by
  by_cases h1 : lo ≤ x
  · by_cases h2 : x ≤ hi
    · obtain rfl : b = true := hb.of ⟨h1, h2⟩
      clear hb
      go_enter Try.func11, Try.ntmps11
      go_wp2
      go_ret
      exact ⟨rfl, rfl⟩
    · obtain rfl : b = false := hb.not (fun r => h2 r.2)
      clear hb
      go_enter Try.func11, Try.ntmps11
      go_wp2
      go_ret
      exact ⟨rfl, rfl⟩
  · obtain rfl : b = false := hb.not (fun r => h1 r.1)
    clear hb
    go_enter Try.func11, Try.ntmps11
    go_wp2
    go_ret
    exact ⟨rfl, rfl⟩

theorem sNo (x : Int) (b : Bool) (w : World) (hb : Says b (NoOk x)) :
    Calls Try.prog 9 #[.int .i64 x] w fun e w' => e = .returned (.bool b) ∧ w' = w := by
  go_enter Try.func9, Try.ntmps9
  go_wp2_with fail
  refine (sIn x 1 1000 b _ hb).mono ?_
  rintro e w' ⟨rfl, rfl⟩
  go_wp2
  go_ret
  exact ⟨rfl, rfl⟩

theorem sSome (x lo : Int) (b : Bool) (w : World) (hb : Says b (lo ≤ x ∧ x ≤ 1000000000000000)) :
    Calls Try.prog 10 #[.int .i64 x, .int .i64 lo] w fun e w' => e = .returned (.bool b) ∧ w' = w := by
  go_enter Try.func10, Try.ntmps10
  go_wp2_with fail
  refine (sIn x lo 1000000000000000 b _ hb).mono ?_
  rintro e w' ⟨rfl, rfl⟩
  go_wp2
  go_ret
  exact ⟨rfl, rfl⟩

theorem one_more (w : World) (o : Obj) : Below w.heap.size w (w.alloc o) := (Below.refl _ _).alloc (Nat.le_refl _) _
theorem two_more (w : World) (o p : Obj) : Below w.heap.size w ((w.alloc o).alloc p) := ((Below.refl _ _).alloc (Nat.le_refl _) _).alloc (by simp) _

/-- A lot in cells. -/
abbrev lotV (p : T5) : Value := .agg #[.int .i64 p.1, .int .i64 p.2.1, .int .i64 p.2.2.1, .int .i64 p.2.2.2.1, .int .i64 p.2.2.2.2]

end Go.Proofs.Ytlbdfaahcmlddaa.SOk5
