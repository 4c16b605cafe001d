/- The program's tests of numbers, amounts and ways; whether accounts and instruments are there. -/
import Derived.Test.YtlbdfaahcmlddaaIRead
namespace Go.Proofs.Ytlbdfaahcmlddaa.IHave
open Go.ChangeShapes Go.WideShapes Go.ChangeAt Go.RowKit BMem Bks IRead
open Lots (Says says_of NoOk)
set_option linter.unusedVariables false
set_option linter.unusedSimpArgs false

/-- A number that is out of its range. -/
def outB (y : Int) : Bool := decide (y < 1 ∨ y > 1000)

theorem none_of {xs : List Int} {p : Int → Bool} {q : Int → Prop} {b : Bool} (hq : ∀ y, p y = false ↔ q y) (hb : Says b (∀ x ∈ xs, q x)) : Says (!b) (∃ x ∈ xs, p x = true) := by
  cases b
  · refine ⟨fun _ => ?_, fun _ => rfl⟩
    have := hb.no
    refine Classical.byContradiction fun hn => this fun x hx => (hq x).1 ?_
    cases h : p x
    · rfl
    · exact absurd ⟨x, hx, h⟩ hn
  · refine ⟨fun e => Bool.noConfusion e, fun ⟨x, hx, e⟩ => ?_⟩
    have := (hq x).2 (hb.yes x hx)
    rw [this] at e
    cases e

theorem out_no (y : Int) : outB y = false ↔ NoOk y := by
  unfold outB NoOk
  rw [decide_eq_false_iff_not]
  omega

set_option maxRecDepth 100000 in
theorem iOut (w : World) (y : Int) : Calls Try.prog 18 (#[.int .i64 y] ++ #[]) w fun e w' => e = .returned (.bool (outB y)) ∧ Below w.heap.size w w' := by
  show Calls Try.prog 18 #[.int .i64 y] w _
  by_cases a : y < 1
  · have hz : outB y = true := decide_eq_true (.inl a)
    rw [hz]
    go_enter Try.func18, Try.ntmps18
    go_wp2
    go_ret
    exact ⟨rfl, Below.refl _ _⟩
  · by_cases b : y > 1000
    · have hz : outB y = true := decide_eq_true (.inr b)
      rw [hz]
      go_enter Try.func18, Try.ntmps18
      go_wp2
      go_ret
      exact ⟨rfl, Below.refl _ _⟩
    · have hz : outB y = false := decide_eq_false (fun h => h.elim a b)
      rw [hz]
      go_enter Try.func18, Try.ntmps18
      go_wp2
      go_ret
      exact ⟨rfl, Below.refl _ _⟩

set_option maxRecDepth 100000 in
theorem iNumbers (w : World) (g n cap : Nat) (xs : List Int) (b : Bool) (hl : xs.length = n) (h20 : n ≤ 1048576) (hg : g < w.heap.size) (h : Ints.At w g xs) (hb : Says b (∀ x ∈ xs, NoOk x)) :
    Calls Try.prog 15 #[.slice (some ⟨g, 0, none⟩) n cap] w fun e w' => e = .returned (.bool b) ∧ Below w.heap.size w w' := by
  have H := hide h
  have HL := hide hl
  have T := hide (none_of out_no hb)
  clear h hl hb
  go_enter Try.func15, Try.ntmps15
  go_wp2_with fail
  refine (iContainsF _ g n cap 18 #[] xs outB (!b) (unhide HL) h20 hg (unhide H) (fun _ _ => enters Try.func18 (by kernel_rfl) rfl _ _) (fun u y _ => iOut u y) (unhide T)).mono ?_
  rintro e w1 ⟨rfl, b1⟩
  have B1 := hide b1
  clear b1
  go_wp2
  go_ret
  exact ⟨by simp, unhide B1⟩

set_option maxRecDepth 100000 in
theorem iFrom (lo x : Int) (b : Bool) (w : World) (hb : Says b (lo ≤ x ∧ x ≤ 1000000000000000)) : Calls Try.prog 16 #[.int .i64 lo, .int .i64 x] w fun e w' => e = .returned (.bool b) ∧ w' = w := by
  by_cases h1 : lo ≤ x
  · by_cases h2 : x ≤ 1000000000000000
    · obtain rfl : b = true := hb.of ⟨h1, h2⟩
      clear hb
      go_enter Try.func16, Try.ntmps16
      go_wp2
      go_ret
      exact ⟨rfl, rfl⟩
    · obtain rfl : b = false := hb.not (fun h => h2 h.2)
      clear hb
      go_enter Try.func16, Try.ntmps16
      go_wp2
      go_ret
      exact ⟨rfl, rfl⟩
  · obtain rfl : b = false := hb.not (fun h => h1 h.1)
    clear hb
    go_enter Try.func16, Try.ntmps16
    go_wp2
    go_ret
    exact ⟨rfl, rfl⟩

/-- A number of which there is none. -/
def noneB (ps : List (Int × Int)) (y : Int) : Bool := kindOf ps y == 0
theorem none_no (ps : List (Int × Int)) (y : Int) : noneB ps y = false ↔ kindOf ps y ≠ 0 := by
  unfold noneB
  simp

end Go.Proofs.Ytlbdfaahcmlddaa.IHave
