/- Bytes: the program's PutNum. -/
import Derived.Test.YtpplmecddmpjbaaIPuts11
namespace Go.Proofs.Ytpplmecddmpjbaa.IPut11
open Go.ChangeShapes Go.WideShapes Go.ChangeAt Go.RowKit SBytes SPut11 SPuts11
set_option linter.unusedVariables false
set_option linter.unusedSimpArgs false

theorem nums_one (x : Int) : numsB [x] = numB x := by
  unfold numsB
  by_cases h : x < 0
  · rw [if_neg (fun a => by have := a 0 (by simp); simp at this; omega)]
    exact (if_pos h).symm
  · rw [if_pos (fun i hi => by
      have : i = 0 := by simpa using hi
      subst this
      simp
      omega)]
    simp

theorem Ob.rebase {w : World} {base base' n cap : Nat} {a : Option Addr} {xs : List Int} (h : VOB.Ob w base a n cap xs) (hb : base' ≤ base) : VOB.Ob w base' a n cap xs := h.mono hb

set_option maxRecDepth 100000 in
theorem iPutNum (w : World) (x : Int) (hx : x ≤ 9223372036854775807) :
    Calls Try.prog 15 #[.int .i64 x] w fun e w' => ∃ a c, e = .returned (.slice a (numB x).length c) ∧ VOB.Ob w' w.heap.size a (numB x).length c (numB x) ∧ Below w.heap.size w w' := by
  have B0 := hide (one_more w (.cells #[.int .i64 x] 3))
  have M := hide (IPuts11.iPutNums (w.alloc (.cells #[.int .i64 x] 3)) w.heap.size 1 [x] (by simp) (by simp) (fun i hi => by
    have : i = 0 := by simpa using hi
    subst this
    simp) (fun i hi => by
    have : i = 0 := by simpa using hi
    subst this
    simpa using hx))
  rw [nums_one] at M
  generalize numB x = ws at *
  generalize hn : ws.length = nw at *
  have NW := hide hn
  clear hn
  go_enter Try.func15, Try.ntmps15
  go_wp2_with fail
  refine (unhide M).mono ?_
  rintro e u ⟨a, c, rfl, o, b⟩
  have O := hide o
  have B := hide ((unhide B0).trans (b.mono (by simp)))
  clear o b M B0
  go_wp2
  go_ret
  exact ⟨a, c, rfl, (unhide O).mono (by simp), unhide B⟩

end Go.Proofs.Ytpplmecddmpjbaa.IPut11
