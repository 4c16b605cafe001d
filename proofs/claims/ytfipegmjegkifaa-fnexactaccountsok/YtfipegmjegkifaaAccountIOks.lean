/- Contracts of the program's AccountsOk. Condition: a list of at most 2^20 pairs. -/
import Derived.Test.YtfipegmjegkifaaAccountIOk
namespace Go.Proofs.Ytfipegmjegkifaa.AccountIOks
open Go.ChangeShapes Go.WideShapes Go.ChangeAt Go.RowKit Pairs Chart AccountIOk
set_option linter.unusedVariables false
set_option linter.unusedSimpArgs false

set_option maxRecDepth 100000 in
theorem iChart (w : World) (g n cap : Nat) : Calls Try.prog 12 #[.slice (some ⟨g, 0, none⟩) n cap] w fun e w' => e = .returned (.agg #[.slice (some ⟨g, 0, none⟩) n cap, .int .i64 20, .int .i64 4]) ∧ Below w.heap.size w w' := by
  go_enter Try.func12, Try.ntmps12
  go_wp2
  refine bodyPost_ret (v := .agg #[.slice (some ⟨g, 0, none⟩) n cap, .int .i64 20, .int .i64 4]) (by simp [results, Try.results12, go_sem]) rfl ⟨rfl, ?_⟩
  repeat (first | exact Below.refl _ _ | refine Below.alloc ?_ (by simp; try omega) _)

set_option maxRecDepth 100000 in
theorem iOks (w : World) (g n cap : Nat) (ps : List (Int × Int)) (ok : Bool) (hl : ps.length = n) (h20 : n ≤ 1048576) (hg : g < w.heap.size) (h : At w g ps) (hok : Says ok 20 4 ps) :
    Calls Try.prog 7 #[.slice (some ⟨g, 0, none⟩) n cap] w fun e w' => e = .returned (.bool ok) ∧ Below w.heap.size w w' := by
  have H := hide h
  clear h
  go_enter Try.func7, Try.ntmps7
  go_wp2_with fail
  refine (iChart _ g n cap).mono ?_
  rintro e w1 ⟨rfl, b1⟩
  have A1 := hide ((unhide H).below b1 hg)
  have B1 := hide b1
  have s1 := b1.size
  clear b1
  go_wp2_with fail
  refine (iOk _ g n cap ps ok hl h20 (by omega) (unhide A1) hok).mono ?_
  rintro e w2 ⟨rfl, b2⟩
  have B2 := hide (next (unhide B1) b2)
  clear b2
  go_wp2
  go_ret
  exact ⟨rfl, unhide B2⟩

end Go.Proofs.Ytfipegmjegkifaa.AccountIOks
