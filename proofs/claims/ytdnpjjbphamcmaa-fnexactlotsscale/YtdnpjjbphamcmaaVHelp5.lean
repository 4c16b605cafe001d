/- Contracts of the laws' own helpers at lists of lots that may be nothing at all. Condition: at most 2^20 lots. -/
import Derived.Test.YtdnpjjbphamcmaaLotHelp
import Derived.Test.YtdnpjjbphamcmaaConcat5
namespace Go.Proofs.Ytdnpjjbphamcmaa.VHelp5
open Go.ChangeShapes Go.WideShapes Go.ChangeAt Go.RowKit Tup5 Lots Takes Concat5 LotHelp
set_option linter.unusedVariables false
set_option linter.unusedSimpArgs false

set_option maxRecDepth 100000 in
theorem eq0 (w : World) (g c : Nat) : Calls Try.prog 12 #[.slice none 0 0, .slice (some ⟨g, 0, none⟩) 0 c] w fun e w' => e = .returned (.bool true) ∧ Below w.heap.size w w' := by
  go_enter Try.func12, Try.ntmps12
  go_wp2
  go_loopw [5] (fun j wr => j = .int .i64 0 ∧ wr = w) (fun _ _ => 0)
  case atStart => exact ⟨rfl, rfl⟩
  case round =>
    obtain ⟨rfl, rfl⟩ := hrel
    go_wp2
    go_ret
    exact ⟨rfl, Below.refl _ _⟩

set_option maxRecDepth 100000 in
theorem mark0 (w : World) (s : Int) : Calls Try.prog 13 #[.slice none 0 0, .int .i64 s] w fun e w' => e = .returned (.int .i64 s) ∧ w' = w := by
  go_enter Try.func13, Try.ntmps13
  go_wp2
  go_loopw [1, 5] (fun m j wr => m = .int .i64 s ∧ j = .int .i64 0 ∧ wr = w) (fun _ _ _ => 0)
  case atStart => exact ⟨rfl, rfl, rfl⟩
  case round =>
    obtain ⟨rfl, rfl, rfl⟩ := hrel
    go_wp2
    go_ret
    exact ⟨rfl, rfl⟩

set_option maxRecDepth 100000 in
theorem held0 (w : World) (s : Int) : Calls Try.prog 14 #[.slice none 0 0, .int .i64 s] w fun e w' => e = .returned (.int .i64 s) ∧ w' = w := by
  go_enter Try.func14, Try.ntmps14
  go_wp2
  go_loopw [1, 5] (fun m j wr => m = .int .i64 s ∧ j = .int .i64 0 ∧ wr = w) (fun _ _ _ => 0)
  case atStart => exact ⟨rfl, rfl, rfl⟩
  case round =>
    obtain ⟨rfl, rfl, rfl⟩ := hrel
    go_wp2
    go_ret
    exact ⟨rfl, rfl⟩

theorem eqV (w : World) (b1 g2 c2 : Nat) (v : Value) (ps : List T5) (h20 : ps.length ≤ 1048576) (h1 : OwnV 40 w b1 v ps) (l2 : g2 < w.heap.size) (h2 : At5 w g2 ps) :
    Calls Try.prog 12 #[v, .slice (some ⟨g2, 0, none⟩) ps.length c2] w fun e w' => e = .returned (.bool true) ∧ Below w.heap.size w w' := by
  rcases h1.cases with ⟨rfl, rfl⟩ | ⟨g, c, rfl, o⟩
  · exact eq0 w g2 c2
  · exact eqS w g g2 ps.length c c2 ps rfl h20 o.lt.2 l2 o.at h2

theorem markV (w : World) (base : Nat) (v : Value) (ps : List T5) (s : Int) (h20 : ps.length ≤ 1048576) (s0 : 0 ≤ s) (s1 : s ≤ 100000000) (h : OwnV 40 w base v ps) :
    Calls Try.prog 13 #[v, .int .i64 s] w fun e w' => e = .returned (.int .i64 (s + 5 * (ps.length : Int))) ∧ OwnV 40 w' base v (marks s ps.length) ∧ w.grownBy w' v.ownBlock := by
  rcases h.cases with ⟨rfl, rfl⟩ | ⟨g, c, rfl, o⟩
  · refine (mark0 w s).mono ?_
    rintro e w' ⟨rfl, rfl⟩
    exact ⟨by simp, OwnV.nil _ _ _, World.grownBy.refl _ _⟩
  · refine (markS w base g ps.length c s ps h20 s0 s1 o).mono ?_
    rintro e w' ⟨rfl, o', gr⟩
    exact ⟨rfl, OwnV.of o', gr⟩

theorem heldV (w : World) (base n : Nat) (v : Value) (h20 : n ≤ 1048576) (h : OwnV 40 w base v (marks 1 n)) :
    Calls Try.prog 14 #[v, .int .i64 1] w fun e w' => e = .returned (.int .i64 (1 + 5 * (n : Int))) ∧ w' = w := by
  rcases h.cases with ⟨rfl, e⟩ | ⟨g, c, rfl, o⟩
  · have n0 : n = 0 := by have := congrArg List.length e; rw [marks_len] at this; exact this
    subst n0
    refine (held0 w 1).mono ?_
    rintro e w' ⟨rfl, rfl⟩
    exact ⟨rfl, rfl⟩
  · rw [marks_len]
    exact heldS w g n c h20 o.at

end Go.Proofs.Ytdnpjjbphamcmaa.VHelp5
