/- Contracts of the laws' own helper on lots: two lists that are one. Condition: at most 2^20 lots. -/
import Derived.Test.YtdnpjjbphamcmaaNil5
import Derived.Laws.StructEq
namespace Go.Proofs.Ytdnpjjbphamcmaa.Same5
open Go.ChangeShapes Go.WideShapes Go.ChangeAt Go.RowKit Tup5 Lots Takes Quieter Concat5 Cmp
set_option linter.unusedVariables false
set_option linter.unusedSimpArgs false

/-- Whether two lots are one. -/
def eq5 (p q : T5) : Bool := p.1 == q.1 && p.2.1 == q.2.1 && p.2.2.1 == q.2.2.1 && p.2.2.2.1 == q.2.2.2.1 && p.2.2.2.2 == q.2.2.2.2
theorem eq5_iff (p q : T5) : eq5 p q = true ↔ p = q := by
  obtain ⟨p0, p1, p2, p3, p4⟩ := p
  obtain ⟨q0, q1, q2, q3, q4⟩ := q
  simp only [eq5, Bool.and_eq_true, beq_iff_eq, Prod.mk.injEq]
  constructor
  · rintro ⟨⟨⟨⟨h0, h1⟩, h2⟩, h3⟩, h4⟩
    exact ⟨h0, h1, h2, h3, h4⟩
  · rintro ⟨h0, h1, h2, h3, h4⟩
    exact ⟨⟨⟨⟨h0, h1⟩, h2⟩, h3⟩, h4⟩

set_option maxRecDepth 100000 in
theorem eqLot (x0 x1 x2 x3 x4 y0 y1 y2 y3 y4 : Int) (w : World) : (Op.equalIn 10000 40 (.agg #[.int .i64 x0, .int .i64 x1, .int .i64 x2, .int .i64 x3, .int .i64 x4]) (.agg #[.int .i64 y0, .int .i64 y1, .int .i64 y2, .int .i64 y3, .int .i64 y4])).run Try.prog w = .ok (eq5 (x0, x1, x2, x3, x4) (y0, y1, y2, y3, y4)) w := by
  have u3 := Try.underlying3
  have a3 := Try.isAgg3
  have z3 := Try.sizeOf3
  have hS : Try.prog.underlying 40 = some (.struct (Try.prog.fieldsOf 40)) := by kernel_rfl
  have hp : Try.prog.stoodInHeld 40 = false := by kernel_rfl
  rw [show (10000 : Nat) = 9999 + 1 from rfl, run_equalIn_agg w 9999 40 _ _ hS hp]
  simp only [Program.fieldsOf, Try.underlying40]
  go_simp
  unfold eq5
  by_cases h0 : x0 = y0 <;> by_cases h1 : x1 = y1 <;> by_cases h2 : x2 = y2 <;> by_cases h3 : x3 = y3 <;> by_cases h4 : x4 = y4 <;> simp [h0, h1, h2, h3, h4]
theorem guardLot : Try.prog.eqGuardType Try.prog.depth 40 = false := by kernel_rfl

set_option maxRecDepth 100000 in
set_option maxHeartbeats 1000000 in
theorem same (w : World) (g1 g2 c1 c2 : Nat) (ps : List T5) (l1 : ps.length ≤ 1048576) (k1 : g1 < w.heap.size) (k2 : g2 < w.heap.size) (h1 : At5 w g1 ps) (h2 : At5 w g2 ps) :
    Calls Try.prog 24 #[.slice (some ⟨g1, 0, none⟩) ps.length c1, .slice (some ⟨g2, 0, none⟩) ps.length c2] w fun e w' => e = .returned (.bool true) ∧ Below w.heap.size w w' := by
  have H1 := hide h1
  have H2 := hide h2
  generalize hn : ps.length = n at *
  have HN := hide hn
  clear h1 h2 hn
  go_enter Try.func24, Try.ntmps24
  go_wp2
  go_loopw [5] (fun i wr => ∃ (k : Nat), k ≤ n ∧ i = .int .i64 k ∧ Hid (Below w.heap.size w wr)) (fun i _ => n - (intOf i).toNat)
  case atStart => exact ⟨0, by omega, rfl, hide (Below.refl _ _)⟩
  case round =>
    obtain ⟨k, hk, rfl, HB⟩ := hrel
    by_cases t : k < n
    · obtain ⟨e0, e1, e2, e3, e4⟩ := ((unhide H1).below (unhide HB) k1) k (by rw [unhide HN]; exact t)
      obtain ⟨f0, f1, f2, f3, f4⟩ := ((unhide H2).below (unhide HB) k2) k (by rw [unhide HN]; exact t)
      have kn : (k : Int) < (n : Int) := by omega
      generalize (el5 ps k).1 = x0 at *
      generalize (el5 ps k).2.1 = x1 at *
      generalize (el5 ps k).2.2.1 = x2 at *
      generalize (el5 ps k).2.2.2.1 = x3 at *
      generalize (el5 ps k).2.2.2.2 = x4 at *
      have EQ : ∀ w : World, (Op.equalIn 10000 40 (.agg #[.int .i64 x0, .int .i64 x1, .int .i64 x2, .int .i64 x3, .int .i64 x4]) (.agg #[.int .i64 x0, .int .i64 x1, .int .i64 x2, .int .i64 x3, .int .i64 x4])).run Try.prog w = .ok true w := fun w => by
        rw [eqLot, (eq5_iff _ _).2 rfl]
      have GU := guardLot
      go_wp2_with fail
      go_quiet (fail)
      have HB2 := hide (below_drewN (unhide HB) nq)
      go_wp2
      go_roundw
      case rel => exact ⟨k + 1, by omega, by go_num, HB2⟩
      case measure => simp [intOf]; omega
    · go_wp2
      go_ret
      exact ⟨rfl, unhide HB⟩

set_option maxRecDepth 100000 in
theorem same0 (w : World) (g c : Nat) : Calls Try.prog 24 #[.slice none 0 0, .slice (some ⟨g, 0, none⟩) 0 c] w fun e w' => e = .returned (.bool true) ∧ Below w.heap.size w w' := by
  go_enter Try.func24, Try.ntmps24
  go_wp2
  go_loopw [5] (fun i wr => i = .int .i64 0 ∧ wr = w) (fun _ _ => 0)
  case atStart => exact ⟨rfl, rfl⟩
  case round =>
    obtain ⟨rfl, rfl⟩ := hrel
    go_wp2
    go_ret
    exact ⟨rfl, Below.refl _ _⟩

theorem sameV (w : World) (b1 g2 c2 : Nat) (v : Value) (ps : List T5) (l1 : ps.length ≤ 1048576) (h1 : OwnV 40 w b1 v ps) (k2 : g2 < w.heap.size) (h2 : At5 w g2 ps) :
    Calls Try.prog 24 #[v, .slice (some ⟨g2, 0, none⟩) ps.length c2] w fun e w' => e = .returned (.bool true) ∧ Below w.heap.size w w' := by
  rcases h1.cases with ⟨rfl, rfl⟩ | ⟨g, c, rfl, o⟩
  · exact same0 w g2 c2
  · exact same w g g2 c c2 ps l1 o.lt.2 k2 o.at h2

end Go.Proofs.Ytdnpjjbphamcmaa.Same5
