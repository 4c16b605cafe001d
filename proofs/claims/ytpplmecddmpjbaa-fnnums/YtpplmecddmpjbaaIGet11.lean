/- Bytes: the program's GetNum. -/
import Derived.Test.YtpplmecddmpjbaaIRd11
namespace Go.Proofs.Ytpplmecddmpjbaa.IGet11
open Go.ChangeShapes Go.WideShapes Go.ChangeAt Go.RowKit SBytes SPut11 IRd11
set_option linter.unusedVariables false
set_option linter.unusedSimpArgs false

set_option maxRecDepth 100000 in
theorem iGetNum (w : World) (gl cl : Nat) (xs : List Int) (x : Int) (h20 : xs.length ≤ 1048576) (hc : xs.length ≤ cl) (hx : x ≤ 9223372036854775807) (hg : gl < w.heap.size) (hr : AtB w gl xs) :
    Calls Try.prog 8 #[.slice (some ⟨gl, 0, none⟩) xs.length cl, .int .i64 x] w fun e w' => e = .returned (.tuple #[.int .i64 (getN xs x).1, .int .i64 (getN xs x).2.1, .bool (getN xs x).2.2]) ∧ Below w.heap.size w w' := by
  have B0 := hide (one_more w (.cells #[.int .i64 x] 3))
  have IN := hide (iNum (w.alloc (.cells #[.int .i64 x] 3)) gl cl w.heap.size w.heap.size xs x hx h20 hc hg (hr.below (unhide B0) hg) (pl_box w w.heap.size x (Nat.le_refl _) rfl))
  have GN := hide (getN_no xs x)
  clear hr
  generalize getN xs x = r at *
  obtain ⟨r0, r1, r2⟩ := r
  go_enter Try.func8, Try.ntmps8
  go_wp2_with fail
  refine (unhide IN).mono ?_
  rintro e u ⟨v, q, rfl, hv, p1, g1⟩
  have B1 := hide ((unhide B0).grown g1 (by simp) (fun k hk => by cases hk; exact Nat.le_refl _))
  have us := g1.size
  have pc := p1.cell
  clear p1 g1 IN B0
  cases r2 with
  | false =>
    have F := (unhide GN) rfl
    injection F with F0 F
    injection F with F1 F2
    subst F0 F1
    clear hv
    go_wp2
    go_ret3
    exact ⟨rfl, unhide B1⟩
  | true =>
    obtain ⟨rfl, rfl⟩ := hv rfl
    go_wp2
    go_region
    go_wp2
    go_ret3
    exact ⟨rfl, (unhide B1).drew⟩

end Go.Proofs.Ytpplmecddmpjbaa.IGet11
