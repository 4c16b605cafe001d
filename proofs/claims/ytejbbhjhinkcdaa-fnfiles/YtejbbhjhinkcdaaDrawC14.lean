/- Disks: what DrawDiskCrash draws. -/
import Derived.Test.YtejbbhjhinkcdaaDrawD14
namespace Go.Proofs.Ytejbbhjhinkcdaa.DrawC14
open Go.ChangeShapes Go.WideShapes Go.ChangeAt Go.RowKit Draw Draw11 DrawS11 DrawT14 DrawR14 DrawD14
open DiskH14 (sumZ one_more)
open DkH14 (Dx RdD OwD Bc row_step)
open App14 (row_base row_kept kcell grow_grow)
open SLess14 (bc_set1)
set_option linter.unusedVariables false
set_option linter.unusedSimpArgs false
/-- What a row keeps where only the cursor's block has turned. -/
theorem row_off {W W' : World} {base c : Nat} {e : TypeId} {m : Nat} {v : Value} {n : Nat} {vs : List Value} (h : W.ownsRow base e m v n vs) (o : Only c W W') (hc : v.ownBlock ≠ some c) : W'.ownsRow base e m v n vs := by
  refine ⟨h.1, ?_⟩
  rcases h.2 with h1 | ⟨g, k, cur, h1, h2, h3, h4⟩
  · exact .inl h1
  · exact .inr ⟨g, k, cur, h1, h2, (o.2 g (World.ownsRow.lt h g (by rw [h1]; rfl)).2 (fun e => hc (by rw [h1, e]; rfl))).trans h3, h4⟩
end Go.Proofs.Ytejbbhjhinkcdaa.DrawC14
