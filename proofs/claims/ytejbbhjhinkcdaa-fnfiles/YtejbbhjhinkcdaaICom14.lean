/- Disks: what the program's calls on disks have in common. -/
import Derived.Test.YtejbbhjhinkcdaaIOk14
import Derived.Test.YtejbbhjhinkcdaaITb14
import Derived.Test.YtejbbhjhinkcdaaICp14
import Derived.Test.YtejbbhjhinkcdaaIDk14
import Derived.Test.YtejbbhjhinkcdaaPTab14
namespace Go.Proofs.Ytejbbhjhinkcdaa.ICom14
open Go.ChangeShapes Go.WideShapes Go.ChangeAt Go.RowKit Fil14 DiskH14 DkH14 SDk14 SOk14 SRd14 SLess14 SCom14 TabF14 ITb14
set_option linter.unusedVariables false
set_option linter.unusedSimpArgs false
theorem iOkB (w : World) (x : Dx) (b : Bool) (hr : RdD w x) (hz : sumZ x.ps ≤ 1048576) (h : decide (OkD x.room x.ps) = b) : Calls Try.prog 11 #[.agg #[.int .i64 x.room, .slice x.a x.ps.length x.c]] w fun e w' => e = .returned (.bool b) ∧ Below w.heap.size w w' := by
  rw [← h]
  exact IOk14.iDiskOk w x hr hz
/-- A world in which a call has its disk in a box, its answer in the next one and a table of files behind them. -/
structure St (w u : World) (x : Dx) (B n : Nat) (f : Int → Option TF) : Prop where
  d : Wd w u x
  r : Bc u w.heap.size (w.heap.size + 1) (.int .i64 0) (.slice none 0 0)
  t : Tf u B n f
  b : w.heap.size + 2 ≤ B
  xa : ∀ g, x.a = some ⟨g, 0, none⟩ → g < w.heap.size
theorem St.step {w u u' : World} {x : Dx} {B n : Nat} {f : Int → Option TF} (h : St w u x B n f) (k : Below u.heap.size u u') : St w u' x B n f :=
  ⟨h.d.step k, h.r.below k h.r.lt.2, h.t.below k, h.b, h.xa⟩
theorem St.turn {w u u' : World} {x : Dx} {B n n' : Nat} {f f' : Int → Option TF} (h : St w u x B n f) (t : Tf u' B n' f') (g : u.grownBy u' (some B)) : St w u' x B n' f' := by
  have hb := h.b
  exact ⟨wd_grown h.d g (by omega) (fun k e => by have := h.xa k e; omega), h.r.kept g (by simp; omega), t, hb, h.xa⟩
theorem at_bad {room : Int} {ps : List TF} {nm : Int} (h : ¬ (OkD room ps ∧ okN nm = true)) : atD room ps nm = (-1, 1) := by
  unfold atD
  rw [if_neg h]
theorem at_none {room : Int} {ps : List TF} {nm : Int} (h1 : OkD room ps) (h2 : okN nm = true) (h : findF ps nm < 0) : atD room ps nm = (findF ps nm, 2) := by
  unfold atD
  rw [if_pos ⟨h1, h2⟩, if_pos h]
theorem at_yes {room : Int} {ps : List TF} {nm : Int} {k : Nat} (h1 : OkD room ps) (h2 : okN nm = true) (h : findF ps nm = k) : atD room ps nm = ((k : Int), 0) := by
  unfold atD
  rw [if_pos ⟨h1, h2⟩, h, if_neg (by omega)]
end Go.Proofs.Ytejbbhjhinkcdaa.ICom14
