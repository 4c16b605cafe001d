/- What chapter 14's laws carry from call to call. -/
import Derived.Test.YtejbbhjhinkcdaaSCom14
namespace Go.Proofs.Ytejbbhjhinkcdaa.Law14
open Go.ChangeShapes Go.WideShapes Go.ChangeAt Go.RowKit Fil14 DiskH14 DkH14 SCom14
set_option linter.unusedVariables false
set_option linter.unusedSimpArgs false
/-- The argument in its box, and what is read of it. -/
structure La (w W : World) (k : Int) (a : Option Addr) (len cap : Nat) (ps : List TF) : Prop where
  c0 : W.cell? ⟨w.heap.size, 0, none⟩ = some (.int .i64 k)
  c1 : W.cell? ⟨w.heap.size, 1, none⟩ = some (.slice a len cap)
  s : w.heap.size < W.heap.size
  b : Below w.heap.size w W
  r : ReadsF W a ps
section
variable {w W W' : World} {k : Int} {a : Option Addr} {len cap : Nat} {ps : List TF}
theorem La.step (h : La w W k a len cap ps) (b : Below W.heap.size W W') : La w W' k a len cap ps :=
  ⟨(b.cell (p := ⟨w.heap.size, 0, none⟩) h.s).trans h.c0, (b.cell (p := ⟨w.heap.size, 1, none⟩) h.s).trans h.c1, Nat.lt_of_lt_of_le h.s b.size, h.b.trans (b.mono (Nat.le_of_lt h.s)), h.r.below b⟩
theorem La.turn {B : Nat} (H : ReadsF w a ps) (h : La w W k a len cap ps) (b : Below B W W') (hB : w.heap.size < B) : La w W' k a len cap ps := by
  have q := h.b.trans (b.mono (Nat.le_of_lt hB))
  exact ⟨(b.cell (p := ⟨w.heap.size, 0, none⟩) hB).trans h.c0, (b.cell (p := ⟨w.heap.size, 1, none⟩) hB).trans h.c1, Nat.lt_of_lt_of_le h.s b.size, q, H.below q⟩
end
/-- A disk in a box. -/
structure Kd (W : World) (g : Nat) (x : Dx) : Prop where
  c0 : W.cell? ⟨g, 0, none⟩ = some (.int .i64 x.room)
  c1 : W.cell? ⟨g, 1, none⟩ = some (.slice x.a x.ps.length x.c)
  lt : g < W.heap.size
theorem Kd.made (w : World) (x : Dx) (e : TypeId) : Kd (w.alloc (.cells #[.int .i64 x.room, .slice x.a x.ps.length x.c] e)) w.heap.size x := ⟨by simp, by simp, by simp⟩
theorem Kd.step {W W' : World} {g : Nat} {x : Dx} (h : Kd W g x) (k : Below W.heap.size W W') : Kd W' g x :=
  ⟨(k.cell (p := ⟨g, 0, none⟩) h.lt).trans h.c0, (k.cell (p := ⟨g, 1, none⟩) h.lt).trans h.c1, Nat.lt_of_lt_of_le h.lt k.size⟩
theorem Kd.turn {W W' : World} {g : Nat} {x y : Dx} (h : Kd W g x) (k : TurnD y W W') (n : some g ≠ (Value.slice y.a y.ps.length y.c).ownBlock) : Kd W' g x := by
  have e : W'.heap[g]? = W.heap[g]? := k.block g h.lt n
  exact ⟨(World.cell?_of_block (w := W) e).trans h.c0, (World.cell?_of_block (w := W) e).trans h.c1, Nat.lt_of_lt_of_le h.lt k.size⟩
end Go.Proofs.Ytejbbhjhinkcdaa.Law14
