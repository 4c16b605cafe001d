/- What chapter 14's laws carry from call to call. -/
import Derived.Test.YtejbbhjhinkcdaaSCom14
namespace Go.Proofs.Ytejbbhjhinkcdaa.Law14
open Go.ChangeShapes Go.WideShapes Go.ChangeAt Go.RowKit Fil14 OpensF14 DiskH14 DkH14 SCom14
set_option linter.unusedVariables false
set_option linter.unusedSimpArgs false

/-- The argument in its box, and what is read of it. -/
structure La (w W : World) (k : Int) (a : Option Addr) (len cap : Nat) (ps : List TF) : Prop where
  c0 : W.cell? ⟨w.heap.size, 0, none⟩ = some (.int .i64 k)
  c1 : W.cell? ⟨w.heap.size, 1, none⟩ = some (.slice a len cap)
  s : w.heap.size < W.heap.size
  b : Below w.heap.size w W
  r : ReadsF W a ps
section
variable {w W W' : World} {k : Int} {a : Option Addr} {len cap : Nat} {ps : List TF}
theorem La.start (h : ReadsF w a ps) (e : TypeId) : La w (w.alloc (.cells #[.int .i64 k, .slice a len cap] e)) k a len cap ps :=
  ⟨by simp, by simp, by simp, one_more _ _, h.below (one_more _ _)⟩
theorem La.step (h : La w W k a len cap ps) (b : Below W.heap.size W W') : La w W' k a len cap ps :=
  ⟨(b.cell (p := ⟨w.heap.size, 0, none⟩) h.s).trans h.c0, (b.cell (p := ⟨w.heap.size, 1, none⟩) h.s).trans h.c1, Nat.lt_of_lt_of_le h.s b.size, h.b.trans (b.mono (Nat.le_of_lt h.s)), h.r.below b⟩
theorem La.turn {B : Nat} (H : ReadsF w a ps) (h : La w W k a len cap ps) (b : Below B W W') (hB : w.heap.size < B) : La w W' k a len cap ps := by
  have q := h.b.trans (b.mono (Nat.le_of_lt hB))
  exact ⟨(b.cell (p := ⟨w.heap.size, 0, none⟩) hB).trans h.c0, (b.cell (p := ⟨w.heap.size, 1, none⟩) hB).trans h.c1, Nat.lt_of_lt_of_le h.s b.size, q, H.below q⟩
end

/-- A disk in a box. -/
structure Kd (W : World) (g : Nat) (x : Dx) : Prop where
  c0 : W.cell? ⟨g, 0, none⟩ = some (.int .i64 x.room)
  c1 : W.cell? ⟨g, 1, none⟩ = some (.slice x.a x.ps.length x.c)
  lt : g < W.heap.size
theorem Kd.made (w : World) (x : Dx) (e : TypeId) : Kd (w.alloc (.cells #[.int .i64 x.room, .slice x.a x.ps.length x.c] e)) w.heap.size x := ⟨by simp, by simp, by simp⟩
theorem Kd.step {W W' : World} {g : Nat} {x : Dx} (h : Kd W g x) (k : Below W.heap.size W W') : Kd W' g x :=
  ⟨(k.cell (p := ⟨g, 0, none⟩) h.lt).trans h.c0, (k.cell (p := ⟨g, 1, none⟩) h.lt).trans h.c1, Nat.lt_of_lt_of_le h.lt k.size⟩
theorem Kd.turn {W W' : World} {g : Nat} {x y : Dx} (h : Kd W g x) (k : TurnD y W W') (n : some g ≠ (Value.slice y.a y.ps.length y.c).ownBlock) : Kd W' g x := by
  have e : W'.heap[g]? = W.heap[g]? := k.block g h.lt n
  exact ⟨(World.cell?_of_block (w := W) e).trans h.c0, (World.cell?_of_block (w := W) e).trans h.c1, Nat.lt_of_lt_of_le h.lt k.size⟩
/-- A disk's files behind marks on another one's. -/
theorem own_turn {W W' : World} {base : Nat} {x y : Dx} (h : OwD W base x) (k : TurnD y W W') (n : ∀ g, (Value.slice x.a x.ps.length x.c).ownBlock = some g → some g ≠ (Value.slice y.a y.ps.length y.c).ownBlock) : OwD W' base x := by
  refine ⟨h.1, ?_⟩
  rcases h.2 with h1 | ⟨g, c, cur, h1, h2, h3, h4⟩
  · exact .inl h1
  · exact .inr ⟨g, c, cur, h1, h2, (k.block g (World.ownsRow.lt h g (by rw [h1]; rfl)).2 (n g (by rw [h1]; rfl))).trans h3, h4⟩
theorem rd_turn {W W' : World} {x y : Dx} (h : RdD W x) (k : TurnD y W W') (n : ∀ g, x.a = some ⟨g, 0, none⟩ → some g ≠ (Value.slice y.a y.ps.length y.c).ownBlock) : RdD W' x :=
  ⟨h.e, fun g e => ⟨Nat.lt_of_lt_of_le (h.r g e).1 k.size, fun i hi => by
    obtain ⟨p0, p1, p2⟩ := (h.r g e).2 i hi
    have q : W'.heap[g]? = W.heap[g]? := k.block g (h.r g e).1 (n g e)
    exact ⟨(World.cell?_of_block (w := W) q).trans p0, (World.cell?_of_block (w := W) q).trans p1, (World.cell?_of_block (w := W) q).trans p2⟩⟩, h.n⟩
/-- A block is none of a disk's that lies elsewhere. -/
theorem out_lo {W : World} {base : Nat} {y : Dx} {g : Nat} (h : OwD W base y) (hg : g < base) : some g ≠ (Value.slice y.a y.ps.length y.c).ownBlock := fun e => by
  have := (World.ownsRow.lt h g e.symm).1
  omega
theorem out_up {W : World} {base : Nat} {y : Dx} {g : Nat} (h : OwD W base y) (hg : W.heap.size ≤ g) : some g ≠ (Value.slice y.a y.ps.length y.c).ownBlock := fun e => by
  have := (World.ownsRow.lt h g e.symm).2
  omega
theorem own_lt {W : World} {base g : Nat} {y : Dx} (h : OwD W base y) (e : (Value.slice y.a y.ps.length y.c).ownBlock = some g) : base ≤ g ∧ g < W.heap.size := World.ownsRow.lt h g e
theorem own_base {W : World} {base base' : Nat} {y : Dx} (h : OwD W base y) (hb : base' ≤ base) : OwD W base' y := App14.row_base h hb

end Go.Proofs.Ytejbbhjhinkcdaa.Law14
