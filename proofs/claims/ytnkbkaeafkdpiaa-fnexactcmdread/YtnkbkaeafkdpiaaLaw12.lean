/- What chapter 12's laws carry from call to call: structs of two cells in boxes, and the laws' own helpers on commands and replies. -/
import Derived.Test.YtnkbkaeafkdpiaaLaw11
import Derived.Test.YtnkbkaeafkdpiaaLawS11
import Derived.Test.YtnkbkaeafkdpiaaVOI
namespace Go.Proofs.Ytnkbkaeafkdpiaa.Law12
open Go.ChangeShapes Go.WideShapes Go.ChangeAt Go.RowKit
set_option linter.unusedVariables false
set_option linter.unusedSimpArgs false

theorem hide {p : Prop} (h : p) : Hid p := h
theorem unhide {p : Prop} (h : Hid p) : p := h
theorem one_more (w : World) (o : Obj) : Below w.heap.size w (w.alloc o) := (Below.refl _ _).alloc (Nat.le_refl _) _

theorem grown_trans {a b c : World} {row : Option Nat} (G : a.grownBy b row) (q : b.grownBy c row) : a.grownBy c row :=
  ⟨q.os.trans G.os, q.tape.trans G.tape, q.output.trans G.output, Nat.le_trans G.size q.size, fun j hj hne => (q.block j (Nat.lt_of_lt_of_le hj G.size) hne).trans (G.block j hj hne)⟩

/-- Two cells in a block. -/
structure Kb (W : World) (g : Nat) (v0 v1 : Value) : Prop where
  c0 : W.cell? ⟨g, 0, none⟩ = some v0
  c1 : W.cell? ⟨g, 1, none⟩ = some v1
  lt : g < W.heap.size
theorem Kb.made (w : World) (v0 v1 : Value) (t : TypeId) : Kb (w.alloc (.cells #[v0, v1] t)) w.heap.size v0 v1 := ⟨by simp, by simp, by simp⟩
theorem Kb.step {W W' : World} {g : Nat} {v0 v1 : Value} (h : Kb W g v0 v1) (k : Below W.heap.size W W') : Kb W' g v0 v1 := ⟨(k.cell (p := ⟨g, 0, none⟩) h.lt).trans h.c0, (k.cell (p := ⟨g, 1, none⟩) h.lt).trans h.c1, Nat.lt_of_lt_of_le h.lt k.size⟩
theorem Kb.kept {W W' : World} {g : Nat} {v0 v1 : Value} {row : Option Nat} (h : Kb W g v0 v1) (k : W.grownBy W' row) (ne : some g ≠ row) : Kb W' g v0 v1 := ⟨k.cell h.c0 ne, k.cell h.c1 ne, Nat.lt_of_lt_of_le h.lt k.size⟩

set_option maxRecDepth 100000 in
theorem toR (w : World) (x y : Int) : Calls Try.prog 28 #[.agg #[.int .i64 x, .int .i64 y]] w fun e w' => e = .returned (.agg #[.int .i64 x, .int .i64 y]) ∧ Below w.heap.size w w' := by
  go_enter Try.func28, Try.ntmps28
  go_wp2
  refine bodyPost_ret (v := .agg #[.int .i64 x, .int .i64 y]) (by simp [results, Try.results28, go_sem]) rfl ⟨rfl, ?_⟩
  exact (((Below.refl _ w).alloc (Nat.le_refl _) _).alloc (by simp) _).alloc (by simp; omega) _

set_option maxRecDepth 100000 in
theorem eqR (w : World) (x y : Int) : Calls Try.prog 29 #[.agg #[.int .i64 x, .int .i64 y], .agg #[.int .i64 x, .int .i64 y]] w fun e w' => e = .returned (.bool true) ∧ Below w.heap.size w w' := by
  have h0 : (x != x) = false := by simp
  have h1 : (y != y) = false := by simp
  have b1 := one_more w (.cells #[.int .i64 x, .int .i64 y] 25)
  have b2 := one_more (w.alloc (.cells #[.int .i64 x, .int .i64 y] 25)) (.cells #[.int .i64 x, .int .i64 y] 25)
  have B := hide (b1.trans (b2.mono b1.size))
  clear b1 b2
  go_enter Try.func29, Try.ntmps29
  go_wp2
  go_ret
  exact ⟨rfl, unhide B⟩

set_option maxRecDepth 100000 in
theorem eqCm (w : World) (k : Int) (a1 a2 : Option Addr) (n c1 c2 : Nat) (xs : List Int) (hl : xs.length = n) (h20 : n ≤ 1048576) (h1 : VOI.Rd w a1 xs) (h2 : VOI.Rd w a2 xs) :
    Calls Try.prog 20 #[.agg #[.int .i64 k, .slice a1 n c1], .agg #[.int .i64 k, .slice a2 n c2]] w fun e w' => e = .returned (.bool true) ∧ Below w.heap.size w w' := by
  have b1 := one_more w (.cells #[.int .i64 k, .slice a1 n c1] 37)
  have b2 := one_more (w.alloc (.cells #[.int .i64 k, .slice a1 n c1] 37)) (.cells #[.int .i64 k, .slice a2 n c2] 37)
  have B := hide (b1.trans (b2.mono b1.size))
  have H1 := hide (h1.below (unhide B))
  have H2 := hide (h2.below (unhide B))
  have hq : (k != k) = false := by simp
  clear h1 h2 b1 b2
  go_enter Try.func20, Try.ntmps20
  go_wp2_with fail
  refine (VOI.eqO _ a1 a2 n c1 c2 xs hl h20 (unhide H1) (unhide H2)).mono ?_
  rintro e w1 ⟨rfl, bb⟩
  have B2 := hide ((unhide B).trans (bb.mono (unhide B).size))
  clear bb
  go_wp2
  go_ret
  exact ⟨rfl, unhide B2⟩

set_option maxRecDepth 100000 in
theorem markCm (w : World) (k : Int) (base n cap : Nat) (a : Option Addr) (xs : List Int) (h20 : n ≤ 1048576) (ho : VOI.Ob w base a n cap xs) :
    Calls Try.prog 21 #[.agg #[.int .i64 k, .slice a n cap], .int .i64 1] w fun e w' => e = .returned (.int .i64 (1 + (n : Int))) ∧ VOI.Ob w' base a n cap (Ints.marks 1 n) ∧ (∀ row, row = VOI.blk a → w.grownBy w' row) := by
  have HO := hide (ho.step (one_more w (.cells #[.int .i64 k, .slice a n cap] 37)))
  clear ho
  go_enter Try.func21, Try.ntmps21
  go_wp2_with fail
  refine (VOI.markO _ base n cap a xs h20 (unhide HO)).mono ?_
  rintro e w1 ⟨rfl, o, gr⟩
  have O := hide o
  have GR := hide (fun row (e : row = VOI.blk a) => grown_trans (World.grownBy_alloc w (.cells #[.int .i64 k, .slice a n cap] 37) row) (e ▸ gr))
  clear o gr
  go_wp2
  go_ret
  exact ⟨rfl, unhide O, unhide GR⟩

set_option maxRecDepth 100000 in
theorem heldCm (w : World) (k : Int) (n cap : Nat) (a : Option Addr) (h20 : n ≤ 1048576) (h : VOI.Rd w a (Ints.marks 1 n)) :
    Calls Try.prog 27 #[.agg #[.int .i64 k, .slice a n cap], .int .i64 1] w fun e w' => e = .returned (.int .i64 (1 + (n : Int))) ∧ Below w.heap.size w w' := by
  have B := hide (one_more w (.cells #[.int .i64 k, .slice a n cap] 37))
  have H := hide (h.below (unhide B))
  have m0 : ¬ (1 + (n : Int) < 0) := by omega
  clear h
  go_enter Try.func27, Try.ntmps27
  go_wp2_with fail
  refine (VOI.heldO _ n cap a h20 (unhide H)).mono ?_
  rintro e w1 ⟨rfl, rfl⟩
  go_wp2
  go_ret
  exact ⟨rfl, unhide B⟩

end Go.Proofs.Ytnkbkaeafkdpiaa.Law12
