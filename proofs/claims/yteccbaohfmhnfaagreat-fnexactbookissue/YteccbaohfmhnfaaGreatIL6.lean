/- Texts of one proof, one behind the other: BZero, LawQ, Copy, SCopy, Ans, AnyInv, ICopied, ICmdB, ICmd. -/
import Derived.Test.YteccbaohfmhnfaaGreatRows
import Derived.Test.YteccbaohfmhnfaaGreatIA1
import Derived.Test.YteccbaohfmhnfaaGreatIA2
import Derived.Test.YteccbaohfmhnfaaGreatIL3
import Derived.Test.YteccbaohfmhnfaaGreatIL4
import Derived.Test.YteccbaohfmhnfaaGreatIL5
import Derived.WalkKit
import Derived.ProofKit
import Derived.Below
import Derived.Maps.AppendAt
import Derived.Orders
import Derived.Defers
set_option linter.unusedVariables false
set_option linter.unusedSimpArgs false
namespace Go.Proofs.YteccbaohfmhnfaaGreat.BZero
open Go.ChangeShapes Go.WideShapes Go.ChangeAt Go.RowKit
theorem hide {p : Prop} (h : p) : Hid p := h
theorem unhide {p : Prop} (h : Hid p) : p := h
set_option maxRecDepth 100000 in
theorem eqAccount (w : World) : Calls Tryz.prog 35 #[.slice none 0 0, .slice none 0 0] w fun e w' => e = .returned (.bool true) ∧ w' = w := by
  go_enter Tryz.func35, Tryz.ntmps35
  go_wp2
  go_loopw [5] (fun j wr => j = .int .i64 0 ∧ wr = w) (fun _ _ => 0)
  case atStart => exact ⟨rfl, rfl⟩
  case round =>
    obtain ⟨rfl, rfl⟩ := hrel
    go_wp2
    go_ret
    exact ⟨rfl, rfl⟩
set_option maxRecDepth 100000 in
theorem markAccount (w : World) (s : Int) : Calls Tryz.prog 40 #[.slice none 0 0, .int .i64 s] w fun e w' => e = .returned (.int .i64 s) ∧ w' = w := by
  go_enter Tryz.func40, Tryz.ntmps40
  go_wp2
  go_loopw [1, 5] (fun m j wr => m = .int .i64 s ∧ j = .int .i64 0 ∧ wr = w) (fun _ _ _ => 0)
  case atStart => exact ⟨rfl, rfl, rfl⟩
  case round =>
    obtain ⟨rfl, rfl, rfl⟩ := hrel
    go_wp2
    go_ret
    exact ⟨rfl, rfl⟩
set_option maxRecDepth 100000 in
theorem heldAccount (w : World) (s : Int) : Calls Tryz.prog 45 #[.slice none 0 0, .int .i64 s] w fun e w' => e = .returned (.int .i64 s) ∧ w' = w := by
  go_enter Tryz.func45, Tryz.ntmps45
  go_wp2
  go_loopw [1, 5] (fun m j wr => m = .int .i64 s ∧ j = .int .i64 0 ∧ wr = w) (fun _ _ _ => 0)
  case atStart => exact ⟨rfl, rfl, rfl⟩
  case round =>
    obtain ⟨rfl, rfl, rfl⟩ := hrel
    go_wp2
    go_ret
    exact ⟨rfl, rfl⟩
set_option maxRecDepth 100000 in
theorem eqInstr (w : World) : Calls Tryz.prog 36 #[.slice none 0 0, .slice none 0 0] w fun e w' => e = .returned (.bool true) ∧ w' = w := by
  go_enter Tryz.func36, Tryz.ntmps36
  go_wp2
  go_loopw [5] (fun j wr => j = .int .i64 0 ∧ wr = w) (fun _ _ => 0)
  case atStart => exact ⟨rfl, rfl⟩
  case round =>
    obtain ⟨rfl, rfl⟩ := hrel
    go_wp2
    go_ret
    exact ⟨rfl, rfl⟩
set_option maxRecDepth 100000 in
theorem markInstr (w : World) (s : Int) : Calls Tryz.prog 41 #[.slice none 0 0, .int .i64 s] w fun e w' => e = .returned (.int .i64 s) ∧ w' = w := by
  go_enter Tryz.func41, Tryz.ntmps41
  go_wp2
  go_loopw [1, 5] (fun m j wr => m = .int .i64 s ∧ j = .int .i64 0 ∧ wr = w) (fun _ _ _ => 0)
  case atStart => exact ⟨rfl, rfl, rfl⟩
  case round =>
    obtain ⟨rfl, rfl, rfl⟩ := hrel
    go_wp2
    go_ret
    exact ⟨rfl, rfl⟩
set_option maxRecDepth 100000 in
theorem heldInstr (w : World) (s : Int) : Calls Tryz.prog 46 #[.slice none 0 0, .int .i64 s] w fun e w' => e = .returned (.int .i64 s) ∧ w' = w := by
  go_enter Tryz.func46, Tryz.ntmps46
  go_wp2
  go_loopw [1, 5] (fun m j wr => m = .int .i64 s ∧ j = .int .i64 0 ∧ wr = w) (fun _ _ _ => 0)
  case atStart => exact ⟨rfl, rfl, rfl⟩
  case round =>
    obtain ⟨rfl, rfl, rfl⟩ := hrel
    go_wp2
    go_ret
    exact ⟨rfl, rfl⟩
set_option maxRecDepth 100000 in
theorem eqBal (w : World) : Calls Tryz.prog 37 #[.slice none 0 0, .slice none 0 0] w fun e w' => e = .returned (.bool true) ∧ w' = w := by
  go_enter Tryz.func37, Tryz.ntmps37
  go_wp2
  go_loopw [5] (fun j wr => j = .int .i64 0 ∧ wr = w) (fun _ _ => 0)
  case atStart => exact ⟨rfl, rfl⟩
  case round =>
    obtain ⟨rfl, rfl⟩ := hrel
    go_wp2
    go_ret
    exact ⟨rfl, rfl⟩
set_option maxRecDepth 100000 in
theorem markBal (w : World) (s : Int) : Calls Tryz.prog 42 #[.slice none 0 0, .int .i64 s] w fun e w' => e = .returned (.int .i64 s) ∧ w' = w := by
  go_enter Tryz.func42, Tryz.ntmps42
  go_wp2
  go_loopw [1, 5] (fun m j wr => m = .int .i64 s ∧ j = .int .i64 0 ∧ wr = w) (fun _ _ _ => 0)
  case atStart => exact ⟨rfl, rfl, rfl⟩
  case round =>
    obtain ⟨rfl, rfl, rfl⟩ := hrel
    go_wp2
    go_ret
    exact ⟨rfl, rfl⟩
set_option maxRecDepth 100000 in
theorem heldBal (w : World) (s : Int) : Calls Tryz.prog 47 #[.slice none 0 0, .int .i64 s] w fun e w' => e = .returned (.int .i64 s) ∧ w' = w := by
  go_enter Tryz.func47, Tryz.ntmps47
  go_wp2
  go_loopw [1, 5] (fun m j wr => m = .int .i64 s ∧ j = .int .i64 0 ∧ wr = w) (fun _ _ _ => 0)
  case atStart => exact ⟨rfl, rfl, rfl⟩
  case round =>
    obtain ⟨rfl, rfl, rfl⟩ := hrel
    go_wp2
    go_ret
    exact ⟨rfl, rfl⟩
set_option maxRecDepth 100000 in
theorem eqLot (w : World) : Calls Tryz.prog 38 #[.slice none 0 0, .slice none 0 0] w fun e w' => e = .returned (.bool true) ∧ w' = w := by
  go_enter Tryz.func38, Tryz.ntmps38
  go_wp2
  go_loopw [5] (fun j wr => j = .int .i64 0 ∧ wr = w) (fun _ _ => 0)
  case atStart => exact ⟨rfl, rfl⟩
  case round =>
    obtain ⟨rfl, rfl⟩ := hrel
    go_wp2
    go_ret
    exact ⟨rfl, rfl⟩
set_option maxRecDepth 100000 in
theorem markLot (w : World) (s : Int) : Calls Tryz.prog 43 #[.slice none 0 0, .int .i64 s] w fun e w' => e = .returned (.int .i64 s) ∧ w' = w := by
  go_enter Tryz.func43, Tryz.ntmps43
  go_wp2
  go_loopw [1, 5] (fun m j wr => m = .int .i64 s ∧ j = .int .i64 0 ∧ wr = w) (fun _ _ _ => 0)
  case atStart => exact ⟨rfl, rfl, rfl⟩
  case round =>
    obtain ⟨rfl, rfl, rfl⟩ := hrel
    go_wp2
    go_ret
    exact ⟨rfl, rfl⟩
set_option maxRecDepth 100000 in
theorem heldLot (w : World) (s : Int) : Calls Tryz.prog 48 #[.slice none 0 0, .int .i64 s] w fun e w' => e = .returned (.int .i64 s) ∧ w' = w := by
  go_enter Tryz.func48, Tryz.ntmps48
  go_wp2
  go_loopw [1, 5] (fun m j wr => m = .int .i64 s ∧ j = .int .i64 0 ∧ wr = w) (fun _ _ _ => 0)
  case atStart => exact ⟨rfl, rfl, rfl⟩
  case round =>
    obtain ⟨rfl, rfl, rfl⟩ := hrel
    go_wp2
    go_ret
    exact ⟨rfl, rfl⟩
set_option maxRecDepth 100000 in
theorem eqTrade (w : World) : Calls Tryz.prog 39 #[.slice none 0 0, .slice none 0 0] w fun e w' => e = .returned (.bool true) ∧ w' = w := by
  go_enter Tryz.func39, Tryz.ntmps39
  go_wp2
  go_loopw [5] (fun j wr => j = .int .i64 0 ∧ wr = w) (fun _ _ => 0)
  case atStart => exact ⟨rfl, rfl⟩
  case round =>
    obtain ⟨rfl, rfl⟩ := hrel
    go_wp2
    go_ret
    exact ⟨rfl, rfl⟩
set_option maxRecDepth 100000 in
theorem markTrade (w : World) (s : Int) : Calls Tryz.prog 44 #[.slice none 0 0, .int .i64 s] w fun e w' => e = .returned (.int .i64 s) ∧ w' = w := by
  go_enter Tryz.func44, Tryz.ntmps44
  go_wp2
  go_loopw [1, 5] (fun m j wr => m = .int .i64 s ∧ j = .int .i64 0 ∧ wr = w) (fun _ _ _ => 0)
  case atStart => exact ⟨rfl, rfl, rfl⟩
  case round =>
    obtain ⟨rfl, rfl, rfl⟩ := hrel
    go_wp2
    go_ret
    exact ⟨rfl, rfl⟩
set_option maxRecDepth 100000 in
theorem heldTrade (w : World) (s : Int) : Calls Tryz.prog 49 #[.slice none 0 0, .int .i64 s] w fun e w' => e = .returned (.int .i64 s) ∧ w' = w := by
  go_enter Tryz.func49, Tryz.ntmps49
  go_wp2
  go_loopw [1, 5] (fun m j wr => m = .int .i64 s ∧ j = .int .i64 0 ∧ wr = w) (fun _ _ _ => 0)
  case atStart => exact ⟨rfl, rfl, rfl⟩
  case round =>
    obtain ⟨rfl, rfl, rfl⟩ := hrel
    go_wp2
    go_ret
    exact ⟨rfl, rfl⟩
set_option maxRecDepth 100000 in
theorem eqB0 (w : World) : Calls Tryz.prog 8 #[.agg #[.slice none 0 0, .slice none 0 0, .slice none 0 0, .slice none 0 0, .slice none 0 0, .int .i64 0], .agg #[.slice none 0 0, .slice none 0 0, .slice none 0 0, .slice none 0 0, .slice none 0 0, .int .i64 0]] w fun e w' => e = .returned (.bool true) ∧ Below w.heap.size w w' := by
  have B := hide (((Below.refl w.heap.size w).alloc (Nat.le_refl _) (.cells #[.slice none 0 0, .slice none 0 0, .slice none 0 0, .slice none 0 0, .slice none 0 0, .int .i64 0] 36)).alloc (by simp) (.cells #[.slice none 0 0, .slice none 0 0, .slice none 0 0, .slice none 0 0, .slice none 0 0, .int .i64 0] 36))
  go_enter Tryz.func8, Tryz.ntmps8
  go_wp2_with fail
  refine (eqAccount _).mono ?_
  rintro e uAccount ⟨rfl, rfl⟩
  go_wp2_with fail
  refine (eqInstr _).mono ?_
  rintro e uInstr ⟨rfl, rfl⟩
  go_wp2_with fail
  refine (eqBal _).mono ?_
  rintro e uBal ⟨rfl, rfl⟩
  go_wp2_with fail
  refine (eqLot _).mono ?_
  rintro e uLot ⟨rfl, rfl⟩
  go_wp2_with fail
  refine (eqTrade _).mono ?_
  rintro e uTrade ⟨rfl, rfl⟩
  go_wp2
  go_ret
  exact ⟨rfl, unhide B⟩
set_option maxRecDepth 100000 in
theorem markB0 (w : World) : Calls Tryz.prog 9 #[.agg #[.slice none 0 0, .slice none 0 0, .slice none 0 0, .slice none 0 0, .slice none 0 0, .int .i64 0], .int .i64 1] w fun e w' => e = .returned (.int .i64 1) ∧ Below w.heap.size w w' := by
  have B := hide ((Below.refl w.heap.size w).alloc (Nat.le_refl _) (.cells #[.slice none 0 0, .slice none 0 0, .slice none 0 0, .slice none 0 0, .slice none 0 0, .int .i64 0] 36))
  go_enter Tryz.func9, Tryz.ntmps9
  go_wp2_with fail
  refine (markAccount _ _).mono ?_
  rintro e uAccount ⟨rfl, rfl⟩
  go_wp2_with fail
  refine (markInstr _ _).mono ?_
  rintro e uInstr ⟨rfl, rfl⟩
  go_wp2_with fail
  refine (markBal _ _).mono ?_
  rintro e uBal ⟨rfl, rfl⟩
  go_wp2_with fail
  refine (markLot _ _).mono ?_
  rintro e uLot ⟨rfl, rfl⟩
  go_wp2_with fail
  refine (markTrade _ _).mono ?_
  rintro e uTrade ⟨rfl, rfl⟩
  go_wp2
  go_ret
  exact ⟨rfl, unhide B⟩
set_option maxRecDepth 100000 in
theorem heldB0 (w : World) : Calls Tryz.prog 10 #[.agg #[.slice none 0 0, .slice none 0 0, .slice none 0 0, .slice none 0 0, .slice none 0 0, .int .i64 0], .int .i64 1] w fun e w' => e = .returned (.int .i64 1) ∧ Below w.heap.size w w' := by
  have B := hide ((Below.refl w.heap.size w).alloc (Nat.le_refl _) (.cells #[.slice none 0 0, .slice none 0 0, .slice none 0 0, .slice none 0 0, .slice none 0 0, .int .i64 0] 36))
  go_enter Tryz.func10, Tryz.ntmps10
  go_wp2_with fail
  refine (heldAccount _ _).mono ?_
  rintro e uAccount ⟨rfl, rfl⟩
  go_wp2_with fail
  refine (heldInstr _ _).mono ?_
  rintro e uInstr ⟨rfl, rfl⟩
  go_wp2_with fail
  refine (heldBal _ _).mono ?_
  rintro e uBal ⟨rfl, rfl⟩
  go_wp2_with fail
  refine (heldLot _ _).mono ?_
  rintro e uLot ⟨rfl, rfl⟩
  go_wp2_with fail
  refine (heldTrade _ _).mono ?_
  rintro e uTrade ⟨rfl, rfl⟩
  go_wp2
  go_ret
  exact ⟨rfl, unhide B⟩
end Go.Proofs.YteccbaohfmhnfaaGreat.BZero
namespace Go.Proofs.YteccbaohfmhnfaaGreat.LawQ
open Go.ChangeShapes Go.WideShapes Go.ChangeAt Go.RowKit BMem Bks BHelp BkEq LawB
open IBalsFit (one_more)
/-- The model's answer z, in its variable. -/
structure QZ (w W : World) (y : Ix) (z : Bx) (pz : Nat) : Prop where
  l : LB w W y
  bz : Bv W pz z
  oz : Ow W (w.heap.size + 1) z
  uz : Up z pz
  n : w.heap.size < pz
theorem QZ.step {w W W' : World} {y : Ix} {z : Bx} {pz : Nat} (h : QZ w W y z pz) (k : Below W.heap.size W W') : QZ w W' y z pz :=
  ⟨h.l.step k, h.bz.step k, h.oz.below k (Nat.le_refl _), h.uz, h.n⟩
/-- And the books x that are handed to the program. -/
structure QX (w W : World) (y : Ix) (z x : Bx) (pz px : Nat) : Prop where
  q : QZ w W y z pz
  bx : Bv W px x
  ox : Ow W (pz + 1) x
  ux : Up x px
  m : pz < px
theorem QX.step {w W W' : World} {y : Ix} {z x : Bx} {pz px : Nat} (h : QX w W y z x pz px) (k : Below W.heap.size W W') : QX w W' y z x pz px :=
  ⟨h.q.step k, h.bx.step k, h.ox.below k (Nat.le_refl _), h.ux, h.m⟩
/-- And the program's answer g. -/
structure QG (w W : World) (y : Ix) (z x g : Bx) (pz px pg : Nat) : Prop where
  q : QX w W y z x pz px
  bg : Bv W pg g
  og : Ow W (px + 1) g
  ug : Up g pg
  k : px < pg
theorem QG.step {w W W' : World} {y : Ix} {z x g : Bx} {pz px pg : Nat} (h : QG w W y z x g pz px pg) (k : Below W.heap.size W W') : QG w W' y z x g pz px pg :=
  ⟨h.q.step k, h.bg.step k, h.og.below k (Nat.le_refl _), h.ug, h.k⟩
/-- Behind the marks on x. -/
structure QM (w W : World) (y : Ix) (z g : Bx) (pz pg : Nat) : Prop where
  q : QZ w W y z pz
  bg : Bv W pg g
  og : Ow W (pz + 1) g
  ug : Up g pg
  k : pz < pg
theorem QM.step {w W W' : World} {y : Ix} {z g : Bx} {pz pg : Nat} (h : QM w W y z g pz pg) (k : Below W.heap.size W W') : QM w W' y z g pz pg :=
  ⟨h.q.step k, h.bg.step k, h.og.below k (Nat.le_refl _), h.ug, h.k⟩
theorem QG.turn {w W W' : World} {y : Ix} {z x g : Bx} {pz px pg : Nat} (H : RdI w y) (h : QG w W y z x g pz px pg) (t : Turn x W W') : QM w W' y z g pz pg := by
  have n := h.q.q.n
  have m := h.q.m
  have k := h.k
  have lx := ow_lo h.q.ox
  have lg := ow_lo h.og
  exact ⟨⟨LB.turn H h.q.q.l t (LawB.Lo.mono lx (by omega)), h.q.q.bz.turn t (.inl ⟨pz + 1, by omega, lx⟩), t.ow h.q.q.oz (.inr ⟨pz, LawB.Lo.mono lx (by omega), h.q.q.uz⟩), h.q.q.uz, n⟩, h.bg.turn t (.inr ⟨px, by omega, h.q.ux⟩), (t.ow h.og (.inl ⟨px, h.q.ux, LawB.Lo.mono lg (by omega)⟩)).rebase (by omega), h.ug, by omega⟩
/-- Behind the marks on g. -/
structure QH (w W : World) (y : Ix) (z g : Bx) (pz pg : Nat) : Prop where
  q : QZ w W y z pz
  bg : Bv W pg g
  og : OwM W (pz + 1) g
theorem QH.step {w W W' : World} {y : Ix} {z g : Bx} {pz pg : Nat} (h : QH w W y z g pz pg) (k : Below W.heap.size W W') : QH w W' y z g pz pg :=
  ⟨h.q.step k, h.bg.step k, h.og.below k⟩
theorem QM.turn {w W W' : World} {y : Ix} {z g : Bx} {pz pg : Nat} (H : RdI w y) (h : QM w W y z g pz pg) (t : Turn g W W') (o : OwM W' (pz + 1) g) : QH w W' y z g pz pg := by
  have n := h.q.n
  have k := h.k
  have lg := ow_lo h.og
  exact ⟨⟨LB.turn H h.q.l t (LawB.Lo.mono lg (by omega)), h.q.bz.turn t (.inl ⟨pz + 1, by omega, lg⟩), t.ow h.q.oz (.inr ⟨pz, LawB.Lo.mono lg (by omega), h.q.uz⟩), h.q.uz, n⟩, h.bg.turn t (.inr ⟨pg, Nat.le_refl _, h.ug⟩), o⟩
/-- A variable of books that holds nothing at all. -/
structure Zv (W : World) (g : Nat) : Prop where
  c0 : W.cell? ⟨g, 0, none⟩ = some (.slice none 0 0)
  c1 : W.cell? ⟨g, 1, none⟩ = some (.slice none 0 0)
  c2 : W.cell? ⟨g, 2, none⟩ = some (.slice none 0 0)
  c3 : W.cell? ⟨g, 3, none⟩ = some (.slice none 0 0)
  c4 : W.cell? ⟨g, 4, none⟩ = some (.slice none 0 0)
  c5 : W.cell? ⟨g, 5, none⟩ = some (.int .i64 0)
  l : g < W.heap.size
theorem Zv.step {W W' : World} {g : Nat} (h : Zv W g) (k : Below W.heap.size W W') : Zv W' g :=
  ⟨(k.cell (p := ⟨g, 0, none⟩) h.l).trans h.c0, (k.cell (p := ⟨g, 1, none⟩) h.l).trans h.c1, (k.cell (p := ⟨g, 2, none⟩) h.l).trans h.c2, (k.cell (p := ⟨g, 3, none⟩) h.l).trans h.c3, (k.cell (p := ⟨g, 4, none⟩) h.l).trans h.c4, (k.cell (p := ⟨g, 5, none⟩) h.l).trans h.c5, Nat.lt_of_lt_of_le h.l k.size⟩
theorem Zv.made (W : World) (e : TypeId) : Zv (W.alloc (.cells #[.slice none 0 0, .slice none 0 0, .slice none 0 0, .slice none 0 0, .slice none 0 0, .int .i64 0] e)) W.heap.size := ⟨by simp, by simp, by simp, by simp, by simp, by simp, by simp⟩
theorem Zv.turn {W W' : World} {g : Nat} {z : Bx} (h : Zv W g) (k : Turn z W W') (ne : (∃ N, g < N ∧ Lo z N) ∨ ∃ N, N ≤ g ∧ Up z N) : Zv W' g := by
  have e : W'.heap[g]? = W.heap[g]? := by
    refine k.block g h.l ?_ ?_ ?_ ?_ ?_
    all_goals
      rcases ne with ⟨N, a, b⟩ | ⟨N, a, b⟩
      · unfold Lo at b; omega
      · unfold Up at b; omega
  have cc : ∀ i, W'.cell? ⟨g, i, none⟩ = W.cell? ⟨g, i, none⟩ := fun i => World.cell?_of_block (w := W) (w' := W') (a := ⟨g, i, none⟩) e
  exact ⟨(cc 0).trans h.c0, (cc 1).trans h.c1, (cc 2).trans h.c2, (cc 3).trans h.c3, (cc 4).trans h.c4, (cc 5).trans h.c5, Nat.lt_of_lt_of_le h.l k.size⟩
/-- Nothing at all as the model's answer, the books x that are handed to the program, nothing at all as its answer. -/
structure ZX (w W : World) (y : Ix) (x : Bx) (pz px : Nat) : Prop where
  l : LB w W y
  zz : Zv W pz
  bx : Bv W px x
  ox : Ow W (pz + 1) x
  ux : Up x px
  n : w.heap.size < pz
theorem ZX.step {w W W' : World} {y : Ix} {x : Bx} {pz px : Nat} (h : ZX w W y x pz px) (k : Below W.heap.size W W') : ZX w W' y x pz px :=
  ⟨h.l.step k, h.zz.step k, h.bx.step k, h.ox.below k (Nat.le_refl _), h.ux, h.n⟩
structure ZG (w W : World) (y : Ix) (pz pg : Nat) : Prop where
  l : LB w W y
  zz : Zv W pz
  zg : Zv W pg
theorem ZG.step {w W W' : World} {y : Ix} {pz pg : Nat} (h : ZG w W y pz pg) (k : Below W.heap.size W W') : ZG w W' y pz pg :=
  ⟨h.l.step k, h.zz.step k, h.zg.step k⟩
theorem ZX.turn {w W W' : World} {y : Ix} {x : Bx} {pz px pg : Nat} (H : RdI w y) (h : ZX w W y x pz px) (g : Zv W pg) (hg : px ≤ pg) (t : Turn x W W') : ZG w W' y pz pg := by
  have n := h.n
  have lx := ow_lo h.ox
  exact ⟨LB.turn H h.l t (LawB.Lo.mono lx (by omega)), h.zz.turn t (.inl ⟨pz + 1, by omega, lx⟩), g.turn t (.inr ⟨px, hg, h.ux⟩)⟩
end Go.Proofs.YteccbaohfmhnfaaGreat.LawQ
namespace Go.Proofs.YteccbaohfmhnfaaGreat.Copy
open Go.ChangeShapes Go.WideShapes Go.ChangeAt Go.RowKit BMem
theorem cells2 {W : World} {g : Nat} {ps : List (Int × Int)} (h : Pairs.At W g ps) : ∀ (j : Nat) (u : Value), (Pairs.flat ps)[j]? = some u → W.cell? ((⟨g, 0, none⟩ : Addr).add j) = some u := by
  intro j u hj
  have hl : j < ps.length * 2 := by
    have := (List.getElem?_eq_some_iff.1 hj).1
    rw [Pairs.flat_len] at this
    exact this
  rw [Addr.add_lit, Nat.zero_add]
  obtain ⟨c0, c1⟩ := h (j / 2) (by omega)
  obtain ⟨f0, f1⟩ := Pairs.flat_get ps (j / 2) (by omega)
  rcases (show j % 2 = 0 ∨ j % 2 = 1 by omega) with e | e
  · rw [show j / 2 * 2 = j by omega] at c0 f0
    rw [c0, ← hj, f0]
  · rw [show j / 2 * 2 + 1 = j by omega] at c1 f1
    rw [c1, ← hj, f1]
theorem cells3 {W : World} {g : Nat} {ps : List Bals.T3} (h : Triples.At3 W g ps) : ∀ (j : Nat) (u : Value), (Triples.flat3 ps)[j]? = some u → W.cell? ((⟨g, 0, none⟩ : Addr).add j) = some u := by
  intro j u hj
  have hl : j < ps.length * 3 := by
    have := (List.getElem?_eq_some_iff.1 hj).1
    rw [Triples.flat3_len] at this
    exact this
  rw [Addr.add_lit, Nat.zero_add]
  obtain ⟨c0, c1, c2⟩ := h (j / 3) (by omega)
  obtain ⟨f0, f1, f2⟩ := Triples.flat3_get ps (j / 3) (by omega)
  rcases (show j % 3 = 0 ∨ j % 3 = 1 ∨ j % 3 = 2 by omega) with e | e | e
  · rw [show j / 3 * 3 = j by omega] at c0 f0
    rw [c0, ← hj, f0]
  · rw [show j / 3 * 3 + 1 = j by omega] at c1 f1
    rw [c1, ← hj, f1]
  · rw [show j / 3 * 3 + 2 = j by omega] at c2 f2
    rw [c2, ← hj, f2]
theorem cells5 {W : World} {g : Nat} {ps : List Tup5.T5} (h : Tup5.At5 W g ps) : ∀ (j : Nat) (u : Value), (Tup5.flat5 ps)[j]? = some u → W.cell? ((⟨g, 0, none⟩ : Addr).add j) = some u := by
  intro j u hj
  have hl : j < ps.length * 5 := by
    have := (List.getElem?_eq_some_iff.1 hj).1
    rw [Tup5.flat5_len] at this
    exact this
  rw [Addr.add_lit, Nat.zero_add]
  obtain ⟨c0, c1, c2, c3, c4⟩ := h (j / 5) (by omega)
  obtain ⟨f0, f1, f2, f3, f4⟩ := Tup5.flat5_get ps (j / 5) (by omega)
  rcases (show j % 5 = 0 ∨ j % 5 = 1 ∨ j % 5 = 2 ∨ j % 5 = 3 ∨ j % 5 = 4 by omega) with e | e | e | e | e
  · rw [show j / 5 * 5 = j by omega] at c0 f0
    rw [c0, ← hj, f0]
  · rw [show j / 5 * 5 + 1 = j by omega] at c1 f1
    rw [c1, ← hj, f1]
  · rw [show j / 5 * 5 + 2 = j by omega] at c2 f2
    rw [c2, ← hj, f2]
  · rw [show j / 5 * 5 + 3 = j by omega] at c3 f3
    rw [c3, ← hj, f3]
  · rw [show j / 5 * 5 + 4 = j by omega] at c4 f4
    rw [c4, ← hj, f4]
theorem cells8 {W : World} {g : Nat} {ps : List Tup8.T8} (h : Tup8.At8 W g ps) : ∀ (j : Nat) (u : Value), (Tup8.flat8 ps)[j]? = some u → W.cell? ((⟨g, 0, none⟩ : Addr).add j) = some u := by
  intro j u hj
  have hl : j < ps.length * 8 := by
    have := (List.getElem?_eq_some_iff.1 hj).1
    rw [Tup8.flat8_len] at this
    exact this
  rw [Addr.add_lit, Nat.zero_add]
  obtain ⟨c0, c1, c2, c3, c4, c5, c6, c7⟩ := h (j / 8) (by omega)
  obtain ⟨f0, f1, f2, f3, f4, f5, f6, f7⟩ := Tup8.flat8_get ps (j / 8) (by omega)
  rcases (show j % 8 = 0 ∨ j % 8 = 1 ∨ j % 8 = 2 ∨ j % 8 = 3 ∨ j % 8 = 4 ∨ j % 8 = 5 ∨ j % 8 = 6 ∨ j % 8 = 7 by omega) with e | e | e | e | e | e | e | e
  · rw [show j / 8 * 8 = j by omega] at c0 f0
    rw [c0, ← hj, f0]
  · rw [show j / 8 * 8 + 1 = j by omega] at c1 f1
    rw [c1, ← hj, f1]
  · rw [show j / 8 * 8 + 2 = j by omega] at c2 f2
    rw [c2, ← hj, f2]
  · rw [show j / 8 * 8 + 3 = j by omega] at c3 f3
    rw [c3, ← hj, f3]
  · rw [show j / 8 * 8 + 4 = j by omega] at c4 f4
    rw [c4, ← hj, f4]
  · rw [show j / 8 * 8 + 5 = j by omega] at c5 f5
    rw [c5, ← hj, f5]
  · rw [show j / 8 * 8 + 6 = j by omega] at c6 f6
    rw [c6, ← hj, f6]
  · rw [show j / 8 * 8 + 7 = j by omega] at c7 f7
    rw [c7, ← hj, f7]
/-- An append at a step of a region, by what its run comes to. -/
theorem wpo_append {P : Program} {o : Oper} {a : Act} {u w' : World} {K : Act → World → Prop} {Q : Exit → Act → World → Prop} (s x : Operand) (T : TypeId) (ho : o.op = .call { callee := .builtin .append, args := #[s, x], argTypes := #[T, T] }) {vs vx v' : Value} (hs : a.eval s = vs) (hx : a.eval x = vx)
    (hr : (Builtin.append_ #[T, T] o.type #[vs, vx]).run P u = .ok v' w') (h : K (a.put o.dst v') w') : Oper.wp P o a u K Q := by
  unfold Oper.wp execOp
  simp only [ho, resolve, invoke, builtin, Sem.run_bind, Sem.run_pure, Result.andThen_ok, List.map_toArray, List.map_cons, List.map_nil, hs, hx, hr]
  exact h
/-- What the copy comes to. -/
theorem run_copy (w : World) (base : Nat) (t ty e : TypeId) (i : TypeInfo) (z : Value) (size bytes : Nat) (ht : Tryz.prog.underlying t = some (.slice e)) (hi : Tryz.prog.info? e = some i) (hz : i.zero = some z)
    (hsize : i.size = size) (hby : i.bytes = bytes) (hzs : z.cells.size = size) (hsz : 0 < size) (hbb : bytes ≤ 64) (g cap : Nat) (hown : w.ownsRow base e size (.slice (some ⟨g, 0, none⟩) 0 cap) 0 [])
    (b m c : Nat) (news : List Value) (hl : news.length = m * size) (hnews : ∀ j u, news[j]? = some u → w.cell? ((⟨b, 0, none⟩ : Addr).add j) = some u) (h1 : ∀ u ∈ news, u.oneCell' = true) (hm : m ≤ 1048576) (hbase : base ≤ w.heap.size) :
    ∃ g' c' w', (Builtin.append_ #[t, t] ty #[.slice (some ⟨g, 0, none⟩) 0 cap, .slice (some ⟨b, 0, none⟩) m c]).run Tryz.prog w = .ok (.slice (some ⟨g', 0, none⟩) m c') w' ∧ w'.ownsRow base e size (.slice (some ⟨g', 0, none⟩) m c') m news ∧ w.grownBy w' (some g) ∧ (g' = g ∨ g' = w.heap.size) := by
  obtain ⟨v', w', hr, ho, hg, hn, hb⟩ := run_append_own_at (P := Tryz.prog) w base t ty e i z size bytes ht hi hz hsize hby hzs hsz (.slice (some ⟨g, 0, none⟩) 0 cap) 0 [] hown ⟨b, 0, none⟩ m c news hl hnews h1 (by unfold maxLen; omega) (by
    have : (0 + m) * bytes ≤ 1048576 * 64 := Nat.mul_le_mul (by omega) hbb
    omega) hbase
  rw [Nat.zero_add, List.nil_append] at ho
  have ne : ¬ v' = .slice none 0 0 := fun e => by have := (hn.1 e).1; simp at this
  rcases ho.2 with ⟨e1, _⟩ | ⟨g', c', cur, e1, h2, h3⟩
  · exact absurd e1 ne
  · subst e1
    refine ⟨g', c', w', hr, ho, hg, ?_⟩
    rcases hb with hb | hb
    · exact .inl (by simpa [Value.ownBlock] using hb)
    · exact .inr (by simpa [Value.ownBlock] using hb)
theorem infoAccount : (Tryz.prog.info? 86).map (fun i => (i.zero, i.size, i.bytes)) = some (some (.agg #[.int .i64 0, .int .i64 0]), 2, 16) := by kernel_rfl
theorem copyAccount (w : World) (base g cap : Nat) (hown : w.ownsRow base 86 2 (.slice (some ⟨g, 0, none⟩) 0 cap) 0 []) (ty : TypeId) (b c : Nat) (ps : List (Int × Int)) (h : Pairs.At w b ps) (hm : ps.length ≤ 1048576) (hbase : base ≤ w.heap.size) :
    ∃ g' c' w', (Builtin.append_ #[30, 30] ty #[.slice (some ⟨g, 0, none⟩) 0 cap, .slice (some ⟨b, 0, none⟩) ps.length c]).run Tryz.prog w = .ok (.slice (some ⟨g', 0, none⟩) ps.length c') w' ∧ w'.ownsRow base 86 2 (.slice (some ⟨g', 0, none⟩) ps.length c') ps.length (Pairs.flat ps) ∧ w.grownBy w' (some g) ∧ (g' = g ∨ g' = w.heap.size) := by
  obtain ⟨i0, hi, hz0, hz1, hz2⟩ := info_parts infoAccount
  exact run_copy w base 30 ty 86 i0 (.agg #[.int .i64 0, .int .i64 0]) 2 16 Tryz.underlying30 hi hz0 hz1 hz2 rfl (by decide) (by decide) g cap hown b ps.length c (Pairs.flat ps) (Pairs.flat_len ps) (cells2 h) (fun u hu => Pairs.flat_one u ps hu) hm hbase
theorem infoInstr : (Tryz.prog.info? 87).map (fun i => (i.zero, i.size, i.bytes)) = some (some (.agg #[.int .i64 0, .int .i64 0]), 2, 16) := by kernel_rfl
theorem copyInstr (w : World) (base g cap : Nat) (hown : w.ownsRow base 87 2 (.slice (some ⟨g, 0, none⟩) 0 cap) 0 []) (ty : TypeId) (b c : Nat) (ps : List (Int × Int)) (h : Pairs.At w b ps) (hm : ps.length ≤ 1048576) (hbase : base ≤ w.heap.size) :
    ∃ g' c' w', (Builtin.append_ #[31, 31] ty #[.slice (some ⟨g, 0, none⟩) 0 cap, .slice (some ⟨b, 0, none⟩) ps.length c]).run Tryz.prog w = .ok (.slice (some ⟨g', 0, none⟩) ps.length c') w' ∧ w'.ownsRow base 87 2 (.slice (some ⟨g', 0, none⟩) ps.length c') ps.length (Pairs.flat ps) ∧ w.grownBy w' (some g) ∧ (g' = g ∨ g' = w.heap.size) := by
  obtain ⟨i0, hi, hz0, hz1, hz2⟩ := info_parts infoInstr
  exact run_copy w base 31 ty 87 i0 (.agg #[.int .i64 0, .int .i64 0]) 2 16 Tryz.underlying31 hi hz0 hz1 hz2 rfl (by decide) (by decide) g cap hown b ps.length c (Pairs.flat ps) (Pairs.flat_len ps) (cells2 h) (fun u hu => Pairs.flat_one u ps hu) hm hbase
theorem infoBal : (Tryz.prog.info? 102).map (fun i => (i.zero, i.size, i.bytes)) = some (some (.agg #[.int .i64 0, .int .i64 0, .int .i64 0]), 3, 24) := by kernel_rfl
theorem copyBal (w : World) (base g cap : Nat) (hown : w.ownsRow base 102 3 (.slice (some ⟨g, 0, none⟩) 0 cap) 0 []) (ty : TypeId) (b c : Nat) (ps : List Bals.T3) (h : Triples.At3 w b ps) (hm : ps.length ≤ 1048576) (hbase : base ≤ w.heap.size) :
    ∃ g' c' w', (Builtin.append_ #[32, 32] ty #[.slice (some ⟨g, 0, none⟩) 0 cap, .slice (some ⟨b, 0, none⟩) ps.length c]).run Tryz.prog w = .ok (.slice (some ⟨g', 0, none⟩) ps.length c') w' ∧ w'.ownsRow base 102 3 (.slice (some ⟨g', 0, none⟩) ps.length c') ps.length (Triples.flat3 ps) ∧ w.grownBy w' (some g) ∧ (g' = g ∨ g' = w.heap.size) := by
  obtain ⟨i0, hi, hz0, hz1, hz2⟩ := info_parts infoBal
  exact run_copy w base 32 ty 102 i0 (.agg #[.int .i64 0, .int .i64 0, .int .i64 0]) 3 24 Tryz.underlying32 hi hz0 hz1 hz2 rfl (by decide) (by decide) g cap hown b ps.length c (Triples.flat3 ps) (Triples.flat3_len ps) (cells3 h) (fun u hu => Triples.flat3_one u ps hu) hm hbase
theorem infoLot : (Tryz.prog.info? 97).map (fun i => (i.zero, i.size, i.bytes)) = some (some (.agg #[.int .i64 0, .int .i64 0, .int .i64 0, .int .i64 0, .int .i64 0]), 5, 40) := by kernel_rfl
theorem copyLot (w : World) (base g cap : Nat) (hown : w.ownsRow base 97 5 (.slice (some ⟨g, 0, none⟩) 0 cap) 0 []) (ty : TypeId) (b c : Nat) (ps : List Tup5.T5) (h : Tup5.At5 w b ps) (hm : ps.length ≤ 1048576) (hbase : base ≤ w.heap.size) :
    ∃ g' c' w', (Builtin.append_ #[33, 33] ty #[.slice (some ⟨g, 0, none⟩) 0 cap, .slice (some ⟨b, 0, none⟩) ps.length c]).run Tryz.prog w = .ok (.slice (some ⟨g', 0, none⟩) ps.length c') w' ∧ w'.ownsRow base 97 5 (.slice (some ⟨g', 0, none⟩) ps.length c') ps.length (Tup5.flat5 ps) ∧ w.grownBy w' (some g) ∧ (g' = g ∨ g' = w.heap.size) := by
  obtain ⟨i0, hi, hz0, hz1, hz2⟩ := info_parts infoLot
  exact run_copy w base 33 ty 97 i0 (.agg #[.int .i64 0, .int .i64 0, .int .i64 0, .int .i64 0, .int .i64 0]) 5 40 Tryz.underlying33 hi hz0 hz1 hz2 rfl (by decide) (by decide) g cap hown b ps.length c (Tup5.flat5 ps) (Tup5.flat5_len ps) (cells5 h) (fun u hu => Tup5.flat5_one u ps hu) hm hbase
theorem infoTrade : (Tryz.prog.info? 84).map (fun i => (i.zero, i.size, i.bytes)) = some (some (.agg #[.int .i64 0, .int .i64 0, .int .i64 0, .int .i64 0, .int .i64 0, .int .i64 0, .int .i64 0, .int .i64 0]), 8, 64) := by kernel_rfl
theorem copyTrade (w : World) (base g cap : Nat) (hown : w.ownsRow base 84 8 (.slice (some ⟨g, 0, none⟩) 0 cap) 0 []) (ty : TypeId) (b c : Nat) (ps : List Tup8.T8) (h : Tup8.At8 w b ps) (hm : ps.length ≤ 1048576) (hbase : base ≤ w.heap.size) :
    ∃ g' c' w', (Builtin.append_ #[34, 34] ty #[.slice (some ⟨g, 0, none⟩) 0 cap, .slice (some ⟨b, 0, none⟩) ps.length c]).run Tryz.prog w = .ok (.slice (some ⟨g', 0, none⟩) ps.length c') w' ∧ w'.ownsRow base 84 8 (.slice (some ⟨g', 0, none⟩) ps.length c') ps.length (Tup8.flat8 ps) ∧ w.grownBy w' (some g) ∧ (g' = g ∨ g' = w.heap.size) := by
  obtain ⟨i0, hi, hz0, hz1, hz2⟩ := info_parts infoTrade
  exact run_copy w base 34 ty 84 i0 (.agg #[.int .i64 0, .int .i64 0, .int .i64 0, .int .i64 0, .int .i64 0, .int .i64 0, .int .i64 0, .int .i64 0]) 8 64 Tryz.underlying34 hi hz0 hz1 hz2 rfl (by decide) (by decide) g cap hown b ps.length c (Tup8.flat8 ps) (Tup8.flat8_len ps) (cells8 h) (fun u hu => Tup8.flat8_one u ps hu) hm hbase
end Go.Proofs.YteccbaohfmhnfaaGreat.Copy
namespace Go.Proofs.YteccbaohfmhnfaaGreat.SCopy
open Go.ChangeShapes Go.WideShapes Go.ChangeAt Go.RowKit BMem Bks ILists Copy
open BHelp (row_block row_apart row_store)
open IBalsFit (one_more)
/-- An append in a plain region, by what its run comes to. -/
theorem wpl_append {P : Program} {ops : Array Oper} {rest : List Oper} {o : Oper} {a : Act} {u w' : World} {Q : Exit → Act → World → Prop} (hgd : o.guard = none) (s x : Operand) (T : TypeId) (ho : o.op = .call { callee := .builtin .append, args := #[s, x], argTypes := #[T, T] }) {vs vx v' : Value} (hs : a.eval s = vs) (hx : a.eval x = vx)
    (hr : (Builtin.append_ #[T, T] o.type #[vs, vx]).run P u = .ok v' w') (h : wpList P ops Q rest (a.put o.dst v') w') : wpList P ops Q (o :: rest) a u :=
  wpList_plain hgd fun K hK => wpo_append s x T ho hs hx hr (hK _ _ h)
/-- An empty list in a new block. -/
theorem empty_made (W : World) (base : Nat) (e : TypeId) (size g : Nat) (hg : g = W.heap.size) (hb : base ≤ g) : (W.alloc (.cells #[] e)).ownsRow base e size (.slice (some ⟨g, 0, none⟩) 0 0) 0 [] := by
  subst hg
  exact World.ownsRow_made W #[] 0 hb (by unfold maxLen; omega) (by simp)
theorem row_kept {w w' : World} {base : Nat} {e : TypeId} {size g n cap g0 : Nat} {xs : List Value} (h : w.ownsRow base e size (.slice (some ⟨g, 0, none⟩) n cap) n xs) (k : w.grownBy w' (some g0)) (ne : g ≠ g0) : w'.ownsRow base e size (.slice (some ⟨g, 0, none⟩) n cap) n xs :=
  h.kept k (Or.inr (fun e => ne (by simpa [Value.ownBlock] using e)))
/-- On the way to a copy: the books, the copy so far, and the answer's variable. -/
structure TC (w W : World) (x : Bx) (v0 v1 v2 v3 v4 v5 : Value) : Prop where
  b : Below w.heap.size w W
  c : Cl W w.heap.size x
  o : Box W w.heap.size (w.heap.size + 1 + 1) v0 v1 v2 v3 v4 v5
  r : Box W w.heap.size (w.heap.size + 1) (.slice none 0 0) (.slice none 0 0) (.slice none 0 0) (.slice none 0 0) (.slice none 0 0) (.int .i64 0)
section
variable {w W W' : World} {x : Bx} {v0 v1 v2 v3 v4 v5 : Value}
theorem TC.call (h : TC w W x v0 v1 v2 v3 v4 v5) (k : Below W.heap.size W W') : TC w W' x v0 v1 v2 v3 v4 v5 := by
  have l := h.o.lt
  exact ⟨h.b.trans (k.mono h.b.size), h.c.below k (by omega), h.o.below k (by omega), h.r.below k (by omega)⟩
theorem TC.grown {g : Nat} (h : TC w W x v0 v1 v2 v3 v4 v5) (k : W.grownBy W' (some g)) (hg : w.heap.size + 3 ≤ g) : TC w W' x v0 v1 v2 v3 v4 v5 := by
  have n0 : some w.heap.size ≠ some g := fun e => by injection e; omega
  exact ⟨h.b.grown k h.b.size (fun j e => by injection e; omega), ⟨k.cell h.c.c0 n0, k.cell h.c.c1 n0, k.cell h.c.c2 n0, k.cell h.c.c3 n0, k.cell h.c.c4 n0, k.cell h.c.c5 n0⟩, h.o.kept k (fun e => by injection e; omega), h.r.kept k (fun e => by injection e; omega)⟩
theorem TC.set0 (h : TC w W x v0 v1 v2 v3 v4 v5) (u : Value) : TC w (W.setCell ⟨w.heap.size + 1 + 1, 0, none⟩ u) x u v1 v2 v3 v4 v5 := by
  obtain ⟨b, g⟩ := h.o.set0 u
  have n0 : some w.heap.size ≠ some (w.heap.size + 1 + 1) := fun e => by injection e; omega
  exact ⟨h.b.setCell (by simp; omega) u, ⟨g.cell h.c.c0 n0, g.cell h.c.c1 n0, g.cell h.c.c2 n0, g.cell h.c.c3 n0, g.cell h.c.c4 n0, g.cell h.c.c5 n0⟩, b, h.r.kept g (fun e => by injection e; omega)⟩
theorem TC.set1 (h : TC w W x v0 v1 v2 v3 v4 v5) (u : Value) : TC w (W.setCell ⟨w.heap.size + 1 + 1, 1, none⟩ u) x v0 u v2 v3 v4 v5 := by
  obtain ⟨b, g⟩ := h.o.set1 u
  have n0 : some w.heap.size ≠ some (w.heap.size + 1 + 1) := fun e => by injection e; omega
  exact ⟨h.b.setCell (by simp; omega) u, ⟨g.cell h.c.c0 n0, g.cell h.c.c1 n0, g.cell h.c.c2 n0, g.cell h.c.c3 n0, g.cell h.c.c4 n0, g.cell h.c.c5 n0⟩, b, h.r.kept g (fun e => by injection e; omega)⟩
theorem TC.set2 (h : TC w W x v0 v1 v2 v3 v4 v5) (u : Value) : TC w (W.setCell ⟨w.heap.size + 1 + 1, 2, none⟩ u) x v0 v1 u v3 v4 v5 := by
  obtain ⟨b, g⟩ := h.o.set2 u
  have n0 : some w.heap.size ≠ some (w.heap.size + 1 + 1) := fun e => by injection e; omega
  exact ⟨h.b.setCell (by simp; omega) u, ⟨g.cell h.c.c0 n0, g.cell h.c.c1 n0, g.cell h.c.c2 n0, g.cell h.c.c3 n0, g.cell h.c.c4 n0, g.cell h.c.c5 n0⟩, b, h.r.kept g (fun e => by injection e; omega)⟩
theorem TC.set3 (h : TC w W x v0 v1 v2 v3 v4 v5) (u : Value) : TC w (W.setCell ⟨w.heap.size + 1 + 1, 3, none⟩ u) x v0 v1 v2 u v4 v5 := by
  obtain ⟨b, g⟩ := h.o.set3 u
  have n0 : some w.heap.size ≠ some (w.heap.size + 1 + 1) := fun e => by injection e; omega
  exact ⟨h.b.setCell (by simp; omega) u, ⟨g.cell h.c.c0 n0, g.cell h.c.c1 n0, g.cell h.c.c2 n0, g.cell h.c.c3 n0, g.cell h.c.c4 n0, g.cell h.c.c5 n0⟩, b, h.r.kept g (fun e => by injection e; omega)⟩
theorem TC.set4 (h : TC w W x v0 v1 v2 v3 v4 v5) (u : Value) : TC w (W.setCell ⟨w.heap.size + 1 + 1, 4, none⟩ u) x v0 v1 v2 v3 u v5 := by
  obtain ⟨b, g⟩ := h.o.set4 u
  have n0 : some w.heap.size ≠ some (w.heap.size + 1 + 1) := fun e => by injection e; omega
  exact ⟨h.b.setCell (by simp; omega) u, ⟨g.cell h.c.c0 n0, g.cell h.c.c1 n0, g.cell h.c.c2 n0, g.cell h.c.c3 n0, g.cell h.c.c4 n0, g.cell h.c.c5 n0⟩, b, h.r.kept g (fun e => by injection e; omega)⟩
theorem TC.set5 (h : TC w W x v0 v1 v2 v3 v4 v5) (u : Value) : TC w (W.setCell ⟨w.heap.size + 1 + 1, 5, none⟩ u) x v0 v1 v2 v3 v4 u := by
  obtain ⟨b, g⟩ := h.o.set5 u
  have n0 : some w.heap.size ≠ some (w.heap.size + 1 + 1) := fun e => by injection e; omega
  exact ⟨h.b.setCell (by simp; omega) u, ⟨g.cell h.c.c0 n0, g.cell h.c.c1 n0, g.cell h.c.c2 n0, g.cell h.c.c3 n0, g.cell h.c.c4 n0, g.cell h.c.c5 n0⟩, b, h.r.kept g (fun e => by injection e; omega)⟩
end
set_option maxRecDepth 100000 in
set_option maxHeartbeats 4000000 in
theorem sCopy (w : World) (x : Bx) (h : Rd w x) :
    Calls Tryz.prog 21 #[.agg #[.slice (some ⟨x.ga, 0, none⟩) x.b.ac.length x.ca, .slice (some ⟨x.gi, 0, none⟩) x.b.ic.length x.ci, .slice (some ⟨x.gb, 0, none⟩) x.b.bs.length x.cb, .slice (some ⟨x.gl, 0, none⟩) x.b.ls.length x.cl, .slice (some ⟨x.gt, 0, none⟩) x.b.ts.length x.ct, .int .i64 x.b.lot]] w fun e w' => ∃ z : Bx, z.b = x.b ∧ e = .returned (.agg #[.slice (some ⟨z.ga, 0, none⟩) z.b.ac.length z.ca, .slice (some ⟨z.gi, 0, none⟩) z.b.ic.length z.ci, .slice (some ⟨z.gb, 0, none⟩) z.b.bs.length z.cb, .slice (some ⟨z.gl, 0, none⟩) z.b.ls.length z.cl, .slice (some ⟨z.gt, 0, none⟩) z.b.ts.length z.ct, .int .i64 z.b.lot]) ∧ Ow w' w.heap.size z ∧ Below w.heap.size w w' := by
  have H := hide h
  have na := h.na
  have ni := h.ni
  have nb := h.nb
  have nl := h.nl
  have nt := h.nt
  have T0 := hide (show TC w (((w.alloc (.cells #[.slice (some ⟨x.ga, 0, none⟩) x.b.ac.length x.ca, .slice (some ⟨x.gi, 0, none⟩) x.b.ic.length x.ci, .slice (some ⟨x.gb, 0, none⟩) x.b.bs.length x.cb, .slice (some ⟨x.gl, 0, none⟩) x.b.ls.length x.cl, .slice (some ⟨x.gt, 0, none⟩) x.b.ts.length x.ct, .int .i64 x.b.lot] 36)).alloc (.cells #[.slice none 0 0, .slice none 0 0, .slice none 0 0, .slice none 0 0, .slice none 0 0, .int .i64 0] 36)).alloc (.cells #[.slice none 0 0, .slice none 0 0, .slice none 0 0, .slice none 0 0, .slice none 0 0, .int .i64 x.b.lot] 36)) x (.slice none 0 0) (.slice none 0 0) (.slice none 0 0) (.slice none 0 0) (.slice none 0 0) (.int .i64 x.b.lot) from by
    have b2 : Below (w.alloc (.cells #[.slice (some ⟨x.ga, 0, none⟩) x.b.ac.length x.ca, .slice (some ⟨x.gi, 0, none⟩) x.b.ic.length x.ci, .slice (some ⟨x.gb, 0, none⟩) x.b.bs.length x.cb, .slice (some ⟨x.gl, 0, none⟩) x.b.ls.length x.cl, .slice (some ⟨x.gt, 0, none⟩) x.b.ts.length x.ct, .int .i64 x.b.lot] 36)).heap.size (w.alloc (.cells #[.slice (some ⟨x.ga, 0, none⟩) x.b.ac.length x.ca, .slice (some ⟨x.gi, 0, none⟩) x.b.ic.length x.ci, .slice (some ⟨x.gb, 0, none⟩) x.b.bs.length x.cb, .slice (some ⟨x.gl, 0, none⟩) x.b.ls.length x.cl, .slice (some ⟨x.gt, 0, none⟩) x.b.ts.length x.ct, .int .i64 x.b.lot] 36)) (((w.alloc (.cells #[.slice (some ⟨x.ga, 0, none⟩) x.b.ac.length x.ca, .slice (some ⟨x.gi, 0, none⟩) x.b.ic.length x.ci, .slice (some ⟨x.gb, 0, none⟩) x.b.bs.length x.cb, .slice (some ⟨x.gl, 0, none⟩) x.b.ls.length x.cl, .slice (some ⟨x.gt, 0, none⟩) x.b.ts.length x.ct, .int .i64 x.b.lot] 36)).alloc (.cells #[.slice none 0 0, .slice none 0 0, .slice none 0 0, .slice none 0 0, .slice none 0 0, .int .i64 0] 36)).alloc (.cells #[.slice none 0 0, .slice none 0 0, .slice none 0 0, .slice none 0 0, .slice none 0 0, .int .i64 x.b.lot] 36)) := ((Below.refl _ _).alloc (Nat.le_refl _) _).alloc (by simp) _
    exact ⟨((Below.refl w.heap.size w).alloc (Nat.le_refl _) _).trans (b2.mono (by simp)), (boxed w x 36).below b2 (by simp), Box.made _ _ _ _ _ _ (by simp; omega) (by simp), (Box.made (w := w.alloc (.cells #[.slice (some ⟨x.ga, 0, none⟩) x.b.ac.length x.ca, .slice (some ⟨x.gi, 0, none⟩) x.b.ic.length x.ci, .slice (some ⟨x.gb, 0, none⟩) x.b.bs.length x.cb, .slice (some ⟨x.gl, 0, none⟩) x.b.ls.length x.cl, .slice (some ⟨x.gt, 0, none⟩) x.b.ts.length x.ct, .int .i64 x.b.lot] 36)) (g := w.heap.size + 1) _ _ _ _ _ _ (by simp) (by simp)).below (one_more _ _) (by simp)⟩)
  clear h
  have A0 := hide ((unhide T0).call (one_more _ (.cells #[] 86)))
  have z0 : w.heap.size + 3 ≤ w.heap.size + 1 + 1 + 1 := by have := (unhide T0).o.lt; simp at this ⊢; try omega
  obtain ⟨g0, c0', w1, hr0, ow0, gr0, _⟩ := copyAccount ((((w.alloc (.cells #[.slice (some ⟨x.ga, 0, none⟩) x.b.ac.length x.ca, .slice (some ⟨x.gi, 0, none⟩) x.b.ic.length x.ci, .slice (some ⟨x.gb, 0, none⟩) x.b.bs.length x.cb, .slice (some ⟨x.gl, 0, none⟩) x.b.ls.length x.cl, .slice (some ⟨x.gt, 0, none⟩) x.b.ts.length x.ct, .int .i64 x.b.lot] 36)).alloc (.cells #[.slice none 0 0, .slice none 0 0, .slice none 0 0, .slice none 0 0, .slice none 0 0, .int .i64 0] 36)).alloc (.cells #[.slice none 0 0, .slice none 0 0, .slice none 0 0, .slice none 0 0, .slice none 0 0, .int .i64 x.b.lot] 36)).alloc (.cells #[] 86)) (w.heap.size + 3) (w.heap.size + 1 + 1 + 1) 0 (empty_made (((w.alloc (.cells #[.slice (some ⟨x.ga, 0, none⟩) x.b.ac.length x.ca, .slice (some ⟨x.gi, 0, none⟩) x.b.ic.length x.ci, .slice (some ⟨x.gb, 0, none⟩) x.b.bs.length x.cb, .slice (some ⟨x.gl, 0, none⟩) x.b.ls.length x.cl, .slice (some ⟨x.gt, 0, none⟩) x.b.ts.length x.ct, .int .i64 x.b.lot] 36)).alloc (.cells #[.slice none 0 0, .slice none 0 0, .slice none 0 0, .slice none 0 0, .slice none 0 0, .int .i64 0] 36)).alloc (.cells #[.slice none 0 0, .slice none 0 0, .slice none 0 0, .slice none 0 0, .slice none 0 0, .int .i64 x.b.lot] 36)) _ _ _ _ (by simp) z0) 30 x.ga x.ca x.b.ac ((unhide H).below (unhide A0).b).ra na (by have := (unhide A0).o.lt; omega)
  have G0 := hide ((unhide A0).grown gr0 z0)
  have O0 := hide (show Pairs.Own 86 w1 (w.heap.size + 3) g0 x.b.ac.length c0' x.b.ac from ow0)
  have T1 := hide ((unhide G0).set0 (.slice (some ⟨g0, 0, none⟩) x.b.ac.length c0'))
  have p0 := (unhide G0).o.c0
  have f0 := (unhide G0).o.free 0
  have A1 := hide ((unhide T1).call (one_more _ (.cells #[] 87)))
  have z1 : w.heap.size + 3 ≤ w1.heap.size := by have := (unhide T1).o.lt; simp [World.setCell] at this ⊢; try omega
  obtain ⟨g1, c1', w2, hr1, ow1, gr1, _⟩ := copyInstr ((w1.setCell ⟨w.heap.size + 1 + 1, 0, none⟩ (.slice (some ⟨g0, 0, none⟩) x.b.ac.length c0')).alloc (.cells #[] 87)) (w.heap.size + 3) (w1.heap.size) 0 (empty_made (w1.setCell ⟨w.heap.size + 1 + 1, 0, none⟩ (.slice (some ⟨g0, 0, none⟩) x.b.ac.length c0')) _ _ _ _ (by simp [World.setCell]) z1) 31 x.gi x.ci x.b.ic ((unhide H).below (unhide A1).b).ri ni (by have := (unhide A1).o.lt; omega)
  have G1 := hide ((unhide A1).grown gr1 z1)
  have O1 := hide (show Pairs.Own 87 w2 (w.heap.size + 3) g1 x.b.ic.length c1' x.b.ic from ow1)
  replace O0 := hide (show Pairs.Own 86 w2 (w.heap.size + 3) g0 x.b.ac.length c0' x.b.ac from row_kept (World.ownsRow.alloc (row_store (unhide O0) (a := ⟨w.heap.size + 1 + 1, 0, none⟩) (by simp) (.slice (some ⟨g0, 0, none⟩) x.b.ac.length c0')) _) gr1 (by have h1 := World.ownsRow.lt (unhide O0) g0 rfl; omega))
  have T2 := hide ((unhide G1).set1 (.slice (some ⟨g1, 0, none⟩) x.b.ic.length c1'))
  have p1 := (unhide G1).o.c1
  have f1 := (unhide G1).o.free 1
  have s1 := (unhide A1).c.c1
  have A2 := hide ((unhide T2).call (one_more _ (.cells #[] 102)))
  have z2 : w.heap.size + 3 ≤ w2.heap.size := by have := (unhide T2).o.lt; simp [World.setCell] at this ⊢; try omega
  obtain ⟨g2, c2', w3, hr2, ow2, gr2, _⟩ := copyBal ((w2.setCell ⟨w.heap.size + 1 + 1, 1, none⟩ (.slice (some ⟨g1, 0, none⟩) x.b.ic.length c1')).alloc (.cells #[] 102)) (w.heap.size + 3) (w2.heap.size) 0 (empty_made (w2.setCell ⟨w.heap.size + 1 + 1, 1, none⟩ (.slice (some ⟨g1, 0, none⟩) x.b.ic.length c1')) _ _ _ _ (by simp [World.setCell]) z2) 32 x.gb x.cb x.b.bs ((unhide H).below (unhide A2).b).rb nb (by have := (unhide A2).o.lt; omega)
  have G2 := hide ((unhide A2).grown gr2 z2)
  have O2 := hide (show Triples.Own3 102 w3 (w.heap.size + 3) g2 x.b.bs.length c2' x.b.bs from ow2)
  replace O0 := hide (show Pairs.Own 86 w3 (w.heap.size + 3) g0 x.b.ac.length c0' x.b.ac from row_kept (World.ownsRow.alloc (row_store (unhide O0) (a := ⟨w.heap.size + 1 + 1, 1, none⟩) (by simp) (.slice (some ⟨g1, 0, none⟩) x.b.ic.length c1')) _) gr2 (by have h1 := World.ownsRow.lt (unhide O0) g0 rfl; omega))
  replace O1 := hide (show Pairs.Own 87 w3 (w.heap.size + 3) g1 x.b.ic.length c1' x.b.ic from row_kept (World.ownsRow.alloc (row_store (unhide O1) (a := ⟨w.heap.size + 1 + 1, 1, none⟩) (by simp) (.slice (some ⟨g1, 0, none⟩) x.b.ic.length c1')) _) gr2 (by have h1 := World.ownsRow.lt (unhide O1) g1 rfl; omega))
  have T3 := hide ((unhide G2).set2 (.slice (some ⟨g2, 0, none⟩) x.b.bs.length c2'))
  have p2 := (unhide G2).o.c2
  have f2 := (unhide G2).o.free 2
  have s2 := (unhide A2).c.c2
  have A3 := hide ((unhide T3).call (one_more _ (.cells #[] 97)))
  have z3 : w.heap.size + 3 ≤ w3.heap.size := by have := (unhide T3).o.lt; simp [World.setCell] at this ⊢; try omega
  obtain ⟨g3, c3', w4, hr3, ow3, gr3, _⟩ := copyLot ((w3.setCell ⟨w.heap.size + 1 + 1, 2, none⟩ (.slice (some ⟨g2, 0, none⟩) x.b.bs.length c2')).alloc (.cells #[] 97)) (w.heap.size + 3) (w3.heap.size) 0 (empty_made (w3.setCell ⟨w.heap.size + 1 + 1, 2, none⟩ (.slice (some ⟨g2, 0, none⟩) x.b.bs.length c2')) _ _ _ _ (by simp [World.setCell]) z3) 33 x.gl x.cl x.b.ls ((unhide H).below (unhide A3).b).rl nl (by have := (unhide A3).o.lt; omega)
  have G3 := hide ((unhide A3).grown gr3 z3)
  have O3 := hide (show Tup5.Own5 97 w4 (w.heap.size + 3) g3 x.b.ls.length c3' x.b.ls from ow3)
  replace O0 := hide (show Pairs.Own 86 w4 (w.heap.size + 3) g0 x.b.ac.length c0' x.b.ac from row_kept (World.ownsRow.alloc (row_store (unhide O0) (a := ⟨w.heap.size + 1 + 1, 2, none⟩) (by simp) (.slice (some ⟨g2, 0, none⟩) x.b.bs.length c2')) _) gr3 (by have h1 := World.ownsRow.lt (unhide O0) g0 rfl; omega))
  replace O1 := hide (show Pairs.Own 87 w4 (w.heap.size + 3) g1 x.b.ic.length c1' x.b.ic from row_kept (World.ownsRow.alloc (row_store (unhide O1) (a := ⟨w.heap.size + 1 + 1, 2, none⟩) (by simp) (.slice (some ⟨g2, 0, none⟩) x.b.bs.length c2')) _) gr3 (by have h1 := World.ownsRow.lt (unhide O1) g1 rfl; omega))
  replace O2 := hide (show Triples.Own3 102 w4 (w.heap.size + 3) g2 x.b.bs.length c2' x.b.bs from row_kept (World.ownsRow.alloc (row_store (unhide O2) (a := ⟨w.heap.size + 1 + 1, 2, none⟩) (by simp) (.slice (some ⟨g2, 0, none⟩) x.b.bs.length c2')) _) gr3 (by have h1 := World.ownsRow.lt (unhide O2) g2 rfl; omega))
  have T4 := hide ((unhide G3).set3 (.slice (some ⟨g3, 0, none⟩) x.b.ls.length c3'))
  have p3 := (unhide G3).o.c3
  have f3 := (unhide G3).o.free 3
  have s3 := (unhide A3).c.c3
  have A4 := hide ((unhide T4).call (one_more _ (.cells #[] 84)))
  have z4 : w.heap.size + 3 ≤ w4.heap.size := by have := (unhide T4).o.lt; simp [World.setCell] at this ⊢; try omega
  obtain ⟨g4, c4', w5, hr4, ow4, gr4, _⟩ := copyTrade ((w4.setCell ⟨w.heap.size + 1 + 1, 3, none⟩ (.slice (some ⟨g3, 0, none⟩) x.b.ls.length c3')).alloc (.cells #[] 84)) (w.heap.size + 3) (w4.heap.size) 0 (empty_made (w4.setCell ⟨w.heap.size + 1 + 1, 3, none⟩ (.slice (some ⟨g3, 0, none⟩) x.b.ls.length c3')) _ _ _ _ (by simp [World.setCell]) z4) 34 x.gt x.ct x.b.ts ((unhide H).below (unhide A4).b).rt nt (by have := (unhide A4).o.lt; omega)
  have G4 := hide ((unhide A4).grown gr4 z4)
  have O4 := hide (show Tup8.Own8 84 w5 (w.heap.size + 3) g4 x.b.ts.length c4' x.b.ts from ow4)
  replace O0 := hide (show Pairs.Own 86 w5 (w.heap.size + 3) g0 x.b.ac.length c0' x.b.ac from row_kept (World.ownsRow.alloc (row_store (unhide O0) (a := ⟨w.heap.size + 1 + 1, 3, none⟩) (by simp) (.slice (some ⟨g3, 0, none⟩) x.b.ls.length c3')) _) gr4 (by have h1 := World.ownsRow.lt (unhide O0) g0 rfl; omega))
  replace O1 := hide (show Pairs.Own 87 w5 (w.heap.size + 3) g1 x.b.ic.length c1' x.b.ic from row_kept (World.ownsRow.alloc (row_store (unhide O1) (a := ⟨w.heap.size + 1 + 1, 3, none⟩) (by simp) (.slice (some ⟨g3, 0, none⟩) x.b.ls.length c3')) _) gr4 (by have h1 := World.ownsRow.lt (unhide O1) g1 rfl; omega))
  replace O2 := hide (show Triples.Own3 102 w5 (w.heap.size + 3) g2 x.b.bs.length c2' x.b.bs from row_kept (World.ownsRow.alloc (row_store (unhide O2) (a := ⟨w.heap.size + 1 + 1, 3, none⟩) (by simp) (.slice (some ⟨g3, 0, none⟩) x.b.ls.length c3')) _) gr4 (by have h1 := World.ownsRow.lt (unhide O2) g2 rfl; omega))
  replace O3 := hide (show Tup5.Own5 97 w5 (w.heap.size + 3) g3 x.b.ls.length c3' x.b.ls from row_kept (World.ownsRow.alloc (row_store (unhide O3) (a := ⟨w.heap.size + 1 + 1, 3, none⟩) (by simp) (.slice (some ⟨g3, 0, none⟩) x.b.ls.length c3')) _) gr4 (by have h1 := World.ownsRow.lt (unhide O3) g3 rfl; omega))
  have T5 := hide ((unhide G4).set4 (.slice (some ⟨g4, 0, none⟩) x.b.ts.length c4'))
  have p4 := (unhide G4).o.c4
  have f4 := (unhide G4).o.free 4
  have s4 := (unhide A4).c.c4
  clear p4
  have o0 := (unhide G4).o.c0
  have r0 := (unhide G4).r.c0
  have u0 := (unhide G4).r.free 0
  have o1 := (unhide G4).o.c1
  have r1 := (unhide G4).r.c1
  have u1 := (unhide G4).r.free 1
  have o2 := (unhide G4).o.c2
  have r2 := (unhide G4).r.c2
  have u2 := (unhide G4).r.free 2
  have o3 := (unhide G4).o.c3
  have r3 := (unhide G4).r.c3
  have u3 := (unhide G4).r.free 3
  have o4 := (unhide G4).o.c4
  have r4 := (unhide G4).r.c4
  have u4 := (unhide G4).r.free 4
  have o5 := (unhide G4).o.c5
  have r5 := (unhide G4).r.c5
  have u5 := (unhide G4).r.free 5
  have B5 := hide (unhide T5).b
  clear gr0 gr1 gr2 gr3 gr4 ow0 ow1 ow2 ow3 ow4
  go_enter Tryz.func21, Tryz.ntmps21
  go_wp2_with (first | (at_builtin; refine wpl_append rfl (.tmp 7) (.tmp 9) 30 rfl rfl rfl hr0 ?_) | (at_builtin; refine wpl_append rfl (.tmp 12) (.tmp 14) 31 rfl rfl rfl hr1 ?_) | (at_builtin; refine wpl_append rfl (.tmp 17) (.tmp 19) 32 rfl rfl rfl hr2 ?_) | (at_builtin; refine wpl_append rfl (.tmp 22) (.tmp 24) 33 rfl rfl rfl hr3 ?_) | (at_builtin; refine wpl_append rfl (.tmp 27) (.tmp 29) 34 rfl rfl rfl hr4 ?_))
  refine bodyPost_ret (v := .agg #[.slice (some ⟨g0, 0, none⟩) x.b.ac.length c0', .slice (some ⟨g1, 0, none⟩) x.b.ic.length c1', .slice (some ⟨g2, 0, none⟩) x.b.bs.length c2', .slice (some ⟨g3, 0, none⟩) x.b.ls.length c3', .slice (some ⟨g4, 0, none⟩) x.b.ts.length c4', .int .i64 x.b.lot]) (by simp [results, Tryz.results21, go_sem, r0, r1, r2, r3, r4, r5]) rfl ⟨⟨g0, c0', g1, c1', g2, c2', g3, c3', g4, c4', x.b⟩, rfl, rfl, ?_, ?_⟩
  · exact Ow.rebase (base := w.heap.size + 3) ⟨(row_store (row_store (row_store (row_store (row_store (row_store (row_store (unhide O0) (a := ⟨w.heap.size + 1 + 1, 4, none⟩) (by simp) _) (a := ⟨w.heap.size + 1, 0, none⟩) (by simp) _) (a := ⟨w.heap.size + 1, 1, none⟩) (by simp) _) (a := ⟨w.heap.size + 1, 2, none⟩) (by simp) _) (a := ⟨w.heap.size + 1, 3, none⟩) (by simp) _) (a := ⟨w.heap.size + 1, 4, none⟩) (by simp) _) (a := ⟨w.heap.size + 1, 5, none⟩) (by simp) _), (row_store (row_store (row_store (row_store (row_store (row_store (row_store (unhide O1) (a := ⟨w.heap.size + 1 + 1, 4, none⟩) (by simp) _) (a := ⟨w.heap.size + 1, 0, none⟩) (by simp) _) (a := ⟨w.heap.size + 1, 1, none⟩) (by simp) _) (a := ⟨w.heap.size + 1, 2, none⟩) (by simp) _) (a := ⟨w.heap.size + 1, 3, none⟩) (by simp) _) (a := ⟨w.heap.size + 1, 4, none⟩) (by simp) _) (a := ⟨w.heap.size + 1, 5, none⟩) (by simp) _), (row_store (row_store (row_store (row_store (row_store (row_store (row_store (unhide O2) (a := ⟨w.heap.size + 1 + 1, 4, none⟩) (by simp) _) (a := ⟨w.heap.size + 1, 0, none⟩) (by simp) _) (a := ⟨w.heap.size + 1, 1, none⟩) (by simp) _) (a := ⟨w.heap.size + 1, 2, none⟩) (by simp) _) (a := ⟨w.heap.size + 1, 3, none⟩) (by simp) _) (a := ⟨w.heap.size + 1, 4, none⟩) (by simp) _) (a := ⟨w.heap.size + 1, 5, none⟩) (by simp) _), (row_store (row_store (row_store (row_store (row_store (row_store (row_store (unhide O3) (a := ⟨w.heap.size + 1 + 1, 4, none⟩) (by simp) _) (a := ⟨w.heap.size + 1, 0, none⟩) (by simp) _) (a := ⟨w.heap.size + 1, 1, none⟩) (by simp) _) (a := ⟨w.heap.size + 1, 2, none⟩) (by simp) _) (a := ⟨w.heap.size + 1, 3, none⟩) (by simp) _) (a := ⟨w.heap.size + 1, 4, none⟩) (by simp) _) (a := ⟨w.heap.size + 1, 5, none⟩) (by simp) _), (row_store (row_store (row_store (row_store (row_store (row_store (row_store (unhide O4) (a := ⟨w.heap.size + 1 + 1, 4, none⟩) (by simp) _) (a := ⟨w.heap.size + 1, 0, none⟩) (by simp) _) (a := ⟨w.heap.size + 1, 1, none⟩) (by simp) _) (a := ⟨w.heap.size + 1, 2, none⟩) (by simp) _) (a := ⟨w.heap.size + 1, 3, none⟩) (by simp) _) (a := ⟨w.heap.size + 1, 4, none⟩) (by simp) _) (a := ⟨w.heap.size + 1, 5, none⟩) (by simp) _)⟩ (by omega)
  · exact (((((((unhide B5).setCell (p := ⟨w.heap.size + 1, 0, none⟩) (by simp) _).setCell (p := ⟨w.heap.size + 1, 1, none⟩) (by simp) _).setCell (p := ⟨w.heap.size + 1, 2, none⟩) (by simp) _).setCell (p := ⟨w.heap.size + 1, 3, none⟩) (by simp) _).setCell (p := ⟨w.heap.size + 1, 4, none⟩) (by simp) _).setCell (p := ⟨w.heap.size + 1, 5, none⟩) (by simp) _)
end Go.Proofs.YteccbaohfmhnfaaGreat.SCopy
namespace Go.Proofs.YteccbaohfmhnfaaGreat.Ans
open Go.ChangeShapes Go.WideShapes Go.ChangeAt Go.RowKit BMem Bks ILists BHelp
open IBalsFit (one_more)
/-- A command's answer: zero books and code 1 where something is not as told; else books and a code. -/
def AnsB (told : Prop) (P : Bk → Int → Prop) (w : World) (e : Ending) (w' : World) : Prop :=
  (¬ told ∧ e = .returned (.tuple #[.agg #[.slice none 0 0, .slice none 0 0, .slice none 0 0, .slice none 0 0, .slice none 0 0, .int .i64 0], .int .i64 1]) ∧ Below w.heap.size w w') ∨
  (told ∧ ∃ (z : Bx) (c : Int), P z.b c ∧ e = .returned (.tuple #[.agg #[.slice (some ⟨z.ga, 0, none⟩) z.b.ac.length z.ca, .slice (some ⟨z.gi, 0, none⟩) z.b.ic.length z.ci, .slice (some ⟨z.gb, 0, none⟩) z.b.bs.length z.cb, .slice (some ⟨z.gl, 0, none⟩) z.b.ls.length z.cl, .slice (some ⟨z.gt, 0, none⟩) z.b.ts.length z.ct, .int .i64 z.b.lot], .int .i64 c]) ∧ Ow w' w.heap.size z ∧ Below w.heap.size w w')
/-- A block in which none of the lists lies. -/
def Off (z : Bx) (g : Nat) : Prop := z.ga ≠ g ∧ z.gi ≠ g ∧ z.gb ≠ g ∧ z.gl ≠ g ∧ z.gt ≠ g
theorem off_up {z : Bx} {N g : Nat} (h : Up z N) (k : N ≤ g) : Off z g := by
  unfold Up at h
  unfold Off
  omega
theorem off_lo {z : Bx} {N g : Nat} (h : Lo z N) (k : g < N) : Off z g := by
  unfold Lo at h
  unfold Off
  omega
theorem row_set {w : World} {base : Nat} {e : TypeId} {size g n cap : Nat} {xs : List Value} (h : w.ownsRow base e size (.slice (some ⟨g, 0, none⟩) n cap) n xs) {g0 : Nat} (ne : g ≠ g0) (j : Nat) (u : Value) : (w.setCell ⟨g0, j, none⟩ u).ownsRow base e size (.slice (some ⟨g, 0, none⟩) n cap) n xs :=
  row_block h (Below.heap_setCell w ⟨g0, j, none⟩ u g ne)
theorem ow_set {w : World} {base : Nat} {z : Bx} {g : Nat} (h : Ow w base z) (off : Off z g) (j : Nat) (u : Value) : Ow (w.setCell ⟨g, j, none⟩ u) base z :=
  ⟨row_set h.oa off.1 j u, row_set h.oi off.2.1 j u, row_set h.ob off.2.2.1 j u, row_set h.ol off.2.2.2.1 j u, row_set h.ot off.2.2.2.2 j u⟩
theorem ow_alloc {w : World} {base : Nat} {z : Bx} (h : Ow w base z) (o : Obj) : Ow (w.alloc o) base z :=
  ⟨h.oa.alloc o, h.oi.alloc o, h.ob.alloc o, h.ol.alloc o, h.ot.alloc o⟩
/-- Behind a store of books into a variable. -/
theorem six {B : Nat} {a w : World} {g : Nat} (h : Below B a w) (hg : B ≤ g) (u0 u1 u2 u3 u4 u5 : Value) : Below B a ((((((w.setCell ⟨g, 0, none⟩ u0).setCell ⟨g, 1, none⟩ u1).setCell ⟨g, 2, none⟩ u2).setCell ⟨g, 3, none⟩ u3).setCell ⟨g, 4, none⟩ u4).setCell ⟨g, 5, none⟩ u5) :=
  (((((h.setCell (p := ⟨g, 0, none⟩) hg u0).setCell (p := ⟨g, 1, none⟩) hg u1).setCell (p := ⟨g, 2, none⟩) hg u2).setCell (p := ⟨g, 3, none⟩) hg u3).setCell (p := ⟨g, 4, none⟩) hg u4).setCell (p := ⟨g, 5, none⟩) hg u5
theorem ow_six {w : World} {base : Nat} {z : Bx} {g : Nat} (h : Ow w base z) (off : Off z g) (u0 u1 u2 u3 u4 u5 : Value) : Ow ((((((w.setCell ⟨g, 0, none⟩ u0).setCell ⟨g, 1, none⟩ u1).setCell ⟨g, 2, none⟩ u2).setCell ⟨g, 3, none⟩ u3).setCell ⟨g, 4, none⟩ u4).setCell ⟨g, 5, none⟩ u5) base z :=
  ow_set (ow_set (ow_set (ow_set (ow_set (ow_set h off 0 u0) off 1 u1) off 2 u2) off 3 u3) off 4 u4) off 5 u5
theorem box_six {w : World} {base g : Nat} {v0 v1 v2 v3 v4 v5 : Value} (h : Box w base g v0 v1 v2 v3 v4 v5) (u0 u1 u2 u3 u4 u5 : Value) : Box ((((((w.setCell ⟨g, 0, none⟩ u0).setCell ⟨g, 1, none⟩ u1).setCell ⟨g, 2, none⟩ u2).setCell ⟨g, 3, none⟩ u3).setCell ⟨g, 4, none⟩ u4).setCell ⟨g, 5, none⟩ u5) base g u0 u1 u2 u3 u4 u5 ∧ w.grownBy ((((((w.setCell ⟨g, 0, none⟩ u0).setCell ⟨g, 1, none⟩ u1).setCell ⟨g, 2, none⟩ u2).setCell ⟨g, 3, none⟩ u3).setCell ⟨g, 4, none⟩ u4).setCell ⟨g, 5, none⟩ u5) (some g) := by
  obtain ⟨s0, y0⟩ := h.set0 u0
  obtain ⟨s1, y1⟩ := s0.set1 u1
  obtain ⟨s2, y2⟩ := s1.set2 u2
  obtain ⟨s3, y3⟩ := s2.set3 u3
  obtain ⟨s4, y4⟩ := s3.set4 u4
  obtain ⟨s5, y5⟩ := s4.set5 u5
  exact ⟨s5, Pairs.grown_trans (Pairs.grown_trans (Pairs.grown_trans (Pairs.grown_trans (Pairs.grown_trans y0 y1) y2) y3) y4) y5⟩
/-- The books that were handed in, in their box, and the answer's variable behind it. -/
structure SR (w W : World) (x : Bx) : Prop where
  r : Rd W x
  c : Cl W w.heap.size x
  v : Box W w.heap.size (w.heap.size + 1) (.slice none 0 0) (.slice none 0 0) (.slice none 0 0) (.slice none 0 0) (.slice none 0 0) (.int .i64 0)
  b : Below w.heap.size w W
theorem SR.start {w : World} {x : Bx} (h : Rd w x) : SR w ((w.alloc (.cells #[.slice (some ⟨x.ga, 0, none⟩) x.b.ac.length x.ca, .slice (some ⟨x.gi, 0, none⟩) x.b.ic.length x.ci, .slice (some ⟨x.gb, 0, none⟩) x.b.bs.length x.cb, .slice (some ⟨x.gl, 0, none⟩) x.b.ls.length x.cl, .slice (some ⟨x.gt, 0, none⟩) x.b.ts.length x.ct, .int .i64 x.b.lot] 36)).alloc (.cells #[.slice none 0 0, .slice none 0 0, .slice none 0 0, .slice none 0 0, .slice none 0 0, .int .i64 0] 36)) x :=
  ⟨(h.alloc _).alloc _, (boxed w x 36).below (one_more _ _) (by simp), Box.made _ _ _ _ _ _ (by simp) (by simp), ((Below.refl w.heap.size w).alloc (Nat.le_refl _) _).alloc (by simp) _⟩
theorem SR.step {w W W' : World} {x : Bx} (h : SR w W x) (k : Below W.heap.size W W') : SR w W' x := by
  have l := h.v.lt
  exact ⟨h.r.below k, h.c.below k (by omega), h.v.below k (by omega), h.b.trans (k.mono h.b.size)⟩
/-- The sizes of books that are right. -/
theorem ok_small {b : Bk} (h : Ok b) : Small b := by
  obtain ⟨⟨h1, h2, h3, h4, h5, _⟩, _⟩ := h
  have a := h1.1
  have b := h2.1
  have c := h3.1
  have d := h4.1
  have e := h5.1
  exact ⟨by omega, by omega, by omega, by omega, by omega⟩
end Go.Proofs.YteccbaohfmhnfaaGreat.Ans
namespace Go.Proofs.YteccbaohfmhnfaaGreat.AnyInv
open Go
section
variable {P : Program} {ops : Array Oper} {Q : Exit → Act → World → Prop} {md : Region.Mode}
theorem ready_mem {listed : Array Bool} {i : Nat} (h : i ∈ Region.ready md ops listed) : ∃ o, ops[i]? = some o ∧ i < ops.size ∧ listed.getD i true = false ∧ ∀ e ∈ o.after, Region.binds md e = true → listed.getD e.on false = true := by
  unfold Region.ready at h
  rw [List.mem_filter] at h
  obtain ⟨h1, h2⟩ := h
  have hi : i < ops.size := List.mem_range.1 h1
  have ho : ops[i]? = some ops[i] := Array.getElem?_eq_getElem hi
  refine ⟨ops[i], ho, hi, ?_, ?_⟩
  · simp only [Bool.and_eq_true, Bool.not_eq_true'] at h2
    exact h2.1
  · intro e he hb
    rw [ho] at h2
    simp only [Bool.and_eq_true, Option.map_some, Option.getD_some, Array.all_eq_true'] at h2
    have := h2.2 e he
    simpa [hb] using this
theorem mem_ready {listed : Array Bool} {i : Nat} {o : Oper} (ho : ops[i]? = some o) (hl : listed.getD i true = false) (h : ∀ e ∈ o.after, Region.binds md e = true → listed.getD e.on false = true) : i ∈ Region.ready md ops listed := by
  unfold Region.ready
  rw [List.mem_filter]
  refine ⟨List.mem_range.2 (Array.getElem?_eq_some_iff.1 ho).1, ?_⟩
  rw [ho]
  simp only [Bool.and_eq_true, Bool.not_eq_true', Option.map_some, Option.getD_some, Array.all_eq_true']
  refine ⟨hl, fun e he => ?_⟩
  by_cases hb : Region.binds md e = true
  · simp [h e he hb]
  · simp [hb]
theorem wpAny_inv (I : Array Bool → Act → World → Prop)
    (hsz : ∀ listed a w, I listed a w → listed.size = ops.size)
    (hback : ∀ i o, ops[i]? = some o → ∀ e ∈ o.after, Region.binds md e = true → e.on < i)
    (hstep : ∀ listed a w i o, I listed a w → ops[i]? = some o → listed.getD i true = false → (∀ e ∈ o.after, Region.binds md e = true → listed.getD e.on false = true) → wpOp P ops Q i (I (listed.setIfInBounds i true)) a w)
    (hdone : ∀ listed a w, I listed a w → (∀ i, i < ops.size → listed.getD i true = true) → Q .normal a w) :
    ∀ (fuel : Nat) (listed : Array Bool) (a : Act) (w : World) (L : List Nat), I listed a w → L.length ≤ fuel → (∀ i, i < ops.size → listed.getD i true = false → i ∈ L) → wpAny P md ops Q fuel listed a w := by
  intro fuel
  induction fuel with
  | zero =>
    intro listed a w L hI hL hM
    have hnil : L = [] := List.length_eq_zero_iff.1 (by omega)
    subst hnil
    have all : ∀ i, i < ops.size → listed.getD i true = true := fun i hi => by
      cases h : listed.getD i true
      · exact absurd (hM i hi h) List.not_mem_nil
      · rfl
    refine ⟨?_, hdone _ _ _ hI all⟩
    apply List.eq_nil_iff_forall_not_mem.2
    intro i hi
    obtain ⟨o, ho, hlt, hl, _⟩ := ready_mem hi
    rw [all i hlt] at hl
    cases hl
  | succ fuel ih =>
    intro listed a w L hI hL hM
    refine ⟨fun hr => hdone _ _ _ hI ?_, fun i hi => ?_⟩
    · intro i
      induction i using Nat.strongRecOn with
      | ind i ihi =>
        intro hi
        cases h : listed.getD i true
        · exfalso
          have ho : ops[i]? = some ops[i] := Array.getElem?_eq_getElem hi
          have := mem_ready (md := md) ho h (fun e he hb => by
            have hlt := hback i _ ho e he hb
            have h1 := ihi e.on hlt (by omega)
            have hs := hsz _ _ _ hI
            have hin : e.on < listed.size := by omega
            simp only [Array.getD, hin, dite_true] at h1 ⊢
            exact h1)
          rw [hr] at this
          cases this
        · rfl
    · obtain ⟨o, ho, hlt, hl, hd⟩ := ready_mem hi
      have hmem := hM i hlt hl
      refine wpOp_mono (fun a' w' hI' => ih _ a' w' (L.erase i) hI' ?_ ?_) (hstep listed a w i o hI ho hl hd)
      · rw [List.length_erase_of_mem hmem]
        omega
      · intro j hj hjl
        have hs := hsz _ _ _ hI
        by_cases e : j = i
        · subst e
          have hin : j < listed.size := by omega
          simp [Array.getD, hin] at hjl
        · have : listed.getD j true = false := by
            have hin : j < listed.size := by omega
            have ne : i ≠ j := fun h => e h.symm
            simp only [Array.getD, Array.size_setIfInBounds, hin, dite_true] at hjl ⊢
            have h2 : (listed.setIfInBounds i true)[j]'(by simpa using hin) = listed[j] := (Array.getElem_setIfInBounds hin).trans (if_neg ne)
            exact h2.symm.trans hjl
          exact (List.mem_erase_of_ne e).2 (hM j hj this)
/-- The region, from a property that holds ahead of it. -/
theorem wp_region_inv (I : Array Bool → Act → World → Prop) {id : Nat} {a : Act} {w : World} (hm : P.follows .mixedOrders = true)
    (hsz : ∀ listed a w, I listed a w → listed.size = ops.size)
    (hback : ∀ i o, ops[i]? = some o → ∀ e ∈ o.after, Region.binds .any e = true → e.on < i)
    (h0 : I (Array.replicate ops.size false) a w.drew)
    (hstep : ∀ listed a w i o, I listed a w → ops[i]? = some o → listed.getD i true = false → (∀ e ∈ o.after, Region.binds .any e = true → listed.getD e.on false = true) → wpOp P ops Q i (I (listed.setIfInBounds i true)) a w)
    (hdone : ∀ listed a w, I listed a w → (∀ i, i < ops.size → listed.getD i true = true) → Q .normal a w) : (Code.region id ops true).wp P Q a w :=
  wp_region_any hm (wpAny_inv I hsz hback hstep hdone ops.size _ a _ (List.range ops.size) h0 (by simp) (fun i hi _ => List.mem_range.2 hi))
/-- Every operation waits for earlier ones alone; and for those of a table, at least. -/
def backB (ops : Array Oper) : Bool := (List.range ops.size).all fun i => ((ops[i]?).map fun o => o.after.all fun e => decide (e.on < i)).getD true
def waitsB (ops : Array Oper) (D : List (List Nat)) : Bool := (List.range ops.size).all fun i => ((ops[i]?).map fun o => (D.getD i []).all fun j => o.after.any fun e => Region.binds .any e && e.on == j).getD true
theorem back_of {ops : Array Oper} (h : backB ops = true) : ∀ i o, ops[i]? = some o → ∀ e ∈ o.after, Region.binds .any e = true → e.on < i := by
  intro i o ho e he _
  unfold backB at h
  rw [List.all_eq_true] at h
  have := h i (List.mem_range.2 (Array.getElem?_eq_some_iff.1 ho).1)
  rw [ho] at this
  simp only [Option.map_some, Option.getD_some, Array.all_eq_true'] at this
  exact of_decide_eq_true (this e he)
theorem waits_of {ops : Array Oper} {D : List (List Nat)} (h : waitsB ops D = true) {i : Nat} {o : Oper} (ho : ops[i]? = some o) {listed : Array Bool} (hd : ∀ e ∈ o.after, Region.binds .any e = true → listed.getD e.on false = true) : ∀ j ∈ D.getD i [], listed.getD j false = true := by
  intro j hj
  unfold waitsB at h
  rw [List.all_eq_true] at h
  have := h i (List.mem_range.2 (Array.getElem?_eq_some_iff.1 ho).1)
  rw [ho] at this
  simp only [Option.map_some, Option.getD_some, List.all_eq_true] at this
  have h2 := this j hj
  rw [Array.any_eq_true'] at h2
  obtain ⟨e, he, hb⟩ := h2
  simp only [Bool.and_eq_true, beq_iff_eq] at hb
  rw [← hb.2]
  exact hd e he hb.1
theorem wp_region_inv2 (D : List (List Nat)) (I : Array Bool → Act → World → Prop) {id : Nat} {a : Act} {w : World} (hm : P.follows .mixedOrders = true) (hb : backB ops = true) (hw : waitsB ops D = true)
    (hsz : ∀ listed a w, I listed a w → listed.size = ops.size)
    (h0 : I (Array.replicate ops.size false) a w.drew)
    (hstep : ∀ listed a w i, I listed a w → i < ops.size → listed.getD i true = false → (∀ j ∈ D.getD i [], listed.getD j false = true) → wpOp P ops Q i (I (listed.setIfInBounds i true)) a w)
    (hdone : ∀ listed a w, I listed a w → (∀ i, i < ops.size → listed.getD i true = true) → Q .normal a w) : (Code.region id ops true).wp P Q a w :=
  wp_region_inv I hm hsz (back_of hb) h0 (fun listed a w i o hI ho hl hd => hstep listed a w i hI (Array.getElem?_eq_some_iff.1 ho).1 hl (waits_of hw ho hd)) hdone
theorem wpOp_of {i : Nat} {o : Oper} {K : Act → World → Prop} {a : Act} {w : World} (ho : ops[i]? = some o) (hg : o.guard = none) (h : o.wp P a w K Q) : wpOp P ops Q i K a w := by
  unfold wpOp
  rw [ho]
  have : Region.wanted o (yielded ops a.tmps) = true := by simp [Region.wanted, hg]
  simp only [this, if_true]
  exact Or.inl h
end
end Go.Proofs.YteccbaohfmhnfaaGreat.AnyInv
namespace Go.Proofs.YteccbaohfmhnfaaGreat.ICopied
open Go.ChangeShapes Go.WideShapes Go.ChangeAt Go.RowKit BMem Bks ILists AnyInv Copy
open BHelp (row_block row_apart)
open IBalsFit (one_more)
/-- How far a list's copy has come: its empty start, the field's address, the list that is copied, the copy. -/
def Ch (W : World) (base : Nat) (e : TypeId) (size : Nat) (fb ff fl fa : Bool) (vb vf vl va pf src : Value) (n : Nat) (xs : List Value) : Prop :=
  (ff = true → vf = pf) ∧ (fl = true → vl = src) ∧ (fb = true → fa = false → ∃ g, vb = .slice (some ⟨g, 0, none⟩) 0 0 ∧ W.ownsRow base e size (.slice (some ⟨g, 0, none⟩) 0 0) 0 []) ∧ (fa = true → ∃ g c, va = .slice (some ⟨g, 0, none⟩) n c ∧ W.ownsRow base e size (.slice (some ⟨g, 0, none⟩) n c) n xs)
section
variable {W W' : World} {base : Nat} {e : TypeId} {size : Nat} {fb ff fl fa : Bool} {vb vf vl va pf src : Value} {n : Nat} {xs : List Value}
theorem Ch.zero (W : World) (base : Nat) (e : TypeId) (size : Nat) (vb vf vl va pf src : Value) (n : Nat) (xs : List Value) : Ch W base e size false false false false vb vf vl va pf src n xs :=
  ⟨(fun h => by cases h), (fun h => by cases h), (fun h => by cases h), (fun h => by cases h)⟩
theorem Ch.addr (h : Ch W base e size fb ff fl fa vb vf vl va pf src n xs) : Ch W base e size fb true fl fa vb pf vl va pf src n xs := ⟨fun _ => rfl, h.2⟩
theorem Ch.load (h : Ch W base e size fb ff fl fa vb vf vl va pf src n xs) : Ch W base e size fb ff true fa vb vf src va pf src n xs := ⟨h.1, fun _ => rfl, h.2.2⟩
theorem Ch.alloc (h : Ch W base e size fb ff fl fa vb vf vl va pf src n xs) (o : Obj) : Ch (W.alloc o) base e size fb ff fl fa vb vf vl va pf src n xs := by
  refine ⟨h.1, h.2.1, fun a b => ?_, fun a => ?_⟩
  · obtain ⟨g, e1, o1⟩ := h.2.2.1 a b
    exact ⟨g, e1, o1.alloc o⟩
  · obtain ⟨g, c, e1, o1⟩ := h.2.2.2 a
    exact ⟨g, c, e1, o1.alloc o⟩
theorem Ch.start (h : Ch W base e size fb ff fl fa vb vf vl va pf src n xs) (hb : base ≤ W.heap.size) : Ch (W.alloc (.cells #[] e)) base e size true ff fl fa (.slice (some ⟨W.heap.size, 0, none⟩) 0 0) vf vl va pf src n xs := by
  refine ⟨h.1, h.2.1, fun _ _ => ⟨W.heap.size, rfl, World.ownsRow_made W #[] 0 hb (by unfold maxLen; omega) (by simp)⟩, fun a => ?_⟩
  obtain ⟨g, c, e1, o1⟩ := h.2.2.2 a
  exact ⟨g, c, e1, o1.alloc _⟩
theorem Ch.kept {g0 : Nat} (h : Ch W base e size fb ff fl fa vb vf vl va pf src n xs) (k : W.grownBy W' (some g0)) (hne : ∀ (m c : Nat) (ys : List Value), ¬ W.ownsRow base e size (.slice (some ⟨g0, 0, none⟩) m c) m ys) : Ch W' base e size fb ff fl fa vb vf vl va pf src n xs := by
  refine ⟨h.1, h.2.1, fun a b => ?_, fun a => ?_⟩
  · obtain ⟨g, e1, o1⟩ := h.2.2.1 a b
    exact ⟨g, e1, o1.kept k (Or.inr (fun e => by
      have : g = g0 := by simpa [Value.ownBlock] using e
      subst this
      exact hne _ _ _ o1))⟩
  · obtain ⟨g, c, e1, o1⟩ := h.2.2.2 a
    exact ⟨g, c, e1, o1.kept k (Or.inr (fun e => by
      have : g = g0 := by simpa [Value.ownBlock] using e
      subst this
      exact hne _ _ _ o1))⟩
theorem Ch.app {g c : Nat} (h : Ch W base e size fb ff fl fa vb vf vl va pf src n xs) (o1 : W'.ownsRow base e size (.slice (some ⟨g, 0, none⟩) n c) n xs) : Ch W' base e size fb ff fl true vb vf vl (.slice (some ⟨g, 0, none⟩) n c) pf src n xs :=
  ⟨h.1, h.2.1, (fun _ b => by cases b), fun _ => ⟨g, c, rfl, o1⟩⟩
end
/-- A block of one type is no list of another one. -/
theorem other {W : World} {base base' : Nat} {e e' : TypeId} {size size' : Nat} {g n cap : Nat} {xs : List Value} (h : W.ownsRow base e size (.slice (some ⟨g, 0, none⟩) n cap) n xs) (ne : e ≠ e') : ∀ (m c : Nat) (ys : List Value), ¬ W.ownsRow base' e' size' (.slice (some ⟨g, 0, none⟩) m c) m ys :=
  fun m c ys k => row_apart h k ne rfl
/-- What the region keeps. -/
def Inv (w : World) (x : Bx) (listed : Array Bool) (a : Act) (W : World) : Prop :=
  ∃ (b0 b1 b2 b3 b4 b5 b6 b7 b8 b9 b10 b11 b12 b13 b14 b15 b16 b17 b18 b19 b20 b21 b22 b23 : Bool) (v3 v4 v5 v6 v7 v8 v9 v10 v11 v12 v13 v14 v15 v16 v17 v18 v19 v20 v21 v22 v23 v24 v25 r0 r1 r2 r3 r4 r5 : Value), listed = #[b0, b1, b2, b3, b4, b5, b6, b7, b8, b9, b10, b11, b12, b13, b14, b15, b16, b17, b18, b19, b20, b21, b22, b23] ∧ a = { tmps := #[.agg #[.slice (some ⟨x.ga, 0, none⟩) x.b.ac.length x.ca, .slice (some ⟨x.gi, 0, none⟩) x.b.ic.length x.ci, .slice (some ⟨x.gb, 0, none⟩) x.b.bs.length x.cb, .slice (some ⟨x.gl, 0, none⟩) x.b.ls.length x.cl, .slice (some ⟨x.gt, 0, none⟩) x.b.ts.length x.ct, .int .i64 x.b.lot], .pointer (some ⟨w.heap.size, 0, none⟩), .pointer (some ⟨w.heap.size + 1, 0, none⟩), v3, v4, v5, v6, v7, v8, v9, v10, v11, v12, v13, v14, v15, v16, v17, v18, v19, v20, v21, v22, v23, v24, v25], defers := [] } ∧
    Below w.heap.size w W ∧ Cl W w.heap.size x ∧ Box W w.heap.size (w.heap.size + 1) r0 r1 r2 r3 r4 r5 ∧
    Ch W (w.heap.size + 2) 86 2 b0 b1 b2 b3 v3 v4 v5 v6 (.pointer (some ⟨w.heap.size, 0, none⟩)) (.slice (some ⟨x.ga, 0, none⟩) x.b.ac.length x.ca) x.b.ac.length (Pairs.flat x.b.ac) ∧ Ch W (w.heap.size + 2) 87 2 b4 b5 b6 b7 v7 v8 v9 v10 (.pointer (some ⟨w.heap.size, 1, none⟩)) (.slice (some ⟨x.gi, 0, none⟩) x.b.ic.length x.ci) x.b.ic.length (Pairs.flat x.b.ic) ∧ Ch W (w.heap.size + 2) 102 3 b8 b9 b10 b11 v11 v12 v13 v14 (.pointer (some ⟨w.heap.size, 2, none⟩)) (.slice (some ⟨x.gb, 0, none⟩) x.b.bs.length x.cb) x.b.bs.length (Triples.flat3 x.b.bs) ∧ Ch W (w.heap.size + 2) 97 5 b12 b13 b14 b15 v15 v16 v17 v18 (.pointer (some ⟨w.heap.size, 3, none⟩)) (.slice (some ⟨x.gl, 0, none⟩) x.b.ls.length x.cl) x.b.ls.length (Tup5.flat5 x.b.ls) ∧ Ch W (w.heap.size + 2) 84 8 b16 b17 b18 b19 v19 v20 v21 v22 (.pointer (some ⟨w.heap.size, 4, none⟩)) (.slice (some ⟨x.gt, 0, none⟩) x.b.ts.length x.ct) x.b.ts.length (Tup8.flat8 x.b.ts) ∧
    (b20 = true → v23 = .pointer (some ⟨w.heap.size, 5, none⟩)) ∧ (b21 = true → v24 = .int .i64 x.b.lot) ∧ (b22 = true → (b3 = true ∧ b7 = true ∧ b11 = true ∧ b15 = true ∧ b19 = true) ∧ v25 = .agg #[v6, v10, v14, v18, v22, .int .i64 x.b.lot]) ∧ (b23 = true → b22 = true ∧ r0 = v6 ∧ r1 = v10 ∧ r2 = v14 ∧ r3 = v18 ∧ r4 = v22 ∧ r5 = .int .i64 x.b.lot)
theorem room {w W : World} {r0 r1 r2 r3 r4 r5 : Value} (h : Box W w.heap.size (w.heap.size + 1) r0 r1 r2 r3 r4 r5) : w.heap.size + 2 ≤ W.heap.size := h.lt.2
set_option maxRecDepth 100000 in
set_option maxHeartbeats 8000000 in
theorem iCopied (w : World) (x : Bx) (h : Rd w x) :
    Calls Tryz.prog 69 #[.agg #[.slice (some ⟨x.ga, 0, none⟩) x.b.ac.length x.ca, .slice (some ⟨x.gi, 0, none⟩) x.b.ic.length x.ci, .slice (some ⟨x.gb, 0, none⟩) x.b.bs.length x.cb, .slice (some ⟨x.gl, 0, none⟩) x.b.ls.length x.cl, .slice (some ⟨x.gt, 0, none⟩) x.b.ts.length x.ct, .int .i64 x.b.lot]] w fun e w' => ∃ z : Bx, z.b = x.b ∧ e = .returned (.agg #[.slice (some ⟨z.ga, 0, none⟩) z.b.ac.length z.ca, .slice (some ⟨z.gi, 0, none⟩) z.b.ic.length z.ci, .slice (some ⟨z.gb, 0, none⟩) z.b.bs.length z.cb, .slice (some ⟨z.gl, 0, none⟩) z.b.ls.length z.cl, .slice (some ⟨z.gt, 0, none⟩) z.b.ts.length z.ct, .int .i64 z.b.lot]) ∧ Ow w' w.heap.size z ∧ Below w.heap.size w w' := by
  have H := hide h
  clear h
  go_enter Tryz.func69, Tryz.ntmps69
  go_wp2_with fail
  refine wp_region_inv2 [[], [], [1], [0, 2], [], [], [5], [4, 6], [], [], [9], [8, 10], [], [], [13], [12, 14], [], [], [17], [16, 18], [], [20], [3, 7, 11, 15, 19, 21], [22]] (Inv w x) (by kernel_rfl) (by kernel_rfl) (by kernel_rfl) ?_ ?_ ?_ ?_
  · intro listed a W hI
    obtain ⟨_, _, _, _, _, _, _, _, _, _, _, _, _, _, _, _, _, _, _, _, _, _, _, _, _, _, _, _, _, _, _, _, _, _, _, _, _, _, _, _, _, _, _, _, _, _, _, _, _, _, _, _, _, rfl, _⟩ := hI
    rfl
  · have b1 : Below w.heap.size w ((w.alloc (.cells #[.slice (some ⟨x.ga, 0, none⟩) x.b.ac.length x.ca, .slice (some ⟨x.gi, 0, none⟩) x.b.ic.length x.ci, .slice (some ⟨x.gb, 0, none⟩) x.b.bs.length x.cb, .slice (some ⟨x.gl, 0, none⟩) x.b.ls.length x.cl, .slice (some ⟨x.gt, 0, none⟩) x.b.ts.length x.ct, .int .i64 x.b.lot] 36)).alloc (.cells #[.slice none 0 0, .slice none 0 0, .slice none 0 0, .slice none 0 0, .slice none 0 0, .int .i64 0] 36)) := ((Below.refl w.heap.size w).alloc (Nat.le_refl _) _).alloc (by simp) _
    have c1 : Cl ((w.alloc (.cells #[.slice (some ⟨x.ga, 0, none⟩) x.b.ac.length x.ca, .slice (some ⟨x.gi, 0, none⟩) x.b.ic.length x.ci, .slice (some ⟨x.gb, 0, none⟩) x.b.bs.length x.cb, .slice (some ⟨x.gl, 0, none⟩) x.b.ls.length x.cl, .slice (some ⟨x.gt, 0, none⟩) x.b.ts.length x.ct, .int .i64 x.b.lot] 36)).alloc (.cells #[.slice none 0 0, .slice none 0 0, .slice none 0 0, .slice none 0 0, .slice none 0 0, .int .i64 0] 36)) w.heap.size x := (boxed w x 36).below (one_more _ _) (by simp)
    have x1 : Box ((w.alloc (.cells #[.slice (some ⟨x.ga, 0, none⟩) x.b.ac.length x.ca, .slice (some ⟨x.gi, 0, none⟩) x.b.ic.length x.ci, .slice (some ⟨x.gb, 0, none⟩) x.b.bs.length x.cb, .slice (some ⟨x.gl, 0, none⟩) x.b.ls.length x.cl, .slice (some ⟨x.gt, 0, none⟩) x.b.ts.length x.ct, .int .i64 x.b.lot] 36)).alloc (.cells #[.slice none 0 0, .slice none 0 0, .slice none 0 0, .slice none 0 0, .slice none 0 0, .int .i64 0] 36)) w.heap.size (w.heap.size + 1) (.slice none 0 0) (.slice none 0 0) (.slice none 0 0) (.slice none 0 0) (.slice none 0 0) (.int .i64 0) := Box.made _ _ _ _ _ _ (by simp) (by simp)
    refine ⟨false, false, false, false, false, false, false, false, false, false, false, false, false, false, false, false, false, false, false, false, false, false, false, false, undef, undef, undef, undef, undef, undef, undef, undef, undef, undef, undef, undef, undef, undef, undef, undef, undef, undef, undef, undef, undef, undef, undef, .slice none 0 0, .slice none 0 0, .slice none 0 0, .slice none 0 0, .slice none 0 0, .int .i64 0, rfl, rfl, b1.drew, ⟨c1.c0, c1.c1, c1.c2, c1.c3, c1.c4, c1.c5⟩, x1, Ch.zero _ _ _ _ _ _ _ _ _ _ _ _, Ch.zero _ _ _ _ _ _ _ _ _ _ _ _, Ch.zero _ _ _ _ _ _ _ _ _ _ _ _, Ch.zero _ _ _ _ _ _ _ _ _ _ _ _, Ch.zero _ _ _ _ _ _ _ _ _ _ _ _, (fun h => by cases h), (fun h => by cases h), (fun h => by cases h), (fun h => by cases h)⟩
  · intro listed a W i hI hi hl hd
    replace hi : i < 24 := hi
    obtain ⟨b0, b1, b2, b3, b4, b5, b6, b7, b8, b9, b10, b11, b12, b13, b14, b15, b16, b17, b18, b19, b20, b21, b22, b23, v3, v4, v5, v6, v7, v8, v9, v10, v11, v12, v13, v14, v15, v16, v17, v18, v19, v20, v21, v22, v23, v24, v25, r0, r1, r2, r3, r4, r5, rfl, rfl, hB, hC, hR, h0, h1, h2, h3, h4, e20, e21, e22, e23⟩ := hI
    have hrm := room hR
    have zb : w.heap.size < W.heap.size := by omega
    rcases (show i = 0 ∨ i = 1 ∨ i = 2 ∨ i = 3 ∨ i = 4 ∨ i = 5 ∨ i = 6 ∨ i = 7 ∨ i = 8 ∨ i = 9 ∨ i = 10 ∨ i = 11 ∨ i = 12 ∨ i = 13 ∨ i = 14 ∨ i = 15 ∨ i = 16 ∨ i = 17 ∨ i = 18 ∨ i = 19 ∨ i = 20 ∨ i = 21 ∨ i = 22 ∨ i = 23 by omega) with rfl | rfl | rfl | rfl | rfl | rfl | rfl | rfl | rfl | rfl | rfl | rfl | rfl | rfl | rfl | rfl | rfl | rfl | rfl | rfl | rfl | rfl | rfl | rfl
    · refine wpOp_of rfl rfl ?_
      go_simp
      exact ⟨true, b1, b2, b3, b4, b5, b6, b7, b8, b9, b10, b11, b12, b13, b14, b15, b16, b17, b18, b19, b20, b21, b22, b23, _, v4, v5, v6, v7, v8, v9, v10, v11, v12, v13, v14, v15, v16, v17, v18, v19, v20, v21, v22, v23, v24, v25, r0, r1, r2, r3, r4, r5, rfl, rfl, hB.alloc (by omega) _, hC.below (one_more _ _) zb, hR.below (one_more _ _) hR.lt.2, h0.start hrm, h1.alloc _, h2.alloc _, h3.alloc _, h4.alloc _, e20, e21, e22, e23⟩
    · refine wpOp_of rfl rfl ?_
      go_simp
      exact ⟨b0, true, b2, b3, b4, b5, b6, b7, b8, b9, b10, b11, b12, b13, b14, b15, b16, b17, b18, b19, b20, b21, b22, b23, v3, _, v5, v6, v7, v8, v9, v10, v11, v12, v13, v14, v15, v16, v17, v18, v19, v20, v21, v22, v23, v24, v25, r0, r1, r2, r3, r4, r5, rfl, rfl, hB, hC, hR, h0.addr, h1, h2, h3, h4, e20, e21, e22, e23⟩
    · have q1 : b1 = true := hd 1 (by simp)
      have q2 := h0.1 q1
      subst q1 q2
      have c := hC.c0
      refine wpOp_of rfl rfl ?_
      go_simp
      exact ⟨b0, true, true, b3, b4, b5, b6, b7, b8, b9, b10, b11, b12, b13, b14, b15, b16, b17, b18, b19, b20, b21, b22, b23, v3, _, _, v6, v7, v8, v9, v10, v11, v12, v13, v14, v15, v16, v17, v18, v19, v20, v21, v22, v23, v24, v25, r0, r1, r2, r3, r4, r5, rfl, rfl, hB, hC, hR, h0.load, h1, h2, h3, h4, e20, e21, e22, e23⟩
    · have q1 : b0 = true := hd 0 (by simp)
      have q2 : b2 = true := hd 2 (by simp)
      have q3 : b3 = false := hl
      obtain ⟨g, ev, orow⟩ := h0.2.2.1 q1 q3
      have es := h0.2.1 q2
      subst ev es
      obtain ⟨g', c', W', hrun, ow, gr, _⟩ := copyAccount W (w.heap.size + 2) g 0 orow 30 x.ga x.ca x.b.ac ((unhide H).below hB).ra (unhide H).na hrm
      have gl := World.ownsRow.lt orow g rfl
      have n0 : some w.heap.size ≠ some g := fun e => by injection e; omega
      have n1 : some (w.heap.size + 1) ≠ some g := fun e => by injection e; omega
      have f22 : b22 = true → False := fun e => by have := (e22 e).1; rw [q3] at this; simp at this
      have hBk := hB.grown gr (by omega) (fun k e => by injection e; omega)
      have hCk : Cl W' w.heap.size x := ⟨gr.cell hC.c0 n0, gr.cell hC.c1 n0, gr.cell hC.c2 n0, gr.cell hC.c3 n0, gr.cell hC.c4 n0, gr.cell hC.c5 n0⟩
      refine wpOp_of rfl rfl ?_
      refine wpo_append (.tmp 3) (.tmp 5) 30 rfl rfl rfl hrun ?_
      exact ⟨b0, b1, b2, true, b4, b5, b6, b7, b8, b9, b10, b11, b12, b13, b14, b15, b16, b17, b18, b19, b20, b21, b22, b23, _, v4, _, _, v7, v8, v9, v10, v11, v12, v13, v14, v15, v16, v17, v18, v19, v20, v21, v22, v23, v24, v25, r0, r1, r2, r3, r4, r5, rfl, rfl, hBk, hCk, hR.kept gr n1, h0.app ow, h1.kept gr (other orow (by decide)), h2.kept gr (other orow (by decide)), h3.kept gr (other orow (by decide)), h4.kept gr (other orow (by decide)), e20, e21, fun e => (f22 e).elim, fun e => (f22 (e23 e).1).elim⟩
    · refine wpOp_of rfl rfl ?_
      go_simp
      exact ⟨b0, b1, b2, b3, true, b5, b6, b7, b8, b9, b10, b11, b12, b13, b14, b15, b16, b17, b18, b19, b20, b21, b22, b23, v3, v4, v5, v6, _, v8, v9, v10, v11, v12, v13, v14, v15, v16, v17, v18, v19, v20, v21, v22, v23, v24, v25, r0, r1, r2, r3, r4, r5, rfl, rfl, hB.alloc (by omega) _, hC.below (one_more _ _) zb, hR.below (one_more _ _) hR.lt.2, h0.alloc _, h1.start hrm, h2.alloc _, h3.alloc _, h4.alloc _, e20, e21, e22, e23⟩
    · refine wpOp_of rfl rfl ?_
      go_simp
      exact ⟨b0, b1, b2, b3, b4, true, b6, b7, b8, b9, b10, b11, b12, b13, b14, b15, b16, b17, b18, b19, b20, b21, b22, b23, v3, v4, v5, v6, v7, _, v9, v10, v11, v12, v13, v14, v15, v16, v17, v18, v19, v20, v21, v22, v23, v24, v25, r0, r1, r2, r3, r4, r5, rfl, rfl, hB, hC, hR, h0, h1.addr, h2, h3, h4, e20, e21, e22, e23⟩
    · have q1 : b5 = true := hd 5 (by simp)
      have q2 := h1.1 q1
      subst q1 q2
      have c := hC.c1
      refine wpOp_of rfl rfl ?_
      go_simp
      exact ⟨b0, b1, b2, b3, b4, true, true, b7, b8, b9, b10, b11, b12, b13, b14, b15, b16, b17, b18, b19, b20, b21, b22, b23, v3, v4, v5, v6, v7, _, _, v10, v11, v12, v13, v14, v15, v16, v17, v18, v19, v20, v21, v22, v23, v24, v25, r0, r1, r2, r3, r4, r5, rfl, rfl, hB, hC, hR, h0, h1.load, h2, h3, h4, e20, e21, e22, e23⟩
    · have q1 : b4 = true := hd 4 (by simp)
      have q2 : b6 = true := hd 6 (by simp)
      have q3 : b7 = false := hl
      obtain ⟨g, ev, orow⟩ := h1.2.2.1 q1 q3
      have es := h1.2.1 q2
      subst ev es
      obtain ⟨g', c', W', hrun, ow, gr, _⟩ := copyInstr W (w.heap.size + 2) g 0 orow 31 x.gi x.ci x.b.ic ((unhide H).below hB).ri (unhide H).ni hrm
      have gl := World.ownsRow.lt orow g rfl
      have n0 : some w.heap.size ≠ some g := fun e => by injection e; omega
      have n1 : some (w.heap.size + 1) ≠ some g := fun e => by injection e; omega
      have f22 : b22 = true → False := fun e => by have := (e22 e).1; rw [q3] at this; simp at this
      have hBk := hB.grown gr (by omega) (fun k e => by injection e; omega)
      have hCk : Cl W' w.heap.size x := ⟨gr.cell hC.c0 n0, gr.cell hC.c1 n0, gr.cell hC.c2 n0, gr.cell hC.c3 n0, gr.cell hC.c4 n0, gr.cell hC.c5 n0⟩
      refine wpOp_of rfl rfl ?_
      refine wpo_append (.tmp 7) (.tmp 9) 31 rfl rfl rfl hrun ?_
      exact ⟨b0, b1, b2, b3, b4, b5, b6, true, b8, b9, b10, b11, b12, b13, b14, b15, b16, b17, b18, b19, b20, b21, b22, b23, v3, v4, v5, v6, _, v8, _, _, v11, v12, v13, v14, v15, v16, v17, v18, v19, v20, v21, v22, v23, v24, v25, r0, r1, r2, r3, r4, r5, rfl, rfl, hBk, hCk, hR.kept gr n1, h0.kept gr (other orow (by decide)), h1.app ow, h2.kept gr (other orow (by decide)), h3.kept gr (other orow (by decide)), h4.kept gr (other orow (by decide)), e20, e21, fun e => (f22 e).elim, fun e => (f22 (e23 e).1).elim⟩
    · refine wpOp_of rfl rfl ?_
      go_simp
      exact ⟨b0, b1, b2, b3, b4, b5, b6, b7, true, b9, b10, b11, b12, b13, b14, b15, b16, b17, b18, b19, b20, b21, b22, b23, v3, v4, v5, v6, v7, v8, v9, v10, _, v12, v13, v14, v15, v16, v17, v18, v19, v20, v21, v22, v23, v24, v25, r0, r1, r2, r3, r4, r5, rfl, rfl, hB.alloc (by omega) _, hC.below (one_more _ _) zb, hR.below (one_more _ _) hR.lt.2, h0.alloc _, h1.alloc _, h2.start hrm, h3.alloc _, h4.alloc _, e20, e21, e22, e23⟩
    · refine wpOp_of rfl rfl ?_
      go_simp
      exact ⟨b0, b1, b2, b3, b4, b5, b6, b7, b8, true, b10, b11, b12, b13, b14, b15, b16, b17, b18, b19, b20, b21, b22, b23, v3, v4, v5, v6, v7, v8, v9, v10, v11, _, v13, v14, v15, v16, v17, v18, v19, v20, v21, v22, v23, v24, v25, r0, r1, r2, r3, r4, r5, rfl, rfl, hB, hC, hR, h0, h1, h2.addr, h3, h4, e20, e21, e22, e23⟩
    · have q1 : b9 = true := hd 9 (by simp)
      have q2 := h2.1 q1
      subst q1 q2
      have c := hC.c2
      refine wpOp_of rfl rfl ?_
      go_simp
      exact ⟨b0, b1, b2, b3, b4, b5, b6, b7, b8, true, true, b11, b12, b13, b14, b15, b16, b17, b18, b19, b20, b21, b22, b23, v3, v4, v5, v6, v7, v8, v9, v10, v11, _, _, v14, v15, v16, v17, v18, v19, v20, v21, v22, v23, v24, v25, r0, r1, r2, r3, r4, r5, rfl, rfl, hB, hC, hR, h0, h1, h2.load, h3, h4, e20, e21, e22, e23⟩
    · have q1 : b8 = true := hd 8 (by simp)
      have q2 : b10 = true := hd 10 (by simp)
      have q3 : b11 = false := hl
      obtain ⟨g, ev, orow⟩ := h2.2.2.1 q1 q3
      have es := h2.2.1 q2
      subst ev es
      obtain ⟨g', c', W', hrun, ow, gr, _⟩ := copyBal W (w.heap.size + 2) g 0 orow 32 x.gb x.cb x.b.bs ((unhide H).below hB).rb (unhide H).nb hrm
      have gl := World.ownsRow.lt orow g rfl
      have n0 : some w.heap.size ≠ some g := fun e => by injection e; omega
      have n1 : some (w.heap.size + 1) ≠ some g := fun e => by injection e; omega
      have f22 : b22 = true → False := fun e => by have := (e22 e).1; rw [q3] at this; simp at this
      have hBk := hB.grown gr (by omega) (fun k e => by injection e; omega)
      have hCk : Cl W' w.heap.size x := ⟨gr.cell hC.c0 n0, gr.cell hC.c1 n0, gr.cell hC.c2 n0, gr.cell hC.c3 n0, gr.cell hC.c4 n0, gr.cell hC.c5 n0⟩
      refine wpOp_of rfl rfl ?_
      refine wpo_append (.tmp 11) (.tmp 13) 32 rfl rfl rfl hrun ?_
      exact ⟨b0, b1, b2, b3, b4, b5, b6, b7, b8, b9, b10, true, b12, b13, b14, b15, b16, b17, b18, b19, b20, b21, b22, b23, v3, v4, v5, v6, v7, v8, v9, v10, _, v12, _, _, v15, v16, v17, v18, v19, v20, v21, v22, v23, v24, v25, r0, r1, r2, r3, r4, r5, rfl, rfl, hBk, hCk, hR.kept gr n1, h0.kept gr (other orow (by decide)), h1.kept gr (other orow (by decide)), h2.app ow, h3.kept gr (other orow (by decide)), h4.kept gr (other orow (by decide)), e20, e21, fun e => (f22 e).elim, fun e => (f22 (e23 e).1).elim⟩
    · refine wpOp_of rfl rfl ?_
      go_simp
      exact ⟨b0, b1, b2, b3, b4, b5, b6, b7, b8, b9, b10, b11, true, b13, b14, b15, b16, b17, b18, b19, b20, b21, b22, b23, v3, v4, v5, v6, v7, v8, v9, v10, v11, v12, v13, v14, _, v16, v17, v18, v19, v20, v21, v22, v23, v24, v25, r0, r1, r2, r3, r4, r5, rfl, rfl, hB.alloc (by omega) _, hC.below (one_more _ _) zb, hR.below (one_more _ _) hR.lt.2, h0.alloc _, h1.alloc _, h2.alloc _, h3.start hrm, h4.alloc _, e20, e21, e22, e23⟩
    · refine wpOp_of rfl rfl ?_
      go_simp
      exact ⟨b0, b1, b2, b3, b4, b5, b6, b7, b8, b9, b10, b11, b12, true, b14, b15, b16, b17, b18, b19, b20, b21, b22, b23, v3, v4, v5, v6, v7, v8, v9, v10, v11, v12, v13, v14, v15, _, v17, v18, v19, v20, v21, v22, v23, v24, v25, r0, r1, r2, r3, r4, r5, rfl, rfl, hB, hC, hR, h0, h1, h2, h3.addr, h4, e20, e21, e22, e23⟩
    · have q1 : b13 = true := hd 13 (by simp)
      have q2 := h3.1 q1
      subst q1 q2
      have c := hC.c3
      refine wpOp_of rfl rfl ?_
      go_simp
      exact ⟨b0, b1, b2, b3, b4, b5, b6, b7, b8, b9, b10, b11, b12, true, true, b15, b16, b17, b18, b19, b20, b21, b22, b23, v3, v4, v5, v6, v7, v8, v9, v10, v11, v12, v13, v14, v15, _, _, v18, v19, v20, v21, v22, v23, v24, v25, r0, r1, r2, r3, r4, r5, rfl, rfl, hB, hC, hR, h0, h1, h2, h3.load, h4, e20, e21, e22, e23⟩
    · have q1 : b12 = true := hd 12 (by simp)
      have q2 : b14 = true := hd 14 (by simp)
      have q3 : b15 = false := hl
      obtain ⟨g, ev, orow⟩ := h3.2.2.1 q1 q3
      have es := h3.2.1 q2
      subst ev es
      obtain ⟨g', c', W', hrun, ow, gr, _⟩ := copyLot W (w.heap.size + 2) g 0 orow 33 x.gl x.cl x.b.ls ((unhide H).below hB).rl (unhide H).nl hrm
      have gl := World.ownsRow.lt orow g rfl
      have n0 : some w.heap.size ≠ some g := fun e => by injection e; omega
      have n1 : some (w.heap.size + 1) ≠ some g := fun e => by injection e; omega
      have f22 : b22 = true → False := fun e => by have := (e22 e).1; rw [q3] at this; simp at this
      have hBk := hB.grown gr (by omega) (fun k e => by injection e; omega)
      have hCk : Cl W' w.heap.size x := ⟨gr.cell hC.c0 n0, gr.cell hC.c1 n0, gr.cell hC.c2 n0, gr.cell hC.c3 n0, gr.cell hC.c4 n0, gr.cell hC.c5 n0⟩
      refine wpOp_of rfl rfl ?_
      refine wpo_append (.tmp 15) (.tmp 17) 33 rfl rfl rfl hrun ?_
      exact ⟨b0, b1, b2, b3, b4, b5, b6, b7, b8, b9, b10, b11, b12, b13, b14, true, b16, b17, b18, b19, b20, b21, b22, b23, v3, v4, v5, v6, v7, v8, v9, v10, v11, v12, v13, v14, _, v16, _, _, v19, v20, v21, v22, v23, v24, v25, r0, r1, r2, r3, r4, r5, rfl, rfl, hBk, hCk, hR.kept gr n1, h0.kept gr (other orow (by decide)), h1.kept gr (other orow (by decide)), h2.kept gr (other orow (by decide)), h3.app ow, h4.kept gr (other orow (by decide)), e20, e21, fun e => (f22 e).elim, fun e => (f22 (e23 e).1).elim⟩
    · refine wpOp_of rfl rfl ?_
      go_simp
      exact ⟨b0, b1, b2, b3, b4, b5, b6, b7, b8, b9, b10, b11, b12, b13, b14, b15, true, b17, b18, b19, b20, b21, b22, b23, v3, v4, v5, v6, v7, v8, v9, v10, v11, v12, v13, v14, v15, v16, v17, v18, _, v20, v21, v22, v23, v24, v25, r0, r1, r2, r3, r4, r5, rfl, rfl, hB.alloc (by omega) _, hC.below (one_more _ _) zb, hR.below (one_more _ _) hR.lt.2, h0.alloc _, h1.alloc _, h2.alloc _, h3.alloc _, h4.start hrm, e20, e21, e22, e23⟩
    · refine wpOp_of rfl rfl ?_
      go_simp
      exact ⟨b0, b1, b2, b3, b4, b5, b6, b7, b8, b9, b10, b11, b12, b13, b14, b15, b16, true, b18, b19, b20, b21, b22, b23, v3, v4, v5, v6, v7, v8, v9, v10, v11, v12, v13, v14, v15, v16, v17, v18, v19, _, v21, v22, v23, v24, v25, r0, r1, r2, r3, r4, r5, rfl, rfl, hB, hC, hR, h0, h1, h2, h3, h4.addr, e20, e21, e22, e23⟩
    · have q1 : b17 = true := hd 17 (by simp)
      have q2 := h4.1 q1
      subst q1 q2
      have c := hC.c4
      refine wpOp_of rfl rfl ?_
      go_simp
      exact ⟨b0, b1, b2, b3, b4, b5, b6, b7, b8, b9, b10, b11, b12, b13, b14, b15, b16, true, true, b19, b20, b21, b22, b23, v3, v4, v5, v6, v7, v8, v9, v10, v11, v12, v13, v14, v15, v16, v17, v18, v19, _, _, v22, v23, v24, v25, r0, r1, r2, r3, r4, r5, rfl, rfl, hB, hC, hR, h0, h1, h2, h3, h4.load, e20, e21, e22, e23⟩
    · have q1 : b16 = true := hd 16 (by simp)
      have q2 : b18 = true := hd 18 (by simp)
      have q3 : b19 = false := hl
      obtain ⟨g, ev, orow⟩ := h4.2.2.1 q1 q3
      have es := h4.2.1 q2
      subst ev es
      obtain ⟨g', c', W', hrun, ow, gr, _⟩ := copyTrade W (w.heap.size + 2) g 0 orow 34 x.gt x.ct x.b.ts ((unhide H).below hB).rt (unhide H).nt hrm
      have gl := World.ownsRow.lt orow g rfl
      have n0 : some w.heap.size ≠ some g := fun e => by injection e; omega
      have n1 : some (w.heap.size + 1) ≠ some g := fun e => by injection e; omega
      have f22 : b22 = true → False := fun e => by have := (e22 e).1; rw [q3] at this; simp at this
      have hBk := hB.grown gr (by omega) (fun k e => by injection e; omega)
      have hCk : Cl W' w.heap.size x := ⟨gr.cell hC.c0 n0, gr.cell hC.c1 n0, gr.cell hC.c2 n0, gr.cell hC.c3 n0, gr.cell hC.c4 n0, gr.cell hC.c5 n0⟩
      refine wpOp_of rfl rfl ?_
      refine wpo_append (.tmp 19) (.tmp 21) 34 rfl rfl rfl hrun ?_
      exact ⟨b0, b1, b2, b3, b4, b5, b6, b7, b8, b9, b10, b11, b12, b13, b14, b15, b16, b17, b18, true, b20, b21, b22, b23, v3, v4, v5, v6, v7, v8, v9, v10, v11, v12, v13, v14, v15, v16, v17, v18, _, v20, _, _, v23, v24, v25, r0, r1, r2, r3, r4, r5, rfl, rfl, hBk, hCk, hR.kept gr n1, h0.kept gr (other orow (by decide)), h1.kept gr (other orow (by decide)), h2.kept gr (other orow (by decide)), h3.kept gr (other orow (by decide)), h4.app ow, e20, e21, fun e => (f22 e).elim, fun e => (f22 (e23 e).1).elim⟩
    · refine wpOp_of rfl rfl ?_
      go_simp
      exact ⟨b0, b1, b2, b3, b4, b5, b6, b7, b8, b9, b10, b11, b12, b13, b14, b15, b16, b17, b18, b19, true, b21, b22, b23, v3, v4, v5, v6, v7, v8, v9, v10, v11, v12, v13, v14, v15, v16, v17, v18, v19, v20, v21, v22, _, v24, v25, r0, r1, r2, r3, r4, r5, rfl, rfl, hB, hC, hR, h0, h1, h2, h3, h4, fun _ => rfl, e21, e22, e23⟩
    · have q1 : b20 = true := hd 20 (by simp)
      have q2 := e20 q1
      subst q1 q2
      have c := hC.c5
      refine wpOp_of rfl rfl ?_
      go_simp
      exact ⟨b0, b1, b2, b3, b4, b5, b6, b7, b8, b9, b10, b11, b12, b13, b14, b15, b16, b17, b18, b19, true, true, b22, b23, v3, v4, v5, v6, v7, v8, v9, v10, v11, v12, v13, v14, v15, v16, v17, v18, v19, v20, v21, v22, _, _, v25, r0, r1, r2, r3, r4, r5, rfl, rfl, hB, hC, hR, h0, h1, h2, h3, h4, e20, fun _ => rfl, e22, e23⟩
    · have q3 : b3 = true := hd 3 (by simp)
      have q7 : b7 = true := hd 7 (by simp)
      have q11 : b11 = true := hd 11 (by simp)
      have q15 : b15 = true := hd 15 (by simp)
      have q19 : b19 = true := hd 19 (by simp)
      have q21 : b21 = true := hd 21 (by simp)
      have q22 : b22 = false := hl
      have ev := e21 q21
      subst ev
      obtain ⟨g0, c0, z0, _⟩ := h0.2.2.2 q3
      obtain ⟨g1, c1, z1, _⟩ := h1.2.2.2 q7
      obtain ⟨g2, c2, z2, _⟩ := h2.2.2.2 q11
      obtain ⟨g3, c3, z3, _⟩ := h3.2.2.2 q15
      obtain ⟨g4, c4, z4, _⟩ := h4.2.2.2 q19
      subst z0 z1 z2 z3 z4
      have f23 : b23 = true → False := fun e => by have := (e23 e).1; rw [q22] at this; cases this
      refine wpOp_of rfl rfl ?_
      have Q3 := hide q3
      have Q7 := hide q7
      have Q11 := hide q11
      have Q15 := hide q15
      have Q19 := hide q19
      clear q3 q7 q11 q15 q19 q21 q22 hl hd
      go_simp
      exact ⟨b0, b1, b2, b3, b4, b5, b6, b7, b8, b9, b10, b11, b12, b13, b14, b15, b16, b17, b18, b19, b20, b21, true, b23, v3, v4, v5, _, v7, v8, v9, _, v11, v12, v13, _, v15, v16, v17, _, v19, v20, v21, _, v23, _, _, r0, r1, r2, r3, r4, r5, rfl, rfl, hB, hC, hR, h0, h1, h2, h3, h4, e20, fun _ => rfl, fun _ => ⟨⟨unhide Q3, unhide Q7, unhide Q11, unhide Q15, unhide Q19⟩, rfl⟩, fun e => (f23 e).elim⟩
    · have q22 : b22 = true := hd 22 (by simp)
      obtain ⟨Q, ev⟩ := e22 q22
      subst ev
      obtain ⟨g0, c0, z0, _⟩ := h0.2.2.2 Q.1
      obtain ⟨g1, c1, z1, _⟩ := h1.2.2.2 Q.2.1
      obtain ⟨g2, c2, z2, _⟩ := h2.2.2.2 Q.2.2.1
      obtain ⟨g3, c3, z3, _⟩ := h3.2.2.2 Q.2.2.2.1
      obtain ⟨g4, c4, z4, _⟩ := h4.2.2.2 Q.2.2.2.2
      subst z0 z1 z2 z3 z4
      have Q22 := hide q22
      have QQ := hide Q
      obtain ⟨s0, y0⟩ := hR.set0 (.slice (some ⟨g0, 0, none⟩) x.b.ac.length c0)
      obtain ⟨s1, y1⟩ := s0.set1 (.slice (some ⟨g1, 0, none⟩) x.b.ic.length c1)
      obtain ⟨s2, y2⟩ := s1.set2 (.slice (some ⟨g2, 0, none⟩) x.b.bs.length c2)
      obtain ⟨s3, y3⟩ := s2.set3 (.slice (some ⟨g3, 0, none⟩) x.b.ls.length c3)
      obtain ⟨s4, y4⟩ := s3.set4 (.slice (some ⟨g4, 0, none⟩) x.b.ts.length c4)
      obtain ⟨s5, y5⟩ := s4.set5 (.int .i64 x.b.lot)
      have gg := Pairs.grown_trans (Pairs.grown_trans (Pairs.grown_trans (Pairs.grown_trans (Pairs.grown_trans y0 y1) y2) y3) y4) y5
      have k0 := hR.c0
      have k1 := hR.c1
      have k2 := hR.c2
      have k3 := hR.c3
      have k4 := hR.c4
      have k5 := hR.c5
      have f0 := hR.free 0
      have f1 := hR.free 1
      have f2 := hR.free 2
      have f3 := hR.free 3
      have f4 := hR.free 4
      have f5 := hR.free 5
      have n0 : some w.heap.size ≠ some (w.heap.size + 1) := fun e => by injection e; omega
      have hBk := hB.grown gg (by omega) (fun k e => by injection e; omega)
      have hCk : Cl _ w.heap.size x := ⟨gg.cell hC.c0 n0, gg.cell hC.c1 n0, gg.cell hC.c2 n0, gg.cell hC.c3 n0, gg.cell hC.c4 n0, gg.cell hC.c5 n0⟩
      have S5 := hide s5
      have BK := hide hBk
      have CK := hide hCk
      have GG := hide gg
      have OT := hide (show ∀ (e' : TypeId) (size' : Nat), 36 ≠ e' → ∀ (m c : Nat) (ys : List Value), ¬ W.ownsRow (w.heap.size + 2) e' size' (.slice (some ⟨w.heap.size + 1, 0, none⟩) m c) m ys from fun e' size' ne => other hR ne)
      refine wpOp_of rfl rfl ?_
      clear q22 Q s0 s1 s2 s3 s4 s5 y0 y1 y2 y3 y4 y5 gg hBk hCk hl hd
      go_simp
      exact ⟨b0, b1, b2, b3, b4, b5, b6, b7, b8, b9, b10, b11, b12, b13, b14, b15, b16, b17, b18, b19, b20, b21, b22, true, v3, v4, v5, _, v7, v8, v9, _, v11, v12, v13, _, v15, v16, v17, _, v19, v20, v21, _, v23, v24, _, _, _, _, _, _, .int .i64 x.b.lot, rfl, rfl, unhide BK, unhide CK, unhide S5, h0.kept (unhide GG) ((unhide OT) _ _ (by decide)), h1.kept (unhide GG) ((unhide OT) _ _ (by decide)), h2.kept (unhide GG) ((unhide OT) _ _ (by decide)), h3.kept (unhide GG) ((unhide OT) _ _ (by decide)), h4.kept (unhide GG) ((unhide OT) _ _ (by decide)), e20, e21, fun _ => ⟨unhide QQ, rfl⟩, fun _ => ⟨unhide Q22, rfl, rfl, rfl, rfl, rfl, rfl⟩⟩
  · intro listed a W hI hall
    obtain ⟨b0, b1, b2, b3, b4, b5, b6, b7, b8, b9, b10, b11, b12, b13, b14, b15, b16, b17, b18, b19, b20, b21, b22, b23, v3, v4, v5, v6, v7, v8, v9, v10, v11, v12, v13, v14, v15, v16, v17, v18, v19, v20, v21, v22, v23, v24, v25, r0, r1, r2, r3, r4, r5, rfl, rfl, hB, hC, hR, h0, h1, h2, h3, h4, e20, e21, e22, e23⟩ := hI
    have q23 : b23 = true := hall 23 (by simp)
    obtain ⟨q22, rfl, rfl, rfl, rfl, rfl, rfl⟩ := e23 q23
    obtain ⟨⟨q3, q7, q11, q15, q19⟩, rfl⟩ := e22 q22
    obtain ⟨g0, c0, rfl, o0⟩ := h0.2.2.2 q3
    obtain ⟨g1, c1, rfl, o1⟩ := h1.2.2.2 q7
    obtain ⟨g2, c2, rfl, o2⟩ := h2.2.2.2 q11
    obtain ⟨g3, c3, rfl, o3⟩ := h3.2.2.2 q15
    obtain ⟨g4, c4, rfl, o4⟩ := h4.2.2.2 q19
    have k0 := hR.c0
    have k1 := hR.c1
    have k2 := hR.c2
    have k3 := hR.c3
    have k4 := hR.c4
    have k5 := hR.c5
    have OO := hide (show Ow W w.heap.size ⟨g0, c0, g1, c1, g2, c2, g3, c3, g4, c4, x.b⟩ from Ow.rebase (base := w.heap.size + 2) ⟨o0, o1, o2, o3, o4⟩ (by omega))
    have BB := hide hB
    clear h0 h1 h2 h3 h4 e20 e21 e22 e23 q3 q7 q11 q15 q19 q22 q23 hall o0 o1 o2 o3 o4 hB hC hR
    go_wp2
    refine bodyPost_ret (v := .agg #[.slice (some ⟨g0, 0, none⟩) x.b.ac.length c0, .slice (some ⟨g1, 0, none⟩) x.b.ic.length c1, .slice (some ⟨g2, 0, none⟩) x.b.bs.length c2, .slice (some ⟨g3, 0, none⟩) x.b.ls.length c3, .slice (some ⟨g4, 0, none⟩) x.b.ts.length c4, .int .i64 x.b.lot]) (by simp [results, Tryz.results69, go_sem, k0, k1, k2, k3, k4, k5]) rfl ⟨⟨g0, c0, g1, c1, g2, c2, g3, c3, g4, c4, x.b⟩, rfl, rfl, unhide OO, unhide BB⟩
end Go.Proofs.YteccbaohfmhnfaaGreat.ICopied
namespace Go.Proofs.YteccbaohfmhnfaaGreat.ICmdB
open Go.ChangeShapes Go.WideShapes Go.ChangeAt Go.RowKit BMem Bks ILists BHelp Ans ICopied
open IBalsFit (one_more)
open Lots (Says says_of NoOk)
/-- A variable that holds some books, whatever they are. -/
def AnyBox (w : World) (base g : Nat) : Prop := ∃ (a0 a1 a2 a3 a4 : Option Addr) (n0 n1 n2 n3 n4 k0 k1 k2 k3 k4 : Nat) (l : Int), Box w base g (.slice a0 n0 k0) (.slice a1 n1 k1) (.slice a2 n2 k2) (.slice a3 n3 k3) (.slice a4 n4 k4) (.int .i64 l)
/-- The variable of x. -/
def Var (w : World) (base g : Nat) (x : Bx) : Prop := Box w base g (.slice (some ⟨x.ga, 0, none⟩) x.b.ac.length x.ca) (.slice (some ⟨x.gi, 0, none⟩) x.b.ic.length x.ci) (.slice (some ⟨x.gb, 0, none⟩) x.b.bs.length x.cb) (.slice (some ⟨x.gl, 0, none⟩) x.b.ls.length x.cl) (.slice (some ⟨x.gt, 0, none⟩) x.b.ts.length x.ct) (.int .i64 x.b.lot)
theorem Var.any {w : World} {base g : Nat} {x : Bx} (h : Var w base g x) : AnyBox w base g := ⟨_, _, _, _, _, _, _, _, _, _, _, _, _, _, _, _, h⟩
/-- What a command's own function does to the variable that it works on. -/
def Does (P : Bk → Int → Int → Prop) (base g : Nat) (u : World) (e : Ending) (u' : World) : Prop :=
  ∃ (b' : Bk) (t c : Int), P b' t c ∧ e = .returned (.tuple #[.int .i64 t, .int .i64 c]) ∧ ((c = 0 ∧ ∃ z, z.b = b' ∧ Var u' base g z ∧ Ow u' (base + 4) z) ∨ (c ≠ 0 ∧ AnyBox u' base g)) ∧ u.grownBy u' (some g)
/-- What the frame answers. -/
def AnsC (told : Prop) (b : Bk) (P : Bk → Int → Int → Prop) (w : World) (e : Ending) (w' : World) : Prop :=
  (¬ told ∧ e = .returned (.tuple #[.agg #[.slice none 0 0, .slice none 0 0, .slice none 0 0, .slice none 0 0, .slice none 0 0, .int .i64 0], .int .i64 0, .int .i64 1]) ∧ Below w.heap.size w w') ∨
  (told ∧ ∃ (b' : Bk) (t c : Int) (z : Bx), P b' t c ∧ ((c = 0 ∧ z.b = b' ∧ e = .returned (.tuple #[.agg #[.slice (some ⟨z.ga, 0, none⟩) z.b.ac.length z.ca, .slice (some ⟨z.gi, 0, none⟩) z.b.ic.length z.ci, .slice (some ⟨z.gb, 0, none⟩) z.b.bs.length z.cb, .slice (some ⟨z.gl, 0, none⟩) z.b.ls.length z.cl, .slice (some ⟨z.gt, 0, none⟩) z.b.ts.length z.ct, .int .i64 z.b.lot], .int .i64 t, .int .i64 c])) ∨ (c ≠ 0 ∧ z.b = b ∧ e = .returned (.tuple #[.agg #[.slice (some ⟨z.ga, 0, none⟩) z.b.ac.length z.ca, .slice (some ⟨z.gi, 0, none⟩) z.b.ic.length z.ci, .slice (some ⟨z.gb, 0, none⟩) z.b.bs.length z.cb, .slice (some ⟨z.gl, 0, none⟩) z.b.ls.length z.cl, .slice (some ⟨z.gt, 0, none⟩) z.b.ts.length z.ct, .int .i64 z.b.lot], .int .i64 0, .int .i64 c]))) ∧ Ow w' w.heap.size z ∧ Below w.heap.size w w')
/-- Memory from B on stays as it is. -/
def Kept (B : Nat) (w w' : World) : Prop := w.heap.size ≤ w'.heap.size ∧ ∀ j, B ≤ j → j < w.heap.size → w'.heap[j]? = w.heap[j]?
theorem Kept.of {B : Nat} {w w' : World} (h : Below w.heap.size w w') : Kept B w w' := ⟨h.size, fun j _ hj => h.block j hj⟩
theorem Kept.drew {B : Nat} {w w' : World} (h : Kept B w w') : Kept B w w'.drew := ⟨h.1, h.2⟩
theorem Kept.trans {B : Nat} {u v w : World} (h : Kept B u v) (k : Kept B v w) : Kept B u w := ⟨Nat.le_trans h.1 k.1, fun j hj hl => (k.2 j hj (Nat.lt_of_lt_of_le hl h.1)).trans (h.2 j hj hl)⟩
theorem Kept.set {B : Nat} {w w' : World} (h : Kept B w w') {g : Nat} (hg : g < B) (j : Nat) (u : Value) : Kept B w (w'.setCell ⟨g, j, none⟩ u) :=
  ⟨by simpa [World.setCell] using h.1, fun k hk hl => (Below.heap_setCell _ _ _ _ (by show k ≠ g; omega)).trans (h.2 k hk hl)⟩
theorem Kept.six {B : Nat} {w w' : World} (h : Kept B w w') {g : Nat} (hg : g < B) (u0 u1 u2 u3 u4 u5 : Value) : Kept B w ((((((w'.setCell ⟨g, 0, none⟩ u0).setCell ⟨g, 1, none⟩ u1).setCell ⟨g, 2, none⟩ u2).setCell ⟨g, 3, none⟩ u3).setCell ⟨g, 4, none⟩ u4).setCell ⟨g, 5, none⟩ u5) :=
  (((((h.set hg 0 u0).set hg 1 u1).set hg 2 u2).set hg 3 u3).set hg 4 u4).set hg 5 u5
set_option maxRecDepth 100000 in
theorem back_no (p8 p3 p6 p7 : Addr) (u : FrameMode) (w : World) (hc : w.cell? p8 = some (.int .i64 0)) :
    CallsD Tryz.prog 70 #[.pointer (some p8), .pointer (some p3), .pointer (some p6), .pointer (some p7)] u w fun e u' w' => u' = u ∧ (e = .returned (.tuple #[]) ∧ w' = w) := by
  go_enter_d Tryz.func70, Tryz.ntmps70
  go_wp2
  go_end0
  exact ⟨rfl, rfl⟩
set_option maxRecDepth 100000 in
set_option maxHeartbeats 2000000 in
theorem back_yes (w0 : World) (x : Bx) (c t : Int) (u : FrameMode) (w : World) (hne : c ≠ 0) (h : Rd w x) (hb : Cl w w0.heap.size x) (hl : w0.heap.size + 1 + 1 + 1 < w.heap.size) (hr : AnyBox w w0.heap.size (w0.heap.size + 1)) (hc : w.cell? ⟨w0.heap.size + 1 + 1 + 1, 0, none⟩ = some (.int .i64 c)) (ht : w.cell? ⟨w0.heap.size + 1 + 1, 0, none⟩ = some (.int .i64 t)) (hf : w.frozen? ⟨w0.heap.size + 1 + 1, 0, none⟩ = false) :
    CallsD Tryz.prog 70 #[.pointer (some ⟨w0.heap.size + 1 + 1 + 1, 0, none⟩), .pointer (some ⟨w0.heap.size, 0, none⟩), .pointer (some ⟨w0.heap.size + 1, 0, none⟩), .pointer (some ⟨w0.heap.size + 1 + 1, 0, none⟩)] u w fun e u' w' => u' = u ∧ (e = .returned (.tuple #[]) ∧ ∃ z : Bx, z.b = x.b ∧ Var w' w0.heap.size (w0.heap.size + 1) z ∧ Ow w' (w0.heap.size + 4) z ∧ w'.cell? ⟨w0.heap.size + 1 + 1 + 1, 0, none⟩ = some (.int .i64 c) ∧ w'.cell? ⟨w0.heap.size + 1 + 1, 0, none⟩ = some (.int .i64 0) ∧ Below w0.heap.size w w' ∧ Kept (w0.heap.size + 4) w w') := by
  have hq : (c != 0) = true := by simp [hne]
  have H := hide h
  have R := hide hr
  obtain ⟨c0, c1, c2, c3, c4, c5⟩ := hb
  clear h hr hne
  go_enter_d Tryz.func70, Tryz.ntmps70
  go_wp2_with fail
  refine (iCopied _ x (unhide H)).mono ?_
  rintro e w1 ⟨z, hz, rfl, oz, bb⟩
  have HZ := hide hz
  have OZ := hide oz
  have LZ := hide (ow_lo oz)
  have B1 := hide bb
  have e3 : w1.cell? ⟨w0.heap.size + 1 + 1 + 1, 0, none⟩ = some (.int .i64 c) := (bb.cell (p := ⟨w0.heap.size + 1 + 1 + 1, 0, none⟩) hl).trans hc
  have e2 : w1.cell? ⟨w0.heap.size + 1 + 1, 0, none⟩ = some (.int .i64 t) := (bb.cell (p := ⟨w0.heap.size + 1 + 1, 0, none⟩) (by simp; omega)).trans ht
  have e2f : w1.frozen? ⟨w0.heap.size + 1 + 1, 0, none⟩ = false := (bb.frozen (p := ⟨w0.heap.size + 1 + 1, 0, none⟩) (by simp; omega)).trans hf
  obtain ⟨a0, a1, a2, a3, a4, n0, n1, n2, n3, n4, k0, k1, k2, k3, k4, l, bx⟩ := unhide R
  have bx1 := bx.below bb (by omega)
  have BX := hide bx1
  have r0 := bx1.c0
  have r1 := bx1.c1
  have r2 := bx1.c2
  have r3 := bx1.c3
  have r4 := bx1.c4
  have r5 := bx1.c5
  have f0 := bx1.free 0
  have f1 := bx1.free 1
  have f2 := bx1.free 2
  have f3 := bx1.free 3
  have f4 := bx1.free 4
  have f5 := bx1.free 5
  have hs := bb.size
  clear bb oz hz bx bx1 c0 c1 c2 c3 c4 c5 hc ht hf R
  go_wp2
  go_end0
  refine ⟨rfl, z, unhide HZ, ?_, ?_, ?_, ?_, ?_, ?_⟩
  · exact row_set (box_six (unhide BX) _ _ _ _ _ _).1 (by omega) 0 _
  · exact (ow_set (ow_six (unhide OZ) (off_lo (unhide LZ) (by omega)) _ _ _ _ _ _) (off_lo (unhide LZ) (by omega)) 0 _).rebase (by omega)
  · simp [go_sem, e3]
  · simp [go_sem, e2]
  · exact (six ((unhide B1).mono (by omega)) (by omega) _ _ _ _ _ _).setCell (p := ⟨w0.heap.size + 1 + 1, 0, none⟩) (by simp; omega) _
  · exact ((Kept.of (unhide B1)).six (by omega) _ _ _ _ _ _).set (by omega) 0 _
theorem lo_mono {x : Bx} {N M : Nat} (h : Lo x N) (hm : M ≤ N) : Lo x M := by
  unfold Lo at *
  omega
/-- The frame's own variables: the books that were handed in, what is told and the code. -/
structure CW (w W : World) (x : Bx) (t c : Int) : Prop where
  r : Rd W x
  cl : Cl W w.heap.size x
  b : Below w.heap.size w W
  s : w.heap.size + 1 + 1 + 1 < W.heap.size
  t : W.cell? ⟨w.heap.size + 1 + 1, 0, none⟩ = some (.int .i64 t)
  tf : W.frozen? ⟨w.heap.size + 1 + 1, 0, none⟩ = false
  c : W.cell? ⟨w.heap.size + 1 + 1 + 1, 0, none⟩ = some (.int .i64 c)
  cf : W.frozen? ⟨w.heap.size + 1 + 1 + 1, 0, none⟩ = false
theorem free_new (w : World) (v : Value) (e : TypeId) {g : Nat} (hg : g = w.heap.size) : (w.alloc (.cells #[v] e)).frozen? ⟨g, 0, none⟩ = false := by
  subst hg
  exact World.ownsRow.frozenAt (base := 0) (e := e) (size := 1) (n := 1) (cap := 1) (xs := [v]) ⟨rfl, .inr ⟨w.heap.size, 1, #[v], rfl, Nat.zero_le _, heap_alloc_new w _, Nat.le_refl _, by unfold maxLen; omega, rfl, rfl⟩⟩ 0
theorem cell_new (w : World) (v : Value) (e : TypeId) {g : Nat} (hg : g = w.heap.size) : (w.alloc (.cells #[v] e)).cell? ⟨g, 0, none⟩ = some v := by
  subst hg
  simp
theorem CW.step {w W W' : World} {x : Bx} {t c : Int} (h : CW w W x t c) (k : Below W.heap.size W W') : CW w W' x t c := by
  have s := h.s
  exact ⟨h.r.below k, h.cl.below k (by omega), h.b.trans (k.mono h.b.size), Nat.lt_of_lt_of_le h.s k.size, (k.cell (p := ⟨w.heap.size + 1 + 1, 0, none⟩) (by simp; omega)).trans h.t, (k.frozen (p := ⟨w.heap.size + 1 + 1, 0, none⟩) (by simp; omega)).trans h.tf, (k.cell (p := ⟨w.heap.size + 1 + 1 + 1, 0, none⟩) h.s).trans h.c, (k.frozen (p := ⟨w.heap.size + 1 + 1 + 1, 0, none⟩) h.s).trans h.cf⟩
theorem CW.grown {w W W' : World} {x : Bx} {t c : Int} (H : Rd w x) (h : CW w W x t c) (k : W.grownBy W' (some (w.heap.size + 1))) : CW w W' x t c := by
  have s := h.s
  have b : Below w.heap.size w W' := h.b.grown k h.b.size (fun j e => by injection e; omega)
  have n0 : some w.heap.size ≠ some (w.heap.size + 1) := fun e => by injection e; omega
  have n2 : some (w.heap.size + 1 + 1) ≠ some (w.heap.size + 1) := fun e => by injection e; omega
  have n3 : some (w.heap.size + 1 + 1 + 1) ≠ some (w.heap.size + 1) := fun e => by injection e; omega
  exact ⟨H.below b, ⟨k.cell h.cl.c0 n0, k.cell h.cl.c1 n0, k.cell h.cl.c2 n0, k.cell h.cl.c3 n0, k.cell h.cl.c4 n0, k.cell h.cl.c5 n0⟩, b, Nat.lt_of_lt_of_le h.s k.size, k.cell h.t n2, (World.frozen?_of_block (a := ⟨w.heap.size + 1 + 1, 0, none⟩) (k.block (w.heap.size + 1 + 1) (by omega) n2)).trans h.tf, k.cell h.c n3, (World.frozen?_of_block (a := ⟨w.heap.size + 1 + 1 + 1, 0, none⟩) (k.block (w.heap.size + 1 + 1 + 1) (by omega) n3)).trans h.cf⟩
theorem CW.start {w : World} {x : Bx} (h : Rd w x) : CW w ((((w.alloc (.cells #[.slice (some ⟨x.ga, 0, none⟩) x.b.ac.length x.ca, .slice (some ⟨x.gi, 0, none⟩) x.b.ic.length x.ci, .slice (some ⟨x.gb, 0, none⟩) x.b.bs.length x.cb, .slice (some ⟨x.gl, 0, none⟩) x.b.ls.length x.cl, .slice (some ⟨x.gt, 0, none⟩) x.b.ts.length x.ct, .int .i64 x.b.lot] 36)).alloc (.cells #[.slice none 0 0, .slice none 0 0, .slice none 0 0, .slice none 0 0, .slice none 0 0, .int .i64 0] 36)).alloc (.cells #[.int .i64 0] 3)).alloc (.cells #[.int .i64 0] 3)) x 0 0 := by
  have s := SR.start h
  have b : Below ((w.alloc (.cells #[.slice (some ⟨x.ga, 0, none⟩) x.b.ac.length x.ca, .slice (some ⟨x.gi, 0, none⟩) x.b.ic.length x.ci, .slice (some ⟨x.gb, 0, none⟩) x.b.bs.length x.cb, .slice (some ⟨x.gl, 0, none⟩) x.b.ls.length x.cl, .slice (some ⟨x.gt, 0, none⟩) x.b.ts.length x.ct, .int .i64 x.b.lot] 36)).alloc (.cells #[.slice none 0 0, .slice none 0 0, .slice none 0 0, .slice none 0 0, .slice none 0 0, .int .i64 0] 36)).heap.size ((w.alloc (.cells #[.slice (some ⟨x.ga, 0, none⟩) x.b.ac.length x.ca, .slice (some ⟨x.gi, 0, none⟩) x.b.ic.length x.ci, .slice (some ⟨x.gb, 0, none⟩) x.b.bs.length x.cb, .slice (some ⟨x.gl, 0, none⟩) x.b.ls.length x.cl, .slice (some ⟨x.gt, 0, none⟩) x.b.ts.length x.ct, .int .i64 x.b.lot] 36)).alloc (.cells #[.slice none 0 0, .slice none 0 0, .slice none 0 0, .slice none 0 0, .slice none 0 0, .int .i64 0] 36)) ((((w.alloc (.cells #[.slice (some ⟨x.ga, 0, none⟩) x.b.ac.length x.ca, .slice (some ⟨x.gi, 0, none⟩) x.b.ic.length x.ci, .slice (some ⟨x.gb, 0, none⟩) x.b.bs.length x.cb, .slice (some ⟨x.gl, 0, none⟩) x.b.ls.length x.cl, .slice (some ⟨x.gt, 0, none⟩) x.b.ts.length x.ct, .int .i64 x.b.lot] 36)).alloc (.cells #[.slice none 0 0, .slice none 0 0, .slice none 0 0, .slice none 0 0, .slice none 0 0, .int .i64 0] 36)).alloc (.cells #[.int .i64 0] 3)).alloc (.cells #[.int .i64 0] 3)) := ((Below.refl _ _).alloc (Nat.le_refl _) _).alloc (by simp) _
  have s2 := s.step b
  exact ⟨s2.r, s2.c, s2.b, by simp, ((one_more _ _).cell (p := ⟨w.heap.size + 1 + 1, 0, none⟩) (by simp)).trans (cell_new _ _ _ (by simp)), ((one_more _ _).frozen (p := ⟨w.heap.size + 1 + 1, 0, none⟩) (by simp)).trans (free_new _ _ _ (by simp)), cell_new _ _ _ (by simp), free_new _ _ _ (by simp)⟩
theorem var_start (w : World) (x : Bx) : Box ((((w.alloc (.cells #[.slice (some ⟨x.ga, 0, none⟩) x.b.ac.length x.ca, .slice (some ⟨x.gi, 0, none⟩) x.b.ic.length x.ci, .slice (some ⟨x.gb, 0, none⟩) x.b.bs.length x.cb, .slice (some ⟨x.gl, 0, none⟩) x.b.ls.length x.cl, .slice (some ⟨x.gt, 0, none⟩) x.b.ts.length x.ct, .int .i64 x.b.lot] 36)).alloc (.cells #[.slice none 0 0, .slice none 0 0, .slice none 0 0, .slice none 0 0, .slice none 0 0, .int .i64 0] 36)).alloc (.cells #[.int .i64 0] 3)).alloc (.cells #[.int .i64 0] 3)) w.heap.size (w.heap.size + 1) (.slice none 0 0) (.slice none 0 0) (.slice none 0 0) (.slice none 0 0) (.slice none 0 0) (.int .i64 0) :=
  World.ownsRow.alloc (World.ownsRow.alloc (Box.made (w := w.alloc (.cells #[.slice (some ⟨x.ga, 0, none⟩) x.b.ac.length x.ca, .slice (some ⟨x.gi, 0, none⟩) x.b.ic.length x.ci, .slice (some ⟨x.gb, 0, none⟩) x.b.bs.length x.cb, .slice (some ⟨x.gl, 0, none⟩) x.b.ls.length x.cl, .slice (some ⟨x.gt, 0, none⟩) x.b.ts.length x.ct, .int .i64 x.b.lot] 36)) (base := w.heap.size) (g := w.heap.size + 1) _ _ _ _ _ _ (by simp) (by simp)) _) _
theorem cell_off (w : World) {g g' : Nat} (j j' : Nat) (u : Value) (ne : g ≠ g') : (w.setCell ⟨g, j, none⟩ u).cell? ⟨g', j', none⟩ = w.cell? ⟨g', j', none⟩ :=
  World.cell?_setCell_other _ _ _ _ (fun e => ne (congrArg Addr.block e))
theorem CW.told {w W : World} {x : Bx} {t c : Int} (H : Rd w x) (h : CW w W x t c) (t' c' : Int) : CW w ((W.setCell ⟨w.heap.size + 1 + 1, 0, none⟩ (.int .i64 t')).setCell ⟨w.heap.size + 1 + 1 + 1, 0, none⟩ (.int .i64 c')) x t' c' := by
  have b := (h.b.setCell (p := ⟨w.heap.size + 1 + 1, 0, none⟩) (by simp; omega) (.int .i64 t')).setCell (p := ⟨w.heap.size + 1 + 1 + 1, 0, none⟩) (by simp; omega) (.int .i64 c')
  have s := h.s
  refine ⟨H.below b, ⟨?_, ?_, ?_, ?_, ?_, ?_⟩, b, by simpa using s, ?_, ?_, ?_, ?_⟩
  · rw [cell_off _ _ _ _ (by omega), cell_off _ _ _ _ (by omega)]; exact h.cl.c0
  · rw [cell_off _ _ _ _ (by omega), cell_off _ _ _ _ (by omega)]; exact h.cl.c1
  · rw [cell_off _ _ _ _ (by omega), cell_off _ _ _ _ (by omega)]; exact h.cl.c2
  · rw [cell_off _ _ _ _ (by omega), cell_off _ _ _ _ (by omega)]; exact h.cl.c3
  · rw [cell_off _ _ _ _ (by omega), cell_off _ _ _ _ (by omega)]; exact h.cl.c4
  · rw [cell_off _ _ _ _ (by omega), cell_off _ _ _ _ (by omega)]; exact h.cl.c5
  · rw [cell_off _ _ _ _ (by omega)]; exact World.cell?_setCell_same _ _ _ h.t
  · rw [World.frozen?_setCell, World.frozen?_setCell]; exact h.tf
  · exact World.cell?_setCell_same _ _ _ ((cell_off W (g := w.heap.size + 1 + 1) (g' := w.heap.size + 1 + 1 + 1) 0 0 _ (by omega)).trans h.c)
  · rw [World.frozen?_setCell, World.frozen?_setCell]; exact h.cf
theorem CW.drew {w W : World} {x : Bx} {t c : Int} (H : Rd w x) (h : CW w W x t c) : CW w W.drew x t c :=
  ⟨H.below h.b.drew, ⟨h.cl.c0, h.cl.c1, h.cl.c2, h.cl.c3, h.cl.c4, h.cl.c5⟩, h.b.drew, h.s, h.t, h.tf, h.c, h.cf⟩
theorem ow_drew {w : World} {base : Nat} {z : Bx} (h : Ow w base z) : Ow w.drew base z := ⟨h.oa, h.oi, h.ob, h.ol, h.ot⟩
/-- The world at the end of the frame. -/
abbrev fin0 (g : Nat) (W : World) (a b : Value) : World := (W.setCell ⟨g + 1 + 1, 0, none⟩ a).setCell ⟨g + 1 + 1 + 1, 0, none⟩ b
abbrev fin1 (g : Nat) (W : World) (v0 v1 v2 v3 v4 v5 : Value) : World := (((((W.setCell ⟨g + 1, 0, none⟩ v0).setCell ⟨g + 1, 1, none⟩ v1).setCell ⟨g + 1, 2, none⟩ v2).setCell ⟨g + 1, 3, none⟩ v3).setCell ⟨g + 1, 4, none⟩ v4).setCell ⟨g + 1, 5, none⟩ v5
abbrev fin (g : Nat) (W : World) (v0 v1 v2 v3 v4 v5 a b : Value) : World := (fin0 g (fin1 g (fin0 g W a b) v0 v1 v2 v3 v4 v5) a b).drew
theorem box_drew {w : World} {base g : Nat} {v0 v1 v2 v3 v4 v5 : Value} (h : Box w base g v0 v1 v2 v3 v4 v5) : Box w.drew base g v0 v1 v2 v3 v4 v5 := h
theorem box_fin0 {w W : World} {v0 v1 v2 v3 v4 v5 : Value} (X : Box W w.heap.size (w.heap.size + 1) v0 v1 v2 v3 v4 v5) (a b : Value) : Box (fin0 w.heap.size W a b) w.heap.size (w.heap.size + 1) v0 v1 v2 v3 v4 v5 :=
  row_set (row_set X (show w.heap.size + 1 ≠ w.heap.size + 1 + 1 by omega) 0 a) (show w.heap.size + 1 ≠ w.heap.size + 1 + 1 + 1 by omega) 0 b
theorem CW.final {w W : World} {x : Bx} {v0 v1 v2 v3 v4 v5 : Value} {t0 c0 : Int} (H : Rd w x) (h : CW w W x t0 c0) (X : Box W w.heap.size (w.heap.size + 1) v0 v1 v2 v3 v4 v5) (t c : Int) :
    CW w (fin w.heap.size W v0 v1 v2 v3 v4 v5 (.int .i64 t) (.int .i64 c)) x t c ∧ Box (fin w.heap.size W v0 v1 v2 v3 v4 v5 (.int .i64 t) (.int .i64 c)) w.heap.size (w.heap.size + 1) v0 v1 v2 v3 v4 v5 := by
  have b := box_six (box_fin0 X (.int .i64 t) (.int .i64 c)) v0 v1 v2 v3 v4 v5
  exact ⟨(CW.told H (CW.grown H (CW.told H h t c) b.2) t c).drew H, box_drew (box_fin0 b.1 _ _)⟩
theorem ow_final {w W : World} {base : Nat} {z : Bx} (O : Ow W base z) (hb : w.heap.size + 4 ≤ base) (v0 v1 v2 v3 v4 v5 a b : Value) : Ow (fin w.heap.size W v0 v1 v2 v3 v4 v5 a b) w.heap.size z := by
  have L := ow_lo O
  exact ow_drew ((ow_set (ow_set (ow_six (ow_set (ow_set O (off_lo L (by omega)) 0 a) (off_lo L (by omega)) 0 b) (off_lo L (by omega)) v0 v1 v2 v3 v4 v5) (off_lo L (by omega)) 0 a) (off_lo L (by omega)) 0 b).rebase (by omega))
/-- The variable that a command works on, while only memory behind it is made. -/
structure DW (u W : World) (z : Bx) (base g : Nat) : Prop where
  r : Rd W z
  v : Var W base g z
  o : Ow W (base + 4) z
  b : Below u.heap.size u W
theorem DW.start {u : World} {z : Bx} {base g : Nat} (V : Var u base g z) (O : Ow u (base + 4) z) (s : Small z.b) : DW u u z base g := ⟨O.rd s, V, O, Below.refl _ _⟩
theorem DW.step {u W W' : World} {z : Bx} {base g : Nat} (h : DW u W z base g) (k : Below W.heap.size W W') : DW u W' z base g :=
  ⟨h.r.below k, Box.below h.v k (Box.lt h.v).2, h.o.below k (Nat.le_refl _), h.b.trans (k.mono h.b.size)⟩
theorem DW.drew {u W : World} {z : Bx} {base g : Nat} (h : DW u W z base g) : DW u W.drew z base g := h.step (Below.refl _ _).drew
theorem DW.grown {u W : World} {z : Bx} {base g : Nat} (h : DW u W z base g) : u.grownBy W (some g) := ⟨h.b.os, h.b.tape, h.b.output, h.b.size, fun j hj _ => h.b.block j hj⟩
end Go.Proofs.YteccbaohfmhnfaaGreat.ICmdB
namespace Go.Proofs.YteccbaohfmhnfaaGreat.ICmd
open Go.ChangeShapes Go.WideShapes Go.ChangeAt Go.RowKit BMem Bks ILists BHelp Ans ICopied ICmdB
open Lots (Says says_of NoOk)
theorem to_w {P : Program} {fn : Func} {R : Ending → World → Prop} {ex : Exit} {a : Act} {W : World} (Pr : World → Prop) (h : Pr W) (k : ∀ W, Pr W → bodyPostD P fn R ex a W) : bodyPostD P fn R ex a W := k W h
set_option maxRecDepth 100000 in
set_option maxHeartbeats 1000000 in
theorem iCmd (w : World) (x : Bx) (tb : Bool) (told : Prop) (K : Nat) (caps : Array Value) (P : Bk → Int → Int → Prop) (h : Rd w x) (ht : Says tb told)
    (hK : ∀ (args : Array Value) (u : World), (callFunc K args).run Tryz.prog u = .ok (.enter K args) u)
    (hf : Ok x.b → told → ∀ (u : World) (z : Bx), z.b = x.b → Var u w.heap.size (w.heap.size + 1) z → Ow u (w.heap.size + 4) z → Below w.heap.size w u → Calls Tryz.prog K (#[.pointer (some ⟨w.heap.size + 1, 0, none⟩)] ++ caps) u (Does P w.heap.size (w.heap.size + 1) u)) :
    Calls Tryz.prog 32 #[.agg #[.slice (some ⟨x.ga, 0, none⟩) x.b.ac.length x.ca, .slice (some ⟨x.gi, 0, none⟩) x.b.ic.length x.ci, .slice (some ⟨x.gb, 0, none⟩) x.b.bs.length x.cb, .slice (some ⟨x.gl, 0, none⟩) x.b.ls.length x.cl, .slice (some ⟨x.gt, 0, none⟩) x.b.ts.length x.ct, .int .i64 x.b.lot], .bool tb, .func (.func K) #[] caps] w (AnsC (told ∧ Ok x.b) x.b P w) := by
  obtain ⟨b0, h0⟩ := says_of (Ok x.b)
  have H0 := hide h0
  have HT := hide ht
  have HF := hide hf
  have H := hide h
  have hmf : ∀ (fn : Fn) (first cp : Array Value) (w : World), (Instr.makeFunc fn first cp).run Tryz.prog w = .ok (.func fn first cp) w := fun _ _ _ _ => rfl
  have C0 := hide (CW.start h)
  have X0 := hide (var_start w x)
  clear h0 ht hf h
  go_enter_defers Tryz.func32, Tryz.ntmps32
  cases tb
  · have N := hide (show ¬ (told ∧ Ok x.b) from fun hh => (unhide HT).no hh.1)
    go_wp2
    refine ⟨.tuple #[.agg #[.slice none 0 0, .slice none 0 0, .slice none 0 0, .slice none 0 0, .slice none 0 0, .int .i64 0], .int .i64 0, .int .i64 1], by simp [results, Tryz.results32, go_sem], .inl ⟨unhide N, rfl, ?_⟩⟩
    exact ((((Below.refl _ _).alloc (Nat.le_refl _) _).alloc (by simp) _).alloc (by simp; omega) _).alloc (by simp; omega) _
  go_wp2_with fail
  refine (IBooksOk.iBooksOk _ x b0 (unhide C0).r (unhide H0)).mono ?_
  rintro e w1 ⟨rfl, bb⟩
  have C1 := hide ((unhide C0).step bb)
  have X1 := hide ((unhide X0).below bb (by simp))
  clear bb C0 X0
  obtain ⟨c0, c1, c2, c3, c4, c5⟩ := (unhide C1).cl
  have t1 := (unhide C1).t
  have t2 := (unhide C1).tf
  have t3 := (unhide C1).c
  have t4 := (unhide C1).cf
  have r0 := (unhide X1).c0
  have r1 := (unhide X1).c1
  have r2 := (unhide X1).c2
  have r3 := (unhide X1).c3
  have r4 := (unhide X1).c4
  have r5 := (unhide X1).c5
  have f0 := (unhide X1).free 0
  have f1 := (unhide X1).free 1
  have f2 := (unhide X1).free 2
  have f3 := (unhide X1).free 3
  have f4 := (unhide X1).free 4
  have f5 := (unhide X1).free 5
  have B1 := hide (unhide C1).b
  cases b0
  · have N := hide (show ¬ (told ∧ Ok x.b) from fun hh => (unhide H0).no hh.2)
    go_wp2
    refine ⟨.tuple #[.agg #[.slice none 0 0, .slice none 0 0, .slice none 0 0, .slice none 0 0, .slice none 0 0, .int .i64 0], .int .i64 0, .int .i64 1], by simp [results, Tryz.results32, go_sem, r0, r1, r2, r3, r4, r5, t1, t3], .inl ⟨unhide N, rfl, ?_⟩⟩
    exact ((six (unhide B1) (by omega) _ _ _ _ _ _).setCell (p := ⟨w.heap.size + 1 + 1, 0, none⟩) (by simp; omega) _).setCell (p := ⟨w.heap.size + 1 + 1 + 1, 0, none⟩) (by simp; omega) _
  have OK := hide (unhide H0).yes
  have TOLD := hide (unhide HT).yes
  go_wp2_with fail
  refine (iCopied _ x (unhide C1).r).mono ?_
  rintro e w2 ⟨z, hz, rfl, oz, bb⟩
  have C2 := hide ((unhide C1).step bb)
  have X2 := hide ((unhide X1).below bb (by have := (unhide C1).s; omega))
  have LZ := hide (lo_mono (ow_lo oz) (show w.heap.size + 4 ≤ w1.heap.size from (unhide C1).s))
  have OZ := hide (oz.rebase (show w.heap.size + 4 ≤ w1.heap.size from (unhide C1).s))
  have HZ := hide hz
  clear bb oz hz C1 X1 c0 c1 c2 c3 c4 c5 t1 t2 t3 t4 r0 r1 r2 r3 r4 r5 f0 f1 f2 f3 f4 f5 B1
  obtain ⟨c0, c1, c2, c3, c4, c5⟩ := (unhide C2).cl
  have r0 := (unhide X2).c0
  have r1 := (unhide X2).c1
  have r2 := (unhide X2).c2
  have r3 := (unhide X2).c3
  have r4 := (unhide X2).c4
  have r5 := (unhide X2).c5
  have f0 := (unhide X2).free 0
  have f1 := (unhide X2).free 1
  have f2 := (unhide X2).free 2
  have f3 := (unhide X2).free 3
  have f4 := (unhide X2).free 4
  have f5 := (unhide X2).free 5
  go_wp2_with fail
  have bx3 := box_six (unhide X2) (.slice (some ⟨z.ga, 0, none⟩) z.b.ac.length z.ca) (.slice (some ⟨z.gi, 0, none⟩) z.b.ic.length z.ci) (.slice (some ⟨z.gb, 0, none⟩) z.b.bs.length z.cb) (.slice (some ⟨z.gl, 0, none⟩) z.b.ls.length z.cl) (.slice (some ⟨z.gt, 0, none⟩) z.b.ts.length z.ct) (.int .i64 z.b.lot)
  have C3 := hide (CW.grown (unhide H) (unhide C2) bx3.2)
  have O3 := hide (ow_six (unhide OZ) (off_lo (unhide LZ) (g := w.heap.size + 1) (by omega)) (.slice (some ⟨z.ga, 0, none⟩) z.b.ac.length z.ca) (.slice (some ⟨z.gi, 0, none⟩) z.b.ic.length z.ci) (.slice (some ⟨z.gb, 0, none⟩) z.b.bs.length z.cb) (.slice (some ⟨z.gl, 0, none⟩) z.b.ls.length z.cl) (.slice (some ⟨z.gt, 0, none⟩) z.b.ts.length z.ct) (.int .i64 z.b.lot))
  refine ((unhide HF) (unhide OK) (unhide TOLD) _ z (unhide HZ) bx3.1 (unhide O3) (unhide C3).b).mono ?_
  rintro e w4 ⟨b', t, c, hp, rfl, hz4, gr⟩
  have C4 := hide (CW.grown (unhide H) (unhide C3) gr)
  have PP := hide hp
  clear bx3 gr hp c0 c1 c2 c3 c4 c5 r0 r1 r2 r3 r4 r5 f0 f1 f2 f3 f4 f5 X2 C2 C3 O3 OZ LZ HZ
  have t1 := (unhide C4).t
  have t2 := (unhide C4).tf
  have t3 := (unhide C4).c
  have t4 := (unhide C4).cf
  rcases hz4 with ⟨rfl, z4, hz4, v4, o4⟩ | ⟨hc, v4⟩
  · have HZ4 := hide hz4
    clear hz4
    have d0 := v4.c0
    have d1 := v4.c1
    have d2 := v4.c2
    have d3 := v4.c3
    have d4 := v4.c4
    have d5 := v4.c5
    have f0 := v4.free 0
    have f1 := v4.free 1
    have f2 := v4.free 2
    have f3 := v4.free 3
    have f4 := v4.free 4
    have f5 := v4.free 5
    have E := hide (CW.final (unhide H) (unhide C4) v4 t 0)
    have O4 := hide o4
    clear v4 o4
    go_wp2_with fail
    go_region
    go_wp2
    refine to_w (fun W => CW w W x t 0 ∧ Box W w.heap.size (w.heap.size + 1) (.slice (some ⟨z4.ga, 0, none⟩) z4.b.ac.length z4.ca) (.slice (some ⟨z4.gi, 0, none⟩) z4.b.ic.length z4.ci) (.slice (some ⟨z4.gb, 0, none⟩) z4.b.bs.length z4.cb) (.slice (some ⟨z4.gl, 0, none⟩) z4.b.ls.length z4.cl) (.slice (some ⟨z4.gt, 0, none⟩) z4.b.ts.length z4.ct) (.int .i64 z4.b.lot) ∧ Ow W w.heap.size z4) ?_ ?_
    · exact ⟨(unhide E).1, (unhide E).2, ow_final (unhide O4) (Nat.le_refl _) _ _ _ _ _ _ _ _⟩
    rintro W ⟨E1, E2, E3⟩
    refine leaves_cons (f := 70) (args := #[.pointer (some ⟨w.heap.size + 1 + 1 + 1, 0, none⟩), .pointer (some ⟨w.heap.size, 0, none⟩), .pointer (some ⟨w.heap.size + 1, 0, none⟩), .pointer (some ⟨w.heap.size + 1 + 1, 0, none⟩)]) (by simp) (by simp [go_sem]) ?_
    refine (back_no ⟨w.heap.size + 1 + 1 + 1, 0, none⟩ ⟨w.heap.size, 0, none⟩ ⟨w.heap.size + 1, 0, none⟩ ⟨w.heap.size + 1 + 1, 0, none⟩ .returning _ E1.c).mono ?_
    rintro e u' w6 ⟨rfl, rfl, rfl⟩
    have g0 := E2.c0
    have g1 := E2.c1
    have g2 := E2.c2
    have g3 := E2.c3
    have g4 := E2.c4
    have g5 := E2.c5
    have et := E1.t
    have ec := E1.c
    refine ⟨.tuple #[.agg #[.slice (some ⟨z4.ga, 0, none⟩) z4.b.ac.length z4.ca, .slice (some ⟨z4.gi, 0, none⟩) z4.b.ic.length z4.ci, .slice (some ⟨z4.gb, 0, none⟩) z4.b.bs.length z4.cb, .slice (some ⟨z4.gl, 0, none⟩) z4.b.ls.length z4.cl, .slice (some ⟨z4.gt, 0, none⟩) z4.b.ts.length z4.ct, .int .i64 z4.b.lot], .int .i64 t, .int .i64 0], by simp [results, Tryz.results32, go_sem, g0, g1, g2, g3, g4, g5, et, ec], .inr ⟨⟨unhide TOLD, unhide OK⟩, b', t, 0, z4, unhide PP, .inl ⟨rfl, unhide HZ4, rfl⟩, E3, E1.b⟩⟩
  · obtain ⟨a0, a1, a2, a3, a4, n0, n1, n2, n3, n4, k0, k1, k2, k3, k4, l, v4⟩ := v4
    have d0 := v4.c0
    have d1 := v4.c1
    have d2 := v4.c2
    have d3 := v4.c3
    have d4 := v4.c4
    have d5 := v4.c5
    have f0 := v4.free 0
    have f1 := v4.free 1
    have f2 := v4.free 2
    have f3 := v4.free 3
    have f4 := v4.free 4
    have f5 := v4.free 5
    have E := hide (CW.final (unhide H) (unhide C4) v4 t c)
    have HC := hide hc
    clear v4 hc
    go_wp2_with fail
    go_region
    go_wp2
    refine leaves_cons (f := 70) (args := #[.pointer (some ⟨w.heap.size + 1 + 1 + 1, 0, none⟩), .pointer (some ⟨w.heap.size, 0, none⟩), .pointer (some ⟨w.heap.size + 1, 0, none⟩), .pointer (some ⟨w.heap.size + 1 + 1, 0, none⟩)]) (by simp) (by simp [go_sem]) ?_
    refine (back_yes w x c t .returning _ (unhide HC) (unhide E).1.r (unhide E).1.cl (unhide E).1.s ⟨_, _, _, _, _, _, _, _, _, _, _, _, _, _, _, _, (unhide E).2⟩ (unhide E).1.c (unhide E).1.t (unhide E).1.tf).mono ?_
    rintro e u' w6 ⟨rfl, rfl, z6, hz6, vz, oz, ec, et, bb, _⟩
    have g0 := vz.c0
    have g1 := vz.c1
    have g2 := vz.c2
    have g3 := vz.c3
    have g4 := vz.c4
    have g5 := vz.c5
    refine ⟨.tuple #[.agg #[.slice (some ⟨z6.ga, 0, none⟩) z6.b.ac.length z6.ca, .slice (some ⟨z6.gi, 0, none⟩) z6.b.ic.length z6.ci, .slice (some ⟨z6.gb, 0, none⟩) z6.b.bs.length z6.cb, .slice (some ⟨z6.gl, 0, none⟩) z6.b.ls.length z6.cl, .slice (some ⟨z6.gt, 0, none⟩) z6.b.ts.length z6.ct, .int .i64 z6.b.lot], .int .i64 0, .int .i64 c], by simp [results, Tryz.results32, go_sem, g0, g1, g2, g3, g4, g5, ec, et], .inr ⟨⟨unhide TOLD, unhide OK⟩, b', t, c, z6, unhide PP, .inr ⟨unhide HC, hz6, rfl⟩, oz.rebase (by omega), (unhide E).1.b.trans bb⟩⟩
end Go.Proofs.YteccbaohfmhnfaaGreat.ICmd
