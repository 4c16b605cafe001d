/- Texts of one proof, one behind the other: DrawR14, DrawD14. -/
import Derived.Test.YtcajdiopgaoicaaRows
import Derived.Test.YtcajdiopgaoicaaSG1
import Derived.Test.YtcajdiopgaoicaaSG2
import Derived.Test.YtcajdiopgaoicaaSG3
import Derived.Test.YtcajdiopgaoicaaSG4
import Derived.Test.YtcajdiopgaoicaaSG5
import Derived.Test.YtcajdiopgaoicaaSG6
import Derived.Deep.RegionHeld3
import Derived.Deep.DeepCutAuto
import Derived.Deep.CutBlock
set_option linter.unusedVariables false
set_option linter.unusedSimpArgs false
namespace Go.Proofs.Ytcajdiopgaoicaa.DrawR14
open Go.ChangeShapes Go.WideShapes Go.ChangeAt Go.RowKit Draw Draw11 DrawS11 DrawT14
open Fil14 (TF elF flatF)
open DiskH14 (sumZ one_more)
open DkH14 (Dx RdD OwD Bc)
open SOk14 (OkD okN)
open App14 (row_base row_kept kcell grow_grow)
open SLess14 (bc_set1)
open SCom14 (ToldD)
open Okk14 (Rg)
open SAppend14 (appendD)
open SSync14 (syncD)
open SMove14 (moveD)
open SDrop14 (dropD)
theorem row_only {W W' : World} {base c : Nat} {e : TypeId} {m : Nat} {v : Value} {n : Nat} {vs : List Value} (h : W.ownsRow base e m v n vs) (o : Only c W W') (hc : c < base) : W'.ownsRow base e m v n vs := by
  refine ⟨h.1, ?_⟩
  rcases h.2 with h1 | ⟨g, k, cur, h1, h2, h3, h4⟩
  · exact .inl h1
  · exact .inr ⟨g, k, cur, h1, h2, (o.2 g (World.ownsRow.lt h g (by rw [h1]; rfl)).2 (by omega)).trans h3, h4⟩
theorem row_ne {W : World} {b1 b2 : Nat} {e1 e2 : TypeId} {m1 m2 : Nat} {v1 v2 : Value} {n1 n2 : Nat} {x1 x2 : List Value} {g : Nat} (h1 : W.ownsRow b1 e1 m1 v1 n1 x1) (h2 : W.ownsRow b2 e2 m2 v2 n2 x2) (he : e1 ≠ e2) (hg : v1.ownBlock = some g) : v2.ownBlock ≠ some g := fun q => by
  rcases h1.2 with ⟨r, _⟩ | ⟨g1, c1, cur1, r1, _, r3, _⟩
  · rw [r] at hg; cases hg
  rcases h2.2 with ⟨r, _⟩ | ⟨g2, c2, cur2, s1, _, s3, _⟩
  · rw [r] at q; cases q
  rw [r1] at hg
  rw [s1] at q
  have e1 : g1 = g := by simpa [Value.ownBlock] using hg
  have e2 : g2 = g := by simpa [Value.ownBlock] using q
  subst e1
  subst e2
  rw [r3] at s3
  injection s3 with s3
  injection s3 with _ t _
  exact he t
/-- A world in which a right disk is being drawn. -/
structure Dw (w0 w W : World) (c bd : Nat) (a : Option Addr) (len cap : Nat) (x : Dx) : Prop where
  m : Moved w0 w W c a len cap
  bx : Bc W w.heap.size bd (.int .i64 x.room) (.slice x.a x.ps.length x.c)
  ow : OwD W w.heap.size x
  ok : OkD x.room x.ps
  rb : Bc W w.heap.size w.heap.size (.int .i64 0) (.slice none 0 0)
  ne : bd ≠ w.heap.size
section
variable {w0 w W W' : World} {c bd : Nat} {a : Option Addr} {len cap : Nat} {x : Dx}
theorem Dw.below (h : Dw w0 w W c bd a len cap x) (k : Below W.heap.size W W') : Dw w0 w W' c bd a len cap x :=
  ⟨moved_below h.m k, h.bx.below k h.bx.lt.2, h.ow.step k, h.ok, h.rb.below k h.rb.lt.2, h.ne⟩
theorem Dw.moved (h : Dw w0 w W c bd a len cap x) (k : Moved w0 W W' c a len cap) (hc : c < w.heap.size) : Dw w0 w W' c bd a len cap x :=
  ⟨h.m.trans k, row_only h.bx k.2 hc, row_only h.ow k.2 hc, h.ok, row_only h.rb k.2 hc, h.ne⟩
theorem Dw.rd (h : Dw w0 w W c bd a len cap x) : RdD W x := h.ow.rd (by have := h.ok.2.1; omega)
theorem Dw.sum (h : Dw w0 w W c bd a len cap x) : sumZ x.ps ≤ 1048576 := by have := h.ok.1; have := h.ok.2.2.1; omega
theorem Dw.drew (h : Dw w0 w W c bd a len cap x) : Dw w0 w W.drew c bd a len cap x := h.below (Below.refl _ _).drew
/-- A store into a block that is none of these. -/
theorem Dw.aside {g : Nat} (h : Dw w0 w W c bd a len cap x) (k : W.grownBy W' (some g)) (hc : c < w.heap.size) (hs : w0.heap.size ≤ w.heap.size) (h0 : w.heap.size < g) (h1 : bd ≠ g) (h2 : (Value.slice x.a x.ps.length x.c).ownBlock ≠ some g) : Dw w0 w W' c bd a len cap x :=
  ⟨moved_grown h.m k hc (by omega) hs, h.bx.kept k (by simpa using h1), World.ownsRow.kept h.ow k (.inr h2), h.ok, h.rb.kept k (by simp; omega), h.ne⟩
/-- Another disk into the variable. -/
theorem Dw.put {y : Dx} (h : Dw w0 w W c bd a len cap x) (hc : c < w.heap.size) (hs : w0.heap.size ≤ w.heap.size) (oy : OwD W w.heap.size y) (ok : OkD y.room y.ps) : Dw w0 w ((W.setCell ⟨bd, 0, none⟩ (.int .i64 y.room)).setCell ⟨bd, 1, none⟩ (.slice y.a y.ps.length y.c)) c bd a len cap y := by
  have s0 := h.bx.set0 (.int .i64 y.room)
  have s1 := bc_set1 s0.1 (.slice y.a y.ps.length y.c)
  have st := grow_grow s0.2 s1.2
  have lo := h.bx.lt.1
  have nb : (Value.slice y.a y.ps.length y.c).ownBlock ≠ some bd := row_ne h.bx oy (by decide) rfl
  exact ⟨moved_grown h.m st hc lo hs, s1.1, World.ownsRow.kept oy st (.inr nb), ok, h.rb.kept st (by have := h.ne; simpa using this.symm), h.ne⟩
end
abbrev oR13_0 : Oper := { dst := some 38, op := Go.Op.load 26 (Go.Operand.tmp 3), type := 26, pos := "l14_disk.go:179", after := #[], guard := none }
abbrev oR13_1 : Oper := { dst := some 39, op := Go.Op.move (Go.Operand.tmp 0), type := 55, pos := "l14_disk.go:179", after := #[], guard := none }
abbrev oR13_2 : Oper := { dst := some 40, op := Go.Op.call { callee := Go.Callee.value (Go.Operand.func 38), args := #[Go.Operand.tmp 39, Go.Operand.const (Go.Value.int Go.IntKind.i64 5)], argTypes := #[55, 3] }, type := 3, pos := "l14_disk.go:179", after := #[{ on := 1, ground := Go.Ground.data }], guard := none }
abbrev oR13_3 : Oper := { dst := some 41, op := Go.Op.move (Go.Operand.tmp 0), type := 55, pos := "l14_disk.go:179", after := #[], guard := none }
abbrev oR13_4 : Oper := { dst := some 42, op := Go.Op.call { callee := Go.Callee.value (Go.Operand.func 52), args := #[Go.Operand.tmp 41, Go.Operand.const (Go.Value.int Go.IntKind.i64 8)], argTypes := #[55, 3] }, type := 9, pos := "l14_disk.go:179", after := #[{ on := 3, ground := Go.Ground.data }, { on := 2, ground := Go.Ground.chain }], guard := none }
abbrev oR13_5 : Oper := { dst := some 43, op := Go.Op.call { callee := Go.Callee.value (Go.Operand.func 61), args := #[Go.Operand.tmp 38, Go.Operand.tmp 40, Go.Operand.tmp 42], argTypes := #[26, 3, 9] }, type := 29, pos := "l14_disk.go:179", after := #[{ on := 0, ground := Go.Ground.data }, { on := 2, ground := Go.Ground.data }, { on := 4, ground := Go.Ground.data }, { on := 4, ground := Go.Ground.chain }], guard := none }
abbrev oR13_6 : Oper := { dst := some 37, op := Go.Op.move (Go.Operand.tmp 43), type := 29, pos := "l14_disk.go:179", after := #[{ on := 5, ground := Go.Ground.data }], guard := none }
abbrev oR13_7 : Oper := { dst := some 44, op := Go.Op.extract (Go.Operand.tmp 37) 0, type := 26, pos := "l14_disk.go:179", after := #[{ on := 6, ground := Go.Ground.data }], guard := none }
abbrev oR13_8 : Oper := { dst := some 45, op := Go.Op.extract (Go.Operand.tmp 37) 1, type := 3, pos := "l14_disk.go:179", after := #[{ on := 6, ground := Go.Ground.data }, { on := 9, ground := Go.Ground.gcOnly Go.Departure.lateStores }], guard := none }
abbrev oR13_9 : Oper := { dst := none, op := Go.Op.store 26 (Go.Operand.tmp 5) (Go.Operand.tmp 44), type := 0, pos := "l14_disk.go:179", after := #[{ on := 7, ground := Go.Ground.data }, { on := 5, ground := Go.Ground.chain }, { on := 0, ground := Go.Ground.phase }, { on := 1, ground := Go.Ground.phase }, { on := 2, ground := Go.Ground.phase }, { on := 3, ground := Go.Ground.phase }, { on := 4, ground := Go.Ground.phase }, { on := 5, ground := Go.Ground.phase }, { on := 6, ground := Go.Ground.phase }, { on := 7, ground := Go.Ground.phase }, { on := 8, ground := Go.Ground.textOnly Go.Departure.lateStores }], guard := none }
abbrev oR13_10 : Oper := { dst := some 6, op := Go.Op.assign (Go.Operand.tmp 45), type := 3, pos := "l14_disk.go:179", after := #[{ on := 8, ground := Go.Ground.data }, { on := 9, ground := Go.Ground.chain }, { on := 0, ground := Go.Ground.phase }, { on := 1, ground := Go.Ground.phase }, { on := 2, ground := Go.Ground.phase }, { on := 3, ground := Go.Ground.phase }, { on := 4, ground := Go.Ground.phase }, { on := 5, ground := Go.Ground.phase }, { on := 6, ground := Go.Ground.phase }, { on := 7, ground := Go.Ground.phase }, { on := 8, ground := Go.Ground.phase }, { on := 9, ground := Go.Ground.phase }], guard := none }
abbrev oR15_0 : Oper := { dst := some 49, op := Go.Op.load 26 (Go.Operand.tmp 3), type := 26, pos := "l14_disk.go:181", after := #[], guard := none }
abbrev oR15_1 : Oper := { dst := some 50, op := Go.Op.move (Go.Operand.tmp 0), type := 55, pos := "l14_disk.go:181", after := #[], guard := none }
abbrev oR15_2 : Oper := { dst := some 51, op := Go.Op.call { callee := Go.Callee.value (Go.Operand.func 38), args := #[Go.Operand.tmp 50, Go.Operand.const (Go.Value.int Go.IntKind.i64 5)], argTypes := #[55, 3] }, type := 3, pos := "l14_disk.go:181", after := #[{ on := 1, ground := Go.Ground.data }], guard := none }
abbrev oR15_3 : Oper := { dst := some 52, op := Go.Op.call { callee := Go.Callee.value (Go.Operand.func 32), args := #[Go.Operand.tmp 49, Go.Operand.tmp 51], argTypes := #[26, 3] }, type := 29, pos := "l14_disk.go:181", after := #[{ on := 0, ground := Go.Ground.data }, { on := 2, ground := Go.Ground.data }, { on := 2, ground := Go.Ground.chain }], guard := none }
abbrev oR15_4 : Oper := { dst := some 48, op := Go.Op.move (Go.Operand.tmp 52), type := 29, pos := "l14_disk.go:181", after := #[{ on := 3, ground := Go.Ground.data }], guard := none }
abbrev oR15_5 : Oper := { dst := some 53, op := Go.Op.extract (Go.Operand.tmp 48) 0, type := 26, pos := "l14_disk.go:181", after := #[{ on := 4, ground := Go.Ground.data }], guard := none }
abbrev oR15_6 : Oper := { dst := some 54, op := Go.Op.extract (Go.Operand.tmp 48) 1, type := 3, pos := "l14_disk.go:181", after := #[{ on := 4, ground := Go.Ground.data }, { on := 7, ground := Go.Ground.gcOnly Go.Departure.lateStores }], guard := none }
abbrev oR15_7 : Oper := { dst := none, op := Go.Op.store 26 (Go.Operand.tmp 5) (Go.Operand.tmp 53), type := 0, pos := "l14_disk.go:181", after := #[{ on := 5, ground := Go.Ground.data }, { on := 3, ground := Go.Ground.chain }, { on := 0, ground := Go.Ground.phase }, { on := 1, ground := Go.Ground.phase }, { on := 2, ground := Go.Ground.phase }, { on := 3, ground := Go.Ground.phase }, { on := 4, ground := Go.Ground.phase }, { on := 5, ground := Go.Ground.phase }, { on := 6, ground := Go.Ground.textOnly Go.Departure.lateStores }], guard := none }
abbrev oR15_8 : Oper := { dst := some 6, op := Go.Op.assign (Go.Operand.tmp 54), type := 3, pos := "l14_disk.go:181", after := #[{ on := 6, ground := Go.Ground.data }, { on := 7, ground := Go.Ground.chain }, { on := 0, ground := Go.Ground.phase }, { on := 1, ground := Go.Ground.phase }, { on := 2, ground := Go.Ground.phase }, { on := 3, ground := Go.Ground.phase }, { on := 4, ground := Go.Ground.phase }, { on := 5, ground := Go.Ground.phase }, { on := 6, ground := Go.Ground.phase }, { on := 7, ground := Go.Ground.phase }], guard := none }
abbrev oR17_0 : Oper := { dst := some 58, op := Go.Op.load 26 (Go.Operand.tmp 3), type := 26, pos := "l14_disk.go:183", after := #[], guard := none }
abbrev oR17_1 : Oper := { dst := some 59, op := Go.Op.move (Go.Operand.tmp 0), type := 55, pos := "l14_disk.go:183", after := #[], guard := none }
abbrev oR17_2 : Oper := { dst := some 60, op := Go.Op.call { callee := Go.Callee.value (Go.Operand.func 38), args := #[Go.Operand.tmp 59, Go.Operand.const (Go.Value.int Go.IntKind.i64 5)], argTypes := #[55, 3] }, type := 3, pos := "l14_disk.go:183", after := #[{ on := 1, ground := Go.Ground.data }], guard := none }
abbrev oR17_3 : Oper := { dst := some 61, op := Go.Op.move (Go.Operand.tmp 0), type := 55, pos := "l14_disk.go:183", after := #[], guard := none }
abbrev oR17_4 : Oper := { dst := some 62, op := Go.Op.call { callee := Go.Callee.value (Go.Operand.func 38), args := #[Go.Operand.tmp 61, Go.Operand.const (Go.Value.int Go.IntKind.i64 22)], argTypes := #[55, 3] }, type := 3, pos := "l14_disk.go:183", after := #[{ on := 3, ground := Go.Ground.data }, { on := 2, ground := Go.Ground.chain }], guard := none }
abbrev oR17_5 : Oper := { dst := some 63, op := Go.Op.call { callee := Go.Callee.value (Go.Operand.func 83), args := #[Go.Operand.tmp 58, Go.Operand.tmp 60, Go.Operand.tmp 62], argTypes := #[26, 3, 3] }, type := 29, pos := "l14_disk.go:183", after := #[{ on := 0, ground := Go.Ground.data }, { on := 2, ground := Go.Ground.data }, { on := 4, ground := Go.Ground.data }, { on := 4, ground := Go.Ground.chain }], guard := none }
abbrev oR17_6 : Oper := { dst := some 57, op := Go.Op.move (Go.Operand.tmp 63), type := 29, pos := "l14_disk.go:183", after := #[{ on := 5, ground := Go.Ground.data }], guard := none }
abbrev oR17_7 : Oper := { dst := some 64, op := Go.Op.extract (Go.Operand.tmp 57) 0, type := 26, pos := "l14_disk.go:183", after := #[{ on := 6, ground := Go.Ground.data }], guard := none }
abbrev oR17_8 : Oper := { dst := some 65, op := Go.Op.extract (Go.Operand.tmp 57) 1, type := 3, pos := "l14_disk.go:183", after := #[{ on := 6, ground := Go.Ground.data }, { on := 9, ground := Go.Ground.gcOnly Go.Departure.lateStores }], guard := none }
abbrev oR17_9 : Oper := { dst := none, op := Go.Op.store 26 (Go.Operand.tmp 5) (Go.Operand.tmp 64), type := 0, pos := "l14_disk.go:183", after := #[{ on := 7, ground := Go.Ground.data }, { on := 5, ground := Go.Ground.chain }, { on := 0, ground := Go.Ground.phase }, { on := 1, ground := Go.Ground.phase }, { on := 2, ground := Go.Ground.phase }, { on := 3, ground := Go.Ground.phase }, { on := 4, ground := Go.Ground.phase }, { on := 5, ground := Go.Ground.phase }, { on := 6, ground := Go.Ground.phase }, { on := 7, ground := Go.Ground.phase }, { on := 8, ground := Go.Ground.textOnly Go.Departure.lateStores }], guard := none }
abbrev oR17_10 : Oper := { dst := some 6, op := Go.Op.assign (Go.Operand.tmp 65), type := 3, pos := "l14_disk.go:183", after := #[{ on := 8, ground := Go.Ground.data }, { on := 9, ground := Go.Ground.chain }, { on := 0, ground := Go.Ground.phase }, { on := 1, ground := Go.Ground.phase }, { on := 2, ground := Go.Ground.phase }, { on := 3, ground := Go.Ground.phase }, { on := 4, ground := Go.Ground.phase }, { on := 5, ground := Go.Ground.phase }, { on := 6, ground := Go.Ground.phase }, { on := 7, ground := Go.Ground.phase }, { on := 8, ground := Go.Ground.phase }, { on := 9, ground := Go.Ground.phase }], guard := none }
abbrev oR9_0 : Oper := { dst := some 27, op := Go.Op.load 26 (Go.Operand.tmp 3), type := 26, pos := "l14_disk.go:185", after := #[], guard := none }
abbrev oR9_1 : Oper := { dst := some 28, op := Go.Op.move (Go.Operand.tmp 0), type := 55, pos := "l14_disk.go:185", after := #[], guard := none }
abbrev oR9_2 : Oper := { dst := some 29, op := Go.Op.call { callee := Go.Callee.value (Go.Operand.func 38), args := #[Go.Operand.tmp 28, Go.Operand.const (Go.Value.int Go.IntKind.i64 9)], argTypes := #[55, 3] }, type := 3, pos := "l14_disk.go:185", after := #[{ on := 1, ground := Go.Ground.data }], guard := none }
abbrev oR9_3 : Oper := { dst := some 30, op := Go.Op.call { callee := Go.Callee.value (Go.Operand.func 84), args := #[Go.Operand.tmp 27, Go.Operand.tmp 29], argTypes := #[26, 3] }, type := 29, pos := "l14_disk.go:185", after := #[{ on := 0, ground := Go.Ground.data }, { on := 2, ground := Go.Ground.data }, { on := 2, ground := Go.Ground.chain }], guard := none }
abbrev oR9_4 : Oper := { dst := some 26, op := Go.Op.move (Go.Operand.tmp 30), type := 29, pos := "l14_disk.go:185", after := #[{ on := 3, ground := Go.Ground.data }], guard := none }
abbrev oR9_5 : Oper := { dst := some 31, op := Go.Op.extract (Go.Operand.tmp 26) 0, type := 26, pos := "l14_disk.go:185", after := #[{ on := 4, ground := Go.Ground.data }], guard := none }
abbrev oR9_6 : Oper := { dst := some 32, op := Go.Op.extract (Go.Operand.tmp 26) 1, type := 3, pos := "l14_disk.go:185", after := #[{ on := 4, ground := Go.Ground.data }, { on := 7, ground := Go.Ground.gcOnly Go.Departure.lateStores }], guard := none }
abbrev oR9_7 : Oper := { dst := none, op := Go.Op.store 26 (Go.Operand.tmp 5) (Go.Operand.tmp 31), type := 0, pos := "l14_disk.go:185", after := #[{ on := 5, ground := Go.Ground.data }, { on := 3, ground := Go.Ground.chain }, { on := 0, ground := Go.Ground.phase }, { on := 1, ground := Go.Ground.phase }, { on := 2, ground := Go.Ground.phase }, { on := 3, ground := Go.Ground.phase }, { on := 4, ground := Go.Ground.phase }, { on := 5, ground := Go.Ground.phase }, { on := 6, ground := Go.Ground.textOnly Go.Departure.lateStores }], guard := none }
abbrev oR9_8 : Oper := { dst := some 6, op := Go.Op.assign (Go.Operand.tmp 32), type := 3, pos := "l14_disk.go:185", after := #[{ on := 6, ground := Go.Ground.data }, { on := 7, ground := Go.Ground.chain }, { on := 0, ground := Go.Ground.phase }, { on := 1, ground := Go.Ground.phase }, { on := 2, ground := Go.Ground.phase }, { on := 3, ground := Go.Ground.phase }, { on := 4, ground := Go.Ground.phase }, { on := 5, ground := Go.Ground.phase }, { on := 6, ground := Go.Ground.phase }, { on := 7, ground := Go.Ground.phase }], guard := none }
set_option maxRecDepth 100000 in
set_option maxHeartbeats 8000000 in
theorem drawRight (w0 w : World) (c : Nat) (a : Option Addr) (len cap : Nat) (hl : len ≤ 1048576) (hcode : CodeAt w0 a len) (h : Cur w0 w c a len cap) :
    Calls Try.prog 81 #[.pointer (some ⟨c, 0, none⟩)] w fun e w' => ∃ y : Dx, OkD y.room y.ps ∧ e = .returned (.agg #[.int .i64 y.room, .slice y.a y.ps.length y.c]) ∧ OwD w' w.heap.size y ∧ Moved w0 w w' c a len cap := by
  have HC := hide hcode
  have hc := h.hi
  have hs := h.bel.size
  have M1 := hide (moved_alloc (moved_start h) #[.int .i64 0, .slice none 0 0] 26)
  have R1 := hide (show Bc (w.alloc (.cells #[.int .i64 0, .slice none 0 0] 26)) w.heap.size w.heap.size (.int .i64 0) (.slice none 0 0) from Bc.made _ _ (Nat.le_refl _) rfl)
  clear hcode h
  go_enter Try.func81, Try.ntmps81
  go_wp2_with fail
  refine (below w0 _ c a len cap 200 hl (unhide HC) (unhide M1).1 (by omega)).mono ?_
  rintro e u1 ⟨⟨r0, r00, r01, rfl⟩, mv⟩
  have M2 := hide ((unhide M1).trans mv)
  have R2 := hide (show Bc u1 w.heap.size w.heap.size (.int .i64 0) (.slice none 0 0) from row_only (unhide R1) mv.2 hc)
  have wr1 : wrap64 (60 + r0) = 60 + r0 := by rw [wrap64]; omega
  have wr2 : IntKind.i64.wrap (60 + r0) = 60 + r0 := by rw [IntKind.wrap_i64]; omega
  clear mv M1 R1
  have D1 := hide (show Dw w0 w (u1.alloc (.cells #[.int .i64 (60 + r0), .slice none 0 0] 26)) c u1.heap.size a len cap ⟨60 + r0, none, 0, []⟩ from
    ⟨moved_alloc (unhide M2) _ _, Bc.made _ _ (Nat.le_of_lt (unhide R2).lt.2) rfl, ⟨rfl, .inl ⟨rfl, rfl⟩⟩, ⟨⟨by show 0 ≤ 60 + r0; omega, by show 60 + r0 ≤ 60000; omega⟩, by simp, by show (0 : Int) ≤ 60 + r0; omega, fun i hi => absurd hi (by simp)⟩, Bc.below (unhide R2) (one_more _ _) (unhide R2).lt.2, by have := (unhide R2).lt.2; omega⟩)
  go_wp2_with fail
  refine (once w0 _ c a len cap 9 hl (unhide HC) (unhide D1).m.1 (by omega)).mono ?_
  rintro e u2 ⟨⟨t, rfl⟩, mv⟩
  have D2 := hide ((unhide D1).moved mv hc)
  clear mv D1 M2 R2 wr1 wr2
  generalize u1.heap.size = bd at *
  go_upto_if 12 with fail
  go_cut [] (fun wx => ∃ x : Dx, Hid (Dw w0 w wx c bd a len cap x))
  case first =>
    cases t with
    | false =>
      go_wp2_with fail
      go_meet
      case rel => exact ⟨_, D2⟩
    | true =>
      have uh := (unhide D2).m.1.hi
      have D3 := hide ((unhide D2).below (one_more u2 (.cells #[.int .i64 0, .int .i64 60000, .int .i64 20] 3)))
      go_wp2_with fail
      refine (pick w0 _ c a len cap u2.heap.size 3 (of3 0 60000 20) hl (unhide HC) (unhide D3).m.1 (by omega) (by omega) (by simp) (by omega) (fun j hj => of3_cells u2 _ 0 60000 20 j hj)).mono ?_
      rintro e u3 ⟨⟨j, hj, rfl⟩, mv⟩
      have D4 := hide ((unhide D3).moved mv hc)
      have B := hide (show 0 ≤ of3 0 60000 20 j ∧ of3 0 60000 20 j ≤ 60000 from by unfold of3; split <;> (try split) <;> omega)
      clear mv hj D3
      generalize of3 0 60000 20 j = rm at *
      have d0 := (unhide D4).bx.c0
      have e0 := (unhide D4).bx.free 0
      have s0 := (unhide D4).bx.set0 (.int .i64 rm)
      have D5 := hide (show Dw w0 w (u3.setCell ⟨bd, 0, none⟩ (.int .i64 rm)) c bd a len cap ⟨rm, none, 0, []⟩ from
        ⟨moved_grown (unhide D4).m s0.2 hc (unhide D4).bx.lt.1 hs, s0.1, ⟨rfl, .inl ⟨rfl, rfl⟩⟩, ⟨unhide B, by simp, show (0 : Int) ≤ rm from (unhide B).1, fun i hi => absurd hi (by simp)⟩, (unhide D4).rb.kept s0.2 (by have := (unhide D4).ne; simpa using this.symm), (unhide D4).ne⟩)
      clear s0
      go_wp2_with fail
      go_meet
      case rel => exact ⟨_, D5⟩
  case rest =>
    obtain ⟨x0, D6⟩ := hcut
    clear D2
    go_wp2
    go_loopw [4, 5, 6] (fun i _ _ wr => ∃ (k : Nat) (x : Dx), i = .int .i64 k ∧ k ≤ 12 ∧ Hid (Dw w0 w wr c bd a len cap x)) (fun i _ _ _ => 12 - (intOf i).toNat)
    case atStart => exact ⟨0, x0, rfl, by omega, D6⟩
    case round =>
      clear D6
      obtain ⟨k, x, rfl, hk, DX⟩ := hrel
      go_wp2_with fail
      refine (below w0 wr c a len cap 12 hl (unhide HC) (unhide DX).m.1 (by omega)).mono ?_
      rintro e v0 ⟨⟨y, y0, y1, rfl⟩, mv⟩
      have D7 := hide ((unhide DX).moved mv hc)
      clear mv DX
      by_cases q : (k : Int) < y
      · have kl : k < 12 := by omega
        have b0 := (unhide D7).bx.c0
        have b1 := (unhide D7).bx.c1
        have D8 := hide ((unhide D7).below (one_more v0 (.cells #[.int .i64 x.room, .slice x.a x.ps.length x.c] 26)))
        have N8 := hide (show Bc (v0.alloc (.cells #[.int .i64 x.room, .slice x.a x.ps.length x.c] 26)) w.heap.size v0.heap.size (.int .i64 x.room) (.slice x.a x.ps.length x.c) from Bc.made _ _ (Nat.le_of_lt (unhide D7).rb.lt.2) rfl)
        have bnl := (unhide D7).bx.lt.2
        have rbl := (unhide D7).rb.lt.2
        go_wp2_with fail
        refine (below w0 _ c a len cap 6 hl (unhide HC) (unhide D8).m.1 (by omega)).mono ?_
        rintro e v ⟨⟨sw, sw0, sw1, rfl⟩, mv⟩
        have DV := hide ((unhide D8).moved mv hc)
        have Nv := hide (show Bc v w.heap.size v0.heap.size (.int .i64 x.room) (.slice x.a x.ps.length x.c) from row_only (unhide N8) mv.2 hc)
        clear mv D7 D8 N8 b0 b1
        have Dv := DV
        generalize v0.heap.size = bn at *
        obtain ⟨n0, hn0⟩ : ∃ n0, Hid (x.room = n0) := ⟨_, rfl⟩
        obtain ⟨n1, hn1⟩ : ∃ n1, Hid (x.a = n1) := ⟨_, rfl⟩
        obtain ⟨n2, hn2⟩ : ∃ n2, Hid (x.ps.length = n2) := ⟨_, rfl⟩
        obtain ⟨n3, hn3⟩ : ∃ n3, Hid (x.c = n3) := ⟨_, rfl⟩
        rw [unhide hn0, unhide hn1, unhide hn2, unhide hn3] at Nv
        clear hn0 hn1 hn2 hn3
        have : sw = 0 ∨ sw = 1 ∨ sw = 2 ∨ sw = 3 ∨ sw = 4 ∨ sw = 5 := by omega
        rcases this with rfl | rfl | rfl | rfl | rfl | rfl
        · have K0 : v.cell? ⟨bd, 0, none⟩ = some (.int .i64 x.room) ∧ v.cell? ⟨bd, 1, none⟩ = some (.slice x.a x.ps.length x.c) := ⟨(unhide DV).bx.c0, (unhide DV).bx.c1⟩
          go_wp2_with fail
          refine wp_region_held_drew (S := (fun w' => w'.cell? ⟨bd, 0, none⟩ = some (.int .i64 x.room) ∧ w'.cell? ⟨bd, 1, none⟩ = some (.slice x.a x.ps.length x.c))) (by kernel_rfl) K0 (fun hHeld => ?_)
          refine wpAnyH_take (i := 0) (oi := oR13_0) (v := .agg #[.int .i64 x.room, .slice x.a x.ps.length x.c]) rfl (by kernel_rfl) (by kernel_rfl) (by kernel_rfl) (fun _ _ _ h => h) (Or.inl ⟨by rfl, fun w hSw => ?_⟩) hHeld ?_
          · (try dsimp only at hSw)
            unfold oR13_0
            go_simp
          try simp only [oR13_0, Act.put, List.setIfInBounds_toArray, List.set_cons_zero, List.set_cons_succ]
          refine wpAnyH_take (i := 1) (oi := oR13_1) (v := .pointer (some ⟨c, 0, none⟩)) rfl (by kernel_rfl) (by kernel_rfl) (by kernel_rfl) (fun _ _ _ h => h) (Or.inl ⟨by rfl, fun w hSw => ?_⟩) hHeld ?_
          · (try dsimp only at hSw)
            unfold oR13_1
            go_simp
          try simp only [oR13_1, Act.put, List.setIfInBounds_toArray, List.set_cons_zero, List.set_cons_succ]
          refine wpAnyH_take (i := 3) (oi := oR13_3) (v := .pointer (some ⟨c, 0, none⟩)) rfl (by kernel_rfl) (by kernel_rfl) (by kernel_rfl) (fun _ _ _ h => h) (Or.inl ⟨by rfl, fun w hSw => ?_⟩) hHeld ?_
          · (try dsimp only at hSw)
            unfold oR13_3
            go_simp
          try simp only [oR13_3, Act.put, List.setIfInBounds_toArray, List.set_cons_zero, List.set_cons_succ]
          refine wpAnyH_ready (rs := [2]) (by kernel_rfl) (by simp) ?_
          refine AllReadyH.cons (o := oR13_2) rfl (fun K hK => ?_) AllReadyH.nil
          unfold oR13_2
          go_simp
          go_wp2_with fail
          refine (below w0 v.drew c a len cap 5 hl (unhide HC) (unhide Dv).drew.m.1 (by omega)).mono ?_
          rintro e va ⟨⟨y0, y00, y01, rfl⟩, mv⟩
          have Dva := hide ((unhide Dv).drew.moved mv hc)
          have Nva := hide (show Bc va w.heap.size bn (.int .i64 n0) (.slice n1 n2 n3) from row_only (show Bc v.drew w.heap.size bn (.int .i64 n0) (.slice n1 n2 n3) from (unhide Nv)) mv.2 hc)
          have K1 : va.cell? ⟨bd, 0, none⟩ = some (.int .i64 x.room) ∧ va.cell? ⟨bd, 1, none⟩ = some (.slice x.a x.ps.length x.c) := ⟨(unhide Dva).bx.c0, (unhide Dva).bx.c1⟩
          have szva : v.heap.size ≤ va.heap.size := mv.2.1
          clear mv
          go_wp2_with fail
          refine hK.out _ _ K1 (fun hHeld => ?_)
          clear hK K
          try simp only [oR13_2, Act.put, List.setIfInBounds_toArray, List.set_cons_zero, List.set_cons_succ]
          refine wpAnyH_ready (rs := [4]) (by kernel_rfl) (by simp) ?_
          refine AllReadyH.cons (o := oR13_4) rfl (fun K hK => ?_) AllReadyH.nil
          unfold oR13_4
          go_simp
          go_wp2_with fail
          refine (drawText w0 va c a len cap 8 hl (by omega) (unhide HC) (unhide Dva).m.1).mono ?_
          rintro e vb ⟨⟨y1, y10, rfl⟩, mv⟩
          have Dvb := hide ((unhide Dva).moved mv hc)
          have Nvb := hide (show Bc vb w.heap.size bn (.int .i64 n0) (.slice n1 n2 n3) from row_only (show Bc va w.heap.size bn (.int .i64 n0) (.slice n1 n2 n3) from (unhide Nva)) mv.2 hc)
          have K2 : vb.cell? ⟨bd, 0, none⟩ = some (.int .i64 x.room) ∧ vb.cell? ⟨bd, 1, none⟩ = some (.slice x.a x.ps.length x.c) := ⟨(unhide Dvb).bx.c0, (unhide Dvb).bx.c1⟩
          have szvb : va.heap.size ≤ vb.heap.size := mv.2.1
          clear mv
          go_wp2_with fail
          refine hK.out _ _ K2 (fun hHeld => ?_)
          clear hK K
          try simp only [oR13_4, Act.put, List.setIfInBounds_toArray, List.set_cons_zero, List.set_cons_succ]
          refine wpAnyH_ready (rs := [5]) (by kernel_rfl) (by simp) ?_
          refine AllReadyH.cons (o := oR13_5) rfl (fun K hK => ?_) AllReadyH.nil
          unfold oR13_5
          go_simp
          go_wp2_with fail
          refine (SAppend14.sDiskAppend vb x y0 y1 (unhide Dvb).rd (unhide Dvb).sum (by omega)).mono ?_
          rintro e z ⟨y, hy, rfl, oy, bb⟩
          have RG := hide (show (appendD x.room x.ps y0 y1).2 ≠ 1 → OkD y.room y.ps from fun q => by
            have h := Okk14.rg_append (room := x.room) (ps := x.ps) y0 y1 (unhide Dvb).ok q
            rw [← hy] at h
            exact h)
          have DZ := hide ((unhide Dvb).below bb)
          have NZ := hide (Bc.below (unhide Nvb) bb (unhide Nvb).lt.2)
          have OY := hide (row_base oy (show w.heap.size ≤ vb.heap.size from by have := (unhide Dvb).rb.lt.2; omega))
          generalize (appendD x.room x.ps y0 y1).2 = code at *
          have KZ : z.cell? ⟨bd, 0, none⟩ = some (.int .i64 x.room) ∧ z.cell? ⟨bd, 1, none⟩ = some (.slice x.a x.ps.length x.c) := ⟨(unhide DZ).bx.c0, (unhide DZ).bx.c1⟩
          have q0 := (unhide NZ).c0
          have q1 := (unhide NZ).c1
          have t0 := (unhide NZ).free 0
          have t1 := (unhide NZ).free 1
          have st := grow_grow ((unhide NZ).set0 (.int .i64 y.room)).2 (bc_set1 ((unhide NZ).set0 (.int .i64 y.room)).1 (.slice y.a y.ps.length y.c)).2
          have NS := hide (bc_set1 ((unhide NZ).set0 (.int .i64 y.room)).1 (.slice y.a y.ps.length y.c)).1
          have nn := (unhide NZ).lt
          have bln := (unhide DZ).bx.lt.2
          have DS := hide ((unhide DZ).aside st hc hs (by omega) (by omega) (row_ne (unhide NZ) (unhide DZ).ow (by decide) rfl))
          have OS := hide (World.ownsRow.kept (unhide OY) st (.inr (row_ne (unhide NZ) (unhide OY) (by decide) rfl)))
          have KS : ((z.setCell ⟨bn, 0, none⟩ (.int .i64 y.room)).setCell ⟨bn, 1, none⟩ (.slice y.a y.ps.length y.c)).cell? ⟨bd, 0, none⟩ = some (.int .i64 x.room) ∧ ((z.setCell ⟨bn, 0, none⟩ (.int .i64 y.room)).setCell ⟨bn, 1, none⟩ (.slice y.a y.ps.length y.c)).cell? ⟨bd, 1, none⟩ = some (.slice x.a x.ps.length x.c) := ⟨(unhide DS).bx.c0, (unhide DS).bx.c1⟩
          clear st oy bb hy
          go_wp2_with fail
          refine hK.out _ _ KZ (fun hHeld => ?_)
          clear hK K
          try simp only [oR13_5, Act.put, List.setIfInBounds_toArray, List.set_cons_zero, List.set_cons_succ]
          refine wpAnyH_take (i := 6) (oi := oR13_6) (v := .tuple #[.agg #[.int .i64 y.room, .slice y.a y.ps.length y.c], .int .i64 code]) rfl (by kernel_rfl) (by kernel_rfl) (by kernel_rfl) (fun _ _ _ h => h) (Or.inl ⟨by rfl, fun w hSw => ?_⟩) hHeld ?_
          · (try dsimp only at hSw)
            unfold oR13_6
            go_simp
          try simp only [oR13_6, Act.put, List.setIfInBounds_toArray, List.set_cons_zero, List.set_cons_succ]
          refine wpAnyH_take (i := 7) (oi := oR13_7) (v := .agg #[.int .i64 y.room, .slice y.a y.ps.length y.c]) rfl (by kernel_rfl) (by kernel_rfl) (by kernel_rfl) (fun _ _ _ h => h) (Or.inl ⟨by rfl, fun w hSw => ?_⟩) hHeld ?_
          · (try dsimp only at hSw)
            unfold oR13_7
            go_simp
          try simp only [oR13_7, Act.put, List.setIfInBounds_toArray, List.set_cons_zero, List.set_cons_succ]
          refine wpAnyH_take (i := 8) (oi := oR13_8) (v := .int .i64 code) rfl (by kernel_rfl) (by kernel_rfl) (by kernel_rfl) (fun _ _ _ h => h) (Or.inl ⟨by rfl, fun w hSw => ?_⟩) hHeld ?_
          · (try dsimp only at hSw)
            unfold oR13_8
            go_simp
          try simp only [oR13_8, Act.put, List.setIfInBounds_toArray, List.set_cons_zero, List.set_cons_succ]
          refine wpAnyH_ready (rs := [9]) (by kernel_rfl) (by simp) ?_
          refine AllReadyH.cons (o := oR13_9) rfl (fun K hK => ?_) AllReadyH.nil
          unfold oR13_9
          go_simp
          refine hK.out _ _ KS (fun hHeld => ?_)
          clear hK K
          try simp only [oR13_9, Act.put, List.setIfInBounds_toArray, List.set_cons_zero, List.set_cons_succ]
          refine wpAnyH_take (i := 10) (oi := oR13_10) (v := .int .i64 code) rfl (by kernel_rfl) (by kernel_rfl) (by kernel_rfl) (fun _ _ _ h => h) (Or.inl ⟨by rfl, fun w hSw => ?_⟩) hHeld ?_
          · (try dsimp only at hSw)
            unfold oR13_10
            go_simp
          try simp only [oR13_10, Act.put, List.setIfInBounds_toArray, List.set_cons_zero, List.set_cons_succ]
          refine wpAnyH_done (by kernel_rfl) ?_ _
          clear K0 K1 K2 KZ KS q0 q1 t0 t1
          generalize ((z.setCell ⟨bn, 0, none⟩ (.int .i64 y.room)).setCell ⟨bn, 1, none⟩ (.slice y.a y.ps.length y.c)) = zz at *
          have p0 := (unhide NS).c0
          have p1 := (unhide NS).c1
          have d0 := (unhide DS).bx.c0
          have d1 := (unhide DS).bx.c1
          have e0 := (unhide DS).bx.free 0
          have e1 := (unhide DS).bx.free 1
          by_cases q : code = 1
          · have qb : (code != 1) = false := by simpa using q
            clear q
            go_wp2
            go_roundw
            case rel => exact ⟨k + 1, x, by go_num, by omega, DS⟩
            case measure => simp [intOf]; omega
          · have qb : (code != 1) = true := by simpa using q
            have DP := hide ((unhide DS).put hc hs (unhide OS) ((unhide RG) q))
            clear q
            go_wp2
            go_roundw
            case rel => exact ⟨k + 1, y, by go_num, by omega, DP⟩
            case measure => simp [intOf]; omega
        · have K0 : v.cell? ⟨bd, 0, none⟩ = some (.int .i64 x.room) ∧ v.cell? ⟨bd, 1, none⟩ = some (.slice x.a x.ps.length x.c) := ⟨(unhide DV).bx.c0, (unhide DV).bx.c1⟩
          go_wp2_with fail
          refine wp_region_held_drew (S := (fun w' => w'.cell? ⟨bd, 0, none⟩ = some (.int .i64 x.room) ∧ w'.cell? ⟨bd, 1, none⟩ = some (.slice x.a x.ps.length x.c))) (by kernel_rfl) K0 (fun hHeld => ?_)
          refine wpAnyH_take (i := 0) (oi := oR13_0) (v := .agg #[.int .i64 x.room, .slice x.a x.ps.length x.c]) rfl (by kernel_rfl) (by kernel_rfl) (by kernel_rfl) (fun _ _ _ h => h) (Or.inl ⟨by rfl, fun w hSw => ?_⟩) hHeld ?_
          · (try dsimp only at hSw)
            unfold oR13_0
            go_simp
          try simp only [oR13_0, Act.put, List.setIfInBounds_toArray, List.set_cons_zero, List.set_cons_succ]
          refine wpAnyH_take (i := 1) (oi := oR13_1) (v := .pointer (some ⟨c, 0, none⟩)) rfl (by kernel_rfl) (by kernel_rfl) (by kernel_rfl) (fun _ _ _ h => h) (Or.inl ⟨by rfl, fun w hSw => ?_⟩) hHeld ?_
          · (try dsimp only at hSw)
            unfold oR13_1
            go_simp
          try simp only [oR13_1, Act.put, List.setIfInBounds_toArray, List.set_cons_zero, List.set_cons_succ]
          refine wpAnyH_take (i := 3) (oi := oR13_3) (v := .pointer (some ⟨c, 0, none⟩)) rfl (by kernel_rfl) (by kernel_rfl) (by kernel_rfl) (fun _ _ _ h => h) (Or.inl ⟨by rfl, fun w hSw => ?_⟩) hHeld ?_
          · (try dsimp only at hSw)
            unfold oR13_3
            go_simp
          try simp only [oR13_3, Act.put, List.setIfInBounds_toArray, List.set_cons_zero, List.set_cons_succ]
          refine wpAnyH_ready (rs := [2]) (by kernel_rfl) (by simp) ?_
          refine AllReadyH.cons (o := oR13_2) rfl (fun K hK => ?_) AllReadyH.nil
          unfold oR13_2
          go_simp
          go_wp2_with fail
          refine (below w0 v.drew c a len cap 5 hl (unhide HC) (unhide Dv).drew.m.1 (by omega)).mono ?_
          rintro e va ⟨⟨y0, y00, y01, rfl⟩, mv⟩
          have Dva := hide ((unhide Dv).drew.moved mv hc)
          have Nva := hide (show Bc va w.heap.size bn (.int .i64 n0) (.slice n1 n2 n3) from row_only (show Bc v.drew w.heap.size bn (.int .i64 n0) (.slice n1 n2 n3) from (unhide Nv)) mv.2 hc)
          have K1 : va.cell? ⟨bd, 0, none⟩ = some (.int .i64 x.room) ∧ va.cell? ⟨bd, 1, none⟩ = some (.slice x.a x.ps.length x.c) := ⟨(unhide Dva).bx.c0, (unhide Dva).bx.c1⟩
          have szva : v.heap.size ≤ va.heap.size := mv.2.1
          clear mv
          go_wp2_with fail
          refine hK.out _ _ K1 (fun hHeld => ?_)
          clear hK K
          try simp only [oR13_2, Act.put, List.setIfInBounds_toArray, List.set_cons_zero, List.set_cons_succ]
          refine wpAnyH_ready (rs := [4]) (by kernel_rfl) (by simp) ?_
          refine AllReadyH.cons (o := oR13_4) rfl (fun K hK => ?_) AllReadyH.nil
          unfold oR13_4
          go_simp
          go_wp2_with fail
          refine (drawText w0 va c a len cap 8 hl (by omega) (unhide HC) (unhide Dva).m.1).mono ?_
          rintro e vb ⟨⟨y1, y10, rfl⟩, mv⟩
          have Dvb := hide ((unhide Dva).moved mv hc)
          have Nvb := hide (show Bc vb w.heap.size bn (.int .i64 n0) (.slice n1 n2 n3) from row_only (show Bc va w.heap.size bn (.int .i64 n0) (.slice n1 n2 n3) from (unhide Nva)) mv.2 hc)
          have K2 : vb.cell? ⟨bd, 0, none⟩ = some (.int .i64 x.room) ∧ vb.cell? ⟨bd, 1, none⟩ = some (.slice x.a x.ps.length x.c) := ⟨(unhide Dvb).bx.c0, (unhide Dvb).bx.c1⟩
          have szvb : va.heap.size ≤ vb.heap.size := mv.2.1
          clear mv
          go_wp2_with fail
          refine hK.out _ _ K2 (fun hHeld => ?_)
          clear hK K
          try simp only [oR13_4, Act.put, List.setIfInBounds_toArray, List.set_cons_zero, List.set_cons_succ]
          refine wpAnyH_ready (rs := [5]) (by kernel_rfl) (by simp) ?_
          refine AllReadyH.cons (o := oR13_5) rfl (fun K hK => ?_) AllReadyH.nil
          unfold oR13_5
          go_simp
          go_wp2_with fail
          refine (SAppend14.sDiskAppend vb x y0 y1 (unhide Dvb).rd (unhide Dvb).sum (by omega)).mono ?_
          rintro e z ⟨y, hy, rfl, oy, bb⟩
          have RG := hide (show (appendD x.room x.ps y0 y1).2 ≠ 1 → OkD y.room y.ps from fun q => by
            have h := Okk14.rg_append (room := x.room) (ps := x.ps) y0 y1 (unhide Dvb).ok q
            rw [← hy] at h
            exact h)
          have DZ := hide ((unhide Dvb).below bb)
          have NZ := hide (Bc.below (unhide Nvb) bb (unhide Nvb).lt.2)
          have OY := hide (row_base oy (show w.heap.size ≤ vb.heap.size from by have := (unhide Dvb).rb.lt.2; omega))
          generalize (appendD x.room x.ps y0 y1).2 = code at *
          have KZ : z.cell? ⟨bd, 0, none⟩ = some (.int .i64 x.room) ∧ z.cell? ⟨bd, 1, none⟩ = some (.slice x.a x.ps.length x.c) := ⟨(unhide DZ).bx.c0, (unhide DZ).bx.c1⟩
          have q0 := (unhide NZ).c0
          have q1 := (unhide NZ).c1
          have t0 := (unhide NZ).free 0
          have t1 := (unhide NZ).free 1
          have st := grow_grow ((unhide NZ).set0 (.int .i64 y.room)).2 (bc_set1 ((unhide NZ).set0 (.int .i64 y.room)).1 (.slice y.a y.ps.length y.c)).2
          have NS := hide (bc_set1 ((unhide NZ).set0 (.int .i64 y.room)).1 (.slice y.a y.ps.length y.c)).1
          have nn := (unhide NZ).lt
          have bln := (unhide DZ).bx.lt.2
          have DS := hide ((unhide DZ).aside st hc hs (by omega) (by omega) (row_ne (unhide NZ) (unhide DZ).ow (by decide) rfl))
          have OS := hide (World.ownsRow.kept (unhide OY) st (.inr (row_ne (unhide NZ) (unhide OY) (by decide) rfl)))
          have KS : ((z.setCell ⟨bn, 0, none⟩ (.int .i64 y.room)).setCell ⟨bn, 1, none⟩ (.slice y.a y.ps.length y.c)).cell? ⟨bd, 0, none⟩ = some (.int .i64 x.room) ∧ ((z.setCell ⟨bn, 0, none⟩ (.int .i64 y.room)).setCell ⟨bn, 1, none⟩ (.slice y.a y.ps.length y.c)).cell? ⟨bd, 1, none⟩ = some (.slice x.a x.ps.length x.c) := ⟨(unhide DS).bx.c0, (unhide DS).bx.c1⟩
          clear st oy bb hy
          go_wp2_with fail
          refine hK.out _ _ KZ (fun hHeld => ?_)
          clear hK K
          try simp only [oR13_5, Act.put, List.setIfInBounds_toArray, List.set_cons_zero, List.set_cons_succ]
          refine wpAnyH_take (i := 6) (oi := oR13_6) (v := .tuple #[.agg #[.int .i64 y.room, .slice y.a y.ps.length y.c], .int .i64 code]) rfl (by kernel_rfl) (by kernel_rfl) (by kernel_rfl) (fun _ _ _ h => h) (Or.inl ⟨by rfl, fun w hSw => ?_⟩) hHeld ?_
          · (try dsimp only at hSw)
            unfold oR13_6
            go_simp
          try simp only [oR13_6, Act.put, List.setIfInBounds_toArray, List.set_cons_zero, List.set_cons_succ]
          refine wpAnyH_take (i := 7) (oi := oR13_7) (v := .agg #[.int .i64 y.room, .slice y.a y.ps.length y.c]) rfl (by kernel_rfl) (by kernel_rfl) (by kernel_rfl) (fun _ _ _ h => h) (Or.inl ⟨by rfl, fun w hSw => ?_⟩) hHeld ?_
          · (try dsimp only at hSw)
            unfold oR13_7
            go_simp
          try simp only [oR13_7, Act.put, List.setIfInBounds_toArray, List.set_cons_zero, List.set_cons_succ]
          refine wpAnyH_take (i := 8) (oi := oR13_8) (v := .int .i64 code) rfl (by kernel_rfl) (by kernel_rfl) (by kernel_rfl) (fun _ _ _ h => h) (Or.inl ⟨by rfl, fun w hSw => ?_⟩) hHeld ?_
          · (try dsimp only at hSw)
            unfold oR13_8
            go_simp
          try simp only [oR13_8, Act.put, List.setIfInBounds_toArray, List.set_cons_zero, List.set_cons_succ]
          refine wpAnyH_ready (rs := [9]) (by kernel_rfl) (by simp) ?_
          refine AllReadyH.cons (o := oR13_9) rfl (fun K hK => ?_) AllReadyH.nil
          unfold oR13_9
          go_simp
          refine hK.out _ _ KS (fun hHeld => ?_)
          clear hK K
          try simp only [oR13_9, Act.put, List.setIfInBounds_toArray, List.set_cons_zero, List.set_cons_succ]
          refine wpAnyH_take (i := 10) (oi := oR13_10) (v := .int .i64 code) rfl (by kernel_rfl) (by kernel_rfl) (by kernel_rfl) (fun _ _ _ h => h) (Or.inl ⟨by rfl, fun w hSw => ?_⟩) hHeld ?_
          · (try dsimp only at hSw)
            unfold oR13_10
            go_simp
          try simp only [oR13_10, Act.put, List.setIfInBounds_toArray, List.set_cons_zero, List.set_cons_succ]
          refine wpAnyH_done (by kernel_rfl) ?_ _
          clear K0 K1 K2 KZ KS q0 q1 t0 t1
          generalize ((z.setCell ⟨bn, 0, none⟩ (.int .i64 y.room)).setCell ⟨bn, 1, none⟩ (.slice y.a y.ps.length y.c)) = zz at *
          have p0 := (unhide NS).c0
          have p1 := (unhide NS).c1
          have d0 := (unhide DS).bx.c0
          have d1 := (unhide DS).bx.c1
          have e0 := (unhide DS).bx.free 0
          have e1 := (unhide DS).bx.free 1
          by_cases q : code = 1
          · have qb : (code != 1) = false := by simpa using q
            clear q
            go_wp2
            go_roundw
            case rel => exact ⟨k + 1, x, by go_num, by omega, DS⟩
            case measure => simp [intOf]; omega
          · have qb : (code != 1) = true := by simpa using q
            have DP := hide ((unhide DS).put hc hs (unhide OS) ((unhide RG) q))
            clear q
            go_wp2
            go_roundw
            case rel => exact ⟨k + 1, y, by go_num, by omega, DP⟩
            case measure => simp [intOf]; omega
        · have K0 : v.cell? ⟨bd, 0, none⟩ = some (.int .i64 x.room) ∧ v.cell? ⟨bd, 1, none⟩ = some (.slice x.a x.ps.length x.c) := ⟨(unhide DV).bx.c0, (unhide DV).bx.c1⟩
          go_wp2_with fail
          refine wp_region_held_drew (S := (fun w' => w'.cell? ⟨bd, 0, none⟩ = some (.int .i64 x.room) ∧ w'.cell? ⟨bd, 1, none⟩ = some (.slice x.a x.ps.length x.c))) (by kernel_rfl) K0 (fun hHeld => ?_)
          refine wpAnyH_take (i := 0) (oi := oR13_0) (v := .agg #[.int .i64 x.room, .slice x.a x.ps.length x.c]) rfl (by kernel_rfl) (by kernel_rfl) (by kernel_rfl) (fun _ _ _ h => h) (Or.inl ⟨by rfl, fun w hSw => ?_⟩) hHeld ?_
          · (try dsimp only at hSw)
            unfold oR13_0
            go_simp
          try simp only [oR13_0, Act.put, List.setIfInBounds_toArray, List.set_cons_zero, List.set_cons_succ]
          refine wpAnyH_take (i := 1) (oi := oR13_1) (v := .pointer (some ⟨c, 0, none⟩)) rfl (by kernel_rfl) (by kernel_rfl) (by kernel_rfl) (fun _ _ _ h => h) (Or.inl ⟨by rfl, fun w hSw => ?_⟩) hHeld ?_
          · (try dsimp only at hSw)
            unfold oR13_1
            go_simp
          try simp only [oR13_1, Act.put, List.setIfInBounds_toArray, List.set_cons_zero, List.set_cons_succ]
          refine wpAnyH_take (i := 3) (oi := oR13_3) (v := .pointer (some ⟨c, 0, none⟩)) rfl (by kernel_rfl) (by kernel_rfl) (by kernel_rfl) (fun _ _ _ h => h) (Or.inl ⟨by rfl, fun w hSw => ?_⟩) hHeld ?_
          · (try dsimp only at hSw)
            unfold oR13_3
            go_simp
          try simp only [oR13_3, Act.put, List.setIfInBounds_toArray, List.set_cons_zero, List.set_cons_succ]
          refine wpAnyH_ready (rs := [2]) (by kernel_rfl) (by simp) ?_
          refine AllReadyH.cons (o := oR13_2) rfl (fun K hK => ?_) AllReadyH.nil
          unfold oR13_2
          go_simp
          go_wp2_with fail
          refine (below w0 v.drew c a len cap 5 hl (unhide HC) (unhide Dv).drew.m.1 (by omega)).mono ?_
          rintro e va ⟨⟨y0, y00, y01, rfl⟩, mv⟩
          have Dva := hide ((unhide Dv).drew.moved mv hc)
          have Nva := hide (show Bc va w.heap.size bn (.int .i64 n0) (.slice n1 n2 n3) from row_only (show Bc v.drew w.heap.size bn (.int .i64 n0) (.slice n1 n2 n3) from (unhide Nv)) mv.2 hc)
          have K1 : va.cell? ⟨bd, 0, none⟩ = some (.int .i64 x.room) ∧ va.cell? ⟨bd, 1, none⟩ = some (.slice x.a x.ps.length x.c) := ⟨(unhide Dva).bx.c0, (unhide Dva).bx.c1⟩
          have szva : v.heap.size ≤ va.heap.size := mv.2.1
          clear mv
          go_wp2_with fail
          refine hK.out _ _ K1 (fun hHeld => ?_)
          clear hK K
          try simp only [oR13_2, Act.put, List.setIfInBounds_toArray, List.set_cons_zero, List.set_cons_succ]
          refine wpAnyH_ready (rs := [4]) (by kernel_rfl) (by simp) ?_
          refine AllReadyH.cons (o := oR13_4) rfl (fun K hK => ?_) AllReadyH.nil
          unfold oR13_4
          go_simp
          go_wp2_with fail
          refine (drawText w0 va c a len cap 8 hl (by omega) (unhide HC) (unhide Dva).m.1).mono ?_
          rintro e vb ⟨⟨y1, y10, rfl⟩, mv⟩
          have Dvb := hide ((unhide Dva).moved mv hc)
          have Nvb := hide (show Bc vb w.heap.size bn (.int .i64 n0) (.slice n1 n2 n3) from row_only (show Bc va w.heap.size bn (.int .i64 n0) (.slice n1 n2 n3) from (unhide Nva)) mv.2 hc)
          have K2 : vb.cell? ⟨bd, 0, none⟩ = some (.int .i64 x.room) ∧ vb.cell? ⟨bd, 1, none⟩ = some (.slice x.a x.ps.length x.c) := ⟨(unhide Dvb).bx.c0, (unhide Dvb).bx.c1⟩
          have szvb : va.heap.size ≤ vb.heap.size := mv.2.1
          clear mv
          go_wp2_with fail
          refine hK.out _ _ K2 (fun hHeld => ?_)
          clear hK K
          try simp only [oR13_4, Act.put, List.setIfInBounds_toArray, List.set_cons_zero, List.set_cons_succ]
          refine wpAnyH_ready (rs := [5]) (by kernel_rfl) (by simp) ?_
          refine AllReadyH.cons (o := oR13_5) rfl (fun K hK => ?_) AllReadyH.nil
          unfold oR13_5
          go_simp
          go_wp2_with fail
          refine (SAppend14.sDiskAppend vb x y0 y1 (unhide Dvb).rd (unhide Dvb).sum (by omega)).mono ?_
          rintro e z ⟨y, hy, rfl, oy, bb⟩
          have RG := hide (show (appendD x.room x.ps y0 y1).2 ≠ 1 → OkD y.room y.ps from fun q => by
            have h := Okk14.rg_append (room := x.room) (ps := x.ps) y0 y1 (unhide Dvb).ok q
            rw [← hy] at h
            exact h)
          have DZ := hide ((unhide Dvb).below bb)
          have NZ := hide (Bc.below (unhide Nvb) bb (unhide Nvb).lt.2)
          have OY := hide (row_base oy (show w.heap.size ≤ vb.heap.size from by have := (unhide Dvb).rb.lt.2; omega))
          generalize (appendD x.room x.ps y0 y1).2 = code at *
          have KZ : z.cell? ⟨bd, 0, none⟩ = some (.int .i64 x.room) ∧ z.cell? ⟨bd, 1, none⟩ = some (.slice x.a x.ps.length x.c) := ⟨(unhide DZ).bx.c0, (unhide DZ).bx.c1⟩
          have q0 := (unhide NZ).c0
          have q1 := (unhide NZ).c1
          have t0 := (unhide NZ).free 0
          have t1 := (unhide NZ).free 1
          have st := grow_grow ((unhide NZ).set0 (.int .i64 y.room)).2 (bc_set1 ((unhide NZ).set0 (.int .i64 y.room)).1 (.slice y.a y.ps.length y.c)).2
          have NS := hide (bc_set1 ((unhide NZ).set0 (.int .i64 y.room)).1 (.slice y.a y.ps.length y.c)).1
          have nn := (unhide NZ).lt
          have bln := (unhide DZ).bx.lt.2
          have DS := hide ((unhide DZ).aside st hc hs (by omega) (by omega) (row_ne (unhide NZ) (unhide DZ).ow (by decide) rfl))
          have OS := hide (World.ownsRow.kept (unhide OY) st (.inr (row_ne (unhide NZ) (unhide OY) (by decide) rfl)))
          have KS : ((z.setCell ⟨bn, 0, none⟩ (.int .i64 y.room)).setCell ⟨bn, 1, none⟩ (.slice y.a y.ps.length y.c)).cell? ⟨bd, 0, none⟩ = some (.int .i64 x.room) ∧ ((z.setCell ⟨bn, 0, none⟩ (.int .i64 y.room)).setCell ⟨bn, 1, none⟩ (.slice y.a y.ps.length y.c)).cell? ⟨bd, 1, none⟩ = some (.slice x.a x.ps.length x.c) := ⟨(unhide DS).bx.c0, (unhide DS).bx.c1⟩
          clear st oy bb hy
          go_wp2_with fail
          refine hK.out _ _ KZ (fun hHeld => ?_)
          clear hK K
          try simp only [oR13_5, Act.put, List.setIfInBounds_toArray, List.set_cons_zero, List.set_cons_succ]
          refine wpAnyH_take (i := 6) (oi := oR13_6) (v := .tuple #[.agg #[.int .i64 y.room, .slice y.a y.ps.length y.c], .int .i64 code]) rfl (by kernel_rfl) (by kernel_rfl) (by kernel_rfl) (fun _ _ _ h => h) (Or.inl ⟨by rfl, fun w hSw => ?_⟩) hHeld ?_
          · (try dsimp only at hSw)
            unfold oR13_6
            go_simp
          try simp only [oR13_6, Act.put, List.setIfInBounds_toArray, List.set_cons_zero, List.set_cons_succ]
          refine wpAnyH_take (i := 7) (oi := oR13_7) (v := .agg #[.int .i64 y.room, .slice y.a y.ps.length y.c]) rfl (by kernel_rfl) (by kernel_rfl) (by kernel_rfl) (fun _ _ _ h => h) (Or.inl ⟨by rfl, fun w hSw => ?_⟩) hHeld ?_
          · (try dsimp only at hSw)
            unfold oR13_7
            go_simp
          try simp only [oR13_7, Act.put, List.setIfInBounds_toArray, List.set_cons_zero, List.set_cons_succ]
          refine wpAnyH_take (i := 8) (oi := oR13_8) (v := .int .i64 code) rfl (by kernel_rfl) (by kernel_rfl) (by kernel_rfl) (fun _ _ _ h => h) (Or.inl ⟨by rfl, fun w hSw => ?_⟩) hHeld ?_
          · (try dsimp only at hSw)
            unfold oR13_8
            go_simp
          try simp only [oR13_8, Act.put, List.setIfInBounds_toArray, List.set_cons_zero, List.set_cons_succ]
          refine wpAnyH_ready (rs := [9]) (by kernel_rfl) (by simp) ?_
          refine AllReadyH.cons (o := oR13_9) rfl (fun K hK => ?_) AllReadyH.nil
          unfold oR13_9
          go_simp
          refine hK.out _ _ KS (fun hHeld => ?_)
          clear hK K
          try simp only [oR13_9, Act.put, List.setIfInBounds_toArray, List.set_cons_zero, List.set_cons_succ]
          refine wpAnyH_take (i := 10) (oi := oR13_10) (v := .int .i64 code) rfl (by kernel_rfl) (by kernel_rfl) (by kernel_rfl) (fun _ _ _ h => h) (Or.inl ⟨by rfl, fun w hSw => ?_⟩) hHeld ?_
          · (try dsimp only at hSw)
            unfold oR13_10
            go_simp
          try simp only [oR13_10, Act.put, List.setIfInBounds_toArray, List.set_cons_zero, List.set_cons_succ]
          refine wpAnyH_done (by kernel_rfl) ?_ _
          clear K0 K1 K2 KZ KS q0 q1 t0 t1
          generalize ((z.setCell ⟨bn, 0, none⟩ (.int .i64 y.room)).setCell ⟨bn, 1, none⟩ (.slice y.a y.ps.length y.c)) = zz at *
          have p0 := (unhide NS).c0
          have p1 := (unhide NS).c1
          have d0 := (unhide DS).bx.c0
          have d1 := (unhide DS).bx.c1
          have e0 := (unhide DS).bx.free 0
          have e1 := (unhide DS).bx.free 1
          by_cases q : code = 1
          · have qb : (code != 1) = false := by simpa using q
            clear q
            go_wp2
            go_roundw
            case rel => exact ⟨k + 1, x, by go_num, by omega, DS⟩
            case measure => simp [intOf]; omega
          · have qb : (code != 1) = true := by simpa using q
            have DP := hide ((unhide DS).put hc hs (unhide OS) ((unhide RG) q))
            clear q
            go_wp2
            go_roundw
            case rel => exact ⟨k + 1, y, by go_num, by omega, DP⟩
            case measure => simp [intOf]; omega
        · have K0 : v.cell? ⟨bd, 0, none⟩ = some (.int .i64 x.room) ∧ v.cell? ⟨bd, 1, none⟩ = some (.slice x.a x.ps.length x.c) := ⟨(unhide DV).bx.c0, (unhide DV).bx.c1⟩
          go_wp2_with fail
          refine wp_region_held_drew (S := (fun w' => w'.cell? ⟨bd, 0, none⟩ = some (.int .i64 x.room) ∧ w'.cell? ⟨bd, 1, none⟩ = some (.slice x.a x.ps.length x.c))) (by kernel_rfl) K0 (fun hHeld => ?_)
          refine wpAnyH_take (i := 0) (oi := oR15_0) (v := .agg #[.int .i64 x.room, .slice x.a x.ps.length x.c]) rfl (by kernel_rfl) (by kernel_rfl) (by kernel_rfl) (fun _ _ _ h => h) (Or.inl ⟨by rfl, fun w hSw => ?_⟩) hHeld ?_
          · (try dsimp only at hSw)
            unfold oR15_0
            go_simp
          try simp only [oR15_0, Act.put, List.setIfInBounds_toArray, List.set_cons_zero, List.set_cons_succ]
          refine wpAnyH_take (i := 1) (oi := oR15_1) (v := .pointer (some ⟨c, 0, none⟩)) rfl (by kernel_rfl) (by kernel_rfl) (by kernel_rfl) (fun _ _ _ h => h) (Or.inl ⟨by rfl, fun w hSw => ?_⟩) hHeld ?_
          · (try dsimp only at hSw)
            unfold oR15_1
            go_simp
          try simp only [oR15_1, Act.put, List.setIfInBounds_toArray, List.set_cons_zero, List.set_cons_succ]
          refine wpAnyH_ready (rs := [2]) (by kernel_rfl) (by simp) ?_
          refine AllReadyH.cons (o := oR15_2) rfl (fun K hK => ?_) AllReadyH.nil
          unfold oR15_2
          go_simp
          go_wp2_with fail
          refine (below w0 v.drew c a len cap 5 hl (unhide HC) (unhide Dv).drew.m.1 (by omega)).mono ?_
          rintro e va ⟨⟨y0, y00, y01, rfl⟩, mv⟩
          have Dva := hide ((unhide Dv).drew.moved mv hc)
          have Nva := hide (show Bc va w.heap.size bn (.int .i64 n0) (.slice n1 n2 n3) from row_only (show Bc v.drew w.heap.size bn (.int .i64 n0) (.slice n1 n2 n3) from (unhide Nv)) mv.2 hc)
          have K1 : va.cell? ⟨bd, 0, none⟩ = some (.int .i64 x.room) ∧ va.cell? ⟨bd, 1, none⟩ = some (.slice x.a x.ps.length x.c) := ⟨(unhide Dva).bx.c0, (unhide Dva).bx.c1⟩
          have szva : v.heap.size ≤ va.heap.size := mv.2.1
          clear mv
          go_wp2_with fail
          refine hK.out _ _ K1 (fun hHeld => ?_)
          clear hK K
          try simp only [oR15_2, Act.put, List.setIfInBounds_toArray, List.set_cons_zero, List.set_cons_succ]
          refine wpAnyH_ready (rs := [3]) (by kernel_rfl) (by simp) ?_
          refine AllReadyH.cons (o := oR15_3) rfl (fun K hK => ?_) AllReadyH.nil
          unfold oR15_3
          go_simp
          go_wp2_with fail
          refine (SSync14.sDiskSync va x y0 (unhide Dva).rd (unhide Dva).sum).mono ?_
          rintro e z ⟨y, hy, rfl, oy, bb⟩
          have RG := hide (show (syncD x.room x.ps y0).2 ≠ 1 → OkD y.room y.ps from fun q => by
            have h := Okk14.rg_sync (room := x.room) (ps := x.ps) y0 (unhide Dva).ok q
            rw [← hy] at h
            exact h)
          have DZ := hide ((unhide Dva).below bb)
          have NZ := hide (Bc.below (unhide Nva) bb (unhide Nva).lt.2)
          have OY := hide (row_base oy (show w.heap.size ≤ va.heap.size from by have := (unhide Dva).rb.lt.2; omega))
          generalize (syncD x.room x.ps y0).2 = code at *
          have KZ : z.cell? ⟨bd, 0, none⟩ = some (.int .i64 x.room) ∧ z.cell? ⟨bd, 1, none⟩ = some (.slice x.a x.ps.length x.c) := ⟨(unhide DZ).bx.c0, (unhide DZ).bx.c1⟩
          have q0 := (unhide NZ).c0
          have q1 := (unhide NZ).c1
          have t0 := (unhide NZ).free 0
          have t1 := (unhide NZ).free 1
          have st := grow_grow ((unhide NZ).set0 (.int .i64 y.room)).2 (bc_set1 ((unhide NZ).set0 (.int .i64 y.room)).1 (.slice y.a y.ps.length y.c)).2
          have NS := hide (bc_set1 ((unhide NZ).set0 (.int .i64 y.room)).1 (.slice y.a y.ps.length y.c)).1
          have nn := (unhide NZ).lt
          have bln := (unhide DZ).bx.lt.2
          have DS := hide ((unhide DZ).aside st hc hs (by omega) (by omega) (row_ne (unhide NZ) (unhide DZ).ow (by decide) rfl))
          have OS := hide (World.ownsRow.kept (unhide OY) st (.inr (row_ne (unhide NZ) (unhide OY) (by decide) rfl)))
          have KS : ((z.setCell ⟨bn, 0, none⟩ (.int .i64 y.room)).setCell ⟨bn, 1, none⟩ (.slice y.a y.ps.length y.c)).cell? ⟨bd, 0, none⟩ = some (.int .i64 x.room) ∧ ((z.setCell ⟨bn, 0, none⟩ (.int .i64 y.room)).setCell ⟨bn, 1, none⟩ (.slice y.a y.ps.length y.c)).cell? ⟨bd, 1, none⟩ = some (.slice x.a x.ps.length x.c) := ⟨(unhide DS).bx.c0, (unhide DS).bx.c1⟩
          clear st oy bb hy
          go_wp2_with fail
          refine hK.out _ _ KZ (fun hHeld => ?_)
          clear hK K
          try simp only [oR15_3, Act.put, List.setIfInBounds_toArray, List.set_cons_zero, List.set_cons_succ]
          refine wpAnyH_take (i := 4) (oi := oR15_4) (v := .tuple #[.agg #[.int .i64 y.room, .slice y.a y.ps.length y.c], .int .i64 code]) rfl (by kernel_rfl) (by kernel_rfl) (by kernel_rfl) (fun _ _ _ h => h) (Or.inl ⟨by rfl, fun w hSw => ?_⟩) hHeld ?_
          · (try dsimp only at hSw)
            unfold oR15_4
            go_simp
          try simp only [oR15_4, Act.put, List.setIfInBounds_toArray, List.set_cons_zero, List.set_cons_succ]
          refine wpAnyH_take (i := 5) (oi := oR15_5) (v := .agg #[.int .i64 y.room, .slice y.a y.ps.length y.c]) rfl (by kernel_rfl) (by kernel_rfl) (by kernel_rfl) (fun _ _ _ h => h) (Or.inl ⟨by rfl, fun w hSw => ?_⟩) hHeld ?_
          · (try dsimp only at hSw)
            unfold oR15_5
            go_simp
          try simp only [oR15_5, Act.put, List.setIfInBounds_toArray, List.set_cons_zero, List.set_cons_succ]
          refine wpAnyH_take (i := 6) (oi := oR15_6) (v := .int .i64 code) rfl (by kernel_rfl) (by kernel_rfl) (by kernel_rfl) (fun _ _ _ h => h) (Or.inl ⟨by rfl, fun w hSw => ?_⟩) hHeld ?_
          · (try dsimp only at hSw)
            unfold oR15_6
            go_simp
          try simp only [oR15_6, Act.put, List.setIfInBounds_toArray, List.set_cons_zero, List.set_cons_succ]
          refine wpAnyH_ready (rs := [7]) (by kernel_rfl) (by simp) ?_
          refine AllReadyH.cons (o := oR15_7) rfl (fun K hK => ?_) AllReadyH.nil
          unfold oR15_7
          go_simp
          refine hK.out _ _ KS (fun hHeld => ?_)
          clear hK K
          try simp only [oR15_7, Act.put, List.setIfInBounds_toArray, List.set_cons_zero, List.set_cons_succ]
          refine wpAnyH_take (i := 8) (oi := oR15_8) (v := .int .i64 code) rfl (by kernel_rfl) (by kernel_rfl) (by kernel_rfl) (fun _ _ _ h => h) (Or.inl ⟨by rfl, fun w hSw => ?_⟩) hHeld ?_
          · (try dsimp only at hSw)
            unfold oR15_8
            go_simp
          try simp only [oR15_8, Act.put, List.setIfInBounds_toArray, List.set_cons_zero, List.set_cons_succ]
          refine wpAnyH_done (by kernel_rfl) ?_ _
          clear K0 K1 KZ KS q0 q1 t0 t1
          generalize ((z.setCell ⟨bn, 0, none⟩ (.int .i64 y.room)).setCell ⟨bn, 1, none⟩ (.slice y.a y.ps.length y.c)) = zz at *
          have p0 := (unhide NS).c0
          have p1 := (unhide NS).c1
          have d0 := (unhide DS).bx.c0
          have d1 := (unhide DS).bx.c1
          have e0 := (unhide DS).bx.free 0
          have e1 := (unhide DS).bx.free 1
          by_cases q : code = 1
          · have qb : (code != 1) = false := by simpa using q
            clear q
            go_wp2
            go_roundw
            case rel => exact ⟨k + 1, x, by go_num, by omega, DS⟩
            case measure => simp [intOf]; omega
          · have qb : (code != 1) = true := by simpa using q
            have DP := hide ((unhide DS).put hc hs (unhide OS) ((unhide RG) q))
            clear q
            go_wp2
            go_roundw
            case rel => exact ⟨k + 1, y, by go_num, by omega, DP⟩
            case measure => simp [intOf]; omega
        · have K0 : v.cell? ⟨bd, 0, none⟩ = some (.int .i64 x.room) ∧ v.cell? ⟨bd, 1, none⟩ = some (.slice x.a x.ps.length x.c) := ⟨(unhide DV).bx.c0, (unhide DV).bx.c1⟩
          go_wp2_with fail
          refine wp_region_held_drew (S := (fun w' => w'.cell? ⟨bd, 0, none⟩ = some (.int .i64 x.room) ∧ w'.cell? ⟨bd, 1, none⟩ = some (.slice x.a x.ps.length x.c))) (by kernel_rfl) K0 (fun hHeld => ?_)
          refine wpAnyH_take (i := 0) (oi := oR17_0) (v := .agg #[.int .i64 x.room, .slice x.a x.ps.length x.c]) rfl (by kernel_rfl) (by kernel_rfl) (by kernel_rfl) (fun _ _ _ h => h) (Or.inl ⟨by rfl, fun w hSw => ?_⟩) hHeld ?_
          · (try dsimp only at hSw)
            unfold oR17_0
            go_simp
          try simp only [oR17_0, Act.put, List.setIfInBounds_toArray, List.set_cons_zero, List.set_cons_succ]
          refine wpAnyH_take (i := 1) (oi := oR17_1) (v := .pointer (some ⟨c, 0, none⟩)) rfl (by kernel_rfl) (by kernel_rfl) (by kernel_rfl) (fun _ _ _ h => h) (Or.inl ⟨by rfl, fun w hSw => ?_⟩) hHeld ?_
          · (try dsimp only at hSw)
            unfold oR17_1
            go_simp
          try simp only [oR17_1, Act.put, List.setIfInBounds_toArray, List.set_cons_zero, List.set_cons_succ]
          refine wpAnyH_take (i := 3) (oi := oR17_3) (v := .pointer (some ⟨c, 0, none⟩)) rfl (by kernel_rfl) (by kernel_rfl) (by kernel_rfl) (fun _ _ _ h => h) (Or.inl ⟨by rfl, fun w hSw => ?_⟩) hHeld ?_
          · (try dsimp only at hSw)
            unfold oR17_3
            go_simp
          try simp only [oR17_3, Act.put, List.setIfInBounds_toArray, List.set_cons_zero, List.set_cons_succ]
          refine wpAnyH_ready (rs := [2]) (by kernel_rfl) (by simp) ?_
          refine AllReadyH.cons (o := oR17_2) rfl (fun K hK => ?_) AllReadyH.nil
          unfold oR17_2
          go_simp
          go_wp2_with fail
          refine (below w0 v.drew c a len cap 5 hl (unhide HC) (unhide Dv).drew.m.1 (by omega)).mono ?_
          rintro e va ⟨⟨y0, y00, y01, rfl⟩, mv⟩
          have Dva := hide ((unhide Dv).drew.moved mv hc)
          have Nva := hide (show Bc va w.heap.size bn (.int .i64 n0) (.slice n1 n2 n3) from row_only (show Bc v.drew w.heap.size bn (.int .i64 n0) (.slice n1 n2 n3) from (unhide Nv)) mv.2 hc)
          have K1 : va.cell? ⟨bd, 0, none⟩ = some (.int .i64 x.room) ∧ va.cell? ⟨bd, 1, none⟩ = some (.slice x.a x.ps.length x.c) := ⟨(unhide Dva).bx.c0, (unhide Dva).bx.c1⟩
          have szva : v.heap.size ≤ va.heap.size := mv.2.1
          clear mv
          go_wp2_with fail
          refine hK.out _ _ K1 (fun hHeld => ?_)
          clear hK K
          try simp only [oR17_2, Act.put, List.setIfInBounds_toArray, List.set_cons_zero, List.set_cons_succ]
          refine wpAnyH_ready (rs := [4]) (by kernel_rfl) (by simp) ?_
          refine AllReadyH.cons (o := oR17_4) rfl (fun K hK => ?_) AllReadyH.nil
          unfold oR17_4
          go_simp
          go_wp2_with fail
          refine (below w0 va c a len cap 22 hl (unhide HC) (unhide Dva).m.1 (by omega)).mono ?_
          rintro e vb ⟨⟨y1, y10, y11, rfl⟩, mv⟩
          have Dvb := hide ((unhide Dva).moved mv hc)
          have Nvb := hide (show Bc vb w.heap.size bn (.int .i64 n0) (.slice n1 n2 n3) from row_only (show Bc va w.heap.size bn (.int .i64 n0) (.slice n1 n2 n3) from (unhide Nva)) mv.2 hc)
          have K2 : vb.cell? ⟨bd, 0, none⟩ = some (.int .i64 x.room) ∧ vb.cell? ⟨bd, 1, none⟩ = some (.slice x.a x.ps.length x.c) := ⟨(unhide Dvb).bx.c0, (unhide Dvb).bx.c1⟩
          have szvb : va.heap.size ≤ vb.heap.size := mv.2.1
          clear mv
          go_wp2_with fail
          refine hK.out _ _ K2 (fun hHeld => ?_)
          clear hK K
          try simp only [oR17_4, Act.put, List.setIfInBounds_toArray, List.set_cons_zero, List.set_cons_succ]
          refine wpAnyH_ready (rs := [5]) (by kernel_rfl) (by simp) ?_
          refine AllReadyH.cons (o := oR17_5) rfl (fun K hK => ?_) AllReadyH.nil
          unfold oR17_5
          go_simp
          go_wp2_with fail
          refine (SMove14.sDiskMove vb x y0 y1 (unhide Dvb).rd (unhide Dvb).sum).mono ?_
          rintro e z ⟨y, hy, rfl, oy, bb⟩
          have RG := hide (show (moveD x.room x.ps y0 y1).2 ≠ 1 → OkD y.room y.ps from fun q => by
            have h := Okk14.rg_move (room := x.room) (ps := x.ps) y0 y1 (unhide Dvb).ok q
            rw [← hy] at h
            exact h)
          have DZ := hide ((unhide Dvb).below bb)
          have NZ := hide (Bc.below (unhide Nvb) bb (unhide Nvb).lt.2)
          have OY := hide (row_base oy (show w.heap.size ≤ vb.heap.size from by have := (unhide Dvb).rb.lt.2; omega))
          generalize (moveD x.room x.ps y0 y1).2 = code at *
          have KZ : z.cell? ⟨bd, 0, none⟩ = some (.int .i64 x.room) ∧ z.cell? ⟨bd, 1, none⟩ = some (.slice x.a x.ps.length x.c) := ⟨(unhide DZ).bx.c0, (unhide DZ).bx.c1⟩
          have q0 := (unhide NZ).c0
          have q1 := (unhide NZ).c1
          have t0 := (unhide NZ).free 0
          have t1 := (unhide NZ).free 1
          have st := grow_grow ((unhide NZ).set0 (.int .i64 y.room)).2 (bc_set1 ((unhide NZ).set0 (.int .i64 y.room)).1 (.slice y.a y.ps.length y.c)).2
          have NS := hide (bc_set1 ((unhide NZ).set0 (.int .i64 y.room)).1 (.slice y.a y.ps.length y.c)).1
          have nn := (unhide NZ).lt
          have bln := (unhide DZ).bx.lt.2
          have DS := hide ((unhide DZ).aside st hc hs (by omega) (by omega) (row_ne (unhide NZ) (unhide DZ).ow (by decide) rfl))
          have OS := hide (World.ownsRow.kept (unhide OY) st (.inr (row_ne (unhide NZ) (unhide OY) (by decide) rfl)))
          have KS : ((z.setCell ⟨bn, 0, none⟩ (.int .i64 y.room)).setCell ⟨bn, 1, none⟩ (.slice y.a y.ps.length y.c)).cell? ⟨bd, 0, none⟩ = some (.int .i64 x.room) ∧ ((z.setCell ⟨bn, 0, none⟩ (.int .i64 y.room)).setCell ⟨bn, 1, none⟩ (.slice y.a y.ps.length y.c)).cell? ⟨bd, 1, none⟩ = some (.slice x.a x.ps.length x.c) := ⟨(unhide DS).bx.c0, (unhide DS).bx.c1⟩
          clear st oy bb hy
          go_wp2_with fail
          refine hK.out _ _ KZ (fun hHeld => ?_)
          clear hK K
          try simp only [oR17_5, Act.put, List.setIfInBounds_toArray, List.set_cons_zero, List.set_cons_succ]
          refine wpAnyH_take (i := 6) (oi := oR17_6) (v := .tuple #[.agg #[.int .i64 y.room, .slice y.a y.ps.length y.c], .int .i64 code]) rfl (by kernel_rfl) (by kernel_rfl) (by kernel_rfl) (fun _ _ _ h => h) (Or.inl ⟨by rfl, fun w hSw => ?_⟩) hHeld ?_
          · (try dsimp only at hSw)
            unfold oR17_6
            go_simp
          try simp only [oR17_6, Act.put, List.setIfInBounds_toArray, List.set_cons_zero, List.set_cons_succ]
          refine wpAnyH_take (i := 7) (oi := oR17_7) (v := .agg #[.int .i64 y.room, .slice y.a y.ps.length y.c]) rfl (by kernel_rfl) (by kernel_rfl) (by kernel_rfl) (fun _ _ _ h => h) (Or.inl ⟨by rfl, fun w hSw => ?_⟩) hHeld ?_
          · (try dsimp only at hSw)
            unfold oR17_7
            go_simp
          try simp only [oR17_7, Act.put, List.setIfInBounds_toArray, List.set_cons_zero, List.set_cons_succ]
          refine wpAnyH_take (i := 8) (oi := oR17_8) (v := .int .i64 code) rfl (by kernel_rfl) (by kernel_rfl) (by kernel_rfl) (fun _ _ _ h => h) (Or.inl ⟨by rfl, fun w hSw => ?_⟩) hHeld ?_
          · (try dsimp only at hSw)
            unfold oR17_8
            go_simp
          try simp only [oR17_8, Act.put, List.setIfInBounds_toArray, List.set_cons_zero, List.set_cons_succ]
          refine wpAnyH_ready (rs := [9]) (by kernel_rfl) (by simp) ?_
          refine AllReadyH.cons (o := oR17_9) rfl (fun K hK => ?_) AllReadyH.nil
          unfold oR17_9
          go_simp
          refine hK.out _ _ KS (fun hHeld => ?_)
          clear hK K
          try simp only [oR17_9, Act.put, List.setIfInBounds_toArray, List.set_cons_zero, List.set_cons_succ]
          refine wpAnyH_take (i := 10) (oi := oR17_10) (v := .int .i64 code) rfl (by kernel_rfl) (by kernel_rfl) (by kernel_rfl) (fun _ _ _ h => h) (Or.inl ⟨by rfl, fun w hSw => ?_⟩) hHeld ?_
          · (try dsimp only at hSw)
            unfold oR17_10
            go_simp
          try simp only [oR17_10, Act.put, List.setIfInBounds_toArray, List.set_cons_zero, List.set_cons_succ]
          refine wpAnyH_done (by kernel_rfl) ?_ _
          clear K0 K1 K2 KZ KS q0 q1 t0 t1
          generalize ((z.setCell ⟨bn, 0, none⟩ (.int .i64 y.room)).setCell ⟨bn, 1, none⟩ (.slice y.a y.ps.length y.c)) = zz at *
          have p0 := (unhide NS).c0
          have p1 := (unhide NS).c1
          have d0 := (unhide DS).bx.c0
          have d1 := (unhide DS).bx.c1
          have e0 := (unhide DS).bx.free 0
          have e1 := (unhide DS).bx.free 1
          by_cases q : code = 1
          · have qb : (code != 1) = false := by simpa using q
            clear q
            go_wp2
            go_roundw
            case rel => exact ⟨k + 1, x, by go_num, by omega, DS⟩
            case measure => simp [intOf]; omega
          · have qb : (code != 1) = true := by simpa using q
            have DP := hide ((unhide DS).put hc hs (unhide OS) ((unhide RG) q))
            clear q
            go_wp2
            go_roundw
            case rel => exact ⟨k + 1, y, by go_num, by omega, DP⟩
            case measure => simp [intOf]; omega
        · have K0 : v.cell? ⟨bd, 0, none⟩ = some (.int .i64 x.room) ∧ v.cell? ⟨bd, 1, none⟩ = some (.slice x.a x.ps.length x.c) := ⟨(unhide DV).bx.c0, (unhide DV).bx.c1⟩
          go_wp2_with fail
          refine wp_region_held_drew (S := (fun w' => w'.cell? ⟨bd, 0, none⟩ = some (.int .i64 x.room) ∧ w'.cell? ⟨bd, 1, none⟩ = some (.slice x.a x.ps.length x.c))) (by kernel_rfl) K0 (fun hHeld => ?_)
          refine wpAnyH_take (i := 0) (oi := oR9_0) (v := .agg #[.int .i64 x.room, .slice x.a x.ps.length x.c]) rfl (by kernel_rfl) (by kernel_rfl) (by kernel_rfl) (fun _ _ _ h => h) (Or.inl ⟨by rfl, fun w hSw => ?_⟩) hHeld ?_
          · (try dsimp only at hSw)
            unfold oR9_0
            go_simp
          try simp only [oR9_0, Act.put, List.setIfInBounds_toArray, List.set_cons_zero, List.set_cons_succ]
          refine wpAnyH_take (i := 1) (oi := oR9_1) (v := .pointer (some ⟨c, 0, none⟩)) rfl (by kernel_rfl) (by kernel_rfl) (by kernel_rfl) (fun _ _ _ h => h) (Or.inl ⟨by rfl, fun w hSw => ?_⟩) hHeld ?_
          · (try dsimp only at hSw)
            unfold oR9_1
            go_simp
          try simp only [oR9_1, Act.put, List.setIfInBounds_toArray, List.set_cons_zero, List.set_cons_succ]
          refine wpAnyH_ready (rs := [2]) (by kernel_rfl) (by simp) ?_
          refine AllReadyH.cons (o := oR9_2) rfl (fun K hK => ?_) AllReadyH.nil
          unfold oR9_2
          go_simp
          go_wp2_with fail
          refine (below w0 v.drew c a len cap 9 hl (unhide HC) (unhide Dv).drew.m.1 (by omega)).mono ?_
          rintro e va ⟨⟨y0, y00, y01, rfl⟩, mv⟩
          have Dva := hide ((unhide Dv).drew.moved mv hc)
          have Nva := hide (show Bc va w.heap.size bn (.int .i64 n0) (.slice n1 n2 n3) from row_only (show Bc v.drew w.heap.size bn (.int .i64 n0) (.slice n1 n2 n3) from (unhide Nv)) mv.2 hc)
          have K1 : va.cell? ⟨bd, 0, none⟩ = some (.int .i64 x.room) ∧ va.cell? ⟨bd, 1, none⟩ = some (.slice x.a x.ps.length x.c) := ⟨(unhide Dva).bx.c0, (unhide Dva).bx.c1⟩
          have szva : v.heap.size ≤ va.heap.size := mv.2.1
          clear mv
          go_wp2_with fail
          refine hK.out _ _ K1 (fun hHeld => ?_)
          clear hK K
          try simp only [oR9_2, Act.put, List.setIfInBounds_toArray, List.set_cons_zero, List.set_cons_succ]
          refine wpAnyH_ready (rs := [3]) (by kernel_rfl) (by simp) ?_
          refine AllReadyH.cons (o := oR9_3) rfl (fun K hK => ?_) AllReadyH.nil
          unfold oR9_3
          go_simp
          go_wp2_with fail
          refine (SDrop14.sDiskDrop va x y0 (unhide Dva).rd (unhide Dva).sum).mono ?_
          rintro e z ⟨y, hy, rfl, oy, bb⟩
          have RG := hide (show (dropD x.room x.ps y0).2 ≠ 1 → OkD y.room y.ps from fun q => by
            have h := Okk14.rg_drop (room := x.room) (ps := x.ps) y0 (unhide Dva).ok q
            rw [← hy] at h
            exact h)
          have DZ := hide ((unhide Dva).below bb)
          have NZ := hide (Bc.below (unhide Nva) bb (unhide Nva).lt.2)
          have OY := hide (row_base oy (show w.heap.size ≤ va.heap.size from by have := (unhide Dva).rb.lt.2; omega))
          generalize (dropD x.room x.ps y0).2 = code at *
          have KZ : z.cell? ⟨bd, 0, none⟩ = some (.int .i64 x.room) ∧ z.cell? ⟨bd, 1, none⟩ = some (.slice x.a x.ps.length x.c) := ⟨(unhide DZ).bx.c0, (unhide DZ).bx.c1⟩
          have q0 := (unhide NZ).c0
          have q1 := (unhide NZ).c1
          have t0 := (unhide NZ).free 0
          have t1 := (unhide NZ).free 1
          have st := grow_grow ((unhide NZ).set0 (.int .i64 y.room)).2 (bc_set1 ((unhide NZ).set0 (.int .i64 y.room)).1 (.slice y.a y.ps.length y.c)).2
          have NS := hide (bc_set1 ((unhide NZ).set0 (.int .i64 y.room)).1 (.slice y.a y.ps.length y.c)).1
          have nn := (unhide NZ).lt
          have bln := (unhide DZ).bx.lt.2
          have DS := hide ((unhide DZ).aside st hc hs (by omega) (by omega) (row_ne (unhide NZ) (unhide DZ).ow (by decide) rfl))
          have OS := hide (World.ownsRow.kept (unhide OY) st (.inr (row_ne (unhide NZ) (unhide OY) (by decide) rfl)))
          have KS : ((z.setCell ⟨bn, 0, none⟩ (.int .i64 y.room)).setCell ⟨bn, 1, none⟩ (.slice y.a y.ps.length y.c)).cell? ⟨bd, 0, none⟩ = some (.int .i64 x.room) ∧ ((z.setCell ⟨bn, 0, none⟩ (.int .i64 y.room)).setCell ⟨bn, 1, none⟩ (.slice y.a y.ps.length y.c)).cell? ⟨bd, 1, none⟩ = some (.slice x.a x.ps.length x.c) := ⟨(unhide DS).bx.c0, (unhide DS).bx.c1⟩
          clear st oy bb hy
          go_wp2_with fail
          refine hK.out _ _ KZ (fun hHeld => ?_)
          clear hK K
          try simp only [oR9_3, Act.put, List.setIfInBounds_toArray, List.set_cons_zero, List.set_cons_succ]
          refine wpAnyH_take (i := 4) (oi := oR9_4) (v := .tuple #[.agg #[.int .i64 y.room, .slice y.a y.ps.length y.c], .int .i64 code]) rfl (by kernel_rfl) (by kernel_rfl) (by kernel_rfl) (fun _ _ _ h => h) (Or.inl ⟨by rfl, fun w hSw => ?_⟩) hHeld ?_
          · (try dsimp only at hSw)
            unfold oR9_4
            go_simp
          try simp only [oR9_4, Act.put, List.setIfInBounds_toArray, List.set_cons_zero, List.set_cons_succ]
          refine wpAnyH_take (i := 5) (oi := oR9_5) (v := .agg #[.int .i64 y.room, .slice y.a y.ps.length y.c]) rfl (by kernel_rfl) (by kernel_rfl) (by kernel_rfl) (fun _ _ _ h => h) (Or.inl ⟨by rfl, fun w hSw => ?_⟩) hHeld ?_
          · (try dsimp only at hSw)
            unfold oR9_5
            go_simp
          try simp only [oR9_5, Act.put, List.setIfInBounds_toArray, List.set_cons_zero, List.set_cons_succ]
          refine wpAnyH_take (i := 6) (oi := oR9_6) (v := .int .i64 code) rfl (by kernel_rfl) (by kernel_rfl) (by kernel_rfl) (fun _ _ _ h => h) (Or.inl ⟨by rfl, fun w hSw => ?_⟩) hHeld ?_
          · (try dsimp only at hSw)
            unfold oR9_6
            go_simp
          try simp only [oR9_6, Act.put, List.setIfInBounds_toArray, List.set_cons_zero, List.set_cons_succ]
          refine wpAnyH_ready (rs := [7]) (by kernel_rfl) (by simp) ?_
          refine AllReadyH.cons (o := oR9_7) rfl (fun K hK => ?_) AllReadyH.nil
          unfold oR9_7
          go_simp
          refine hK.out _ _ KS (fun hHeld => ?_)
          clear hK K
          try simp only [oR9_7, Act.put, List.setIfInBounds_toArray, List.set_cons_zero, List.set_cons_succ]
          refine wpAnyH_take (i := 8) (oi := oR9_8) (v := .int .i64 code) rfl (by kernel_rfl) (by kernel_rfl) (by kernel_rfl) (fun _ _ _ h => h) (Or.inl ⟨by rfl, fun w hSw => ?_⟩) hHeld ?_
          · (try dsimp only at hSw)
            unfold oR9_8
            go_simp
          try simp only [oR9_8, Act.put, List.setIfInBounds_toArray, List.set_cons_zero, List.set_cons_succ]
          refine wpAnyH_done (by kernel_rfl) ?_ _
          clear K0 K1 KZ KS q0 q1 t0 t1
          generalize ((z.setCell ⟨bn, 0, none⟩ (.int .i64 y.room)).setCell ⟨bn, 1, none⟩ (.slice y.a y.ps.length y.c)) = zz at *
          have p0 := (unhide NS).c0
          have p1 := (unhide NS).c1
          have d0 := (unhide DS).bx.c0
          have d1 := (unhide DS).bx.c1
          have e0 := (unhide DS).bx.free 0
          have e1 := (unhide DS).bx.free 1
          by_cases q : code = 1
          · have qb : (code != 1) = false := by simpa using q
            clear q
            go_wp2
            go_roundw
            case rel => exact ⟨k + 1, x, by go_num, by omega, DS⟩
            case measure => simp [intOf]; omega
          · have qb : (code != 1) = true := by simpa using q
            have DP := hide ((unhide DS).put hc hs (unhide OS) ((unhide RG) q))
            clear q
            go_wp2
            go_roundw
            case rel => exact ⟨k + 1, y, by go_num, by omega, DP⟩
            case measure => simp [intOf]; omega
      · have qb : ¬ (k : Int) < y := q
        have b0 := (unhide D7).bx.c0
        have b1 := (unhide D7).bx.c1
        have r0 := (unhide D7).rb.c0
        have r1 := (unhide D7).rb.c1
        have f0 := (unhide D7).rb.free 0
        have f1 := (unhide D7).rb.free 1
        have s0 := (unhide D7).rb.set0 (.int .i64 x.room)
        have s1 := bc_set1 s0.1 (.slice x.a x.ps.length x.c)
        have ST := hide (grow_grow s0.2 s1.2)
        have EM := hide (moved_grown (unhide D7).m (unhide ST) hc (Nat.le_refl _) hs)
        have EO := hide (World.ownsRow.kept (unhide D7).ow (unhide ST) (.inr (row_ne (unhide D7).rb (unhide D7).ow (by decide) rfl)))
        have OK := hide (unhide D7).ok
        clear s0 s1
        go_wp2
        refine bodyPost_ret (v := .agg #[.int .i64 x.room, .slice x.a x.ps.length x.c]) (by simp [results, Try.results81, go_sem, r0, r1]) rfl ⟨x, unhide OK, rfl, unhide EO, unhide EM⟩
end Go.Proofs.Ytcajdiopgaoicaa.DrawR14
namespace Go.Proofs.Ytcajdiopgaoicaa.DrawD14
open Go.ChangeShapes Go.WideShapes Go.ChangeAt Go.RowKit Draw Draw11 DrawS11 DrawT14 DrawR14
open Fil14 (TF elF flatF)
open DiskH14 (sumZ one_more)
open DkH14 (Dx RdD OwD Bc row_step)
open SOk14 (OkD okN)
open App14 (row_base row_kept kcell grow_grow step_app litm flat_1)
open SLess14 (bc_set1)
/-- A disk that is not great. -/
def Sm (y : Dx) : Prop := y.ps.length ≤ 23 ∧ sumZ y.ps ≤ 60000
/-- A world in which a disk is being drawn. -/
structure Dv (w0 w W : World) (c bd : Nat) (a : Option Addr) (len cap : Nat) (x : Dx) : Prop where
  m : Moved w0 w W c a len cap
  bx : Bc W w.heap.size bd (.int .i64 x.room) (.slice x.a x.ps.length x.c)
  ow : OwD W w.heap.size x
  sm : Sm x
  rb : Bc W w.heap.size w.heap.size (.int .i64 0) (.slice none 0 0)
  ne : bd ≠ w.heap.size
section
variable {w0 w W W' : World} {c bd : Nat} {a : Option Addr} {len cap : Nat} {x : Dx}
theorem Dv.below (h : Dv w0 w W c bd a len cap x) (k : Below W.heap.size W W') : Dv w0 w W' c bd a len cap x :=
  ⟨moved_below h.m k, h.bx.below k h.bx.lt.2, h.ow.step k, h.sm, h.rb.below k h.rb.lt.2, h.ne⟩
theorem Dv.moved (h : Dv w0 w W c bd a len cap x) (k : Moved w0 W W' c a len cap) (hc : c < w.heap.size) : Dv w0 w W' c bd a len cap x :=
  ⟨h.m.trans k, row_only h.bx k.2 hc, row_only h.ow k.2 hc, h.sm, row_only h.rb k.2 hc, h.ne⟩
theorem Dv.drew (h : Dv w0 w W c bd a len cap x) : Dv w0 w W.drew c bd a len cap x := h.below (Below.refl _ _).drew
end
theorem sm_ok {y : Dx} (h : OkD y.room y.ps) : Sm y ∧ y.ps.length ≤ 22 := by
  have := h.1
  have := h.2.1
  have := h.2.2.1
  exact ⟨⟨by omega, by omega⟩, h.2.1⟩
abbrev oQ0 : Oper := { dst := some 16, op := Go.Op.fieldAddr 26 (Go.Operand.tmp 3) 1, type := 0, pos := "l14_disk.go:200", after := #[], guard := none }
abbrev oQ1 : Oper := { dst := some 17, op := Go.Op.load 24 (Go.Operand.tmp 16), type := 24, pos := "l14_disk.go:200", after := #[{ on := 0, ground := Go.Ground.data }], guard := none }
abbrev oQ2 : Oper := { dst := some 18, op := Go.Op.move (Go.Operand.tmp 0), type := 55, pos := "l14_disk.go:200", after := #[], guard := none }
abbrev oQ3 : Oper := { dst := some 19, op := Go.Op.buildSlice 37 4 #[(0, Go.Operand.const (Go.Value.int Go.IntKind.i64 (-1))), (1, Go.Operand.const (Go.Value.int Go.IntKind.i64 0)), (2, Go.Operand.const (Go.Value.int Go.IntKind.i64 22)), (3, Go.Operand.const (Go.Value.int Go.IntKind.i64 21))], type := 37, pos := "l14_disk.go:200", after := #[], guard := none }
abbrev oQ4 : Oper := { dst := some 20, op := Go.Op.call { callee := Go.Callee.value (Go.Operand.func 65), args := #[Go.Operand.tmp 18, Go.Operand.tmp 19], argTypes := #[55, 37] }, type := 3, pos := "l14_disk.go:200", after := #[{ on := 2, ground := Go.Ground.data }, { on := 3, ground := Go.Ground.data }], guard := none }
abbrev oQ5 : Oper := { dst := some 21, op := Go.Op.build 54 #[(0, Go.Operand.tmp 20)], type := 54, pos := "l14_disk.go:200", after := #[{ on := 4, ground := Go.Ground.data }], guard := none }
abbrev oQ6 : Oper := { dst := some 22, op := Go.Op.buildSlice 24 1 #[(0, Go.Operand.tmp 21)], type := 24, pos := "l14_disk.go:200", after := #[{ on := 5, ground := Go.Ground.data }], guard := none }
abbrev oQ7 : Oper := { dst := some 23, op := Go.Op.call { callee := Go.Callee.builtin Go.Builtin.append, args := #[Go.Operand.tmp 17, Go.Operand.tmp 22], argTypes := #[24, 24] }, type := 24, pos := "l14_disk.go:200", after := #[{ on := 1, ground := Go.Ground.data }, { on := 6, ground := Go.Ground.data }, { on := 4, ground := Go.Ground.chain }], guard := none }
abbrev oQ8 : Oper := { dst := some 24, op := Go.Op.fieldAddr 26 (Go.Operand.tmp 3) 1, type := 0, pos := "l14_disk.go:200", after := #[{ on := 0, ground := Go.Ground.phase }, { on := 1, ground := Go.Ground.phase }, { on := 2, ground := Go.Ground.phase }, { on := 3, ground := Go.Ground.phase }, { on := 4, ground := Go.Ground.phase }, { on := 5, ground := Go.Ground.phase }, { on := 6, ground := Go.Ground.phase }, { on := 7, ground := Go.Ground.phase }], guard := none }
abbrev oQ9 : Oper := { dst := none, op := Go.Op.store 24 (Go.Operand.tmp 24) (Go.Operand.tmp 23), type := 0, pos := "l14_disk.go:200", after := #[{ on := 8, ground := Go.Ground.data }, { on := 7, ground := Go.Ground.data }, { on := 7, ground := Go.Ground.chain }, { on := 0, ground := Go.Ground.phase }, { on := 1, ground := Go.Ground.phase }, { on := 2, ground := Go.Ground.phase }, { on := 3, ground := Go.Ground.phase }, { on := 4, ground := Go.Ground.phase }, { on := 5, ground := Go.Ground.phase }, { on := 6, ground := Go.Ground.phase }, { on := 7, ground := Go.Ground.phase }], guard := none }
theorem moved_row {w0 w u v : World} {c : Nat} {a : Option Addr} {len cap : Nat} {row : Option Nat} (h : Moved w0 w u c a len cap) (k : u.grownBy v row) (hc : c < w.heap.size) (hg : ∀ g, row = some g → w.heap.size ≤ g) (h0 : w0.heap.size ≤ w.heap.size) : Moved w0 w v c a len cap := by
  cases row with
  | none => exact moved_below h ⟨k.os, k.tape, k.output, k.size, fun i hi => k.block i hi (by simp)⟩
  | some g => exact moved_grown h k hc (hg g rfl) h0
set_option maxRecDepth 100000 in
set_option maxHeartbeats 8000000 in
theorem drawDisk (w0 w : World) (c : Nat) (a : Option Addr) (len cap : Nat) (hl : len ≤ 1048576) (hcode : CodeAt w0 a len) (h : Cur w0 w c a len cap) :
    Calls Try.prog 68 #[.pointer (some ⟨c, 0, none⟩)] w fun e w' => ∃ y : Dx, Sm y ∧ e = .returned (.agg #[.int .i64 y.room, .slice y.a y.ps.length y.c]) ∧ OwD w' w.heap.size y ∧ Moved w0 w w' c a len cap := by
  have HC := hide hcode
  have hc := h.hi
  have hs := h.bel.size
  have M1 := hide (moved_alloc (moved_start h) #[.int .i64 0, .slice none 0 0] 26)
  have R1 := hide (show Bc (w.alloc (.cells #[.int .i64 0, .slice none 0 0] 26)) w.heap.size w.heap.size (.int .i64 0) (.slice none 0 0) from Bc.made _ _ (Nat.le_refl _) rfl)
  clear hcode h
  go_enter Try.func68, Try.ntmps68
  go_wp2_with fail
  refine (drawRight w0 _ c a len cap hl (unhide HC) (unhide M1).1).mono ?_
  rintro e u1 ⟨y, ok, rfl, oy, mv⟩
  have M2 := hide ((unhide M1).trans mv)
  have R2 := hide (show Bc u1 w.heap.size w.heap.size (.int .i64 0) (.slice none 0 0) from row_only (unhide R1) mv.2 hc)
  have OY := hide (row_base oy (show w.heap.size ≤ (w.alloc (.cells #[.int .i64 0, .slice none 0 0] 26)).heap.size by simp))
  obtain ⟨sm, y22⟩ := sm_ok ok
  clear mv oy M1 R1
  have rl := (unhide R2).lt.2
  have D1 := hide (show Dv w0 w (u1.alloc (.cells #[.int .i64 y.room, .slice y.a y.ps.length y.c] 26)) c u1.heap.size a len cap y from
    ⟨moved_alloc (unhide M2) _ _, Bc.made _ _ (Nat.le_of_lt rl) rfl, row_step (unhide OY) (one_more _ _), sm, Bc.below (unhide R2) (one_more _ _) rl, by omega⟩)
  have nb := (unhide D1).ne
  clear M2 R2 OY
  go_wp2_with fail
  refine (below w0 _ c a len cap 25 hl (unhide HC) (unhide D1).m.1 (by omega)).mono ?_
  rintro e v ⟨⟨sw, sw0, sw1, rfl⟩, mv⟩
  have D2 := hide ((unhide D1).moved mv hc)
  clear mv D1
  generalize u1.heap.size = bd at *
  have vh := (unhide D2).m.1.hi
  have b0 := (unhide D2).bx.c0
  have b1 := (unhide D2).bx.c1
  have f0 := (unhide D2).bx.free 0
  have f1 := (unhide D2).bx.free 1
  have bl := (unhide D2).bx.lt.2
  · skip
    by_cases q0 : sw = 0
    · have qb : (sw == 0) = true := by simpa using q0
      have D3 := hide ((unhide D2).below (one_more v (.cells #[.int .i64 (-1), .int .i64 0, .int .i64 60001, .int .i64 3] 3)))
      subst q0
      go_wp2_with fail
      refine (pick w0 _ c a len cap v.heap.size 4 (of4 (-1) 0 60001 3) hl (unhide HC) (unhide D3).m.1 (by omega) (by omega) (by simp) (by omega) (fun j hj => of4_cells v _ (-1) 0 60001 3 j hj)).mono ?_
      rintro e u3 ⟨⟨j, hj, rfl⟩, mv⟩
      have D4 := hide ((unhide D3).moved mv hc)
      clear mv hj D3
      generalize of4 (-1) 0 60001 3 j = rm at *
      have d0 := (unhide D4).bx.c0
      have e0 := (unhide D4).bx.free 0
      have s0 := (unhide D4).bx.set0 (.int .i64 rm)
      have D5 := hide (show Dv w0 w (u3.setCell ⟨bd, 0, none⟩ (.int .i64 rm)) c bd a len cap ⟨rm, y.a, y.c, y.ps⟩ from
        ⟨moved_grown (unhide D4).m s0.2 hc (unhide D4).bx.lt.1 hs, s0.1, World.ownsRow.kept (unhide D4).ow s0.2 (.inr (row_ne (unhide D4).bx (unhide D4).ow (by decide) rfl)), sm, (unhide D4).rb.kept s0.2 (by have := nb; simpa using this.symm), nb⟩)
      clear s0 b0 b1 f0 f1
      have b1 := (unhide D4).bx.c1
      have r0 := (unhide D4).rb.c0
      have r1 := (unhide D4).rb.c1
      have f0 := (unhide D4).rb.free 0
      have f1 := (unhide D4).rb.free 1
      have t0 := (unhide D5).rb.set0 (.int .i64 rm)
      have t1 := bc_set1 t0.1 (.slice y.a y.ps.length y.c)
      have ST := hide (grow_grow t0.2 t1.2)
      have EM := hide (moved_grown (unhide D5).m (unhide ST) hc (Nat.le_refl _) hs)
      have EO := hide (show OwD (((u3.setCell ⟨bd, 0, none⟩ (.int .i64 rm)).setCell ⟨w.heap.size, 0, none⟩ (.int .i64 rm)).setCell ⟨w.heap.size, 1, none⟩ (.slice y.a y.ps.length y.c)) w.heap.size ⟨rm, y.a, y.c, y.ps⟩ from World.ownsRow.kept (unhide D5).ow (unhide ST) (.inr (row_ne (unhide D5).rb (unhide D5).ow (by decide) rfl)))
      have q0 := t0.1.c0
      have q1 := t1.1.c1
      have q2 := t1.1.c0
      have nb2 : w.heap.size ≠ bd := fun e => nb e.symm
      clear t0 t1
      go_wp2
      refine bodyPost_ret (v := .agg #[.int .i64 rm, .slice y.a y.ps.length y.c]) (by simp [results, Try.results68, go_sem, q1, q2]) rfl ⟨⟨rm, y.a, y.c, y.ps⟩, sm, rfl, unhide EO, unhide EM⟩
    · have qb : (sw == 0) = false := by simpa using q0
      clear q0
      by_cases q1 : sw = 1
      · have qc : (sw == 1) = true := by simpa using q1
        have DA := hide ((unhide D2).drew.below (one_more v.drew (.cells #[.int .i64 (-1), .int .i64 0, .int .i64 22, .int .i64 21] 3)))
        have bcD : v.drew.cell? ⟨bd, 1, none⟩ = some (.slice y.a y.ps.length y.c) := b1
        have bcA : (v.alloc (.cells #[.int .i64 (-1), .int .i64 0, .int .i64 22, .int .i64 21] 3)).cell? ⟨bd, 1, none⟩ = some (.slice y.a y.ps.length y.c) := ((one_more v (.cells #[.int .i64 (-1), .int .i64 0, .int .i64 22, .int .i64 21] 3)).cell (p := ⟨bd, 1, none⟩) bl).trans b1
        subst q1
        go_wp2_with fail
        refine wp_region_held_drew (S := (fun _ => True)) (by kernel_rfl) trivial (fun hHeld => ?_)
        refine wpAnyH_take (i := 0) (oi := oQ0) (v := .pointer (some ⟨bd, 1, none⟩)) rfl (by kernel_rfl) (by kernel_rfl) (by kernel_rfl) (fun _ _ _ h => h) (Or.inl ⟨by rfl, fun w hSw => ?_⟩) hHeld ?_
        · (try dsimp only at hSw)
          unfold oQ0
          go_simp
        try simp only [oQ0, Act.put, List.setIfInBounds_toArray, List.set_cons_zero, List.set_cons_succ]
        refine wpAnyH_take (i := 2) (oi := oQ2) (v := .pointer (some ⟨c, 0, none⟩)) rfl (by kernel_rfl) (by kernel_rfl) (by kernel_rfl) (fun _ _ _ h => h) (Or.inl ⟨by rfl, fun w hSw => ?_⟩) hHeld ?_
        · (try dsimp only at hSw)
          unfold oQ2
          go_simp
        try simp only [oQ2, Act.put, List.setIfInBounds_toArray, List.set_cons_zero, List.set_cons_succ]
        refine wpAnyH_ready (rs := [1, 3]) (by kernel_rfl) (by simp) ?_
        refine AllReadyH.cons (o := oQ1) rfl (fun K hK => ?_) (AllReadyH.cons (o := oQ3) rfl (fun K hK => ?_) AllReadyH.nil)
        · unfold oQ1
          go_simp
          refine hK.out _ _ trivial (fun hHeld => ?_)
          clear hK K
          try simp only [oQ1, Act.put, List.setIfInBounds_toArray, List.set_cons_zero, List.set_cons_succ]
          refine wpAnyH_ready (rs := [3]) (by kernel_rfl) (by simp) ?_
          refine AllReadyH.cons (o := oQ3) rfl (fun K hK => ?_) AllReadyH.nil
          unfold oQ3
          go_simp
          refine hK.out _ _ trivial (fun hHeld => ?_)
          clear hK K
          try simp only [oQ3, Act.put, List.setIfInBounds_toArray, List.set_cons_zero, List.set_cons_succ]
          refine wpAnyH_ready (rs := [4]) (by kernel_rfl) (by simp) ?_
          refine AllReadyH.cons (o := oQ4) rfl (fun K hK => ?_) AllReadyH.nil
          unfold oQ4
          go_simp
          go_wp2_with fail
          refine (pick w0 (v.drew.alloc (.cells #[.int .i64 (-1), .int .i64 0, .int .i64 22, .int .i64 21] 3)) c a len cap v.drew.heap.size 4 (of4 (-1) 0 22 21) hl (unhide HC) (unhide DA).m.1 (by omega) (by omega) (by simp) (show v.heap.size ≠ c by omega) (fun j hj => of4_cells v.drew _ (-1) 0 22 21 j hj)).mono ?_
          rintro e u ⟨⟨j, hj, rfl⟩, mv⟩
          have DU := hide ((unhide DA).moved mv hc)
          generalize of4 (-1) 0 22 21 j = nm at *
          have bcU := (unhide DU).bx.c1
          have bcB : (u.alloc (.cells #[.int .i64 nm, .string ⟨#[]⟩, .string ⟨#[]⟩] 54)).cell? ⟨bd, 1, none⟩ = some (.slice y.a y.ps.length y.c) := ((one_more u (.cells #[.int .i64 nm, .string ⟨#[]⟩, .string ⟨#[]⟩] 54)).cell (p := ⟨bd, 1, none⟩) (unhide DU).bx.lt.2).trans bcU
          clear mv hj
          go_wp2_with fail
          refine hK.out _ _ trivial (fun hHeld => ?_)
          clear hK K
          try simp only [oQ4, Act.put, List.setIfInBounds_toArray, List.set_cons_zero, List.set_cons_succ]
          refine wpAnyH_take (i := 5) (oi := oQ5) (v := .agg #[.int .i64 nm, .string ⟨#[]⟩, .string ⟨#[]⟩]) rfl (by kernel_rfl) (by kernel_rfl) (by kernel_rfl) (fun _ _ _ h => h) (Or.inl ⟨by rfl, fun w hSw => ?_⟩) hHeld ?_
          · (try dsimp only at hSw)
            unfold oQ5
            go_simp
          try simp only [oQ5, Act.put, List.setIfInBounds_toArray, List.set_cons_zero, List.set_cons_succ]
          refine wpAnyH_ready (rs := [6]) (by kernel_rfl) (by simp) ?_
          refine AllReadyH.cons (o := oQ6) rfl (fun K hK => ?_) AllReadyH.nil
          unfold oQ6
          go_simp
          refine hK.out _ _ trivial (fun hHeld => ?_)
          clear hK K
          try simp only [oQ6, Act.put, List.setIfInBounds_toArray, List.set_cons_zero, List.set_cons_succ]
          refine wpAnyH_ready (rs := [7]) (by kernel_rfl) (by simp) ?_
          refine AllReadyH.cons (o := oQ7) rfl (fun K hK => ?_) AllReadyH.nil
          refine step_app (u.alloc (.cells #[.int .i64 nm, .string ⟨#[]⟩, .string ⟨#[]⟩] 54)) (by rfl) _ _ 24 54 (by rfl) (.agg #[.int .i64 0, .string ByteArray.empty, .string ByteArray.empty]) 3 40 Try.underlying24 HelpF14.info2 rfl (by decide) (by decide) w.heap.size (.slice y.a y.ps.length y.c) y.ps.length (flatF y.ps) u.heap.size [.int .i64 nm, .string ⟨#[]⟩, .string ⟨#[]⟩] (by rfl) (by rfl) (row_step (W := u) (unhide DU).ow (one_more u (.cells #[.int .i64 nm, .string ⟨#[]⟩, .string ⟨#[]⟩] 54))) rfl (litm u _ _ _ (by rfl)) (by simp [Value.oneCell']) (by omega) (Nat.le_trans (Nat.le_of_lt (unhide DU).rb.lt.2) (by simp)) ?_
          intro g9 c9 u9 o9 gr9
          have DB := hide ((unhide DU).below (one_more u (.cells #[.int .i64 nm, .string ⟨#[]⟩, .string ⟨#[]⟩] 54)))
          have NB : (.slice y.a y.ps.length y.c : Value).ownBlock ≠ some bd := row_ne (unhide DB).bx (unhide DB).ow (by decide) rfl
          have NR : (.slice y.a y.ps.length y.c : Value).ownBlock ≠ some w.heap.size := row_ne (unhide DB).rb (unhide DB).ow (by decide) rfl
          have LB : ∀ g, (.slice y.a y.ps.length y.c : Value).ownBlock = some g → w.heap.size ≤ g := fun g e => (World.ownsRow.lt (unhide DB).ow g e).1
          have M9 := hide (moved_row (unhide DB).m gr9 hc LB hs)
          have B9 := hide ((unhide DB).bx.kept gr9 (Ne.symm NB))
          have R9 := hide ((unhide DB).rb.kept gr9 (Ne.symm NR))
          have O9 := hide o9
          have bc9 := (unhide B9).c1
          have fr9 := (unhide B9).free 1
          clear o9 NB NR LB
          refine hK.out _ _ trivial (fun hHeld => ?_)
          clear hK K
          try simp only [oQ7, Act.put, List.setIfInBounds_toArray, List.set_cons_zero, List.set_cons_succ]
          refine wpAnyH_take (i := 8) (oi := oQ8) (v := .pointer (some ⟨bd, 1, none⟩)) rfl (by kernel_rfl) (by kernel_rfl) (by kernel_rfl) (fun _ _ _ h => h) (Or.inl ⟨by rfl, fun w hSw => ?_⟩) hHeld ?_
          · (try dsimp only at hSw)
            unfold oQ8
            go_simp
          try simp only [oQ8, Act.put, List.setIfInBounds_toArray, List.set_cons_zero, List.set_cons_succ]
          refine wpAnyH_ready (rs := [9]) (by kernel_rfl) (by simp) ?_
          refine AllReadyH.cons (o := oQ9) rfl (fun K hK => ?_) AllReadyH.nil
          unfold oQ9
          go_simp
          refine hK.out _ _ trivial (fun hHeld => ?_)
          clear hK K
          try simp only [oQ9, Act.put, List.setIfInBounds_toArray, List.set_cons_zero, List.set_cons_succ]
          refine wpAnyH_done (by kernel_rfl) ?_ _
          have s1 := bc_set1 (unhide B9) (.slice (some ⟨g9, 0, none⟩) (y.ps.length + 1) c9)
          have y4 : (y.ps ++ [(nm, (⟨#[]⟩ : ByteArray), (⟨#[]⟩ : ByteArray))]).length = y.ps.length + 1 := by simp
          have NB9 : (Value.slice (some ⟨g9, 0, none⟩) (y.ps.length + 1) c9).ownBlock ≠ some bd := row_ne (unhide B9) (unhide O9) (by decide) rfl
          have D9 := hide (show Dv w0 w (u9.setCell ⟨bd, 1, none⟩ (.slice (some ⟨g9, 0, none⟩) (y.ps.length + 1) c9)) c bd a len cap ⟨y.room, some ⟨g9, 0, none⟩, c9, y.ps ++ [(nm, ⟨#[]⟩, ⟨#[]⟩)]⟩ from
            ⟨moved_grown (unhide M9) s1.2 hc (unhide B9).lt.1 hs, by show Bc _ _ _ _ (.slice _ (y.ps ++ _).length _); rw [y4]; exact s1.1, by
              have o := World.ownsRow.kept (unhide O9) s1.2 (.inr NB9)
              unfold OwD
              simp only [y4]
              rw [flat_1]
              exact o, ⟨by show (y.ps ++ _).length ≤ 23; rw [y4]; omega, by show sumZ (y.ps ++ _) ≤ 60000; rw [DiskH14.sumZ_append]; exact sm.2⟩, (unhide R9).kept s1.2 (by have := nb; simpa using this.symm), nb⟩)
          clear s1 NB9 bc9 fr9 bcU bcB bcD bcA b0 b1 f0 f1
          obtain ⟨X, hX⟩ : ∃ X : Dx, X = ⟨y.room, some ⟨g9, 0, none⟩, c9, y.ps ++ [(nm, ⟨#[]⟩, ⟨#[]⟩)]⟩ := ⟨_, rfl⟩
          rw [← hX] at D9
          clear hX
          generalize u9.setCell ⟨bd, 1, none⟩ (.slice (some ⟨g9, 0, none⟩) (y.ps.length + 1) c9) = vv at *
          have D7 := D9
          have b0 := (unhide D7).bx.c0
          have b1 := (unhide D7).bx.c1
          have r0 := (unhide D7).rb.c0
          have r1 := (unhide D7).rb.c1
          have f0 := (unhide D7).rb.free 0
          have f1 := (unhide D7).rb.free 1
          have s0 := (unhide D7).rb.set0 (.int .i64 X.room)
          have s1 := bc_set1 s0.1 (.slice X.a X.ps.length X.c)
          have ST := hide (grow_grow s0.2 s1.2)
          have EM := hide (moved_grown (unhide D7).m (unhide ST) hc (Nat.le_refl _) hs)
          have EO := hide (World.ownsRow.kept (unhide D7).ow (unhide ST) (.inr (row_ne (unhide D7).rb (unhide D7).ow (by decide) rfl)))
          have SM := hide (unhide D7).sm
          clear s0 s1
          go_wp2
          refine bodyPost_ret (v := .agg #[.int .i64 X.room, .slice X.a X.ps.length X.c]) (by simp [results, Try.results68, go_sem, r0, r1]) rfl ⟨X, unhide SM, rfl, unhide EO, unhide EM⟩
        · unfold oQ3
          go_simp
          refine hK.out _ _ trivial (fun hHeld => ?_)
          clear hK K
          try simp only [oQ3, Act.put, List.setIfInBounds_toArray, List.set_cons_zero, List.set_cons_succ]
          refine wpAnyH_ready (rs := [1, 4]) (by kernel_rfl) (by simp) ?_
          refine AllReadyH.cons (o := oQ1) rfl (fun K hK => ?_) (AllReadyH.cons (o := oQ4) rfl (fun K hK => ?_) AllReadyH.nil)
          · unfold oQ1
            go_simp
            refine hK.out _ _ trivial (fun hHeld => ?_)
            clear hK K
            try simp only [oQ1, Act.put, List.setIfInBounds_toArray, List.set_cons_zero, List.set_cons_succ]
            refine wpAnyH_ready (rs := [4]) (by kernel_rfl) (by simp) ?_
            refine AllReadyH.cons (o := oQ4) rfl (fun K hK => ?_) AllReadyH.nil
            unfold oQ4
            go_simp
            go_wp2_with fail
            refine (pick w0 (v.drew.alloc (.cells #[.int .i64 (-1), .int .i64 0, .int .i64 22, .int .i64 21] 3)) c a len cap v.drew.heap.size 4 (of4 (-1) 0 22 21) hl (unhide HC) (unhide DA).m.1 (by omega) (by omega) (by simp) (show v.heap.size ≠ c by omega) (fun j hj => of4_cells v.drew _ (-1) 0 22 21 j hj)).mono ?_
            rintro e u ⟨⟨j, hj, rfl⟩, mv⟩
            have DU := hide ((unhide DA).moved mv hc)
            generalize of4 (-1) 0 22 21 j = nm at *
            have bcU := (unhide DU).bx.c1
            have bcB : (u.alloc (.cells #[.int .i64 nm, .string ⟨#[]⟩, .string ⟨#[]⟩] 54)).cell? ⟨bd, 1, none⟩ = some (.slice y.a y.ps.length y.c) := ((one_more u (.cells #[.int .i64 nm, .string ⟨#[]⟩, .string ⟨#[]⟩] 54)).cell (p := ⟨bd, 1, none⟩) (unhide DU).bx.lt.2).trans bcU
            clear mv hj
            go_wp2_with fail
            refine hK.out _ _ trivial (fun hHeld => ?_)
            clear hK K
            try simp only [oQ4, Act.put, List.setIfInBounds_toArray, List.set_cons_zero, List.set_cons_succ]
            refine wpAnyH_take (i := 5) (oi := oQ5) (v := .agg #[.int .i64 nm, .string ⟨#[]⟩, .string ⟨#[]⟩]) rfl (by kernel_rfl) (by kernel_rfl) (by kernel_rfl) (fun _ _ _ h => h) (Or.inl ⟨by rfl, fun w hSw => ?_⟩) hHeld ?_
            · (try dsimp only at hSw)
              unfold oQ5
              go_simp
            try simp only [oQ5, Act.put, List.setIfInBounds_toArray, List.set_cons_zero, List.set_cons_succ]
            refine wpAnyH_ready (rs := [6]) (by kernel_rfl) (by simp) ?_
            refine AllReadyH.cons (o := oQ6) rfl (fun K hK => ?_) AllReadyH.nil
            unfold oQ6
            go_simp
            refine hK.out _ _ trivial (fun hHeld => ?_)
            clear hK K
            try simp only [oQ6, Act.put, List.setIfInBounds_toArray, List.set_cons_zero, List.set_cons_succ]
            refine wpAnyH_ready (rs := [7]) (by kernel_rfl) (by simp) ?_
            refine AllReadyH.cons (o := oQ7) rfl (fun K hK => ?_) AllReadyH.nil
            refine step_app (u.alloc (.cells #[.int .i64 nm, .string ⟨#[]⟩, .string ⟨#[]⟩] 54)) (by rfl) _ _ 24 54 (by rfl) (.agg #[.int .i64 0, .string ByteArray.empty, .string ByteArray.empty]) 3 40 Try.underlying24 HelpF14.info2 rfl (by decide) (by decide) w.heap.size (.slice y.a y.ps.length y.c) y.ps.length (flatF y.ps) u.heap.size [.int .i64 nm, .string ⟨#[]⟩, .string ⟨#[]⟩] (by rfl) (by rfl) (row_step (W := u) (unhide DU).ow (one_more u (.cells #[.int .i64 nm, .string ⟨#[]⟩, .string ⟨#[]⟩] 54))) rfl (litm u _ _ _ (by rfl)) (by simp [Value.oneCell']) (by omega) (Nat.le_trans (Nat.le_of_lt (unhide DU).rb.lt.2) (by simp)) ?_
            intro g9 c9 u9 o9 gr9
            have DB := hide ((unhide DU).below (one_more u (.cells #[.int .i64 nm, .string ⟨#[]⟩, .string ⟨#[]⟩] 54)))
            have NB : (.slice y.a y.ps.length y.c : Value).ownBlock ≠ some bd := row_ne (unhide DB).bx (unhide DB).ow (by decide) rfl
            have NR : (.slice y.a y.ps.length y.c : Value).ownBlock ≠ some w.heap.size := row_ne (unhide DB).rb (unhide DB).ow (by decide) rfl
            have LB : ∀ g, (.slice y.a y.ps.length y.c : Value).ownBlock = some g → w.heap.size ≤ g := fun g e => (World.ownsRow.lt (unhide DB).ow g e).1
            have M9 := hide (moved_row (unhide DB).m gr9 hc LB hs)
            have B9 := hide ((unhide DB).bx.kept gr9 (Ne.symm NB))
            have R9 := hide ((unhide DB).rb.kept gr9 (Ne.symm NR))
            have O9 := hide o9
            have bc9 := (unhide B9).c1
            have fr9 := (unhide B9).free 1
            clear o9 NB NR LB
            refine hK.out _ _ trivial (fun hHeld => ?_)
            clear hK K
            try simp only [oQ7, Act.put, List.setIfInBounds_toArray, List.set_cons_zero, List.set_cons_succ]
            refine wpAnyH_take (i := 8) (oi := oQ8) (v := .pointer (some ⟨bd, 1, none⟩)) rfl (by kernel_rfl) (by kernel_rfl) (by kernel_rfl) (fun _ _ _ h => h) (Or.inl ⟨by rfl, fun w hSw => ?_⟩) hHeld ?_
            · (try dsimp only at hSw)
              unfold oQ8
              go_simp
            try simp only [oQ8, Act.put, List.setIfInBounds_toArray, List.set_cons_zero, List.set_cons_succ]
            refine wpAnyH_ready (rs := [9]) (by kernel_rfl) (by simp) ?_
            refine AllReadyH.cons (o := oQ9) rfl (fun K hK => ?_) AllReadyH.nil
            unfold oQ9
            go_simp
            refine hK.out _ _ trivial (fun hHeld => ?_)
            clear hK K
            try simp only [oQ9, Act.put, List.setIfInBounds_toArray, List.set_cons_zero, List.set_cons_succ]
            refine wpAnyH_done (by kernel_rfl) ?_ _
            have s1 := bc_set1 (unhide B9) (.slice (some ⟨g9, 0, none⟩) (y.ps.length + 1) c9)
            have y4 : (y.ps ++ [(nm, (⟨#[]⟩ : ByteArray), (⟨#[]⟩ : ByteArray))]).length = y.ps.length + 1 := by simp
            have NB9 : (Value.slice (some ⟨g9, 0, none⟩) (y.ps.length + 1) c9).ownBlock ≠ some bd := row_ne (unhide B9) (unhide O9) (by decide) rfl
            have D9 := hide (show Dv w0 w (u9.setCell ⟨bd, 1, none⟩ (.slice (some ⟨g9, 0, none⟩) (y.ps.length + 1) c9)) c bd a len cap ⟨y.room, some ⟨g9, 0, none⟩, c9, y.ps ++ [(nm, ⟨#[]⟩, ⟨#[]⟩)]⟩ from
              ⟨moved_grown (unhide M9) s1.2 hc (unhide B9).lt.1 hs, by show Bc _ _ _ _ (.slice _ (y.ps ++ _).length _); rw [y4]; exact s1.1, by
                have o := World.ownsRow.kept (unhide O9) s1.2 (.inr NB9)
                unfold OwD
                simp only [y4]
                rw [flat_1]
                exact o, ⟨by show (y.ps ++ _).length ≤ 23; rw [y4]; omega, by show sumZ (y.ps ++ _) ≤ 60000; rw [DiskH14.sumZ_append]; exact sm.2⟩, (unhide R9).kept s1.2 (by have := nb; simpa using this.symm), nb⟩)
            clear s1 NB9 bc9 fr9 bcU bcB bcD bcA b0 b1 f0 f1
            obtain ⟨X, hX⟩ : ∃ X : Dx, X = ⟨y.room, some ⟨g9, 0, none⟩, c9, y.ps ++ [(nm, ⟨#[]⟩, ⟨#[]⟩)]⟩ := ⟨_, rfl⟩
            rw [← hX] at D9
            clear hX
            generalize u9.setCell ⟨bd, 1, none⟩ (.slice (some ⟨g9, 0, none⟩) (y.ps.length + 1) c9) = vv at *
            have D7 := D9
            have b0 := (unhide D7).bx.c0
            have b1 := (unhide D7).bx.c1
            have r0 := (unhide D7).rb.c0
            have r1 := (unhide D7).rb.c1
            have f0 := (unhide D7).rb.free 0
            have f1 := (unhide D7).rb.free 1
            have s0 := (unhide D7).rb.set0 (.int .i64 X.room)
            have s1 := bc_set1 s0.1 (.slice X.a X.ps.length X.c)
            have ST := hide (grow_grow s0.2 s1.2)
            have EM := hide (moved_grown (unhide D7).m (unhide ST) hc (Nat.le_refl _) hs)
            have EO := hide (World.ownsRow.kept (unhide D7).ow (unhide ST) (.inr (row_ne (unhide D7).rb (unhide D7).ow (by decide) rfl)))
            have SM := hide (unhide D7).sm
            clear s0 s1
            go_wp2
            refine bodyPost_ret (v := .agg #[.int .i64 X.room, .slice X.a X.ps.length X.c]) (by simp [results, Try.results68, go_sem, r0, r1]) rfl ⟨X, unhide SM, rfl, unhide EO, unhide EM⟩
          · unfold oQ4
            go_simp
            go_wp2_with fail
            refine (pick w0 (v.drew.alloc (.cells #[.int .i64 (-1), .int .i64 0, .int .i64 22, .int .i64 21] 3)) c a len cap v.drew.heap.size 4 (of4 (-1) 0 22 21) hl (unhide HC) (unhide DA).m.1 (by omega) (by omega) (by simp) (show v.heap.size ≠ c by omega) (fun j hj => of4_cells v.drew _ (-1) 0 22 21 j hj)).mono ?_
            rintro e u ⟨⟨j, hj, rfl⟩, mv⟩
            have DU := hide ((unhide DA).moved mv hc)
            generalize of4 (-1) 0 22 21 j = nm at *
            have bcU := (unhide DU).bx.c1
            have bcB : (u.alloc (.cells #[.int .i64 nm, .string ⟨#[]⟩, .string ⟨#[]⟩] 54)).cell? ⟨bd, 1, none⟩ = some (.slice y.a y.ps.length y.c) := ((one_more u (.cells #[.int .i64 nm, .string ⟨#[]⟩, .string ⟨#[]⟩] 54)).cell (p := ⟨bd, 1, none⟩) (unhide DU).bx.lt.2).trans bcU
            clear mv hj
            go_wp2_with fail
            refine hK.out _ _ trivial (fun hHeld => ?_)
            clear hK K
            try simp only [oQ4, Act.put, List.setIfInBounds_toArray, List.set_cons_zero, List.set_cons_succ]
            refine wpAnyH_take (i := 5) (oi := oQ5) (v := .agg #[.int .i64 nm, .string ⟨#[]⟩, .string ⟨#[]⟩]) rfl (by kernel_rfl) (by kernel_rfl) (by kernel_rfl) (fun _ _ _ h => h) (Or.inl ⟨by rfl, fun w hSw => ?_⟩) hHeld ?_
            · (try dsimp only at hSw)
              unfold oQ5
              go_simp
            try simp only [oQ5, Act.put, List.setIfInBounds_toArray, List.set_cons_zero, List.set_cons_succ]
            refine wpAnyH_ready (rs := [1, 6]) (by kernel_rfl) (by simp) ?_
            refine AllReadyH.cons (o := oQ1) rfl (fun K hK => ?_) (AllReadyH.cons (o := oQ6) rfl (fun K hK => ?_) AllReadyH.nil)
            · unfold oQ1
              go_simp
              refine hK.out _ _ trivial (fun hHeld => ?_)
              clear hK K
              try simp only [oQ1, Act.put, List.setIfInBounds_toArray, List.set_cons_zero, List.set_cons_succ]
              refine wpAnyH_ready (rs := [6]) (by kernel_rfl) (by simp) ?_
              refine AllReadyH.cons (o := oQ6) rfl (fun K hK => ?_) AllReadyH.nil
              unfold oQ6
              go_simp
              refine hK.out _ _ trivial (fun hHeld => ?_)
              clear hK K
              try simp only [oQ6, Act.put, List.setIfInBounds_toArray, List.set_cons_zero, List.set_cons_succ]
              refine wpAnyH_ready (rs := [7]) (by kernel_rfl) (by simp) ?_
              refine AllReadyH.cons (o := oQ7) rfl (fun K hK => ?_) AllReadyH.nil
              refine step_app (u.alloc (.cells #[.int .i64 nm, .string ⟨#[]⟩, .string ⟨#[]⟩] 54)) (by rfl) _ _ 24 54 (by rfl) (.agg #[.int .i64 0, .string ByteArray.empty, .string ByteArray.empty]) 3 40 Try.underlying24 HelpF14.info2 rfl (by decide) (by decide) w.heap.size (.slice y.a y.ps.length y.c) y.ps.length (flatF y.ps) u.heap.size [.int .i64 nm, .string ⟨#[]⟩, .string ⟨#[]⟩] (by rfl) (by rfl) (row_step (W := u) (unhide DU).ow (one_more u (.cells #[.int .i64 nm, .string ⟨#[]⟩, .string ⟨#[]⟩] 54))) rfl (litm u _ _ _ (by rfl)) (by simp [Value.oneCell']) (by omega) (Nat.le_trans (Nat.le_of_lt (unhide DU).rb.lt.2) (by simp)) ?_
              intro g9 c9 u9 o9 gr9
              have DB := hide ((unhide DU).below (one_more u (.cells #[.int .i64 nm, .string ⟨#[]⟩, .string ⟨#[]⟩] 54)))
              have NB : (.slice y.a y.ps.length y.c : Value).ownBlock ≠ some bd := row_ne (unhide DB).bx (unhide DB).ow (by decide) rfl
              have NR : (.slice y.a y.ps.length y.c : Value).ownBlock ≠ some w.heap.size := row_ne (unhide DB).rb (unhide DB).ow (by decide) rfl
              have LB : ∀ g, (.slice y.a y.ps.length y.c : Value).ownBlock = some g → w.heap.size ≤ g := fun g e => (World.ownsRow.lt (unhide DB).ow g e).1
              have M9 := hide (moved_row (unhide DB).m gr9 hc LB hs)
              have B9 := hide ((unhide DB).bx.kept gr9 (Ne.symm NB))
              have R9 := hide ((unhide DB).rb.kept gr9 (Ne.symm NR))
              have O9 := hide o9
              have bc9 := (unhide B9).c1
              have fr9 := (unhide B9).free 1
              clear o9 NB NR LB
              refine hK.out _ _ trivial (fun hHeld => ?_)
              clear hK K
              try simp only [oQ7, Act.put, List.setIfInBounds_toArray, List.set_cons_zero, List.set_cons_succ]
              refine wpAnyH_take (i := 8) (oi := oQ8) (v := .pointer (some ⟨bd, 1, none⟩)) rfl (by kernel_rfl) (by kernel_rfl) (by kernel_rfl) (fun _ _ _ h => h) (Or.inl ⟨by rfl, fun w hSw => ?_⟩) hHeld ?_
              · (try dsimp only at hSw)
                unfold oQ8
                go_simp
              try simp only [oQ8, Act.put, List.setIfInBounds_toArray, List.set_cons_zero, List.set_cons_succ]
              refine wpAnyH_ready (rs := [9]) (by kernel_rfl) (by simp) ?_
              refine AllReadyH.cons (o := oQ9) rfl (fun K hK => ?_) AllReadyH.nil
              unfold oQ9
              go_simp
              refine hK.out _ _ trivial (fun hHeld => ?_)
              clear hK K
              try simp only [oQ9, Act.put, List.setIfInBounds_toArray, List.set_cons_zero, List.set_cons_succ]
              refine wpAnyH_done (by kernel_rfl) ?_ _
              have s1 := bc_set1 (unhide B9) (.slice (some ⟨g9, 0, none⟩) (y.ps.length + 1) c9)
              have y4 : (y.ps ++ [(nm, (⟨#[]⟩ : ByteArray), (⟨#[]⟩ : ByteArray))]).length = y.ps.length + 1 := by simp
              have NB9 : (Value.slice (some ⟨g9, 0, none⟩) (y.ps.length + 1) c9).ownBlock ≠ some bd := row_ne (unhide B9) (unhide O9) (by decide) rfl
              have D9 := hide (show Dv w0 w (u9.setCell ⟨bd, 1, none⟩ (.slice (some ⟨g9, 0, none⟩) (y.ps.length + 1) c9)) c bd a len cap ⟨y.room, some ⟨g9, 0, none⟩, c9, y.ps ++ [(nm, ⟨#[]⟩, ⟨#[]⟩)]⟩ from
                ⟨moved_grown (unhide M9) s1.2 hc (unhide B9).lt.1 hs, by show Bc _ _ _ _ (.slice _ (y.ps ++ _).length _); rw [y4]; exact s1.1, by
                  have o := World.ownsRow.kept (unhide O9) s1.2 (.inr NB9)
                  unfold OwD
                  simp only [y4]
                  rw [flat_1]
                  exact o, ⟨by show (y.ps ++ _).length ≤ 23; rw [y4]; omega, by show sumZ (y.ps ++ _) ≤ 60000; rw [DiskH14.sumZ_append]; exact sm.2⟩, (unhide R9).kept s1.2 (by have := nb; simpa using this.symm), nb⟩)
              clear s1 NB9 bc9 fr9 bcU bcB bcD bcA b0 b1 f0 f1
              obtain ⟨X, hX⟩ : ∃ X : Dx, X = ⟨y.room, some ⟨g9, 0, none⟩, c9, y.ps ++ [(nm, ⟨#[]⟩, ⟨#[]⟩)]⟩ := ⟨_, rfl⟩
              rw [← hX] at D9
              clear hX
              generalize u9.setCell ⟨bd, 1, none⟩ (.slice (some ⟨g9, 0, none⟩) (y.ps.length + 1) c9) = vv at *
              have D7 := D9
              have b0 := (unhide D7).bx.c0
              have b1 := (unhide D7).bx.c1
              have r0 := (unhide D7).rb.c0
              have r1 := (unhide D7).rb.c1
              have f0 := (unhide D7).rb.free 0
              have f1 := (unhide D7).rb.free 1
              have s0 := (unhide D7).rb.set0 (.int .i64 X.room)
              have s1 := bc_set1 s0.1 (.slice X.a X.ps.length X.c)
              have ST := hide (grow_grow s0.2 s1.2)
              have EM := hide (moved_grown (unhide D7).m (unhide ST) hc (Nat.le_refl _) hs)
              have EO := hide (World.ownsRow.kept (unhide D7).ow (unhide ST) (.inr (row_ne (unhide D7).rb (unhide D7).ow (by decide) rfl)))
              have SM := hide (unhide D7).sm
              clear s0 s1
              go_wp2
              refine bodyPost_ret (v := .agg #[.int .i64 X.room, .slice X.a X.ps.length X.c]) (by simp [results, Try.results68, go_sem, r0, r1]) rfl ⟨X, unhide SM, rfl, unhide EO, unhide EM⟩
            · unfold oQ6
              go_simp
              refine hK.out _ _ trivial (fun hHeld => ?_)
              clear hK K
              try simp only [oQ6, Act.put, List.setIfInBounds_toArray, List.set_cons_zero, List.set_cons_succ]
              refine wpAnyH_ready (rs := [1]) (by kernel_rfl) (by simp) ?_
              refine AllReadyH.cons (o := oQ1) rfl (fun K hK => ?_) AllReadyH.nil
              unfold oQ1
              go_simp
              refine hK.out _ _ trivial (fun hHeld => ?_)
              clear hK K
              try simp only [oQ1, Act.put, List.setIfInBounds_toArray, List.set_cons_zero, List.set_cons_succ]
              refine wpAnyH_ready (rs := [7]) (by kernel_rfl) (by simp) ?_
              refine AllReadyH.cons (o := oQ7) rfl (fun K hK => ?_) AllReadyH.nil
              refine step_app (u.alloc (.cells #[.int .i64 nm, .string ⟨#[]⟩, .string ⟨#[]⟩] 54)) (by rfl) _ _ 24 54 (by rfl) (.agg #[.int .i64 0, .string ByteArray.empty, .string ByteArray.empty]) 3 40 Try.underlying24 HelpF14.info2 rfl (by decide) (by decide) w.heap.size (.slice y.a y.ps.length y.c) y.ps.length (flatF y.ps) u.heap.size [.int .i64 nm, .string ⟨#[]⟩, .string ⟨#[]⟩] (by rfl) (by rfl) (row_step (W := u) (unhide DU).ow (one_more u (.cells #[.int .i64 nm, .string ⟨#[]⟩, .string ⟨#[]⟩] 54))) rfl (litm u _ _ _ (by rfl)) (by simp [Value.oneCell']) (by omega) (Nat.le_trans (Nat.le_of_lt (unhide DU).rb.lt.2) (by simp)) ?_
              intro g9 c9 u9 o9 gr9
              have DB := hide ((unhide DU).below (one_more u (.cells #[.int .i64 nm, .string ⟨#[]⟩, .string ⟨#[]⟩] 54)))
              have NB : (.slice y.a y.ps.length y.c : Value).ownBlock ≠ some bd := row_ne (unhide DB).bx (unhide DB).ow (by decide) rfl
              have NR : (.slice y.a y.ps.length y.c : Value).ownBlock ≠ some w.heap.size := row_ne (unhide DB).rb (unhide DB).ow (by decide) rfl
              have LB : ∀ g, (.slice y.a y.ps.length y.c : Value).ownBlock = some g → w.heap.size ≤ g := fun g e => (World.ownsRow.lt (unhide DB).ow g e).1
              have M9 := hide (moved_row (unhide DB).m gr9 hc LB hs)
              have B9 := hide ((unhide DB).bx.kept gr9 (Ne.symm NB))
              have R9 := hide ((unhide DB).rb.kept gr9 (Ne.symm NR))
              have O9 := hide o9
              have bc9 := (unhide B9).c1
              have fr9 := (unhide B9).free 1
              clear o9 NB NR LB
              refine hK.out _ _ trivial (fun hHeld => ?_)
              clear hK K
              try simp only [oQ7, Act.put, List.setIfInBounds_toArray, List.set_cons_zero, List.set_cons_succ]
              refine wpAnyH_take (i := 8) (oi := oQ8) (v := .pointer (some ⟨bd, 1, none⟩)) rfl (by kernel_rfl) (by kernel_rfl) (by kernel_rfl) (fun _ _ _ h => h) (Or.inl ⟨by rfl, fun w hSw => ?_⟩) hHeld ?_
              · (try dsimp only at hSw)
                unfold oQ8
                go_simp
              try simp only [oQ8, Act.put, List.setIfInBounds_toArray, List.set_cons_zero, List.set_cons_succ]
              refine wpAnyH_ready (rs := [9]) (by kernel_rfl) (by simp) ?_
              refine AllReadyH.cons (o := oQ9) rfl (fun K hK => ?_) AllReadyH.nil
              unfold oQ9
              go_simp
              refine hK.out _ _ trivial (fun hHeld => ?_)
              clear hK K
              try simp only [oQ9, Act.put, List.setIfInBounds_toArray, List.set_cons_zero, List.set_cons_succ]
              refine wpAnyH_done (by kernel_rfl) ?_ _
              have s1 := bc_set1 (unhide B9) (.slice (some ⟨g9, 0, none⟩) (y.ps.length + 1) c9)
              have y4 : (y.ps ++ [(nm, (⟨#[]⟩ : ByteArray), (⟨#[]⟩ : ByteArray))]).length = y.ps.length + 1 := by simp
              have NB9 : (Value.slice (some ⟨g9, 0, none⟩) (y.ps.length + 1) c9).ownBlock ≠ some bd := row_ne (unhide B9) (unhide O9) (by decide) rfl
              have D9 := hide (show Dv w0 w (u9.setCell ⟨bd, 1, none⟩ (.slice (some ⟨g9, 0, none⟩) (y.ps.length + 1) c9)) c bd a len cap ⟨y.room, some ⟨g9, 0, none⟩, c9, y.ps ++ [(nm, ⟨#[]⟩, ⟨#[]⟩)]⟩ from
                ⟨moved_grown (unhide M9) s1.2 hc (unhide B9).lt.1 hs, by show Bc _ _ _ _ (.slice _ (y.ps ++ _).length _); rw [y4]; exact s1.1, by
                  have o := World.ownsRow.kept (unhide O9) s1.2 (.inr NB9)
                  unfold OwD
                  simp only [y4]
                  rw [flat_1]
                  exact o, ⟨by show (y.ps ++ _).length ≤ 23; rw [y4]; omega, by show sumZ (y.ps ++ _) ≤ 60000; rw [DiskH14.sumZ_append]; exact sm.2⟩, (unhide R9).kept s1.2 (by have := nb; simpa using this.symm), nb⟩)
              clear s1 NB9 bc9 fr9 bcU bcB bcD bcA b0 b1 f0 f1
              obtain ⟨X, hX⟩ : ∃ X : Dx, X = ⟨y.room, some ⟨g9, 0, none⟩, c9, y.ps ++ [(nm, ⟨#[]⟩, ⟨#[]⟩)]⟩ := ⟨_, rfl⟩
              rw [← hX] at D9
              clear hX
              generalize u9.setCell ⟨bd, 1, none⟩ (.slice (some ⟨g9, 0, none⟩) (y.ps.length + 1) c9) = vv at *
              have D7 := D9
              have b0 := (unhide D7).bx.c0
              have b1 := (unhide D7).bx.c1
              have r0 := (unhide D7).rb.c0
              have r1 := (unhide D7).rb.c1
              have f0 := (unhide D7).rb.free 0
              have f1 := (unhide D7).rb.free 1
              have s0 := (unhide D7).rb.set0 (.int .i64 X.room)
              have s1 := bc_set1 s0.1 (.slice X.a X.ps.length X.c)
              have ST := hide (grow_grow s0.2 s1.2)
              have EM := hide (moved_grown (unhide D7).m (unhide ST) hc (Nat.le_refl _) hs)
              have EO := hide (World.ownsRow.kept (unhide D7).ow (unhide ST) (.inr (row_ne (unhide D7).rb (unhide D7).ow (by decide) rfl)))
              have SM := hide (unhide D7).sm
              clear s0 s1
              go_wp2
              refine bodyPost_ret (v := .agg #[.int .i64 X.room, .slice X.a X.ps.length X.c]) (by simp [results, Try.results68, go_sem, r0, r1]) rfl ⟨X, unhide SM, rfl, unhide EO, unhide EM⟩
      · have qc : (sw == 1) = false := by simpa using q1
        clear q1
        have D7 := D2
        clear b0 b1 f0 f1
        have b0 := (unhide D7).bx.c0
        have b1 := (unhide D7).bx.c1
        have r0 := (unhide D7).rb.c0
        have r1 := (unhide D7).rb.c1
        have f0 := (unhide D7).rb.free 0
        have f1 := (unhide D7).rb.free 1
        have s0 := (unhide D7).rb.set0 (.int .i64 y.room)
        have s1 := bc_set1 s0.1 (.slice y.a y.ps.length y.c)
        have ST := hide (grow_grow s0.2 s1.2)
        have EM := hide (moved_grown (unhide D7).m (unhide ST) hc (Nat.le_refl _) hs)
        have EO := hide (World.ownsRow.kept (unhide D7).ow (unhide ST) (.inr (row_ne (unhide D7).rb (unhide D7).ow (by decide) rfl)))
        have SM := hide (unhide D7).sm
        clear s0 s1
        go_wp2
        refine bodyPost_ret (v := .agg #[.int .i64 y.room, .slice y.a y.ps.length y.c]) (by simp [results, Try.results68, go_sem, r0, r1]) rfl ⟨y, unhide SM, rfl, unhide EO, unhide EM⟩
end Go.Proofs.Ytcajdiopgaoicaa.DrawD14
