/- Texts of one proof, one behind the other: SPut14. -/
import Derived.Test.YtcajdiopgaoicaaRows
import Derived.Test.YtcajdiopgaoicaaSG1
import Derived.Test.YtcajdiopgaoicaaSG2
import Derived.Test.YtcajdiopgaoicaaSG3
set_option linter.unusedVariables false
set_option linter.unusedSimpArgs false
namespace Go.Proofs.Ytcajdiopgaoicaa.SPut14
open Go.ChangeShapes Go.WideShapes Go.ChangeAt Go.RowKit Fil14 DiskH14 DkH14 SDk14 SOk14 SRd14 App14 SLess14 SCopy14
open DkH14 (row_step)
/-- The first k files with a file put among them, and whether it has been. -/
def putN (ps : List TF) (f : TF) : Nat → List TF × Bool
  | 0 => ([], false)
  | k + 1 =>
    let l := if (putN ps f k).2 = false ∧ f.1 ≤ (elF ps k).1 then (putN ps f k).1 ++ [f] else (putN ps f k).1
    (if (elF ps k).1 = f.1 then l else l ++ [elF ps k], (putN ps f k).2 || decide (f.1 ≤ (elF ps k).1))
/-- Files with one more, or another one of its name. -/
def putF (ps : List TF) (f : TF) : List TF := if (putN ps f ps.length).2 = true then (putN ps f ps.length).1 else (putN ps f ps.length).1 ++ [f]
/-- A world behind W in which the disk that is built has files L. -/
structure Pt (B O : Nat) (W wr : World) (room : Int) (L : List TF) (a : Option Addr) (m c : Nat) : Prop where
  gr : W.grownBy wr (some O)
  bx : Bc wr B O (.int .i64 room) (.slice a m c)
  ow : wr.ownsRow W.heap.size 54 3 (.slice a m c) m (flatF L)
theorem Pt.drew {B O : Nat} {W wr : World} {room : Int} {L : List TF} {a : Option Addr} {m c : Nat} (h : Pt B O W wr room L a m c) : Pt B O W wr.drew room L a m c := ⟨⟨h.gr.os, h.gr.tape, h.gr.output, h.gr.size, h.gr.block⟩, h.bx, h.ow⟩
theorem Pt.off {B O : Nat} {W wr : World} {room : Int} {L : List TF} {a : Option Addr} {m c : Nat} (h : Pt B O W wr room L a m c) : ∀ j, (Value.slice a m c).ownBlock = some j → W.heap.size ≤ j := fun j hj => (World.ownsRow.lt h.ow j hj).1
/-- One file more. -/
theorem Pt.app {B O : Nat} {W wr V u : World} {room : Int} {L : List TF} {a : Option Addr} {m c g9 c9 : Nat} {p : TF} (h : Pt B O W wr room L a m c) (hO : O < W.heap.size) (b : Below wr.heap.size wr V) (g : V.grownBy u (Value.slice a m c).ownBlock)
    (o : u.ownsRow W.heap.size 54 3 (.slice (some ⟨g9, 0, none⟩) (m + 1) c9) (m + 1) (flatF L ++ [.int .i64 p.1, .string p.2.1, .string p.2.2])) :
    Bc u B O (.int .i64 room) (.slice a m c) ∧ Pt B O W (u.setCell ⟨O, 1, none⟩ (.slice (some ⟨g9, 0, none⟩) (m + 1) c9)) room (L ++ [p]) (some ⟨g9, 0, none⟩) (m + 1) c9 := by
  have NG : some O ≠ (Value.slice a m c).ownBlock := fun e => by have := h.off _ e.symm; omega
  have bx9 := (h.bx.below b (h.bx.lt).2).kept g NG
  have gu : W.grownBy u (some O) := ⟨(g.os.trans b.os).trans h.gr.os, (g.tape.trans b.tape).trans h.gr.tape, (g.output.trans b.output).trans h.gr.output, Nat.le_trans h.gr.size (Nat.le_trans b.size g.size), fun i hi hr => by
    have l : i < wr.heap.size := Nat.lt_of_lt_of_le hi h.gr.size
    exact ((g.block i (Nat.lt_of_lt_of_le l b.size) (fun e => by have := h.off i e.symm; omega)).trans (b.block i l)).trans (h.gr.block i hi hr)⟩
  have s := bc_set1 bx9 (.slice (some ⟨g9, 0, none⟩) (m + 1) c9)
  refine ⟨bx9, grow_grow gu s.2, s.1, ?_⟩
  rw [flat_1]
  exact row_kept o s.2 hO
/-- A file appended to a list that may be nil. -/
theorem wp_app (u : World) {ops : Array Oper} {rest : List Oper} {o : Oper} {a : Act} {Q : Exit → Act → World → Prop} (hgd : o.guard = none) (s x : Operand)
    (ho : o.op = .call { callee := .builtin .append, args := #[s, x], argTypes := #[24, 24] }) (base : Nat) (v : Value) (n : Nat) (xs : List Value) (vb : Nat) (news : List Value) (hs : a.eval s = v) (hx : a.eval x = .slice (some ⟨vb, 0, none⟩) 1 1) (hown : u.ownsRow base 54 3 v n xs) (hl : news.length = 3) (hc : ∀ j w, news[j]? = some w → u.cell? ⟨vb, j, none⟩ = some w) (h1 : ∀ w ∈ news, w.oneCell' = true) (hn : n ≤ 1048576) (hb : base ≤ u.heap.size)
    (h : ∀ g' c' w', w'.ownsRow base 54 3 (.slice (some ⟨g', 0, none⟩) (n + 1) c') (n + 1) (xs ++ news) → u.grownBy w' v.ownBlock → wpList Try.prog ops Q rest (a.put o.dst (.slice (some ⟨g', 0, none⟩) (n + 1) c')) w') : wpList Try.prog ops Q (o :: rest) a u := by
  obtain ⟨i0, hi, hz0, hz1, hz2⟩ := info_parts HelpF14.info2
  refine wpList_append_own_at u hgd s x 24 ho base 54 i0 (.agg #[.int .i64 0, .string ByteArray.empty, .string ByteArray.empty]) 3 40 Try.underlying24 hi hz0 hz1 hz2 rfl (by decide) v n xs hs hown ⟨vb, 0, none⟩ 1 1 news hx (by omega) (fun j w hj => by rw [Addr.add_lit, Nat.zero_add]; exact hc j w hj) h1 (by unfold maxLen; omega) (by omega) hb ?_
  intro v' w' own' gr' nil' loc'
  rcases own'.2 with ⟨e1, _⟩ | ⟨g', c', cur, rfl, _⟩
  · rw [e1] at nil'; simp at nil'
  · exact h g' c' w' own' gr'
abbrev oS0 : Oper := { dst := some 18, op := Go.Op.move (Go.Operand.tmp 6), type := 4, pos := "l14_disk.go:49", after := #[], guard := none }
abbrev oS1 : Oper := { dst := some 19, op := Go.Op.unOp Go.UnOp.not 4 (Go.Operand.tmp 18), type := 4, pos := "l14_disk.go:49", after := #[{ on := 0, ground := Go.Ground.data }], guard := none }
abbrev oS2 : Oper := { dst := some 20, op := Go.Op.move (Go.Operand.tmp 19), type := 4, pos := "l14_disk.go:49", after := #[{ on := 1, ground := Go.Ground.data }], guard := none }
abbrev oS3 : Oper := { dst := some 21, op := Go.Op.fieldAddr 26 (Go.Operand.tmp 2) 1, type := 0, pos := "l14_disk.go:49", after := #[{ on := 2, ground := Go.Ground.guard }], guard := some (2, true) }
abbrev oS4 : Oper := { dst := some 22, op := Go.Op.load 24 (Go.Operand.tmp 21), type := 24, pos := "l14_disk.go:49", after := #[{ on := 3, ground := Go.Ground.data }, { on := 2, ground := Go.Ground.guard }], guard := some (2, true) }
abbrev oS5 : Oper := { dst := some 23, op := Go.Op.move (Go.Operand.tmp 7), type := 3, pos := "l14_disk.go:49", after := #[{ on := 2, ground := Go.Ground.guard }], guard := some (2, true) }
abbrev oS6 : Oper := { dst := some 24, op := Go.Op.indexAddr 24 (Go.Operand.tmp 22) (Go.Operand.tmp 23), type := 0, pos := "l14_disk.go:49", after := #[{ on := 4, ground := Go.Ground.data }, { on := 5, ground := Go.Ground.data }, { on := 2, ground := Go.Ground.guard }], guard := some (2, true) }
abbrev oS7 : Oper := { dst := some 25, op := Go.Op.fieldAddr 54 (Go.Operand.tmp 24) 0, type := 0, pos := "l14_disk.go:49", after := #[{ on := 6, ground := Go.Ground.data }, { on := 2, ground := Go.Ground.guard }], guard := some (2, true) }
abbrev oS8 : Oper := { dst := some 26, op := Go.Op.load 3 (Go.Operand.tmp 25), type := 3, pos := "l14_disk.go:49", after := #[{ on := 7, ground := Go.Ground.data }, { on := 2, ground := Go.Ground.guard }], guard := some (2, true) }
abbrev oS9 : Oper := { dst := some 27, op := Go.Op.fieldAddr 54 (Go.Operand.tmp 3) 0, type := 0, pos := "l14_disk.go:49", after := #[{ on := 2, ground := Go.Ground.guard }], guard := some (2, true) }
abbrev oS10 : Oper := { dst := some 28, op := Go.Op.load 3 (Go.Operand.tmp 27), type := 3, pos := "l14_disk.go:49", after := #[{ on := 9, ground := Go.Ground.data }, { on := 2, ground := Go.Ground.guard }], guard := some (2, true) }
abbrev oS11 : Oper := { dst := some 29, op := Go.Op.binOp Go.BinOp.geq 3 (Go.Operand.tmp 26) (Go.Operand.tmp 28) 3, type := 4, pos := "l14_disk.go:49", after := #[{ on := 8, ground := Go.Ground.data }, { on := 10, ground := Go.Ground.data }, { on := 2, ground := Go.Ground.guard }], guard := some (2, true) }
abbrev oS12 : Oper := { dst := some 30, op := Go.Op.pick (Go.Operand.tmp 20) (Go.Operand.tmp 29) (Go.Operand.const (Go.Value.bool false)), type := 4, pos := "l14_disk.go:49", after := #[{ on := 2, ground := Go.Ground.data }, { on := 11, ground := Go.Ground.data }], guard := none }
abbrev oN0 : Oper := { dst := some 37, op := Go.Op.fieldAddr 26 (Go.Operand.tmp 2) 1, type := 0, pos := "l14_disk.go:53", after := #[], guard := none }
abbrev oN1 : Oper := { dst := some 38, op := Go.Op.load 24 (Go.Operand.tmp 37), type := 24, pos := "l14_disk.go:53", after := #[{ on := 0, ground := Go.Ground.data }], guard := none }
abbrev oN2 : Oper := { dst := some 39, op := Go.Op.move (Go.Operand.tmp 7), type := 3, pos := "l14_disk.go:53", after := #[], guard := none }
abbrev oN3 : Oper := { dst := some 40, op := Go.Op.indexAddr 24 (Go.Operand.tmp 38) (Go.Operand.tmp 39), type := 0, pos := "l14_disk.go:53", after := #[{ on := 1, ground := Go.Ground.data }, { on := 2, ground := Go.Ground.data }], guard := none }
abbrev oN4 : Oper := { dst := some 41, op := Go.Op.fieldAddr 54 (Go.Operand.tmp 40) 0, type := 0, pos := "l14_disk.go:53", after := #[{ on := 3, ground := Go.Ground.data }], guard := none }
abbrev oN5 : Oper := { dst := some 42, op := Go.Op.load 3 (Go.Operand.tmp 41), type := 3, pos := "l14_disk.go:53", after := #[{ on := 4, ground := Go.Ground.data }], guard := none }
abbrev oN6 : Oper := { dst := some 43, op := Go.Op.fieldAddr 54 (Go.Operand.tmp 3) 0, type := 0, pos := "l14_disk.go:53", after := #[], guard := none }
abbrev oN7 : Oper := { dst := some 44, op := Go.Op.load 3 (Go.Operand.tmp 43), type := 3, pos := "l14_disk.go:53", after := #[{ on := 6, ground := Go.Ground.data }], guard := none }
abbrev oN8 : Oper := { dst := some 45, op := Go.Op.binOp Go.BinOp.neq 3 (Go.Operand.tmp 42) (Go.Operand.tmp 44) 3, type := 4, pos := "l14_disk.go:53", after := #[{ on := 5, ground := Go.Ground.data }, { on := 7, ground := Go.Ground.data }], guard := none }
abbrev oT0 : Oper := { dst := some 46, op := Go.Op.fieldAddr 26 (Go.Operand.tmp 5) 1, type := 0, pos := "l14_disk.go:54", after := #[], guard := none }
abbrev oT1 : Oper := { dst := some 47, op := Go.Op.load 24 (Go.Operand.tmp 46), type := 24, pos := "l14_disk.go:54", after := #[{ on := 0, ground := Go.Ground.data }], guard := none }
abbrev oT2 : Oper := { dst := some 48, op := Go.Op.fieldAddr 26 (Go.Operand.tmp 2) 1, type := 0, pos := "l14_disk.go:54", after := #[], guard := none }
abbrev oT3 : Oper := { dst := some 49, op := Go.Op.load 24 (Go.Operand.tmp 48), type := 24, pos := "l14_disk.go:54", after := #[{ on := 2, ground := Go.Ground.data }], guard := none }
abbrev oT4 : Oper := { dst := some 50, op := Go.Op.move (Go.Operand.tmp 7), type := 3, pos := "l14_disk.go:54", after := #[], guard := none }
abbrev oT5 : Oper := { dst := some 51, op := Go.Op.indexAddr 24 (Go.Operand.tmp 49) (Go.Operand.tmp 50), type := 0, pos := "l14_disk.go:54", after := #[{ on := 3, ground := Go.Ground.data }, { on := 4, ground := Go.Ground.data }], guard := none }
abbrev oT6 : Oper := { dst := some 52, op := Go.Op.load 54 (Go.Operand.tmp 51), type := 54, pos := "l14_disk.go:54", after := #[{ on := 5, ground := Go.Ground.data }], guard := none }
abbrev oT7 : Oper := { dst := some 53, op := Go.Op.buildSlice 24 1 #[(0, Go.Operand.tmp 52)], type := 24, pos := "l14_disk.go:54", after := #[{ on := 6, ground := Go.Ground.data }], guard := none }
abbrev oT8 : Oper := { dst := some 54, op := Go.Op.call { callee := Go.Callee.builtin Go.Builtin.append, args := #[Go.Operand.tmp 47, Go.Operand.tmp 53], argTypes := #[24, 24] }, type := 24, pos := "l14_disk.go:54", after := #[{ on := 1, ground := Go.Ground.data }, { on := 7, ground := Go.Ground.data }], guard := none }
abbrev oT9 : Oper := { dst := some 55, op := Go.Op.fieldAddr 26 (Go.Operand.tmp 5) 1, type := 0, pos := "l14_disk.go:54", after := #[{ on := 0, ground := Go.Ground.phase }, { on := 1, ground := Go.Ground.phase }, { on := 2, ground := Go.Ground.phase }, { on := 3, ground := Go.Ground.phase }, { on := 4, ground := Go.Ground.phase }, { on := 5, ground := Go.Ground.phase }, { on := 6, ground := Go.Ground.phase }, { on := 7, ground := Go.Ground.phase }, { on := 8, ground := Go.Ground.phase }], guard := none }
abbrev oT10 : Oper := { dst := none, op := Go.Op.store 24 (Go.Operand.tmp 55) (Go.Operand.tmp 54), type := 0, pos := "l14_disk.go:54", after := #[{ on := 9, ground := Go.Ground.data }, { on := 8, ground := Go.Ground.data }, { on := 8, ground := Go.Ground.chain }, { on := 0, ground := Go.Ground.phase }, { on := 1, ground := Go.Ground.phase }, { on := 2, ground := Go.Ground.phase }, { on := 3, ground := Go.Ground.phase }, { on := 4, ground := Go.Ground.phase }, { on := 5, ground := Go.Ground.phase }, { on := 6, ground := Go.Ground.phase }, { on := 7, ground := Go.Ground.phase }, { on := 8, ground := Go.Ground.phase }], guard := none }
theorem putN_succ {ps : List TF} {f : TF} {k : Nat} {L : List TF} {pb : Bool} (h : putN ps f k = (L, pb)) : putN ps f (k + 1) = (if (elF ps k).1 = f.1 then (if pb = false ∧ f.1 ≤ (elF ps k).1 then L ++ [f] else L) else (if pb = false ∧ f.1 ≤ (elF ps k).1 then L ++ [f] else L) ++ [elF ps k], pb || decide (f.1 ≤ (elF ps k).1)) := by
  simp only [putN, h]
set_option maxRecDepth 100000 in
set_option maxHeartbeats 8000000 in
theorem sPut (w : World) (x : Dx) (f0 : Int) (f1 f2 : ByteArray) (hr : RdD w x) (h22 : x.ps.length ≤ 22) :
    Calls Try.prog 56 #[.agg #[.int .i64 x.room, .slice x.a x.ps.length x.c], .agg #[.int .i64 f0, .string f1, .string f2]] w fun e w' => ∃ y : Dx, y.room = x.room ∧ y.ps = putF x.ps (f0, f1, f2) ∧ e = .returned (.agg #[.int .i64 y.room, .slice y.a y.ps.length y.c]) ∧ OwD w' w.heap.size y ∧ Below w.heap.size w w' := by
  have F : ∀ W1, W1 = w.alloc (.cells #[.int .i64 x.room, .slice x.a x.ps.length x.c] 26) → ∀ W2, W2 = W1.alloc (.cells #[.int .i64 f0, .string f1, .string f2] 54) → ∀ W3, W3 = W2.alloc (.cells #[.int .i64 0, .slice none 0 0] 26) → ∀ W4, W4 = W3.alloc (.cells #[.int .i64 x.room, .slice none 0 0] 26) →
      Wd w W4 x ∧ (W4.cell? ⟨w.heap.size + 1, 0, none⟩ = some (.int .i64 f0) ∧ W4.cell? ⟨w.heap.size + 1, 1, none⟩ = some (.string f1) ∧ W4.cell? ⟨w.heap.size + 1, 2, none⟩ = some (.string f2)) ∧ Bc W4 w.heap.size (w.heap.size + 1 + 1) (.int .i64 0) (.slice none 0 0) ∧ Bc W4 w.heap.size (w.heap.size + 1 + 1 + 1) (.int .i64 x.room) (.slice none 0 0) ∧ W4.heap.size = w.heap.size + 4 := by
    intro W1 h1 W2 h2 W3 h3 W4 h4
    have s1 : W1.heap.size = w.heap.size + 1 := by rw [h1]; simp
    have s2 : W2.heap.size = w.heap.size + 1 + 1 := by rw [h2]; simp [s1]
    have s3 : W3.heap.size = w.heap.size + 1 + 1 + 1 := by rw [h3]; simp [s2]
    have s4 : W4.heap.size = w.heap.size + 4 := by rw [h4]; simp [s3]
    have d1 : Wd w W1 x := by rw [h1]; exact Wd.made hr _
    have b2 : Below W1.heap.size W1 W2 := by rw [h2]; exact one_more _ _
    have b3 : Below W2.heap.size W2 W3 := by rw [h3]; exact one_more _ _
    have b4 : Below W3.heap.size W3 W4 := by rw [h4]; exact one_more _ _
    have b34 := b3.trans (b4.mono b3.size)
    have F0 : W2.cell? ⟨w.heap.size + 1, 0, none⟩ = some (.int .i64 f0) ∧ W2.cell? ⟨w.heap.size + 1, 1, none⟩ = some (.string f1) ∧ W2.cell? ⟨w.heap.size + 1, 2, none⟩ = some (.string f2) := by rw [h2, ← s1]; exact ⟨by simp [go_sem], by simp [go_sem], by simp [go_sem]⟩
    have R1 : Bc W3 w.heap.size (w.heap.size + 1 + 1) (.int .i64 0) (.slice none 0 0) := by rw [h3]; exact Bc.made _ _ (by omega) s2.symm
    have O1 : Bc W4 w.heap.size (w.heap.size + 1 + 1 + 1) (.int .i64 x.room) (.slice none 0 0) := by rw [h4]; exact Bc.made _ _ (by omega) s3.symm
    exact ⟨(d1.step b2).step b34, ⟨(b34.cell (p := ⟨w.heap.size + 1, 0, none⟩) (by show w.heap.size + 1 < _; omega)).trans F0.1, (b34.cell (p := ⟨w.heap.size + 1, 1, none⟩) (by show w.heap.size + 1 < _; omega)).trans F0.2.1, (b34.cell (p := ⟨w.heap.size + 1, 2, none⟩) (by show w.heap.size + 1 < _; omega)).trans F0.2.2⟩, R1.below b4 (by omega), O1, s4⟩
  have G0 := hide (F _ rfl _ rfl _ rfl _ rfl)
  have G1 := hide (fun g e => (hr.r g e).1)
  have PF := hide (show putF x.ps (f0, f1, f2) = if (putN x.ps (f0, f1, f2) x.ps.length).2 = true then (putN x.ps (f0, f1, f2) x.ps.length).1 else (putN x.ps (f0, f1, f2) x.ps.length).1 ++ [(f0, f1, f2)] from rfl)
  clear F hr
  go_enter Try.func56, Try.ntmps56
  go_wp2_with fail
  generalize (((w.alloc (.cells #[.int .i64 x.room, .slice x.a x.ps.length x.c] 26)).alloc (.cells #[.int .i64 f0, .string f1, .string f2] 54)).alloc (.cells #[.int .i64 0, .slice none 0 0] 26)).alloc (.cells #[.int .i64 x.room, .slice none 0 0] 26) = W at *
  obtain ⟨WD, FF, RB, OB, s3⟩ := unhide G0
  have HWD := hide WD
  have HRB := hide RB
  have F0 := hide FF.1
  have F1 := hide FF.2.1
  have F2 := hide FF.2.2
  have hO : w.heap.size + 1 + 1 + 1 < W.heap.size := by omega
  have wl0 : w.heap.size < W.heap.size := by omega
  have wl1 : w.heap.size + 1 < W.heap.size := by omega
  clear G0 WD RB FF
  go_loopw [6, 7] (fun b i wr => ∃ (k m c : Nat) (a : Option Addr) (L : List TF) (pb : Bool), b = .bool pb ∧ i = .int .i64 k ∧ k ≤ x.ps.length ∧ m ≤ 2 * k ∧ Hid (putN x.ps (f0, f1, f2) k = (L, pb)) ∧ Hid (Pt w.heap.size (w.heap.size + 1 + 1 + 1) W wr x.room L a m c)) (fun _ i _ => x.ps.length - (intOf i).toNat)
  case atStart => exact ⟨0, 0, 0, none, [], false, rfl, rfl, by omega, by omega, rfl, hide ⟨World.grownBy.refl _ _, OB, ⟨rfl, .inl ⟨rfl, rfl⟩⟩⟩⟩
  case round =>
    clear OB
    obtain ⟨k, m, c, a, L, pb, rfl, rfl, hk, hm, HP, HPt⟩ := hrel
    by_cases t : k < x.ps.length
    · have kt : (k : Int) < x.ps.length := by omega
      obtain ⟨g, ea, lg, e0, e1, e2⟩ := cells_of (unhide HWD).r t
      have lg0 := (unhide G1) g ea
      have gn : g ≠ w.heap.size + 1 + 1 + 1 := by omega
      have EP0 : Hid (∃ p, elF x.ps k = p) := ⟨_, rfl⟩
      obtain ⟨p, hp⟩ := unhide EP0
      rw [hp] at e0 e1 e2
      obtain ⟨z0, z1, z2⟩ := p
      have EP := hide hp
      have D0 := hide e0
      have D1 := hide e1
      have D2 := hide e2
      have HC := hide (by have h := (unhide HWD).c1; rw [ea] at h; exact h)
      clear hp e0 e1 e2 EP0 ea
      have u1c := (kcell (unhide HPt).gr 1 wl0 (by omega)).trans (unhide HC)
      have u10 := (kcell (unhide HPt).gr (k * 3) lg gn).trans (unhide D0)
      have u11 := (kcell (unhide HPt).gr (k * 3 + 1) lg gn).trans (unhide D1)
      have u12 := (kcell (unhide HPt).gr (k * 3 + 2) lg gn).trans (unhide D2)
      have u1f := (kcell (unhide HPt).gr 0 wl1 (by omega)).trans (unhide F0)
      have u1g := (kcell (unhide HPt).gr 1 wl1 (by omega)).trans (unhide F1)
      have u1h := (kcell (unhide HPt).gr 2 wl1 (by omega)).trans (unhide F2)
      have u1s := (unhide HPt).gr.size
      cases pb
      · by_cases qf : f0 ≤ z0
        · have PBV : True := trivial
          have QF : f0 ≤ z0 := qf
          have hg : z0 ≥ f0 := qf
          by_cases qe : z0 = f0
          · have K6 : wr.cell? ⟨w.heap.size, 1, none⟩ = some (.slice (some ⟨g, 0, none⟩) x.ps.length x.c) ∧ wr.cell? ⟨g, k * 3, none⟩ = some (.int .i64 z0) ∧ wr.cell? ⟨w.heap.size + 1, 0, none⟩ = some (.int .i64 f0) := ⟨u1c, u10, u1f⟩
            go_wp2_with fail
            refine wp_region_held_drew (S := (fun w' => w'.cell? ⟨w.heap.size, 1, none⟩ = some (.slice (some ⟨g, 0, none⟩) x.ps.length x.c) ∧ w'.cell? ⟨g, k * 3, none⟩ = some (.int .i64 z0) ∧ w'.cell? ⟨w.heap.size + 1, 0, none⟩ = some (.int .i64 f0))) (by kernel_rfl) K6 (fun hHeld => ?_)
            refine wpAnyH_take (i := 0) (oi := oS0) (v := .bool false) rfl (by kernel_rfl) (by kernel_rfl) (by kernel_rfl) (fun _ _ _ h => h) (Or.inl ⟨by rfl, fun w hSw => ?_⟩) hHeld ?_
            · (try dsimp only at hSw)
              unfold oS0
              go_simp
            try simp only [oS0, Act.put, List.setIfInBounds_toArray, List.set_cons_zero, List.set_cons_succ]
            refine wpAnyH_take (i := 1) (oi := oS1) (v := .bool true) rfl (by kernel_rfl) (by kernel_rfl) (by kernel_rfl) (fun _ _ _ h => h) (Or.inl ⟨by rfl, fun w hSw => ?_⟩) hHeld ?_
            · (try dsimp only at hSw)
              unfold oS1
              go_simp
            try simp only [oS1, Act.put, List.setIfInBounds_toArray, List.set_cons_zero, List.set_cons_succ]
            refine wpAnyH_take (i := 2) (oi := oS2) (v := .bool true) rfl (by kernel_rfl) (by kernel_rfl) (by kernel_rfl) (fun _ _ _ h => h) (Or.inl ⟨by rfl, fun w hSw => ?_⟩) hHeld ?_
            · (try dsimp only at hSw)
              unfold oS2
              go_simp
            try simp only [oS2, Act.put, List.setIfInBounds_toArray, List.set_cons_zero, List.set_cons_succ]
            refine wpAnyH_take (i := 3) (oi := oS3) (v := .pointer (some ⟨w.heap.size, 1, none⟩)) rfl (by kernel_rfl) (by kernel_rfl) (by kernel_rfl) (fun _ _ _ h => h) (Or.inl ⟨by rfl, fun w hSw => ?_⟩) hHeld ?_
            · (try dsimp only at hSw)
              unfold oS3
              go_simp
            try simp only [oS3, Act.put, List.setIfInBounds_toArray, List.set_cons_zero, List.set_cons_succ]
            refine wpAnyH_take (i := 4) (oi := oS4) (v := .slice (some ⟨g, 0, none⟩) x.ps.length x.c) rfl (by kernel_rfl) (by kernel_rfl) (by kernel_rfl) (fun _ _ _ h => h) (Or.inl ⟨by rfl, fun w hSw => ?_⟩) hHeld ?_
            · (try dsimp only at hSw)
              unfold oS4
              go_simp
            try simp only [oS4, Act.put, List.setIfInBounds_toArray, List.set_cons_zero, List.set_cons_succ]
            refine wpAnyH_take (i := 5) (oi := oS5) (v := .int .i64 k) rfl (by kernel_rfl) (by kernel_rfl) (by kernel_rfl) (fun _ _ _ h => h) (Or.inl ⟨by rfl, fun w hSw => ?_⟩) hHeld ?_
            · (try dsimp only at hSw)
              unfold oS5
              go_simp
            try simp only [oS5, Act.put, List.setIfInBounds_toArray, List.set_cons_zero, List.set_cons_succ]
            refine wpAnyH_take (i := 6) (oi := oS6) (v := .pointer (some ⟨g, k * 3, none⟩)) rfl (by kernel_rfl) (by kernel_rfl) (by kernel_rfl) (fun _ _ _ h => h) (Or.inl ⟨by rfl, fun w hSw => ?_⟩) hHeld ?_
            · (try dsimp only at hSw)
              unfold oS6
              go_simp
            try simp only [oS6, Act.put, List.setIfInBounds_toArray, List.set_cons_zero, List.set_cons_succ]
            refine wpAnyH_take (i := 7) (oi := oS7) (v := .pointer (some ⟨g, k * 3, none⟩)) rfl (by kernel_rfl) (by kernel_rfl) (by kernel_rfl) (fun _ _ _ h => h) (Or.inl ⟨by rfl, fun w hSw => ?_⟩) hHeld ?_
            · (try dsimp only at hSw)
              unfold oS7
              go_simp
            try simp only [oS7, Act.put, List.setIfInBounds_toArray, List.set_cons_zero, List.set_cons_succ]
            refine wpAnyH_take (i := 8) (oi := oS8) (v := .int .i64 z0) rfl (by kernel_rfl) (by kernel_rfl) (by kernel_rfl) (fun _ _ _ h => h) (Or.inl ⟨by rfl, fun w hSw => ?_⟩) hHeld ?_
            · (try dsimp only at hSw)
              unfold oS8
              go_simp
            try simp only [oS8, Act.put, List.setIfInBounds_toArray, List.set_cons_zero, List.set_cons_succ]
            refine wpAnyH_take (i := 9) (oi := oS9) (v := .pointer (some ⟨w.heap.size + 1, 0, none⟩)) rfl (by kernel_rfl) (by kernel_rfl) (by kernel_rfl) (fun _ _ _ h => h) (Or.inl ⟨by rfl, fun w hSw => ?_⟩) hHeld ?_
            · (try dsimp only at hSw)
              unfold oS9
              go_simp
            try simp only [oS9, Act.put, List.setIfInBounds_toArray, List.set_cons_zero, List.set_cons_succ]
            refine wpAnyH_take (i := 10) (oi := oS10) (v := .int .i64 f0) rfl (by kernel_rfl) (by kernel_rfl) (by kernel_rfl) (fun _ _ _ h => h) (Or.inl ⟨by rfl, fun w hSw => ?_⟩) hHeld ?_
            · (try dsimp only at hSw)
              unfold oS10
              go_simp
            try simp only [oS10, Act.put, List.setIfInBounds_toArray, List.set_cons_zero, List.set_cons_succ]
            refine wpAnyH_take (i := 11) (oi := oS11) (v := .bool true) rfl (by kernel_rfl) (by kernel_rfl) (by kernel_rfl) (fun _ _ _ h => h) (Or.inl ⟨by rfl, fun w hSw => ?_⟩) hHeld ?_
            · (try dsimp only at hSw)
              unfold oS11
              go_simp
            try simp only [oS11, Act.put, List.setIfInBounds_toArray, List.set_cons_zero, List.set_cons_succ]
            refine wpAnyH_take (i := 12) (oi := oS12) (v := .bool true) rfl (by kernel_rfl) (by kernel_rfl) (by kernel_rfl) (fun _ _ _ h => h) (Or.inl ⟨by rfl, fun w hSw => ?_⟩) hHeld ?_
            · (try dsimp only at hSw)
              unfold oS12
              go_simp
            try simp only [oS12, Act.put, List.setIfInBounds_toArray, List.set_cons_zero, List.set_cons_succ]
            refine wpAnyH_done (by kernel_rfl) ?_ _
            have PV := hide (unhide HPt).drew
            generalize wr.drew = v1 at *
            have u5c := (kcell (unhide PV).gr 1 wl0 (by omega)).trans (unhide HC)
            have u50 := (kcell (unhide PV).gr (k * 3) lg gn).trans (unhide D0)
            have u51 := (kcell (unhide PV).gr (k * 3 + 1) lg gn).trans (unhide D1)
            have u52 := (kcell (unhide PV).gr (k * 3 + 2) lg gn).trans (unhide D2)
            have u5f := (kcell (unhide PV).gr 0 wl1 (by omega)).trans (unhide F0)
            have u5g := (kcell (unhide PV).gr 1 wl1 (by omega)).trans (unhide F1)
            have u5h := (kcell (unhide PV).gr 2 wl1 (by omega)).trans (unhide F2)
            have u5s := (unhide PV).gr.size
            have bo := (unhide PV).bx.c1
            have lo := (unhide PV).bx.lt.2
            have bob : (v1.alloc (.cells #[.int .i64 f0, .string f1, .string f2] 54)).cell? ⟨w.heap.size + 1 + 1 + 1, 1, none⟩ = some (.slice a (m) c) := ((one_more v1 (.cells #[.int .i64 f0, .string f1, .string f2] 54)).cell (p := ⟨w.heap.size + 1 + 1 + 1, 1, none⟩) lo).trans bo
            have vs := (unhide PV).gr.size
            go_wp2_with (first | (at_builtin; refine wp_app _ rfl _ _ rfl W.heap.size (.slice a (m) c) (m) (flatF (L)) v1.heap.size [.int .i64 f0, .string f1, .string f2] rfl rfl (row_step (unhide PV).ow (one_more v1 (.cells #[.int .i64 f0, .string f1, .string f2] 54))) rfl (litm v1 _ _ _ (by rfl)) (by simp [Value.oneCell']) (by omega) (Nat.le_trans vs (by simp)) ?_) | go_in)
            intro g8 c8 u8 o8 gr8
            (try rw [← s3] at o8)
            have PA := (unhide PV).app (p := (f0, f1, f2)) hO (one_more v1 (.cells #[.int .i64 f0, .string f1, .string f2] 54)) gr8 o8
            have bx8 := PA.1
            have b80 := bx8.c1
            have b81 := bx8.free 1
            have P8 := hide PA.2
            clear o8 gr8 PA bo bob bx8
            go_wp2_with fail
            generalize u8.setCell ⟨w.heap.size + 1 + 1 + 1, 1, none⟩ (.slice (some ⟨g8, 0, none⟩) (m + 1) c8) = v2 at *
            have NX := hide (show putN x.ps (f0, f1, f2) (k + 1) = ((L ++ [(f0, f1, f2)]), true) from by rw [putN_succ (unhide HP), unhide EP]; simp [PBV, qe, QF])
            have hq : (z0 != f0) = false := by simp [qe]
            clear qe
            have u2c := (kcell (unhide P8).gr 1 wl0 (by omega)).trans (unhide HC)
            have u20 := (kcell (unhide P8).gr (k * 3) lg gn).trans (unhide D0)
            have u21 := (kcell (unhide P8).gr (k * 3 + 1) lg gn).trans (unhide D1)
            have u22 := (kcell (unhide P8).gr (k * 3 + 2) lg gn).trans (unhide D2)
            have u2f := (kcell (unhide P8).gr 0 wl1 (by omega)).trans (unhide F0)
            have u2g := (kcell (unhide P8).gr 1 wl1 (by omega)).trans (unhide F1)
            have u2h := (kcell (unhide P8).gr 2 wl1 (by omega)).trans (unhide F2)
            have u2s := (unhide P8).gr.size
            have K2 : v2.cell? ⟨w.heap.size, 1, none⟩ = some (.slice (some ⟨g, 0, none⟩) x.ps.length x.c) ∧ v2.cell? ⟨g, k * 3, none⟩ = some (.int .i64 z0) ∧ v2.cell? ⟨w.heap.size + 1, 0, none⟩ = some (.int .i64 f0) := ⟨u2c, u20, u2f⟩
            refine wp_region_held_drew (S := (fun w' => w'.cell? ⟨w.heap.size, 1, none⟩ = some (.slice (some ⟨g, 0, none⟩) x.ps.length x.c) ∧ w'.cell? ⟨g, k * 3, none⟩ = some (.int .i64 z0) ∧ w'.cell? ⟨w.heap.size + 1, 0, none⟩ = some (.int .i64 f0))) (by kernel_rfl) K2 (fun hHeld => ?_)
            refine wpAnyH_take (i := 0) (oi := oN0) (v := .pointer (some ⟨w.heap.size, 1, none⟩)) rfl (by kernel_rfl) (by kernel_rfl) (by kernel_rfl) (fun _ _ _ h => h) (Or.inl ⟨by rfl, fun w hSw => ?_⟩) hHeld ?_
            · (try dsimp only at hSw)
              unfold oN0
              go_simp
            try simp only [oN0, Act.put, List.setIfInBounds_toArray, List.set_cons_zero, List.set_cons_succ]
            refine wpAnyH_take (i := 1) (oi := oN1) (v := .slice (some ⟨g, 0, none⟩) x.ps.length x.c) rfl (by kernel_rfl) (by kernel_rfl) (by kernel_rfl) (fun _ _ _ h => h) (Or.inl ⟨by rfl, fun w hSw => ?_⟩) hHeld ?_
            · (try dsimp only at hSw)
              unfold oN1
              go_simp
            try simp only [oN1, Act.put, List.setIfInBounds_toArray, List.set_cons_zero, List.set_cons_succ]
            refine wpAnyH_take (i := 2) (oi := oN2) (v := .int .i64 k) rfl (by kernel_rfl) (by kernel_rfl) (by kernel_rfl) (fun _ _ _ h => h) (Or.inl ⟨by rfl, fun w hSw => ?_⟩) hHeld ?_
            · (try dsimp only at hSw)
              unfold oN2
              go_simp
            try simp only [oN2, Act.put, List.setIfInBounds_toArray, List.set_cons_zero, List.set_cons_succ]
            refine wpAnyH_take (i := 3) (oi := oN3) (v := .pointer (some ⟨g, k * 3, none⟩)) rfl (by kernel_rfl) (by kernel_rfl) (by kernel_rfl) (fun _ _ _ h => h) (Or.inl ⟨by rfl, fun w hSw => ?_⟩) hHeld ?_
            · (try dsimp only at hSw)
              unfold oN3
              go_simp
            try simp only [oN3, Act.put, List.setIfInBounds_toArray, List.set_cons_zero, List.set_cons_succ]
            refine wpAnyH_take (i := 4) (oi := oN4) (v := .pointer (some ⟨g, k * 3, none⟩)) rfl (by kernel_rfl) (by kernel_rfl) (by kernel_rfl) (fun _ _ _ h => h) (Or.inl ⟨by rfl, fun w hSw => ?_⟩) hHeld ?_
            · (try dsimp only at hSw)
              unfold oN4
              go_simp
            try simp only [oN4, Act.put, List.setIfInBounds_toArray, List.set_cons_zero, List.set_cons_succ]
            refine wpAnyH_take (i := 5) (oi := oN5) (v := .int .i64 z0) rfl (by kernel_rfl) (by kernel_rfl) (by kernel_rfl) (fun _ _ _ h => h) (Or.inl ⟨by rfl, fun w hSw => ?_⟩) hHeld ?_
            · (try dsimp only at hSw)
              unfold oN5
              go_simp
            try simp only [oN5, Act.put, List.setIfInBounds_toArray, List.set_cons_zero, List.set_cons_succ]
            refine wpAnyH_take (i := 6) (oi := oN6) (v := .pointer (some ⟨w.heap.size + 1, 0, none⟩)) rfl (by kernel_rfl) (by kernel_rfl) (by kernel_rfl) (fun _ _ _ h => h) (Or.inl ⟨by rfl, fun w hSw => ?_⟩) hHeld ?_
            · (try dsimp only at hSw)
              unfold oN6
              go_simp
            try simp only [oN6, Act.put, List.setIfInBounds_toArray, List.set_cons_zero, List.set_cons_succ]
            refine wpAnyH_take (i := 7) (oi := oN7) (v := .int .i64 f0) rfl (by kernel_rfl) (by kernel_rfl) (by kernel_rfl) (fun _ _ _ h => h) (Or.inl ⟨by rfl, fun w hSw => ?_⟩) hHeld ?_
            · (try dsimp only at hSw)
              unfold oN7
              go_simp
            try simp only [oN7, Act.put, List.setIfInBounds_toArray, List.set_cons_zero, List.set_cons_succ]
            refine wpAnyH_take (i := 8) (oi := oN8) (v := .bool false) rfl (by kernel_rfl) (by kernel_rfl) (by kernel_rfl) (fun _ _ _ h => h) (Or.inl ⟨by rfl, fun w hSw => ?_⟩) hHeld ?_
            · (try dsimp only at hSw)
              unfold oN8
              go_simp
            try simp only [oN8, Act.put, List.setIfInBounds_toArray, List.set_cons_zero, List.set_cons_succ]
            refine wpAnyH_done (by kernel_rfl) ?_ _
            have P8D := hide (unhide P8).drew
            go_wp2
            go_roundw
            case rel => exact ⟨k + 1, (m + 1), c8, (some ⟨g8, 0, none⟩), (L ++ [(f0, f1, f2)]), true, rfl, by go_num, by omega, by omega, NX, P8D⟩
            case measure => simp [intOf]; omega
          · have K6 : wr.cell? ⟨w.heap.size, 1, none⟩ = some (.slice (some ⟨g, 0, none⟩) x.ps.length x.c) ∧ wr.cell? ⟨g, k * 3, none⟩ = some (.int .i64 z0) ∧ wr.cell? ⟨w.heap.size + 1, 0, none⟩ = some (.int .i64 f0) := ⟨u1c, u10, u1f⟩
            go_wp2_with fail
            refine wp_region_held_drew (S := (fun w' => w'.cell? ⟨w.heap.size, 1, none⟩ = some (.slice (some ⟨g, 0, none⟩) x.ps.length x.c) ∧ w'.cell? ⟨g, k * 3, none⟩ = some (.int .i64 z0) ∧ w'.cell? ⟨w.heap.size + 1, 0, none⟩ = some (.int .i64 f0))) (by kernel_rfl) K6 (fun hHeld => ?_)
            refine wpAnyH_take (i := 0) (oi := oS0) (v := .bool false) rfl (by kernel_rfl) (by kernel_rfl) (by kernel_rfl) (fun _ _ _ h => h) (Or.inl ⟨by rfl, fun w hSw => ?_⟩) hHeld ?_
            · (try dsimp only at hSw)
              unfold oS0
              go_simp
            try simp only [oS0, Act.put, List.setIfInBounds_toArray, List.set_cons_zero, List.set_cons_succ]
            refine wpAnyH_take (i := 1) (oi := oS1) (v := .bool true) rfl (by kernel_rfl) (by kernel_rfl) (by kernel_rfl) (fun _ _ _ h => h) (Or.inl ⟨by rfl, fun w hSw => ?_⟩) hHeld ?_
            · (try dsimp only at hSw)
              unfold oS1
              go_simp
            try simp only [oS1, Act.put, List.setIfInBounds_toArray, List.set_cons_zero, List.set_cons_succ]
            refine wpAnyH_take (i := 2) (oi := oS2) (v := .bool true) rfl (by kernel_rfl) (by kernel_rfl) (by kernel_rfl) (fun _ _ _ h => h) (Or.inl ⟨by rfl, fun w hSw => ?_⟩) hHeld ?_
            · (try dsimp only at hSw)
              unfold oS2
              go_simp
            try simp only [oS2, Act.put, List.setIfInBounds_toArray, List.set_cons_zero, List.set_cons_succ]
            refine wpAnyH_take (i := 3) (oi := oS3) (v := .pointer (some ⟨w.heap.size, 1, none⟩)) rfl (by kernel_rfl) (by kernel_rfl) (by kernel_rfl) (fun _ _ _ h => h) (Or.inl ⟨by rfl, fun w hSw => ?_⟩) hHeld ?_
            · (try dsimp only at hSw)
              unfold oS3
              go_simp
            try simp only [oS3, Act.put, List.setIfInBounds_toArray, List.set_cons_zero, List.set_cons_succ]
            refine wpAnyH_take (i := 4) (oi := oS4) (v := .slice (some ⟨g, 0, none⟩) x.ps.length x.c) rfl (by kernel_rfl) (by kernel_rfl) (by kernel_rfl) (fun _ _ _ h => h) (Or.inl ⟨by rfl, fun w hSw => ?_⟩) hHeld ?_
            · (try dsimp only at hSw)
              unfold oS4
              go_simp
            try simp only [oS4, Act.put, List.setIfInBounds_toArray, List.set_cons_zero, List.set_cons_succ]
            refine wpAnyH_take (i := 5) (oi := oS5) (v := .int .i64 k) rfl (by kernel_rfl) (by kernel_rfl) (by kernel_rfl) (fun _ _ _ h => h) (Or.inl ⟨by rfl, fun w hSw => ?_⟩) hHeld ?_
            · (try dsimp only at hSw)
              unfold oS5
              go_simp
            try simp only [oS5, Act.put, List.setIfInBounds_toArray, List.set_cons_zero, List.set_cons_succ]
            refine wpAnyH_take (i := 6) (oi := oS6) (v := .pointer (some ⟨g, k * 3, none⟩)) rfl (by kernel_rfl) (by kernel_rfl) (by kernel_rfl) (fun _ _ _ h => h) (Or.inl ⟨by rfl, fun w hSw => ?_⟩) hHeld ?_
            · (try dsimp only at hSw)
              unfold oS6
              go_simp
            try simp only [oS6, Act.put, List.setIfInBounds_toArray, List.set_cons_zero, List.set_cons_succ]
            refine wpAnyH_take (i := 7) (oi := oS7) (v := .pointer (some ⟨g, k * 3, none⟩)) rfl (by kernel_rfl) (by kernel_rfl) (by kernel_rfl) (fun _ _ _ h => h) (Or.inl ⟨by rfl, fun w hSw => ?_⟩) hHeld ?_
            · (try dsimp only at hSw)
              unfold oS7
              go_simp
            try simp only [oS7, Act.put, List.setIfInBounds_toArray, List.set_cons_zero, List.set_cons_succ]
            refine wpAnyH_take (i := 8) (oi := oS8) (v := .int .i64 z0) rfl (by kernel_rfl) (by kernel_rfl) (by kernel_rfl) (fun _ _ _ h => h) (Or.inl ⟨by rfl, fun w hSw => ?_⟩) hHeld ?_
            · (try dsimp only at hSw)
              unfold oS8
              go_simp
            try simp only [oS8, Act.put, List.setIfInBounds_toArray, List.set_cons_zero, List.set_cons_succ]
            refine wpAnyH_take (i := 9) (oi := oS9) (v := .pointer (some ⟨w.heap.size + 1, 0, none⟩)) rfl (by kernel_rfl) (by kernel_rfl) (by kernel_rfl) (fun _ _ _ h => h) (Or.inl ⟨by rfl, fun w hSw => ?_⟩) hHeld ?_
            · (try dsimp only at hSw)
              unfold oS9
              go_simp
            try simp only [oS9, Act.put, List.setIfInBounds_toArray, List.set_cons_zero, List.set_cons_succ]
            refine wpAnyH_take (i := 10) (oi := oS10) (v := .int .i64 f0) rfl (by kernel_rfl) (by kernel_rfl) (by kernel_rfl) (fun _ _ _ h => h) (Or.inl ⟨by rfl, fun w hSw => ?_⟩) hHeld ?_
            · (try dsimp only at hSw)
              unfold oS10
              go_simp
            try simp only [oS10, Act.put, List.setIfInBounds_toArray, List.set_cons_zero, List.set_cons_succ]
            refine wpAnyH_take (i := 11) (oi := oS11) (v := .bool true) rfl (by kernel_rfl) (by kernel_rfl) (by kernel_rfl) (fun _ _ _ h => h) (Or.inl ⟨by rfl, fun w hSw => ?_⟩) hHeld ?_
            · (try dsimp only at hSw)
              unfold oS11
              go_simp
            try simp only [oS11, Act.put, List.setIfInBounds_toArray, List.set_cons_zero, List.set_cons_succ]
            refine wpAnyH_take (i := 12) (oi := oS12) (v := .bool true) rfl (by kernel_rfl) (by kernel_rfl) (by kernel_rfl) (fun _ _ _ h => h) (Or.inl ⟨by rfl, fun w hSw => ?_⟩) hHeld ?_
            · (try dsimp only at hSw)
              unfold oS12
              go_simp
            try simp only [oS12, Act.put, List.setIfInBounds_toArray, List.set_cons_zero, List.set_cons_succ]
            refine wpAnyH_done (by kernel_rfl) ?_ _
            have PV := hide (unhide HPt).drew
            generalize wr.drew = v1 at *
            have u5c := (kcell (unhide PV).gr 1 wl0 (by omega)).trans (unhide HC)
            have u50 := (kcell (unhide PV).gr (k * 3) lg gn).trans (unhide D0)
            have u51 := (kcell (unhide PV).gr (k * 3 + 1) lg gn).trans (unhide D1)
            have u52 := (kcell (unhide PV).gr (k * 3 + 2) lg gn).trans (unhide D2)
            have u5f := (kcell (unhide PV).gr 0 wl1 (by omega)).trans (unhide F0)
            have u5g := (kcell (unhide PV).gr 1 wl1 (by omega)).trans (unhide F1)
            have u5h := (kcell (unhide PV).gr 2 wl1 (by omega)).trans (unhide F2)
            have u5s := (unhide PV).gr.size
            have bo := (unhide PV).bx.c1
            have lo := (unhide PV).bx.lt.2
            have bob : (v1.alloc (.cells #[.int .i64 f0, .string f1, .string f2] 54)).cell? ⟨w.heap.size + 1 + 1 + 1, 1, none⟩ = some (.slice a (m) c) := ((one_more v1 (.cells #[.int .i64 f0, .string f1, .string f2] 54)).cell (p := ⟨w.heap.size + 1 + 1 + 1, 1, none⟩) lo).trans bo
            have vs := (unhide PV).gr.size
            go_wp2_with (first | (at_builtin; refine wp_app _ rfl _ _ rfl W.heap.size (.slice a (m) c) (m) (flatF (L)) v1.heap.size [.int .i64 f0, .string f1, .string f2] rfl rfl (row_step (unhide PV).ow (one_more v1 (.cells #[.int .i64 f0, .string f1, .string f2] 54))) rfl (litm v1 _ _ _ (by rfl)) (by simp [Value.oneCell']) (by omega) (Nat.le_trans vs (by simp)) ?_) | go_in)
            intro g8 c8 u8 o8 gr8
            (try rw [← s3] at o8)
            have PA := (unhide PV).app (p := (f0, f1, f2)) hO (one_more v1 (.cells #[.int .i64 f0, .string f1, .string f2] 54)) gr8 o8
            have bx8 := PA.1
            have b80 := bx8.c1
            have b81 := bx8.free 1
            have P8 := hide PA.2
            clear o8 gr8 PA bo bob bx8
            go_wp2_with fail
            generalize u8.setCell ⟨w.heap.size + 1 + 1 + 1, 1, none⟩ (.slice (some ⟨g8, 0, none⟩) (m + 1) c8) = v2 at *
            have NX := hide (show putN x.ps (f0, f1, f2) (k + 1) = ((L ++ [(f0, f1, f2)]) ++ [(z0, z1, z2)], true) from by rw [putN_succ (unhide HP), unhide EP]; simp [PBV, qe, QF])
            have hq : (z0 != f0) = true := by simp [qe]
            clear qe
            have u2c := (kcell (unhide P8).gr 1 wl0 (by omega)).trans (unhide HC)
            have u20 := (kcell (unhide P8).gr (k * 3) lg gn).trans (unhide D0)
            have u21 := (kcell (unhide P8).gr (k * 3 + 1) lg gn).trans (unhide D1)
            have u22 := (kcell (unhide P8).gr (k * 3 + 2) lg gn).trans (unhide D2)
            have u2f := (kcell (unhide P8).gr 0 wl1 (by omega)).trans (unhide F0)
            have u2g := (kcell (unhide P8).gr 1 wl1 (by omega)).trans (unhide F1)
            have u2h := (kcell (unhide P8).gr 2 wl1 (by omega)).trans (unhide F2)
            have u2s := (unhide P8).gr.size
            have K2 : v2.cell? ⟨w.heap.size, 1, none⟩ = some (.slice (some ⟨g, 0, none⟩) x.ps.length x.c) ∧ v2.cell? ⟨g, k * 3, none⟩ = some (.int .i64 z0) ∧ v2.cell? ⟨w.heap.size + 1, 0, none⟩ = some (.int .i64 f0) := ⟨u2c, u20, u2f⟩
            refine wp_region_held_drew (S := (fun w' => w'.cell? ⟨w.heap.size, 1, none⟩ = some (.slice (some ⟨g, 0, none⟩) x.ps.length x.c) ∧ w'.cell? ⟨g, k * 3, none⟩ = some (.int .i64 z0) ∧ w'.cell? ⟨w.heap.size + 1, 0, none⟩ = some (.int .i64 f0))) (by kernel_rfl) K2 (fun hHeld => ?_)
            refine wpAnyH_take (i := 0) (oi := oN0) (v := .pointer (some ⟨w.heap.size, 1, none⟩)) rfl (by kernel_rfl) (by kernel_rfl) (by kernel_rfl) (fun _ _ _ h => h) (Or.inl ⟨by rfl, fun w hSw => ?_⟩) hHeld ?_
            · (try dsimp only at hSw)
              unfold oN0
              go_simp
            try simp only [oN0, Act.put, List.setIfInBounds_toArray, List.set_cons_zero, List.set_cons_succ]
            refine wpAnyH_take (i := 1) (oi := oN1) (v := .slice (some ⟨g, 0, none⟩) x.ps.length x.c) rfl (by kernel_rfl) (by kernel_rfl) (by kernel_rfl) (fun _ _ _ h => h) (Or.inl ⟨by rfl, fun w hSw => ?_⟩) hHeld ?_
            · (try dsimp only at hSw)
              unfold oN1
              go_simp
            try simp only [oN1, Act.put, List.setIfInBounds_toArray, List.set_cons_zero, List.set_cons_succ]
            refine wpAnyH_take (i := 2) (oi := oN2) (v := .int .i64 k) rfl (by kernel_rfl) (by kernel_rfl) (by kernel_rfl) (fun _ _ _ h => h) (Or.inl ⟨by rfl, fun w hSw => ?_⟩) hHeld ?_
            · (try dsimp only at hSw)
              unfold oN2
              go_simp
            try simp only [oN2, Act.put, List.setIfInBounds_toArray, List.set_cons_zero, List.set_cons_succ]
            refine wpAnyH_take (i := 3) (oi := oN3) (v := .pointer (some ⟨g, k * 3, none⟩)) rfl (by kernel_rfl) (by kernel_rfl) (by kernel_rfl) (fun _ _ _ h => h) (Or.inl ⟨by rfl, fun w hSw => ?_⟩) hHeld ?_
            · (try dsimp only at hSw)
              unfold oN3
              go_simp
            try simp only [oN3, Act.put, List.setIfInBounds_toArray, List.set_cons_zero, List.set_cons_succ]
            refine wpAnyH_take (i := 4) (oi := oN4) (v := .pointer (some ⟨g, k * 3, none⟩)) rfl (by kernel_rfl) (by kernel_rfl) (by kernel_rfl) (fun _ _ _ h => h) (Or.inl ⟨by rfl, fun w hSw => ?_⟩) hHeld ?_
            · (try dsimp only at hSw)
              unfold oN4
              go_simp
            try simp only [oN4, Act.put, List.setIfInBounds_toArray, List.set_cons_zero, List.set_cons_succ]
            refine wpAnyH_take (i := 5) (oi := oN5) (v := .int .i64 z0) rfl (by kernel_rfl) (by kernel_rfl) (by kernel_rfl) (fun _ _ _ h => h) (Or.inl ⟨by rfl, fun w hSw => ?_⟩) hHeld ?_
            · (try dsimp only at hSw)
              unfold oN5
              go_simp
            try simp only [oN5, Act.put, List.setIfInBounds_toArray, List.set_cons_zero, List.set_cons_succ]
            refine wpAnyH_take (i := 6) (oi := oN6) (v := .pointer (some ⟨w.heap.size + 1, 0, none⟩)) rfl (by kernel_rfl) (by kernel_rfl) (by kernel_rfl) (fun _ _ _ h => h) (Or.inl ⟨by rfl, fun w hSw => ?_⟩) hHeld ?_
            · (try dsimp only at hSw)
              unfold oN6
              go_simp
            try simp only [oN6, Act.put, List.setIfInBounds_toArray, List.set_cons_zero, List.set_cons_succ]
            refine wpAnyH_take (i := 7) (oi := oN7) (v := .int .i64 f0) rfl (by kernel_rfl) (by kernel_rfl) (by kernel_rfl) (fun _ _ _ h => h) (Or.inl ⟨by rfl, fun w hSw => ?_⟩) hHeld ?_
            · (try dsimp only at hSw)
              unfold oN7
              go_simp
            try simp only [oN7, Act.put, List.setIfInBounds_toArray, List.set_cons_zero, List.set_cons_succ]
            refine wpAnyH_take (i := 8) (oi := oN8) (v := .bool true) rfl (by kernel_rfl) (by kernel_rfl) (by kernel_rfl) (fun _ _ _ h => h) (Or.inl ⟨by rfl, fun w hSw => ?_⟩) hHeld ?_
            · (try dsimp only at hSw)
              unfold oN8
              go_simp
            try simp only [oN8, Act.put, List.setIfInBounds_toArray, List.set_cons_zero, List.set_cons_succ]
            refine wpAnyH_done (by kernel_rfl) ?_ _
            have P8D := hide (unhide P8).drew
            go_wp2_with fail
            generalize v2.drew = q2 at *
            have u3c := (kcell (unhide P8D).gr 1 wl0 (by omega)).trans (unhide HC)
            have u30 := (kcell (unhide P8D).gr (k * 3) lg gn).trans (unhide D0)
            have u31 := (kcell (unhide P8D).gr (k * 3 + 1) lg gn).trans (unhide D1)
            have u32 := (kcell (unhide P8D).gr (k * 3 + 2) lg gn).trans (unhide D2)
            have u3f := (kcell (unhide P8D).gr 0 wl1 (by omega)).trans (unhide F0)
            have u3g := (kcell (unhide P8D).gr 1 wl1 (by omega)).trans (unhide F1)
            have u3h := (kcell (unhide P8D).gr 2 wl1 (by omega)).trans (unhide F2)
            have u3s := (unhide P8D).gr.size
            have K0 : q2.cell? ⟨w.heap.size, 1, none⟩ = some (.slice (some ⟨g, 0, none⟩) x.ps.length x.c) ∧ q2.cell? ⟨g, k * 3, none⟩ = some (.int .i64 z0) ∧ q2.cell? ⟨g, k * 3 + 1, none⟩ = some (.string z1) ∧ q2.cell? ⟨g, k * 3 + 2, none⟩ = some (.string z2) := ⟨u3c, u30, u31, u32⟩
            have KB : (q2.drew.alloc (.cells #[.int .i64 z0, .string z1, .string z2] 54)).cell? ⟨w.heap.size, 1, none⟩ = some (.slice (some ⟨g, 0, none⟩) x.ps.length x.c) ∧ (q2.drew.alloc (.cells #[.int .i64 z0, .string z1, .string z2] 54)).cell? ⟨g, k * 3, none⟩ = some (.int .i64 z0) ∧ (q2.drew.alloc (.cells #[.int .i64 z0, .string z1, .string z2] 54)).cell? ⟨g, k * 3 + 1, none⟩ = some (.string z1) ∧ (q2.drew.alloc (.cells #[.int .i64 z0, .string z1, .string z2] 54)).cell? ⟨g, k * 3 + 2, none⟩ = some (.string z2) := ⟨((one_more q2.drew (.cells #[.int .i64 z0, .string z1, .string z2] 54)).cell (p := ⟨w.heap.size, 1, none⟩) (show w.heap.size < q2.heap.size from by omega)).trans u3c, ((one_more q2.drew (.cells #[.int .i64 z0, .string z1, .string z2] 54)).cell (p := ⟨g, k * 3, none⟩) (show g < q2.heap.size from by omega)).trans u30, ((one_more q2.drew (.cells #[.int .i64 z0, .string z1, .string z2] 54)).cell (p := ⟨g, k * 3 + 1, none⟩) (show g < q2.heap.size from by omega)).trans u31, ((one_more q2.drew (.cells #[.int .i64 z0, .string z1, .string z2] 54)).cell (p := ⟨g, k * 3 + 2, none⟩) (show g < q2.heap.size from by omega)).trans u32⟩
            have bc := (unhide P8D).bx.c1
            have lo9 := (unhide P8D).bx.lt.2
            have bcD : q2.drew.cell? ⟨w.heap.size + 1 + 1 + 1, 1, none⟩ = some (.slice (some ⟨g8, 0, none⟩) ((m + 1)) c8) := bc
            have bcA : (q2.alloc (.cells #[.int .i64 z0, .string z1, .string z2] 54)).cell? ⟨w.heap.size + 1 + 1 + 1, 1, none⟩ = some (.slice (some ⟨g8, 0, none⟩) ((m + 1)) c8) := ((one_more q2.drew (.cells #[.int .i64 z0, .string z1, .string z2] 54)).cell (p := ⟨w.heap.size + 1 + 1 + 1, 1, none⟩) lo9).trans bc
            refine wp_region_held_drew (S := (fun w' => w'.cell? ⟨w.heap.size, 1, none⟩ = some (.slice (some ⟨g, 0, none⟩) x.ps.length x.c) ∧ w'.cell? ⟨g, k * 3, none⟩ = some (.int .i64 z0) ∧ w'.cell? ⟨g, k * 3 + 1, none⟩ = some (.string z1) ∧ w'.cell? ⟨g, k * 3 + 2, none⟩ = some (.string z2))) (by kernel_rfl) K0 (fun hHeld => ?_)
            refine wpAnyH_take (i := 0) (oi := oT0) (v := .pointer (some ⟨w.heap.size + 1 + 1 + 1, 1, none⟩)) rfl (by kernel_rfl) (by kernel_rfl) (by kernel_rfl) (fun _ _ _ h => h) (Or.inl ⟨by rfl, fun w hSw => ?_⟩) hHeld ?_
            · (try dsimp only at hSw)
              unfold oT0
              go_simp
            try simp only [oT0, Act.put, List.setIfInBounds_toArray, List.set_cons_zero, List.set_cons_succ]
            refine wpAnyH_take (i := 2) (oi := oT2) (v := .pointer (some ⟨w.heap.size, 1, none⟩)) rfl (by kernel_rfl) (by kernel_rfl) (by kernel_rfl) (fun _ _ _ h => h) (Or.inl ⟨by rfl, fun w hSw => ?_⟩) hHeld ?_
            · (try dsimp only at hSw)
              unfold oT2
              go_simp
            try simp only [oT2, Act.put, List.setIfInBounds_toArray, List.set_cons_zero, List.set_cons_succ]
            refine wpAnyH_take (i := 3) (oi := oT3) (v := .slice (some ⟨g, 0, none⟩) x.ps.length x.c) rfl (by kernel_rfl) (by kernel_rfl) (by kernel_rfl) (fun _ _ _ h => h) (Or.inl ⟨by rfl, fun w hSw => ?_⟩) hHeld ?_
            · (try dsimp only at hSw)
              unfold oT3
              go_simp
            try simp only [oT3, Act.put, List.setIfInBounds_toArray, List.set_cons_zero, List.set_cons_succ]
            refine wpAnyH_take (i := 4) (oi := oT4) (v := .int .i64 k) rfl (by kernel_rfl) (by kernel_rfl) (by kernel_rfl) (fun _ _ _ h => h) (Or.inl ⟨by rfl, fun w hSw => ?_⟩) hHeld ?_
            · (try dsimp only at hSw)
              unfold oT4
              go_simp
            try simp only [oT4, Act.put, List.setIfInBounds_toArray, List.set_cons_zero, List.set_cons_succ]
            refine wpAnyH_take (i := 5) (oi := oT5) (v := .pointer (some ⟨g, k * 3, none⟩)) rfl (by kernel_rfl) (by kernel_rfl) (by kernel_rfl) (fun _ _ _ h => h) (Or.inl ⟨by rfl, fun w hSw => ?_⟩) hHeld ?_
            · (try dsimp only at hSw)
              unfold oT5
              go_simp
            try simp only [oT5, Act.put, List.setIfInBounds_toArray, List.set_cons_zero, List.set_cons_succ]
            refine wpAnyH_take (i := 6) (oi := oT6) (v := .agg #[.int .i64 z0, .string z1, .string z2]) rfl (by kernel_rfl) (by kernel_rfl) (by kernel_rfl) (fun _ _ _ h => h) (Or.inl ⟨by rfl, fun w hSw => ?_⟩) hHeld ?_
            · (try dsimp only at hSw)
              unfold oT6
              go_simp
            try simp only [oT6, Act.put, List.setIfInBounds_toArray, List.set_cons_zero, List.set_cons_succ]
            refine wpAnyH_ready (rs := [1, 7]) (by kernel_rfl) (by simp) ?_
            refine AllReadyH.cons (o := oT1) rfl (fun K hK => ?_) (AllReadyH.cons (o := oT7) rfl (fun K hK => ?_) AllReadyH.nil)
            · unfold oT1
              go_simp
              refine hK.out _ _ K0 (fun hHeld => ?_)
              clear hK K
              try simp only [oT1, Act.put, List.setIfInBounds_toArray, List.set_cons_zero, List.set_cons_succ]
              refine wpAnyH_ready (rs := [7]) (by kernel_rfl) (by simp) ?_
              refine AllReadyH.cons (o := oT7) rfl (fun K hK => ?_) AllReadyH.nil
              unfold oT7
              go_simp
              refine hK.out _ _ KB (fun hHeld => ?_)
              clear hK K
              try simp only [oT7, Act.put, List.setIfInBounds_toArray, List.set_cons_zero, List.set_cons_succ]
              refine wpAnyH_ready (rs := [8]) (by kernel_rfl) (by simp) ?_
              refine AllReadyH.cons (o := oT8) rfl (fun K hK => ?_) AllReadyH.nil
              refine step_app (q2.drew.alloc (.cells #[.int .i64 z0, .string z1, .string z2] 54)) (by rfl) _ _ 24 54 (by rfl) (.agg #[.int .i64 0, .string ByteArray.empty, .string ByteArray.empty]) 3 40 Try.underlying24 HelpF14.info2 rfl (by decide) (by decide) W.heap.size (.slice (some ⟨g8, 0, none⟩) ((m + 1)) c8) ((m + 1)) (flatF ((L ++ [(f0, f1, f2)]))) q2.drew.heap.size [.int .i64 z0, .string z1, .string z2] (by rfl) (by rfl) (row_step (W := q2.drew) (unhide P8D).ow (one_more q2.drew (.cells #[.int .i64 z0, .string z1, .string z2] 54))) rfl (litm q2.drew _ _ _ (by rfl)) (by simp [Value.oneCell']) (by omega) (Nat.le_trans (show W.heap.size ≤ q2.drew.heap.size from u3s) (by simp)) ?_
              intro g9 c9 u9 o9 gr9
              have BL := (unhide P8D).off
              have PA := (unhide P8D).app (p := (z0, z1, z2)) hO ((Below.refl _ _).drew.alloc (Nat.le_refl _) (.cells #[.int .i64 z0, .string z1, .string z2] 54)) gr9 o9
              have bx9 := PA.1
              have bc9 := bx9.c1
              have fr9 := bx9.free 1
              have P9 := hide PA.2
              have us9 := gr9.size
              simp at us9
              have KC : u9.cell? ⟨w.heap.size, 1, none⟩ = some (.slice (some ⟨g, 0, none⟩) x.ps.length x.c) ∧ u9.cell? ⟨g, k * 3, none⟩ = some (.int .i64 z0) ∧ u9.cell? ⟨g, k * 3 + 1, none⟩ = some (.string z1) ∧ u9.cell? ⟨g, k * 3 + 2, none⟩ = some (.string z2) := ⟨gr9.cell KB.1 (fun e => by have := BL _ e.symm; simp only at this; omega), gr9.cell KB.2.1 (fun e => by have := BL _ e.symm; simp only at this; omega), gr9.cell KB.2.2.1 (fun e => by have := BL _ e.symm; simp only at this; omega), gr9.cell KB.2.2.2 (fun e => by have := BL _ e.symm; simp only at this; omega)⟩
              have SB := bc_set1 bx9 (.slice (some ⟨g9, 0, none⟩) ((m + 1) + 1) c9)
              have KD : (u9.setCell ⟨w.heap.size + 1 + 1 + 1, 1, none⟩ (.slice (some ⟨g9, 0, none⟩) ((m + 1) + 1) c9)).cell? ⟨w.heap.size, 1, none⟩ = some (.slice (some ⟨g, 0, none⟩) x.ps.length x.c) ∧ (u9.setCell ⟨w.heap.size + 1 + 1 + 1, 1, none⟩ (.slice (some ⟨g9, 0, none⟩) ((m + 1) + 1) c9)).cell? ⟨g, k * 3, none⟩ = some (.int .i64 z0) ∧ (u9.setCell ⟨w.heap.size + 1 + 1 + 1, 1, none⟩ (.slice (some ⟨g9, 0, none⟩) ((m + 1) + 1) c9)).cell? ⟨g, k * 3 + 1, none⟩ = some (.string z1) ∧ (u9.setCell ⟨w.heap.size + 1 + 1 + 1, 1, none⟩ (.slice (some ⟨g9, 0, none⟩) ((m + 1) + 1) c9)).cell? ⟨g, k * 3 + 2, none⟩ = some (.string z2) := ⟨(kcell SB.2 (1) (show w.heap.size < u9.heap.size from by omega) (show w.heap.size ≠ w.heap.size + 1 + 1 + 1 from by omega)).trans KC.1, (kcell SB.2 (k * 3) (show g < u9.heap.size from by omega) (show g ≠ w.heap.size + 1 + 1 + 1 from by omega)).trans KC.2.1, (kcell SB.2 (k * 3 + 1) (show g < u9.heap.size from by omega) (show g ≠ w.heap.size + 1 + 1 + 1 from by omega)).trans KC.2.2.1, (kcell SB.2 (k * 3 + 2) (show g < u9.heap.size from by omega) (show g ≠ w.heap.size + 1 + 1 + 1 from by omega)).trans KC.2.2.2⟩
              clear o9 gr9 PA SB bx9 BL
              refine hK.out _ _ KC (fun hHeld => ?_)
              clear hK K
              try simp only [oT8, Act.put, List.setIfInBounds_toArray, List.set_cons_zero, List.set_cons_succ]
              refine wpAnyH_take (i := 9) (oi := oT9) (v := .pointer (some ⟨w.heap.size + 1 + 1 + 1, 1, none⟩)) rfl (by kernel_rfl) (by kernel_rfl) (by kernel_rfl) (fun _ _ _ h => h) (Or.inl ⟨by rfl, fun w hSw => ?_⟩) hHeld ?_
              · (try dsimp only at hSw)
                unfold oT9
                go_simp
              try simp only [oT9, Act.put, List.setIfInBounds_toArray, List.set_cons_zero, List.set_cons_succ]
              refine wpAnyH_ready (rs := [10]) (by kernel_rfl) (by simp) ?_
              refine AllReadyH.cons (o := oT10) rfl (fun K hK => ?_) AllReadyH.nil
              unfold oT10
              go_simp
              refine hK.out _ _ KD (fun hHeld => ?_)
              clear hK K
              try simp only [oT10, Act.put, List.setIfInBounds_toArray, List.set_cons_zero, List.set_cons_succ]
              refine wpAnyH_done (by kernel_rfl) ?_ _
              clear K0 KB KC KD bc bcD bcA bc9 fr9
              go_wp2
              go_roundw
              case rel => exact ⟨k + 1, (m + 1) + 1, c9, some ⟨g9, 0, none⟩, (L ++ [(f0, f1, f2)]) ++ [(z0, z1, z2)], true, rfl, by go_num, by omega, by omega, NX, P9⟩
              case measure => simp [intOf]; omega
            · unfold oT7
              go_simp
              refine hK.out _ _ KB (fun hHeld => ?_)
              clear hK K
              try simp only [oT7, Act.put, List.setIfInBounds_toArray, List.set_cons_zero, List.set_cons_succ]
              refine wpAnyH_ready (rs := [1]) (by kernel_rfl) (by simp) ?_
              refine AllReadyH.cons (o := oT1) rfl (fun K hK => ?_) AllReadyH.nil
              unfold oT1
              go_simp
              refine hK.out _ _ KB (fun hHeld => ?_)
              clear hK K
              try simp only [oT1, Act.put, List.setIfInBounds_toArray, List.set_cons_zero, List.set_cons_succ]
              refine wpAnyH_ready (rs := [8]) (by kernel_rfl) (by simp) ?_
              refine AllReadyH.cons (o := oT8) rfl (fun K hK => ?_) AllReadyH.nil
              refine step_app (q2.drew.alloc (.cells #[.int .i64 z0, .string z1, .string z2] 54)) (by rfl) _ _ 24 54 (by rfl) (.agg #[.int .i64 0, .string ByteArray.empty, .string ByteArray.empty]) 3 40 Try.underlying24 HelpF14.info2 rfl (by decide) (by decide) W.heap.size (.slice (some ⟨g8, 0, none⟩) ((m + 1)) c8) ((m + 1)) (flatF ((L ++ [(f0, f1, f2)]))) q2.drew.heap.size [.int .i64 z0, .string z1, .string z2] (by rfl) (by rfl) (row_step (W := q2.drew) (unhide P8D).ow (one_more q2.drew (.cells #[.int .i64 z0, .string z1, .string z2] 54))) rfl (litm q2.drew _ _ _ (by rfl)) (by simp [Value.oneCell']) (by omega) (Nat.le_trans (show W.heap.size ≤ q2.drew.heap.size from u3s) (by simp)) ?_
              intro g9 c9 u9 o9 gr9
              have BL := (unhide P8D).off
              have PA := (unhide P8D).app (p := (z0, z1, z2)) hO ((Below.refl _ _).drew.alloc (Nat.le_refl _) (.cells #[.int .i64 z0, .string z1, .string z2] 54)) gr9 o9
              have bx9 := PA.1
              have bc9 := bx9.c1
              have fr9 := bx9.free 1
              have P9 := hide PA.2
              have us9 := gr9.size
              simp at us9
              have KC : u9.cell? ⟨w.heap.size, 1, none⟩ = some (.slice (some ⟨g, 0, none⟩) x.ps.length x.c) ∧ u9.cell? ⟨g, k * 3, none⟩ = some (.int .i64 z0) ∧ u9.cell? ⟨g, k * 3 + 1, none⟩ = some (.string z1) ∧ u9.cell? ⟨g, k * 3 + 2, none⟩ = some (.string z2) := ⟨gr9.cell KB.1 (fun e => by have := BL _ e.symm; simp only at this; omega), gr9.cell KB.2.1 (fun e => by have := BL _ e.symm; simp only at this; omega), gr9.cell KB.2.2.1 (fun e => by have := BL _ e.symm; simp only at this; omega), gr9.cell KB.2.2.2 (fun e => by have := BL _ e.symm; simp only at this; omega)⟩
              have SB := bc_set1 bx9 (.slice (some ⟨g9, 0, none⟩) ((m + 1) + 1) c9)
              have KD : (u9.setCell ⟨w.heap.size + 1 + 1 + 1, 1, none⟩ (.slice (some ⟨g9, 0, none⟩) ((m + 1) + 1) c9)).cell? ⟨w.heap.size, 1, none⟩ = some (.slice (some ⟨g, 0, none⟩) x.ps.length x.c) ∧ (u9.setCell ⟨w.heap.size + 1 + 1 + 1, 1, none⟩ (.slice (some ⟨g9, 0, none⟩) ((m + 1) + 1) c9)).cell? ⟨g, k * 3, none⟩ = some (.int .i64 z0) ∧ (u9.setCell ⟨w.heap.size + 1 + 1 + 1, 1, none⟩ (.slice (some ⟨g9, 0, none⟩) ((m + 1) + 1) c9)).cell? ⟨g, k * 3 + 1, none⟩ = some (.string z1) ∧ (u9.setCell ⟨w.heap.size + 1 + 1 + 1, 1, none⟩ (.slice (some ⟨g9, 0, none⟩) ((m + 1) + 1) c9)).cell? ⟨g, k * 3 + 2, none⟩ = some (.string z2) := ⟨(kcell SB.2 (1) (show w.heap.size < u9.heap.size from by omega) (show w.heap.size ≠ w.heap.size + 1 + 1 + 1 from by omega)).trans KC.1, (kcell SB.2 (k * 3) (show g < u9.heap.size from by omega) (show g ≠ w.heap.size + 1 + 1 + 1 from by omega)).trans KC.2.1, (kcell SB.2 (k * 3 + 1) (show g < u9.heap.size from by omega) (show g ≠ w.heap.size + 1 + 1 + 1 from by omega)).trans KC.2.2.1, (kcell SB.2 (k * 3 + 2) (show g < u9.heap.size from by omega) (show g ≠ w.heap.size + 1 + 1 + 1 from by omega)).trans KC.2.2.2⟩
              clear o9 gr9 PA SB bx9 BL
              refine hK.out _ _ KC (fun hHeld => ?_)
              clear hK K
              try simp only [oT8, Act.put, List.setIfInBounds_toArray, List.set_cons_zero, List.set_cons_succ]
              refine wpAnyH_take (i := 9) (oi := oT9) (v := .pointer (some ⟨w.heap.size + 1 + 1 + 1, 1, none⟩)) rfl (by kernel_rfl) (by kernel_rfl) (by kernel_rfl) (fun _ _ _ h => h) (Or.inl ⟨by rfl, fun w hSw => ?_⟩) hHeld ?_
              · (try dsimp only at hSw)
                unfold oT9
                go_simp
              try simp only [oT9, Act.put, List.setIfInBounds_toArray, List.set_cons_zero, List.set_cons_succ]
              refine wpAnyH_ready (rs := [10]) (by kernel_rfl) (by simp) ?_
              refine AllReadyH.cons (o := oT10) rfl (fun K hK => ?_) AllReadyH.nil
              unfold oT10
              go_simp
              refine hK.out _ _ KD (fun hHeld => ?_)
              clear hK K
              try simp only [oT10, Act.put, List.setIfInBounds_toArray, List.set_cons_zero, List.set_cons_succ]
              refine wpAnyH_done (by kernel_rfl) ?_ _
              clear K0 KB KC KD bc bcD bcA bc9 fr9
              go_wp2
              go_roundw
              case rel => exact ⟨k + 1, (m + 1) + 1, c9, some ⟨g9, 0, none⟩, (L ++ [(f0, f1, f2)]) ++ [(z0, z1, z2)], true, rfl, by go_num, by omega, by omega, NX, P9⟩
              case measure => simp [intOf]; omega
        · have PBV : True := trivial
          have QF : ¬ f0 ≤ z0 := qf
          have hg : ¬ z0 ≥ f0 := qf
          have qe : ¬ z0 = f0 := by omega
          have K6 : wr.cell? ⟨w.heap.size, 1, none⟩ = some (.slice (some ⟨g, 0, none⟩) x.ps.length x.c) ∧ wr.cell? ⟨g, k * 3, none⟩ = some (.int .i64 z0) ∧ wr.cell? ⟨w.heap.size + 1, 0, none⟩ = some (.int .i64 f0) := ⟨u1c, u10, u1f⟩
          go_wp2_with fail
          refine wp_region_held_drew (S := (fun w' => w'.cell? ⟨w.heap.size, 1, none⟩ = some (.slice (some ⟨g, 0, none⟩) x.ps.length x.c) ∧ w'.cell? ⟨g, k * 3, none⟩ = some (.int .i64 z0) ∧ w'.cell? ⟨w.heap.size + 1, 0, none⟩ = some (.int .i64 f0))) (by kernel_rfl) K6 (fun hHeld => ?_)
          refine wpAnyH_take (i := 0) (oi := oS0) (v := .bool false) rfl (by kernel_rfl) (by kernel_rfl) (by kernel_rfl) (fun _ _ _ h => h) (Or.inl ⟨by rfl, fun w hSw => ?_⟩) hHeld ?_
          · (try dsimp only at hSw)
            unfold oS0
            go_simp
          try simp only [oS0, Act.put, List.setIfInBounds_toArray, List.set_cons_zero, List.set_cons_succ]
          refine wpAnyH_take (i := 1) (oi := oS1) (v := .bool true) rfl (by kernel_rfl) (by kernel_rfl) (by kernel_rfl) (fun _ _ _ h => h) (Or.inl ⟨by rfl, fun w hSw => ?_⟩) hHeld ?_
          · (try dsimp only at hSw)
            unfold oS1
            go_simp
          try simp only [oS1, Act.put, List.setIfInBounds_toArray, List.set_cons_zero, List.set_cons_succ]
          refine wpAnyH_take (i := 2) (oi := oS2) (v := .bool true) rfl (by kernel_rfl) (by kernel_rfl) (by kernel_rfl) (fun _ _ _ h => h) (Or.inl ⟨by rfl, fun w hSw => ?_⟩) hHeld ?_
          · (try dsimp only at hSw)
            unfold oS2
            go_simp
          try simp only [oS2, Act.put, List.setIfInBounds_toArray, List.set_cons_zero, List.set_cons_succ]
          refine wpAnyH_take (i := 3) (oi := oS3) (v := .pointer (some ⟨w.heap.size, 1, none⟩)) rfl (by kernel_rfl) (by kernel_rfl) (by kernel_rfl) (fun _ _ _ h => h) (Or.inl ⟨by rfl, fun w hSw => ?_⟩) hHeld ?_
          · (try dsimp only at hSw)
            unfold oS3
            go_simp
          try simp only [oS3, Act.put, List.setIfInBounds_toArray, List.set_cons_zero, List.set_cons_succ]
          refine wpAnyH_take (i := 4) (oi := oS4) (v := .slice (some ⟨g, 0, none⟩) x.ps.length x.c) rfl (by kernel_rfl) (by kernel_rfl) (by kernel_rfl) (fun _ _ _ h => h) (Or.inl ⟨by rfl, fun w hSw => ?_⟩) hHeld ?_
          · (try dsimp only at hSw)
            unfold oS4
            go_simp
          try simp only [oS4, Act.put, List.setIfInBounds_toArray, List.set_cons_zero, List.set_cons_succ]
          refine wpAnyH_take (i := 5) (oi := oS5) (v := .int .i64 k) rfl (by kernel_rfl) (by kernel_rfl) (by kernel_rfl) (fun _ _ _ h => h) (Or.inl ⟨by rfl, fun w hSw => ?_⟩) hHeld ?_
          · (try dsimp only at hSw)
            unfold oS5
            go_simp
          try simp only [oS5, Act.put, List.setIfInBounds_toArray, List.set_cons_zero, List.set_cons_succ]
          refine wpAnyH_take (i := 6) (oi := oS6) (v := .pointer (some ⟨g, k * 3, none⟩)) rfl (by kernel_rfl) (by kernel_rfl) (by kernel_rfl) (fun _ _ _ h => h) (Or.inl ⟨by rfl, fun w hSw => ?_⟩) hHeld ?_
          · (try dsimp only at hSw)
            unfold oS6
            go_simp
          try simp only [oS6, Act.put, List.setIfInBounds_toArray, List.set_cons_zero, List.set_cons_succ]
          refine wpAnyH_take (i := 7) (oi := oS7) (v := .pointer (some ⟨g, k * 3, none⟩)) rfl (by kernel_rfl) (by kernel_rfl) (by kernel_rfl) (fun _ _ _ h => h) (Or.inl ⟨by rfl, fun w hSw => ?_⟩) hHeld ?_
          · (try dsimp only at hSw)
            unfold oS7
            go_simp
          try simp only [oS7, Act.put, List.setIfInBounds_toArray, List.set_cons_zero, List.set_cons_succ]
          refine wpAnyH_take (i := 8) (oi := oS8) (v := .int .i64 z0) rfl (by kernel_rfl) (by kernel_rfl) (by kernel_rfl) (fun _ _ _ h => h) (Or.inl ⟨by rfl, fun w hSw => ?_⟩) hHeld ?_
          · (try dsimp only at hSw)
            unfold oS8
            go_simp
          try simp only [oS8, Act.put, List.setIfInBounds_toArray, List.set_cons_zero, List.set_cons_succ]
          refine wpAnyH_take (i := 9) (oi := oS9) (v := .pointer (some ⟨w.heap.size + 1, 0, none⟩)) rfl (by kernel_rfl) (by kernel_rfl) (by kernel_rfl) (fun _ _ _ h => h) (Or.inl ⟨by rfl, fun w hSw => ?_⟩) hHeld ?_
          · (try dsimp only at hSw)
            unfold oS9
            go_simp
          try simp only [oS9, Act.put, List.setIfInBounds_toArray, List.set_cons_zero, List.set_cons_succ]
          refine wpAnyH_take (i := 10) (oi := oS10) (v := .int .i64 f0) rfl (by kernel_rfl) (by kernel_rfl) (by kernel_rfl) (fun _ _ _ h => h) (Or.inl ⟨by rfl, fun w hSw => ?_⟩) hHeld ?_
          · (try dsimp only at hSw)
            unfold oS10
            go_simp
          try simp only [oS10, Act.put, List.setIfInBounds_toArray, List.set_cons_zero, List.set_cons_succ]
          refine wpAnyH_take (i := 11) (oi := oS11) (v := .bool false) rfl (by kernel_rfl) (by kernel_rfl) (by kernel_rfl) (fun _ _ _ h => h) (Or.inl ⟨by rfl, fun w hSw => ?_⟩) hHeld ?_
          · (try dsimp only at hSw)
            unfold oS11
            go_simp
          try simp only [oS11, Act.put, List.setIfInBounds_toArray, List.set_cons_zero, List.set_cons_succ]
          refine wpAnyH_take (i := 12) (oi := oS12) (v := .bool false) rfl (by kernel_rfl) (by kernel_rfl) (by kernel_rfl) (fun _ _ _ h => h) (Or.inl ⟨by rfl, fun w hSw => ?_⟩) hHeld ?_
          · (try dsimp only at hSw)
            unfold oS12
            go_simp
          try simp only [oS12, Act.put, List.setIfInBounds_toArray, List.set_cons_zero, List.set_cons_succ]
          refine wpAnyH_done (by kernel_rfl) ?_ _
          have PV := hide (unhide HPt).drew
          go_wp2_with fail
          generalize wr.drew = v1 at *
          have NX := hide (show putN x.ps (f0, f1, f2) (k + 1) = (L ++ [(z0, z1, z2)], false) from by rw [putN_succ (unhide HP), unhide EP]; simp [PBV, qe, QF])
          have hq : (z0 != f0) = true := by simp [qe]
          clear qe
          have u2c := (kcell (unhide PV).gr 1 wl0 (by omega)).trans (unhide HC)
          have u20 := (kcell (unhide PV).gr (k * 3) lg gn).trans (unhide D0)
          have u21 := (kcell (unhide PV).gr (k * 3 + 1) lg gn).trans (unhide D1)
          have u22 := (kcell (unhide PV).gr (k * 3 + 2) lg gn).trans (unhide D2)
          have u2f := (kcell (unhide PV).gr 0 wl1 (by omega)).trans (unhide F0)
          have u2g := (kcell (unhide PV).gr 1 wl1 (by omega)).trans (unhide F1)
          have u2h := (kcell (unhide PV).gr 2 wl1 (by omega)).trans (unhide F2)
          have u2s := (unhide PV).gr.size
          have K2 : v1.cell? ⟨w.heap.size, 1, none⟩ = some (.slice (some ⟨g, 0, none⟩) x.ps.length x.c) ∧ v1.cell? ⟨g, k * 3, none⟩ = some (.int .i64 z0) ∧ v1.cell? ⟨w.heap.size + 1, 0, none⟩ = some (.int .i64 f0) := ⟨u2c, u20, u2f⟩
          refine wp_region_held_drew (S := (fun w' => w'.cell? ⟨w.heap.size, 1, none⟩ = some (.slice (some ⟨g, 0, none⟩) x.ps.length x.c) ∧ w'.cell? ⟨g, k * 3, none⟩ = some (.int .i64 z0) ∧ w'.cell? ⟨w.heap.size + 1, 0, none⟩ = some (.int .i64 f0))) (by kernel_rfl) K2 (fun hHeld => ?_)
          refine wpAnyH_take (i := 0) (oi := oN0) (v := .pointer (some ⟨w.heap.size, 1, none⟩)) rfl (by kernel_rfl) (by kernel_rfl) (by kernel_rfl) (fun _ _ _ h => h) (Or.inl ⟨by rfl, fun w hSw => ?_⟩) hHeld ?_
          · (try dsimp only at hSw)
            unfold oN0
            go_simp
          try simp only [oN0, Act.put, List.setIfInBounds_toArray, List.set_cons_zero, List.set_cons_succ]
          refine wpAnyH_take (i := 1) (oi := oN1) (v := .slice (some ⟨g, 0, none⟩) x.ps.length x.c) rfl (by kernel_rfl) (by kernel_rfl) (by kernel_rfl) (fun _ _ _ h => h) (Or.inl ⟨by rfl, fun w hSw => ?_⟩) hHeld ?_
          · (try dsimp only at hSw)
            unfold oN1
            go_simp
          try simp only [oN1, Act.put, List.setIfInBounds_toArray, List.set_cons_zero, List.set_cons_succ]
          refine wpAnyH_take (i := 2) (oi := oN2) (v := .int .i64 k) rfl (by kernel_rfl) (by kernel_rfl) (by kernel_rfl) (fun _ _ _ h => h) (Or.inl ⟨by rfl, fun w hSw => ?_⟩) hHeld ?_
          · (try dsimp only at hSw)
            unfold oN2
            go_simp
          try simp only [oN2, Act.put, List.setIfInBounds_toArray, List.set_cons_zero, List.set_cons_succ]
          refine wpAnyH_take (i := 3) (oi := oN3) (v := .pointer (some ⟨g, k * 3, none⟩)) rfl (by kernel_rfl) (by kernel_rfl) (by kernel_rfl) (fun _ _ _ h => h) (Or.inl ⟨by rfl, fun w hSw => ?_⟩) hHeld ?_
          · (try dsimp only at hSw)
            unfold oN3
            go_simp
          try simp only [oN3, Act.put, List.setIfInBounds_toArray, List.set_cons_zero, List.set_cons_succ]
          refine wpAnyH_take (i := 4) (oi := oN4) (v := .pointer (some ⟨g, k * 3, none⟩)) rfl (by kernel_rfl) (by kernel_rfl) (by kernel_rfl) (fun _ _ _ h => h) (Or.inl ⟨by rfl, fun w hSw => ?_⟩) hHeld ?_
          · (try dsimp only at hSw)
            unfold oN4
            go_simp
          try simp only [oN4, Act.put, List.setIfInBounds_toArray, List.set_cons_zero, List.set_cons_succ]
          refine wpAnyH_take (i := 5) (oi := oN5) (v := .int .i64 z0) rfl (by kernel_rfl) (by kernel_rfl) (by kernel_rfl) (fun _ _ _ h => h) (Or.inl ⟨by rfl, fun w hSw => ?_⟩) hHeld ?_
          · (try dsimp only at hSw)
            unfold oN5
            go_simp
          try simp only [oN5, Act.put, List.setIfInBounds_toArray, List.set_cons_zero, List.set_cons_succ]
          refine wpAnyH_take (i := 6) (oi := oN6) (v := .pointer (some ⟨w.heap.size + 1, 0, none⟩)) rfl (by kernel_rfl) (by kernel_rfl) (by kernel_rfl) (fun _ _ _ h => h) (Or.inl ⟨by rfl, fun w hSw => ?_⟩) hHeld ?_
          · (try dsimp only at hSw)
            unfold oN6
            go_simp
          try simp only [oN6, Act.put, List.setIfInBounds_toArray, List.set_cons_zero, List.set_cons_succ]
          refine wpAnyH_take (i := 7) (oi := oN7) (v := .int .i64 f0) rfl (by kernel_rfl) (by kernel_rfl) (by kernel_rfl) (fun _ _ _ h => h) (Or.inl ⟨by rfl, fun w hSw => ?_⟩) hHeld ?_
          · (try dsimp only at hSw)
            unfold oN7
            go_simp
          try simp only [oN7, Act.put, List.setIfInBounds_toArray, List.set_cons_zero, List.set_cons_succ]
          refine wpAnyH_take (i := 8) (oi := oN8) (v := .bool true) rfl (by kernel_rfl) (by kernel_rfl) (by kernel_rfl) (fun _ _ _ h => h) (Or.inl ⟨by rfl, fun w hSw => ?_⟩) hHeld ?_
          · (try dsimp only at hSw)
            unfold oN8
            go_simp
          try simp only [oN8, Act.put, List.setIfInBounds_toArray, List.set_cons_zero, List.set_cons_succ]
          refine wpAnyH_done (by kernel_rfl) ?_ _
          have PVD := hide (unhide PV).drew
          go_wp2_with fail
          generalize v1.drew = q2 at *
          have u3c := (kcell (unhide PVD).gr 1 wl0 (by omega)).trans (unhide HC)
          have u30 := (kcell (unhide PVD).gr (k * 3) lg gn).trans (unhide D0)
          have u31 := (kcell (unhide PVD).gr (k * 3 + 1) lg gn).trans (unhide D1)
          have u32 := (kcell (unhide PVD).gr (k * 3 + 2) lg gn).trans (unhide D2)
          have u3f := (kcell (unhide PVD).gr 0 wl1 (by omega)).trans (unhide F0)
          have u3g := (kcell (unhide PVD).gr 1 wl1 (by omega)).trans (unhide F1)
          have u3h := (kcell (unhide PVD).gr 2 wl1 (by omega)).trans (unhide F2)
          have u3s := (unhide PVD).gr.size
          have K0 : q2.cell? ⟨w.heap.size, 1, none⟩ = some (.slice (some ⟨g, 0, none⟩) x.ps.length x.c) ∧ q2.cell? ⟨g, k * 3, none⟩ = some (.int .i64 z0) ∧ q2.cell? ⟨g, k * 3 + 1, none⟩ = some (.string z1) ∧ q2.cell? ⟨g, k * 3 + 2, none⟩ = some (.string z2) := ⟨u3c, u30, u31, u32⟩
          have KB : (q2.drew.alloc (.cells #[.int .i64 z0, .string z1, .string z2] 54)).cell? ⟨w.heap.size, 1, none⟩ = some (.slice (some ⟨g, 0, none⟩) x.ps.length x.c) ∧ (q2.drew.alloc (.cells #[.int .i64 z0, .string z1, .string z2] 54)).cell? ⟨g, k * 3, none⟩ = some (.int .i64 z0) ∧ (q2.drew.alloc (.cells #[.int .i64 z0, .string z1, .string z2] 54)).cell? ⟨g, k * 3 + 1, none⟩ = some (.string z1) ∧ (q2.drew.alloc (.cells #[.int .i64 z0, .string z1, .string z2] 54)).cell? ⟨g, k * 3 + 2, none⟩ = some (.string z2) := ⟨((one_more q2.drew (.cells #[.int .i64 z0, .string z1, .string z2] 54)).cell (p := ⟨w.heap.size, 1, none⟩) (show w.heap.size < q2.heap.size from by omega)).trans u3c, ((one_more q2.drew (.cells #[.int .i64 z0, .string z1, .string z2] 54)).cell (p := ⟨g, k * 3, none⟩) (show g < q2.heap.size from by omega)).trans u30, ((one_more q2.drew (.cells #[.int .i64 z0, .string z1, .string z2] 54)).cell (p := ⟨g, k * 3 + 1, none⟩) (show g < q2.heap.size from by omega)).trans u31, ((one_more q2.drew (.cells #[.int .i64 z0, .string z1, .string z2] 54)).cell (p := ⟨g, k * 3 + 2, none⟩) (show g < q2.heap.size from by omega)).trans u32⟩
          have bc := (unhide PVD).bx.c1
          have lo9 := (unhide PVD).bx.lt.2
          have bcD : q2.drew.cell? ⟨w.heap.size + 1 + 1 + 1, 1, none⟩ = some (.slice a (m) c) := bc
          have bcA : (q2.alloc (.cells #[.int .i64 z0, .string z1, .string z2] 54)).cell? ⟨w.heap.size + 1 + 1 + 1, 1, none⟩ = some (.slice a (m) c) := ((one_more q2.drew (.cells #[.int .i64 z0, .string z1, .string z2] 54)).cell (p := ⟨w.heap.size + 1 + 1 + 1, 1, none⟩) lo9).trans bc
          refine wp_region_held_drew (S := (fun w' => w'.cell? ⟨w.heap.size, 1, none⟩ = some (.slice (some ⟨g, 0, none⟩) x.ps.length x.c) ∧ w'.cell? ⟨g, k * 3, none⟩ = some (.int .i64 z0) ∧ w'.cell? ⟨g, k * 3 + 1, none⟩ = some (.string z1) ∧ w'.cell? ⟨g, k * 3 + 2, none⟩ = some (.string z2))) (by kernel_rfl) K0 (fun hHeld => ?_)
          refine wpAnyH_take (i := 0) (oi := oT0) (v := .pointer (some ⟨w.heap.size + 1 + 1 + 1, 1, none⟩)) rfl (by kernel_rfl) (by kernel_rfl) (by kernel_rfl) (fun _ _ _ h => h) (Or.inl ⟨by rfl, fun w hSw => ?_⟩) hHeld ?_
          · (try dsimp only at hSw)
            unfold oT0
            go_simp
          try simp only [oT0, Act.put, List.setIfInBounds_toArray, List.set_cons_zero, List.set_cons_succ]
          refine wpAnyH_take (i := 2) (oi := oT2) (v := .pointer (some ⟨w.heap.size, 1, none⟩)) rfl (by kernel_rfl) (by kernel_rfl) (by kernel_rfl) (fun _ _ _ h => h) (Or.inl ⟨by rfl, fun w hSw => ?_⟩) hHeld ?_
          · (try dsimp only at hSw)
            unfold oT2
            go_simp
          try simp only [oT2, Act.put, List.setIfInBounds_toArray, List.set_cons_zero, List.set_cons_succ]
          refine wpAnyH_take (i := 3) (oi := oT3) (v := .slice (some ⟨g, 0, none⟩) x.ps.length x.c) rfl (by kernel_rfl) (by kernel_rfl) (by kernel_rfl) (fun _ _ _ h => h) (Or.inl ⟨by rfl, fun w hSw => ?_⟩) hHeld ?_
          · (try dsimp only at hSw)
            unfold oT3
            go_simp
          try simp only [oT3, Act.put, List.setIfInBounds_toArray, List.set_cons_zero, List.set_cons_succ]
          refine wpAnyH_take (i := 4) (oi := oT4) (v := .int .i64 k) rfl (by kernel_rfl) (by kernel_rfl) (by kernel_rfl) (fun _ _ _ h => h) (Or.inl ⟨by rfl, fun w hSw => ?_⟩) hHeld ?_
          · (try dsimp only at hSw)
            unfold oT4
            go_simp
          try simp only [oT4, Act.put, List.setIfInBounds_toArray, List.set_cons_zero, List.set_cons_succ]
          refine wpAnyH_take (i := 5) (oi := oT5) (v := .pointer (some ⟨g, k * 3, none⟩)) rfl (by kernel_rfl) (by kernel_rfl) (by kernel_rfl) (fun _ _ _ h => h) (Or.inl ⟨by rfl, fun w hSw => ?_⟩) hHeld ?_
          · (try dsimp only at hSw)
            unfold oT5
            go_simp
          try simp only [oT5, Act.put, List.setIfInBounds_toArray, List.set_cons_zero, List.set_cons_succ]
          refine wpAnyH_take (i := 6) (oi := oT6) (v := .agg #[.int .i64 z0, .string z1, .string z2]) rfl (by kernel_rfl) (by kernel_rfl) (by kernel_rfl) (fun _ _ _ h => h) (Or.inl ⟨by rfl, fun w hSw => ?_⟩) hHeld ?_
          · (try dsimp only at hSw)
            unfold oT6
            go_simp
          try simp only [oT6, Act.put, List.setIfInBounds_toArray, List.set_cons_zero, List.set_cons_succ]
          refine wpAnyH_ready (rs := [1, 7]) (by kernel_rfl) (by simp) ?_
          refine AllReadyH.cons (o := oT1) rfl (fun K hK => ?_) (AllReadyH.cons (o := oT7) rfl (fun K hK => ?_) AllReadyH.nil)
          · unfold oT1
            go_simp
            refine hK.out _ _ K0 (fun hHeld => ?_)
            clear hK K
            try simp only [oT1, Act.put, List.setIfInBounds_toArray, List.set_cons_zero, List.set_cons_succ]
            refine wpAnyH_ready (rs := [7]) (by kernel_rfl) (by simp) ?_
            refine AllReadyH.cons (o := oT7) rfl (fun K hK => ?_) AllReadyH.nil
            unfold oT7
            go_simp
            refine hK.out _ _ KB (fun hHeld => ?_)
            clear hK K
            try simp only [oT7, Act.put, List.setIfInBounds_toArray, List.set_cons_zero, List.set_cons_succ]
            refine wpAnyH_ready (rs := [8]) (by kernel_rfl) (by simp) ?_
            refine AllReadyH.cons (o := oT8) rfl (fun K hK => ?_) AllReadyH.nil
            refine step_app (q2.drew.alloc (.cells #[.int .i64 z0, .string z1, .string z2] 54)) (by rfl) _ _ 24 54 (by rfl) (.agg #[.int .i64 0, .string ByteArray.empty, .string ByteArray.empty]) 3 40 Try.underlying24 HelpF14.info2 rfl (by decide) (by decide) W.heap.size (.slice a (m) c) (m) (flatF (L)) q2.drew.heap.size [.int .i64 z0, .string z1, .string z2] (by rfl) (by rfl) (row_step (W := q2.drew) (unhide PVD).ow (one_more q2.drew (.cells #[.int .i64 z0, .string z1, .string z2] 54))) rfl (litm q2.drew _ _ _ (by rfl)) (by simp [Value.oneCell']) (by omega) (Nat.le_trans (show W.heap.size ≤ q2.drew.heap.size from u3s) (by simp)) ?_
            intro g9 c9 u9 o9 gr9
            have BL := (unhide PVD).off
            have PA := (unhide PVD).app (p := (z0, z1, z2)) hO ((Below.refl _ _).drew.alloc (Nat.le_refl _) (.cells #[.int .i64 z0, .string z1, .string z2] 54)) gr9 o9
            have bx9 := PA.1
            have bc9 := bx9.c1
            have fr9 := bx9.free 1
            have P9 := hide PA.2
            have us9 := gr9.size
            simp at us9
            have KC : u9.cell? ⟨w.heap.size, 1, none⟩ = some (.slice (some ⟨g, 0, none⟩) x.ps.length x.c) ∧ u9.cell? ⟨g, k * 3, none⟩ = some (.int .i64 z0) ∧ u9.cell? ⟨g, k * 3 + 1, none⟩ = some (.string z1) ∧ u9.cell? ⟨g, k * 3 + 2, none⟩ = some (.string z2) := ⟨gr9.cell KB.1 (fun e => by have := BL _ e.symm; simp only at this; omega), gr9.cell KB.2.1 (fun e => by have := BL _ e.symm; simp only at this; omega), gr9.cell KB.2.2.1 (fun e => by have := BL _ e.symm; simp only at this; omega), gr9.cell KB.2.2.2 (fun e => by have := BL _ e.symm; simp only at this; omega)⟩
            have SB := bc_set1 bx9 (.slice (some ⟨g9, 0, none⟩) (m + 1) c9)
            have KD : (u9.setCell ⟨w.heap.size + 1 + 1 + 1, 1, none⟩ (.slice (some ⟨g9, 0, none⟩) (m + 1) c9)).cell? ⟨w.heap.size, 1, none⟩ = some (.slice (some ⟨g, 0, none⟩) x.ps.length x.c) ∧ (u9.setCell ⟨w.heap.size + 1 + 1 + 1, 1, none⟩ (.slice (some ⟨g9, 0, none⟩) (m + 1) c9)).cell? ⟨g, k * 3, none⟩ = some (.int .i64 z0) ∧ (u9.setCell ⟨w.heap.size + 1 + 1 + 1, 1, none⟩ (.slice (some ⟨g9, 0, none⟩) (m + 1) c9)).cell? ⟨g, k * 3 + 1, none⟩ = some (.string z1) ∧ (u9.setCell ⟨w.heap.size + 1 + 1 + 1, 1, none⟩ (.slice (some ⟨g9, 0, none⟩) (m + 1) c9)).cell? ⟨g, k * 3 + 2, none⟩ = some (.string z2) := ⟨(kcell SB.2 (1) (show w.heap.size < u9.heap.size from by omega) (show w.heap.size ≠ w.heap.size + 1 + 1 + 1 from by omega)).trans KC.1, (kcell SB.2 (k * 3) (show g < u9.heap.size from by omega) (show g ≠ w.heap.size + 1 + 1 + 1 from by omega)).trans KC.2.1, (kcell SB.2 (k * 3 + 1) (show g < u9.heap.size from by omega) (show g ≠ w.heap.size + 1 + 1 + 1 from by omega)).trans KC.2.2.1, (kcell SB.2 (k * 3 + 2) (show g < u9.heap.size from by omega) (show g ≠ w.heap.size + 1 + 1 + 1 from by omega)).trans KC.2.2.2⟩
            clear o9 gr9 PA SB bx9 BL
            refine hK.out _ _ KC (fun hHeld => ?_)
            clear hK K
            try simp only [oT8, Act.put, List.setIfInBounds_toArray, List.set_cons_zero, List.set_cons_succ]
            refine wpAnyH_take (i := 9) (oi := oT9) (v := .pointer (some ⟨w.heap.size + 1 + 1 + 1, 1, none⟩)) rfl (by kernel_rfl) (by kernel_rfl) (by kernel_rfl) (fun _ _ _ h => h) (Or.inl ⟨by rfl, fun w hSw => ?_⟩) hHeld ?_
            · (try dsimp only at hSw)
              unfold oT9
              go_simp
            try simp only [oT9, Act.put, List.setIfInBounds_toArray, List.set_cons_zero, List.set_cons_succ]
            refine wpAnyH_ready (rs := [10]) (by kernel_rfl) (by simp) ?_
            refine AllReadyH.cons (o := oT10) rfl (fun K hK => ?_) AllReadyH.nil
            unfold oT10
            go_simp
            refine hK.out _ _ KD (fun hHeld => ?_)
            clear hK K
            try simp only [oT10, Act.put, List.setIfInBounds_toArray, List.set_cons_zero, List.set_cons_succ]
            refine wpAnyH_done (by kernel_rfl) ?_ _
            clear K0 KB KC KD bc bcD bcA bc9 fr9
            go_wp2
            go_roundw
            case rel => exact ⟨k + 1, m + 1, c9, some ⟨g9, 0, none⟩, L ++ [(z0, z1, z2)], false, rfl, by go_num, by omega, by omega, NX, P9⟩
            case measure => simp [intOf]; omega
          · unfold oT7
            go_simp
            refine hK.out _ _ KB (fun hHeld => ?_)
            clear hK K
            try simp only [oT7, Act.put, List.setIfInBounds_toArray, List.set_cons_zero, List.set_cons_succ]
            refine wpAnyH_ready (rs := [1]) (by kernel_rfl) (by simp) ?_
            refine AllReadyH.cons (o := oT1) rfl (fun K hK => ?_) AllReadyH.nil
            unfold oT1
            go_simp
            refine hK.out _ _ KB (fun hHeld => ?_)
            clear hK K
            try simp only [oT1, Act.put, List.setIfInBounds_toArray, List.set_cons_zero, List.set_cons_succ]
            refine wpAnyH_ready (rs := [8]) (by kernel_rfl) (by simp) ?_
            refine AllReadyH.cons (o := oT8) rfl (fun K hK => ?_) AllReadyH.nil
            refine step_app (q2.drew.alloc (.cells #[.int .i64 z0, .string z1, .string z2] 54)) (by rfl) _ _ 24 54 (by rfl) (.agg #[.int .i64 0, .string ByteArray.empty, .string ByteArray.empty]) 3 40 Try.underlying24 HelpF14.info2 rfl (by decide) (by decide) W.heap.size (.slice a (m) c) (m) (flatF (L)) q2.drew.heap.size [.int .i64 z0, .string z1, .string z2] (by rfl) (by rfl) (row_step (W := q2.drew) (unhide PVD).ow (one_more q2.drew (.cells #[.int .i64 z0, .string z1, .string z2] 54))) rfl (litm q2.drew _ _ _ (by rfl)) (by simp [Value.oneCell']) (by omega) (Nat.le_trans (show W.heap.size ≤ q2.drew.heap.size from u3s) (by simp)) ?_
            intro g9 c9 u9 o9 gr9
            have BL := (unhide PVD).off
            have PA := (unhide PVD).app (p := (z0, z1, z2)) hO ((Below.refl _ _).drew.alloc (Nat.le_refl _) (.cells #[.int .i64 z0, .string z1, .string z2] 54)) gr9 o9
            have bx9 := PA.1
            have bc9 := bx9.c1
            have fr9 := bx9.free 1
            have P9 := hide PA.2
            have us9 := gr9.size
            simp at us9
            have KC : u9.cell? ⟨w.heap.size, 1, none⟩ = some (.slice (some ⟨g, 0, none⟩) x.ps.length x.c) ∧ u9.cell? ⟨g, k * 3, none⟩ = some (.int .i64 z0) ∧ u9.cell? ⟨g, k * 3 + 1, none⟩ = some (.string z1) ∧ u9.cell? ⟨g, k * 3 + 2, none⟩ = some (.string z2) := ⟨gr9.cell KB.1 (fun e => by have := BL _ e.symm; simp only at this; omega), gr9.cell KB.2.1 (fun e => by have := BL _ e.symm; simp only at this; omega), gr9.cell KB.2.2.1 (fun e => by have := BL _ e.symm; simp only at this; omega), gr9.cell KB.2.2.2 (fun e => by have := BL _ e.symm; simp only at this; omega)⟩
            have SB := bc_set1 bx9 (.slice (some ⟨g9, 0, none⟩) (m + 1) c9)
            have KD : (u9.setCell ⟨w.heap.size + 1 + 1 + 1, 1, none⟩ (.slice (some ⟨g9, 0, none⟩) (m + 1) c9)).cell? ⟨w.heap.size, 1, none⟩ = some (.slice (some ⟨g, 0, none⟩) x.ps.length x.c) ∧ (u9.setCell ⟨w.heap.size + 1 + 1 + 1, 1, none⟩ (.slice (some ⟨g9, 0, none⟩) (m + 1) c9)).cell? ⟨g, k * 3, none⟩ = some (.int .i64 z0) ∧ (u9.setCell ⟨w.heap.size + 1 + 1 + 1, 1, none⟩ (.slice (some ⟨g9, 0, none⟩) (m + 1) c9)).cell? ⟨g, k * 3 + 1, none⟩ = some (.string z1) ∧ (u9.setCell ⟨w.heap.size + 1 + 1 + 1, 1, none⟩ (.slice (some ⟨g9, 0, none⟩) (m + 1) c9)).cell? ⟨g, k * 3 + 2, none⟩ = some (.string z2) := ⟨(kcell SB.2 (1) (show w.heap.size < u9.heap.size from by omega) (show w.heap.size ≠ w.heap.size + 1 + 1 + 1 from by omega)).trans KC.1, (kcell SB.2 (k * 3) (show g < u9.heap.size from by omega) (show g ≠ w.heap.size + 1 + 1 + 1 from by omega)).trans KC.2.1, (kcell SB.2 (k * 3 + 1) (show g < u9.heap.size from by omega) (show g ≠ w.heap.size + 1 + 1 + 1 from by omega)).trans KC.2.2.1, (kcell SB.2 (k * 3 + 2) (show g < u9.heap.size from by omega) (show g ≠ w.heap.size + 1 + 1 + 1 from by omega)).trans KC.2.2.2⟩
            clear o9 gr9 PA SB bx9 BL
            refine hK.out _ _ KC (fun hHeld => ?_)
            clear hK K
            try simp only [oT8, Act.put, List.setIfInBounds_toArray, List.set_cons_zero, List.set_cons_succ]
            refine wpAnyH_take (i := 9) (oi := oT9) (v := .pointer (some ⟨w.heap.size + 1 + 1 + 1, 1, none⟩)) rfl (by kernel_rfl) (by kernel_rfl) (by kernel_rfl) (fun _ _ _ h => h) (Or.inl ⟨by rfl, fun w hSw => ?_⟩) hHeld ?_
            · (try dsimp only at hSw)
              unfold oT9
              go_simp
            try simp only [oT9, Act.put, List.setIfInBounds_toArray, List.set_cons_zero, List.set_cons_succ]
            refine wpAnyH_ready (rs := [10]) (by kernel_rfl) (by simp) ?_
            refine AllReadyH.cons (o := oT10) rfl (fun K hK => ?_) AllReadyH.nil
            unfold oT10
            go_simp
            refine hK.out _ _ KD (fun hHeld => ?_)
            clear hK K
            try simp only [oT10, Act.put, List.setIfInBounds_toArray, List.set_cons_zero, List.set_cons_succ]
            refine wpAnyH_done (by kernel_rfl) ?_ _
            clear K0 KB KC KD bc bcD bcA bc9 fr9
            go_wp2
            go_roundw
            case rel => exact ⟨k + 1, m + 1, c9, some ⟨g9, 0, none⟩, L ++ [(z0, z1, z2)], false, rfl, by go_num, by omega, by omega, NX, P9⟩
            case measure => simp [intOf]; omega
      · have PBV : True := trivial
        have QF : True := trivial
        by_cases qe : z0 = f0
        · have K6 : wr.cell? ⟨w.heap.size, 1, none⟩ = some (.slice (some ⟨g, 0, none⟩) x.ps.length x.c) ∧ wr.cell? ⟨g, k * 3, none⟩ = some (.int .i64 z0) ∧ wr.cell? ⟨w.heap.size + 1, 0, none⟩ = some (.int .i64 f0) := ⟨u1c, u10, u1f⟩
          go_wp2_with fail
          refine wp_region_held_drew (S := (fun w' => w'.cell? ⟨w.heap.size, 1, none⟩ = some (.slice (some ⟨g, 0, none⟩) x.ps.length x.c) ∧ w'.cell? ⟨g, k * 3, none⟩ = some (.int .i64 z0) ∧ w'.cell? ⟨w.heap.size + 1, 0, none⟩ = some (.int .i64 f0))) (by kernel_rfl) K6 (fun hHeld => ?_)
          refine wpAnyH_take (i := 0) (oi := oS0) (v := .bool true) rfl (by kernel_rfl) (by kernel_rfl) (by kernel_rfl) (fun _ _ _ h => h) (Or.inl ⟨by rfl, fun w hSw => ?_⟩) hHeld ?_
          · (try dsimp only at hSw)
            unfold oS0
            go_simp
          try simp only [oS0, Act.put, List.setIfInBounds_toArray, List.set_cons_zero, List.set_cons_succ]
          refine wpAnyH_take (i := 1) (oi := oS1) (v := .bool false) rfl (by kernel_rfl) (by kernel_rfl) (by kernel_rfl) (fun _ _ _ h => h) (Or.inl ⟨by rfl, fun w hSw => ?_⟩) hHeld ?_
          · (try dsimp only at hSw)
            unfold oS1
            go_simp
          try simp only [oS1, Act.put, List.setIfInBounds_toArray, List.set_cons_zero, List.set_cons_succ]
          refine wpAnyH_take (i := 2) (oi := oS2) (v := .bool false) rfl (by kernel_rfl) (by kernel_rfl) (by kernel_rfl) (fun _ _ _ h => h) (Or.inl ⟨by rfl, fun w hSw => ?_⟩) hHeld ?_
          · (try dsimp only at hSw)
            unfold oS2
            go_simp
          try simp only [oS2, Act.put, List.setIfInBounds_toArray, List.set_cons_zero, List.set_cons_succ]
          refine wpAnyH_take (i := 3) (oi := oS3) (v := undef) rfl (by kernel_rfl) (by kernel_rfl) (by kernel_rfl) (fun _ _ _ h => h) (Or.inr ⟨by rfl, rfl⟩) hHeld ?_
          try simp only [oS3, Act.put, List.setIfInBounds_toArray, List.set_cons_zero, List.set_cons_succ]
          refine wpAnyH_take (i := 4) (oi := oS4) (v := undef) rfl (by kernel_rfl) (by kernel_rfl) (by kernel_rfl) (fun _ _ _ h => h) (Or.inr ⟨by rfl, rfl⟩) hHeld ?_
          try simp only [oS4, Act.put, List.setIfInBounds_toArray, List.set_cons_zero, List.set_cons_succ]
          refine wpAnyH_take (i := 5) (oi := oS5) (v := undef) rfl (by kernel_rfl) (by kernel_rfl) (by kernel_rfl) (fun _ _ _ h => h) (Or.inr ⟨by rfl, rfl⟩) hHeld ?_
          try simp only [oS5, Act.put, List.setIfInBounds_toArray, List.set_cons_zero, List.set_cons_succ]
          refine wpAnyH_take (i := 6) (oi := oS6) (v := undef) rfl (by kernel_rfl) (by kernel_rfl) (by kernel_rfl) (fun _ _ _ h => h) (Or.inr ⟨by rfl, rfl⟩) hHeld ?_
          try simp only [oS6, Act.put, List.setIfInBounds_toArray, List.set_cons_zero, List.set_cons_succ]
          refine wpAnyH_take (i := 7) (oi := oS7) (v := undef) rfl (by kernel_rfl) (by kernel_rfl) (by kernel_rfl) (fun _ _ _ h => h) (Or.inr ⟨by rfl, rfl⟩) hHeld ?_
          try simp only [oS7, Act.put, List.setIfInBounds_toArray, List.set_cons_zero, List.set_cons_succ]
          refine wpAnyH_take (i := 8) (oi := oS8) (v := undef) rfl (by kernel_rfl) (by kernel_rfl) (by kernel_rfl) (fun _ _ _ h => h) (Or.inr ⟨by rfl, rfl⟩) hHeld ?_
          try simp only [oS8, Act.put, List.setIfInBounds_toArray, List.set_cons_zero, List.set_cons_succ]
          refine wpAnyH_take (i := 9) (oi := oS9) (v := undef) rfl (by kernel_rfl) (by kernel_rfl) (by kernel_rfl) (fun _ _ _ h => h) (Or.inr ⟨by rfl, rfl⟩) hHeld ?_
          try simp only [oS9, Act.put, List.setIfInBounds_toArray, List.set_cons_zero, List.set_cons_succ]
          refine wpAnyH_take (i := 10) (oi := oS10) (v := undef) rfl (by kernel_rfl) (by kernel_rfl) (by kernel_rfl) (fun _ _ _ h => h) (Or.inr ⟨by rfl, rfl⟩) hHeld ?_
          try simp only [oS10, Act.put, List.setIfInBounds_toArray, List.set_cons_zero, List.set_cons_succ]
          refine wpAnyH_take (i := 11) (oi := oS11) (v := undef) rfl (by kernel_rfl) (by kernel_rfl) (by kernel_rfl) (fun _ _ _ h => h) (Or.inr ⟨by rfl, rfl⟩) hHeld ?_
          try simp only [oS11, Act.put, List.setIfInBounds_toArray, List.set_cons_zero, List.set_cons_succ]
          refine wpAnyH_take (i := 12) (oi := oS12) (v := .bool false) rfl (by kernel_rfl) (by kernel_rfl) (by kernel_rfl) (fun _ _ _ h => h) (Or.inl ⟨by rfl, fun w hSw => ?_⟩) hHeld ?_
          · (try dsimp only at hSw)
            unfold oS12
            go_simp
          try simp only [oS12, Act.put, List.setIfInBounds_toArray, List.set_cons_zero, List.set_cons_succ]
          refine wpAnyH_done (by kernel_rfl) ?_ _
          have PV := hide (unhide HPt).drew
          go_wp2_with fail
          generalize wr.drew = v1 at *
          have NX := hide (show putN x.ps (f0, f1, f2) (k + 1) = (L, true) from by rw [putN_succ (unhide HP), unhide EP]; simp [PBV, qe, QF])
          have hq : (z0 != f0) = false := by simp [qe]
          clear qe
          have u2c := (kcell (unhide PV).gr 1 wl0 (by omega)).trans (unhide HC)
          have u20 := (kcell (unhide PV).gr (k * 3) lg gn).trans (unhide D0)
          have u21 := (kcell (unhide PV).gr (k * 3 + 1) lg gn).trans (unhide D1)
          have u22 := (kcell (unhide PV).gr (k * 3 + 2) lg gn).trans (unhide D2)
          have u2f := (kcell (unhide PV).gr 0 wl1 (by omega)).trans (unhide F0)
          have u2g := (kcell (unhide PV).gr 1 wl1 (by omega)).trans (unhide F1)
          have u2h := (kcell (unhide PV).gr 2 wl1 (by omega)).trans (unhide F2)
          have u2s := (unhide PV).gr.size
          have K2 : v1.cell? ⟨w.heap.size, 1, none⟩ = some (.slice (some ⟨g, 0, none⟩) x.ps.length x.c) ∧ v1.cell? ⟨g, k * 3, none⟩ = some (.int .i64 z0) ∧ v1.cell? ⟨w.heap.size + 1, 0, none⟩ = some (.int .i64 f0) := ⟨u2c, u20, u2f⟩
          refine wp_region_held_drew (S := (fun w' => w'.cell? ⟨w.heap.size, 1, none⟩ = some (.slice (some ⟨g, 0, none⟩) x.ps.length x.c) ∧ w'.cell? ⟨g, k * 3, none⟩ = some (.int .i64 z0) ∧ w'.cell? ⟨w.heap.size + 1, 0, none⟩ = some (.int .i64 f0))) (by kernel_rfl) K2 (fun hHeld => ?_)
          refine wpAnyH_take (i := 0) (oi := oN0) (v := .pointer (some ⟨w.heap.size, 1, none⟩)) rfl (by kernel_rfl) (by kernel_rfl) (by kernel_rfl) (fun _ _ _ h => h) (Or.inl ⟨by rfl, fun w hSw => ?_⟩) hHeld ?_
          · (try dsimp only at hSw)
            unfold oN0
            go_simp
          try simp only [oN0, Act.put, List.setIfInBounds_toArray, List.set_cons_zero, List.set_cons_succ]
          refine wpAnyH_take (i := 1) (oi := oN1) (v := .slice (some ⟨g, 0, none⟩) x.ps.length x.c) rfl (by kernel_rfl) (by kernel_rfl) (by kernel_rfl) (fun _ _ _ h => h) (Or.inl ⟨by rfl, fun w hSw => ?_⟩) hHeld ?_
          · (try dsimp only at hSw)
            unfold oN1
            go_simp
          try simp only [oN1, Act.put, List.setIfInBounds_toArray, List.set_cons_zero, List.set_cons_succ]
          refine wpAnyH_take (i := 2) (oi := oN2) (v := .int .i64 k) rfl (by kernel_rfl) (by kernel_rfl) (by kernel_rfl) (fun _ _ _ h => h) (Or.inl ⟨by rfl, fun w hSw => ?_⟩) hHeld ?_
          · (try dsimp only at hSw)
            unfold oN2
            go_simp
          try simp only [oN2, Act.put, List.setIfInBounds_toArray, List.set_cons_zero, List.set_cons_succ]
          refine wpAnyH_take (i := 3) (oi := oN3) (v := .pointer (some ⟨g, k * 3, none⟩)) rfl (by kernel_rfl) (by kernel_rfl) (by kernel_rfl) (fun _ _ _ h => h) (Or.inl ⟨by rfl, fun w hSw => ?_⟩) hHeld ?_
          · (try dsimp only at hSw)
            unfold oN3
            go_simp
          try simp only [oN3, Act.put, List.setIfInBounds_toArray, List.set_cons_zero, List.set_cons_succ]
          refine wpAnyH_take (i := 4) (oi := oN4) (v := .pointer (some ⟨g, k * 3, none⟩)) rfl (by kernel_rfl) (by kernel_rfl) (by kernel_rfl) (fun _ _ _ h => h) (Or.inl ⟨by rfl, fun w hSw => ?_⟩) hHeld ?_
          · (try dsimp only at hSw)
            unfold oN4
            go_simp
          try simp only [oN4, Act.put, List.setIfInBounds_toArray, List.set_cons_zero, List.set_cons_succ]
          refine wpAnyH_take (i := 5) (oi := oN5) (v := .int .i64 z0) rfl (by kernel_rfl) (by kernel_rfl) (by kernel_rfl) (fun _ _ _ h => h) (Or.inl ⟨by rfl, fun w hSw => ?_⟩) hHeld ?_
          · (try dsimp only at hSw)
            unfold oN5
            go_simp
          try simp only [oN5, Act.put, List.setIfInBounds_toArray, List.set_cons_zero, List.set_cons_succ]
          refine wpAnyH_take (i := 6) (oi := oN6) (v := .pointer (some ⟨w.heap.size + 1, 0, none⟩)) rfl (by kernel_rfl) (by kernel_rfl) (by kernel_rfl) (fun _ _ _ h => h) (Or.inl ⟨by rfl, fun w hSw => ?_⟩) hHeld ?_
          · (try dsimp only at hSw)
            unfold oN6
            go_simp
          try simp only [oN6, Act.put, List.setIfInBounds_toArray, List.set_cons_zero, List.set_cons_succ]
          refine wpAnyH_take (i := 7) (oi := oN7) (v := .int .i64 f0) rfl (by kernel_rfl) (by kernel_rfl) (by kernel_rfl) (fun _ _ _ h => h) (Or.inl ⟨by rfl, fun w hSw => ?_⟩) hHeld ?_
          · (try dsimp only at hSw)
            unfold oN7
            go_simp
          try simp only [oN7, Act.put, List.setIfInBounds_toArray, List.set_cons_zero, List.set_cons_succ]
          refine wpAnyH_take (i := 8) (oi := oN8) (v := .bool false) rfl (by kernel_rfl) (by kernel_rfl) (by kernel_rfl) (fun _ _ _ h => h) (Or.inl ⟨by rfl, fun w hSw => ?_⟩) hHeld ?_
          · (try dsimp only at hSw)
            unfold oN8
            go_simp
          try simp only [oN8, Act.put, List.setIfInBounds_toArray, List.set_cons_zero, List.set_cons_succ]
          refine wpAnyH_done (by kernel_rfl) ?_ _
          have PVD := hide (unhide PV).drew
          go_wp2
          go_roundw
          case rel => exact ⟨k + 1, m, c, a, L, true, rfl, by go_num, by omega, by omega, NX, PVD⟩
          case measure => simp [intOf]; omega
        · have K6 : wr.cell? ⟨w.heap.size, 1, none⟩ = some (.slice (some ⟨g, 0, none⟩) x.ps.length x.c) ∧ wr.cell? ⟨g, k * 3, none⟩ = some (.int .i64 z0) ∧ wr.cell? ⟨w.heap.size + 1, 0, none⟩ = some (.int .i64 f0) := ⟨u1c, u10, u1f⟩
          go_wp2_with fail
          refine wp_region_held_drew (S := (fun w' => w'.cell? ⟨w.heap.size, 1, none⟩ = some (.slice (some ⟨g, 0, none⟩) x.ps.length x.c) ∧ w'.cell? ⟨g, k * 3, none⟩ = some (.int .i64 z0) ∧ w'.cell? ⟨w.heap.size + 1, 0, none⟩ = some (.int .i64 f0))) (by kernel_rfl) K6 (fun hHeld => ?_)
          refine wpAnyH_take (i := 0) (oi := oS0) (v := .bool true) rfl (by kernel_rfl) (by kernel_rfl) (by kernel_rfl) (fun _ _ _ h => h) (Or.inl ⟨by rfl, fun w hSw => ?_⟩) hHeld ?_
          · (try dsimp only at hSw)
            unfold oS0
            go_simp
          try simp only [oS0, Act.put, List.setIfInBounds_toArray, List.set_cons_zero, List.set_cons_succ]
          refine wpAnyH_take (i := 1) (oi := oS1) (v := .bool false) rfl (by kernel_rfl) (by kernel_rfl) (by kernel_rfl) (fun _ _ _ h => h) (Or.inl ⟨by rfl, fun w hSw => ?_⟩) hHeld ?_
          · (try dsimp only at hSw)
            unfold oS1
            go_simp
          try simp only [oS1, Act.put, List.setIfInBounds_toArray, List.set_cons_zero, List.set_cons_succ]
          refine wpAnyH_take (i := 2) (oi := oS2) (v := .bool false) rfl (by kernel_rfl) (by kernel_rfl) (by kernel_rfl) (fun _ _ _ h => h) (Or.inl ⟨by rfl, fun w hSw => ?_⟩) hHeld ?_
          · (try dsimp only at hSw)
            unfold oS2
            go_simp
          try simp only [oS2, Act.put, List.setIfInBounds_toArray, List.set_cons_zero, List.set_cons_succ]
          refine wpAnyH_take (i := 3) (oi := oS3) (v := undef) rfl (by kernel_rfl) (by kernel_rfl) (by kernel_rfl) (fun _ _ _ h => h) (Or.inr ⟨by rfl, rfl⟩) hHeld ?_
          try simp only [oS3, Act.put, List.setIfInBounds_toArray, List.set_cons_zero, List.set_cons_succ]
          refine wpAnyH_take (i := 4) (oi := oS4) (v := undef) rfl (by kernel_rfl) (by kernel_rfl) (by kernel_rfl) (fun _ _ _ h => h) (Or.inr ⟨by rfl, rfl⟩) hHeld ?_
          try simp only [oS4, Act.put, List.setIfInBounds_toArray, List.set_cons_zero, List.set_cons_succ]
          refine wpAnyH_take (i := 5) (oi := oS5) (v := undef) rfl (by kernel_rfl) (by kernel_rfl) (by kernel_rfl) (fun _ _ _ h => h) (Or.inr ⟨by rfl, rfl⟩) hHeld ?_
          try simp only [oS5, Act.put, List.setIfInBounds_toArray, List.set_cons_zero, List.set_cons_succ]
          refine wpAnyH_take (i := 6) (oi := oS6) (v := undef) rfl (by kernel_rfl) (by kernel_rfl) (by kernel_rfl) (fun _ _ _ h => h) (Or.inr ⟨by rfl, rfl⟩) hHeld ?_
          try simp only [oS6, Act.put, List.setIfInBounds_toArray, List.set_cons_zero, List.set_cons_succ]
          refine wpAnyH_take (i := 7) (oi := oS7) (v := undef) rfl (by kernel_rfl) (by kernel_rfl) (by kernel_rfl) (fun _ _ _ h => h) (Or.inr ⟨by rfl, rfl⟩) hHeld ?_
          try simp only [oS7, Act.put, List.setIfInBounds_toArray, List.set_cons_zero, List.set_cons_succ]
          refine wpAnyH_take (i := 8) (oi := oS8) (v := undef) rfl (by kernel_rfl) (by kernel_rfl) (by kernel_rfl) (fun _ _ _ h => h) (Or.inr ⟨by rfl, rfl⟩) hHeld ?_
          try simp only [oS8, Act.put, List.setIfInBounds_toArray, List.set_cons_zero, List.set_cons_succ]
          refine wpAnyH_take (i := 9) (oi := oS9) (v := undef) rfl (by kernel_rfl) (by kernel_rfl) (by kernel_rfl) (fun _ _ _ h => h) (Or.inr ⟨by rfl, rfl⟩) hHeld ?_
          try simp only [oS9, Act.put, List.setIfInBounds_toArray, List.set_cons_zero, List.set_cons_succ]
          refine wpAnyH_take (i := 10) (oi := oS10) (v := undef) rfl (by kernel_rfl) (by kernel_rfl) (by kernel_rfl) (fun _ _ _ h => h) (Or.inr ⟨by rfl, rfl⟩) hHeld ?_
          try simp only [oS10, Act.put, List.setIfInBounds_toArray, List.set_cons_zero, List.set_cons_succ]
          refine wpAnyH_take (i := 11) (oi := oS11) (v := undef) rfl (by kernel_rfl) (by kernel_rfl) (by kernel_rfl) (fun _ _ _ h => h) (Or.inr ⟨by rfl, rfl⟩) hHeld ?_
          try simp only [oS11, Act.put, List.setIfInBounds_toArray, List.set_cons_zero, List.set_cons_succ]
          refine wpAnyH_take (i := 12) (oi := oS12) (v := .bool false) rfl (by kernel_rfl) (by kernel_rfl) (by kernel_rfl) (fun _ _ _ h => h) (Or.inl ⟨by rfl, fun w hSw => ?_⟩) hHeld ?_
          · (try dsimp only at hSw)
            unfold oS12
            go_simp
          try simp only [oS12, Act.put, List.setIfInBounds_toArray, List.set_cons_zero, List.set_cons_succ]
          refine wpAnyH_done (by kernel_rfl) ?_ _
          have PV := hide (unhide HPt).drew
          go_wp2_with fail
          generalize wr.drew = v1 at *
          have NX := hide (show putN x.ps (f0, f1, f2) (k + 1) = (L ++ [(z0, z1, z2)], true) from by rw [putN_succ (unhide HP), unhide EP]; simp [PBV, qe, QF])
          have hq : (z0 != f0) = true := by simp [qe]
          clear qe
          have u2c := (kcell (unhide PV).gr 1 wl0 (by omega)).trans (unhide HC)
          have u20 := (kcell (unhide PV).gr (k * 3) lg gn).trans (unhide D0)
          have u21 := (kcell (unhide PV).gr (k * 3 + 1) lg gn).trans (unhide D1)
          have u22 := (kcell (unhide PV).gr (k * 3 + 2) lg gn).trans (unhide D2)
          have u2f := (kcell (unhide PV).gr 0 wl1 (by omega)).trans (unhide F0)
          have u2g := (kcell (unhide PV).gr 1 wl1 (by omega)).trans (unhide F1)
          have u2h := (kcell (unhide PV).gr 2 wl1 (by omega)).trans (unhide F2)
          have u2s := (unhide PV).gr.size
          have K2 : v1.cell? ⟨w.heap.size, 1, none⟩ = some (.slice (some ⟨g, 0, none⟩) x.ps.length x.c) ∧ v1.cell? ⟨g, k * 3, none⟩ = some (.int .i64 z0) ∧ v1.cell? ⟨w.heap.size + 1, 0, none⟩ = some (.int .i64 f0) := ⟨u2c, u20, u2f⟩
          refine wp_region_held_drew (S := (fun w' => w'.cell? ⟨w.heap.size, 1, none⟩ = some (.slice (some ⟨g, 0, none⟩) x.ps.length x.c) ∧ w'.cell? ⟨g, k * 3, none⟩ = some (.int .i64 z0) ∧ w'.cell? ⟨w.heap.size + 1, 0, none⟩ = some (.int .i64 f0))) (by kernel_rfl) K2 (fun hHeld => ?_)
          refine wpAnyH_take (i := 0) (oi := oN0) (v := .pointer (some ⟨w.heap.size, 1, none⟩)) rfl (by kernel_rfl) (by kernel_rfl) (by kernel_rfl) (fun _ _ _ h => h) (Or.inl ⟨by rfl, fun w hSw => ?_⟩) hHeld ?_
          · (try dsimp only at hSw)
            unfold oN0
            go_simp
          try simp only [oN0, Act.put, List.setIfInBounds_toArray, List.set_cons_zero, List.set_cons_succ]
          refine wpAnyH_take (i := 1) (oi := oN1) (v := .slice (some ⟨g, 0, none⟩) x.ps.length x.c) rfl (by kernel_rfl) (by kernel_rfl) (by kernel_rfl) (fun _ _ _ h => h) (Or.inl ⟨by rfl, fun w hSw => ?_⟩) hHeld ?_
          · (try dsimp only at hSw)
            unfold oN1
            go_simp
          try simp only [oN1, Act.put, List.setIfInBounds_toArray, List.set_cons_zero, List.set_cons_succ]
          refine wpAnyH_take (i := 2) (oi := oN2) (v := .int .i64 k) rfl (by kernel_rfl) (by kernel_rfl) (by kernel_rfl) (fun _ _ _ h => h) (Or.inl ⟨by rfl, fun w hSw => ?_⟩) hHeld ?_
          · (try dsimp only at hSw)
            unfold oN2
            go_simp
          try simp only [oN2, Act.put, List.setIfInBounds_toArray, List.set_cons_zero, List.set_cons_succ]
          refine wpAnyH_take (i := 3) (oi := oN3) (v := .pointer (some ⟨g, k * 3, none⟩)) rfl (by kernel_rfl) (by kernel_rfl) (by kernel_rfl) (fun _ _ _ h => h) (Or.inl ⟨by rfl, fun w hSw => ?_⟩) hHeld ?_
          · (try dsimp only at hSw)
            unfold oN3
            go_simp
          try simp only [oN3, Act.put, List.setIfInBounds_toArray, List.set_cons_zero, List.set_cons_succ]
          refine wpAnyH_take (i := 4) (oi := oN4) (v := .pointer (some ⟨g, k * 3, none⟩)) rfl (by kernel_rfl) (by kernel_rfl) (by kernel_rfl) (fun _ _ _ h => h) (Or.inl ⟨by rfl, fun w hSw => ?_⟩) hHeld ?_
          · (try dsimp only at hSw)
            unfold oN4
            go_simp
          try simp only [oN4, Act.put, List.setIfInBounds_toArray, List.set_cons_zero, List.set_cons_succ]
          refine wpAnyH_take (i := 5) (oi := oN5) (v := .int .i64 z0) rfl (by kernel_rfl) (by kernel_rfl) (by kernel_rfl) (fun _ _ _ h => h) (Or.inl ⟨by rfl, fun w hSw => ?_⟩) hHeld ?_
          · (try dsimp only at hSw)
            unfold oN5
            go_simp
          try simp only [oN5, Act.put, List.setIfInBounds_toArray, List.set_cons_zero, List.set_cons_succ]
          refine wpAnyH_take (i := 6) (oi := oN6) (v := .pointer (some ⟨w.heap.size + 1, 0, none⟩)) rfl (by kernel_rfl) (by kernel_rfl) (by kernel_rfl) (fun _ _ _ h => h) (Or.inl ⟨by rfl, fun w hSw => ?_⟩) hHeld ?_
          · (try dsimp only at hSw)
            unfold oN6
            go_simp
          try simp only [oN6, Act.put, List.setIfInBounds_toArray, List.set_cons_zero, List.set_cons_succ]
          refine wpAnyH_take (i := 7) (oi := oN7) (v := .int .i64 f0) rfl (by kernel_rfl) (by kernel_rfl) (by kernel_rfl) (fun _ _ _ h => h) (Or.inl ⟨by rfl, fun w hSw => ?_⟩) hHeld ?_
          · (try dsimp only at hSw)
            unfold oN7
            go_simp
          try simp only [oN7, Act.put, List.setIfInBounds_toArray, List.set_cons_zero, List.set_cons_succ]
          refine wpAnyH_take (i := 8) (oi := oN8) (v := .bool true) rfl (by kernel_rfl) (by kernel_rfl) (by kernel_rfl) (fun _ _ _ h => h) (Or.inl ⟨by rfl, fun w hSw => ?_⟩) hHeld ?_
          · (try dsimp only at hSw)
            unfold oN8
            go_simp
          try simp only [oN8, Act.put, List.setIfInBounds_toArray, List.set_cons_zero, List.set_cons_succ]
          refine wpAnyH_done (by kernel_rfl) ?_ _
          have PVD := hide (unhide PV).drew
          go_wp2_with fail
          generalize v1.drew = q2 at *
          have u3c := (kcell (unhide PVD).gr 1 wl0 (by omega)).trans (unhide HC)
          have u30 := (kcell (unhide PVD).gr (k * 3) lg gn).trans (unhide D0)
          have u31 := (kcell (unhide PVD).gr (k * 3 + 1) lg gn).trans (unhide D1)
          have u32 := (kcell (unhide PVD).gr (k * 3 + 2) lg gn).trans (unhide D2)
          have u3f := (kcell (unhide PVD).gr 0 wl1 (by omega)).trans (unhide F0)
          have u3g := (kcell (unhide PVD).gr 1 wl1 (by omega)).trans (unhide F1)
          have u3h := (kcell (unhide PVD).gr 2 wl1 (by omega)).trans (unhide F2)
          have u3s := (unhide PVD).gr.size
          have K0 : q2.cell? ⟨w.heap.size, 1, none⟩ = some (.slice (some ⟨g, 0, none⟩) x.ps.length x.c) ∧ q2.cell? ⟨g, k * 3, none⟩ = some (.int .i64 z0) ∧ q2.cell? ⟨g, k * 3 + 1, none⟩ = some (.string z1) ∧ q2.cell? ⟨g, k * 3 + 2, none⟩ = some (.string z2) := ⟨u3c, u30, u31, u32⟩
          have KB : (q2.drew.alloc (.cells #[.int .i64 z0, .string z1, .string z2] 54)).cell? ⟨w.heap.size, 1, none⟩ = some (.slice (some ⟨g, 0, none⟩) x.ps.length x.c) ∧ (q2.drew.alloc (.cells #[.int .i64 z0, .string z1, .string z2] 54)).cell? ⟨g, k * 3, none⟩ = some (.int .i64 z0) ∧ (q2.drew.alloc (.cells #[.int .i64 z0, .string z1, .string z2] 54)).cell? ⟨g, k * 3 + 1, none⟩ = some (.string z1) ∧ (q2.drew.alloc (.cells #[.int .i64 z0, .string z1, .string z2] 54)).cell? ⟨g, k * 3 + 2, none⟩ = some (.string z2) := ⟨((one_more q2.drew (.cells #[.int .i64 z0, .string z1, .string z2] 54)).cell (p := ⟨w.heap.size, 1, none⟩) (show w.heap.size < q2.heap.size from by omega)).trans u3c, ((one_more q2.drew (.cells #[.int .i64 z0, .string z1, .string z2] 54)).cell (p := ⟨g, k * 3, none⟩) (show g < q2.heap.size from by omega)).trans u30, ((one_more q2.drew (.cells #[.int .i64 z0, .string z1, .string z2] 54)).cell (p := ⟨g, k * 3 + 1, none⟩) (show g < q2.heap.size from by omega)).trans u31, ((one_more q2.drew (.cells #[.int .i64 z0, .string z1, .string z2] 54)).cell (p := ⟨g, k * 3 + 2, none⟩) (show g < q2.heap.size from by omega)).trans u32⟩
          have bc := (unhide PVD).bx.c1
          have lo9 := (unhide PVD).bx.lt.2
          have bcD : q2.drew.cell? ⟨w.heap.size + 1 + 1 + 1, 1, none⟩ = some (.slice a (m) c) := bc
          have bcA : (q2.alloc (.cells #[.int .i64 z0, .string z1, .string z2] 54)).cell? ⟨w.heap.size + 1 + 1 + 1, 1, none⟩ = some (.slice a (m) c) := ((one_more q2.drew (.cells #[.int .i64 z0, .string z1, .string z2] 54)).cell (p := ⟨w.heap.size + 1 + 1 + 1, 1, none⟩) lo9).trans bc
          refine wp_region_held_drew (S := (fun w' => w'.cell? ⟨w.heap.size, 1, none⟩ = some (.slice (some ⟨g, 0, none⟩) x.ps.length x.c) ∧ w'.cell? ⟨g, k * 3, none⟩ = some (.int .i64 z0) ∧ w'.cell? ⟨g, k * 3 + 1, none⟩ = some (.string z1) ∧ w'.cell? ⟨g, k * 3 + 2, none⟩ = some (.string z2))) (by kernel_rfl) K0 (fun hHeld => ?_)
          refine wpAnyH_take (i := 0) (oi := oT0) (v := .pointer (some ⟨w.heap.size + 1 + 1 + 1, 1, none⟩)) rfl (by kernel_rfl) (by kernel_rfl) (by kernel_rfl) (fun _ _ _ h => h) (Or.inl ⟨by rfl, fun w hSw => ?_⟩) hHeld ?_
          · (try dsimp only at hSw)
            unfold oT0
            go_simp
          try simp only [oT0, Act.put, List.setIfInBounds_toArray, List.set_cons_zero, List.set_cons_succ]
          refine wpAnyH_take (i := 2) (oi := oT2) (v := .pointer (some ⟨w.heap.size, 1, none⟩)) rfl (by kernel_rfl) (by kernel_rfl) (by kernel_rfl) (fun _ _ _ h => h) (Or.inl ⟨by rfl, fun w hSw => ?_⟩) hHeld ?_
          · (try dsimp only at hSw)
            unfold oT2
            go_simp
          try simp only [oT2, Act.put, List.setIfInBounds_toArray, List.set_cons_zero, List.set_cons_succ]
          refine wpAnyH_take (i := 3) (oi := oT3) (v := .slice (some ⟨g, 0, none⟩) x.ps.length x.c) rfl (by kernel_rfl) (by kernel_rfl) (by kernel_rfl) (fun _ _ _ h => h) (Or.inl ⟨by rfl, fun w hSw => ?_⟩) hHeld ?_
          · (try dsimp only at hSw)
            unfold oT3
            go_simp
          try simp only [oT3, Act.put, List.setIfInBounds_toArray, List.set_cons_zero, List.set_cons_succ]
          refine wpAnyH_take (i := 4) (oi := oT4) (v := .int .i64 k) rfl (by kernel_rfl) (by kernel_rfl) (by kernel_rfl) (fun _ _ _ h => h) (Or.inl ⟨by rfl, fun w hSw => ?_⟩) hHeld ?_
          · (try dsimp only at hSw)
            unfold oT4
            go_simp
          try simp only [oT4, Act.put, List.setIfInBounds_toArray, List.set_cons_zero, List.set_cons_succ]
          refine wpAnyH_take (i := 5) (oi := oT5) (v := .pointer (some ⟨g, k * 3, none⟩)) rfl (by kernel_rfl) (by kernel_rfl) (by kernel_rfl) (fun _ _ _ h => h) (Or.inl ⟨by rfl, fun w hSw => ?_⟩) hHeld ?_
          · (try dsimp only at hSw)
            unfold oT5
            go_simp
          try simp only [oT5, Act.put, List.setIfInBounds_toArray, List.set_cons_zero, List.set_cons_succ]
          refine wpAnyH_take (i := 6) (oi := oT6) (v := .agg #[.int .i64 z0, .string z1, .string z2]) rfl (by kernel_rfl) (by kernel_rfl) (by kernel_rfl) (fun _ _ _ h => h) (Or.inl ⟨by rfl, fun w hSw => ?_⟩) hHeld ?_
          · (try dsimp only at hSw)
            unfold oT6
            go_simp
          try simp only [oT6, Act.put, List.setIfInBounds_toArray, List.set_cons_zero, List.set_cons_succ]
          refine wpAnyH_ready (rs := [1, 7]) (by kernel_rfl) (by simp) ?_
          refine AllReadyH.cons (o := oT1) rfl (fun K hK => ?_) (AllReadyH.cons (o := oT7) rfl (fun K hK => ?_) AllReadyH.nil)
          · unfold oT1
            go_simp
            refine hK.out _ _ K0 (fun hHeld => ?_)
            clear hK K
            try simp only [oT1, Act.put, List.setIfInBounds_toArray, List.set_cons_zero, List.set_cons_succ]
            refine wpAnyH_ready (rs := [7]) (by kernel_rfl) (by simp) ?_
            refine AllReadyH.cons (o := oT7) rfl (fun K hK => ?_) AllReadyH.nil
            unfold oT7
            go_simp
            refine hK.out _ _ KB (fun hHeld => ?_)
            clear hK K
            try simp only [oT7, Act.put, List.setIfInBounds_toArray, List.set_cons_zero, List.set_cons_succ]
            refine wpAnyH_ready (rs := [8]) (by kernel_rfl) (by simp) ?_
            refine AllReadyH.cons (o := oT8) rfl (fun K hK => ?_) AllReadyH.nil
            refine step_app (q2.drew.alloc (.cells #[.int .i64 z0, .string z1, .string z2] 54)) (by rfl) _ _ 24 54 (by rfl) (.agg #[.int .i64 0, .string ByteArray.empty, .string ByteArray.empty]) 3 40 Try.underlying24 HelpF14.info2 rfl (by decide) (by decide) W.heap.size (.slice a (m) c) (m) (flatF (L)) q2.drew.heap.size [.int .i64 z0, .string z1, .string z2] (by rfl) (by rfl) (row_step (W := q2.drew) (unhide PVD).ow (one_more q2.drew (.cells #[.int .i64 z0, .string z1, .string z2] 54))) rfl (litm q2.drew _ _ _ (by rfl)) (by simp [Value.oneCell']) (by omega) (Nat.le_trans (show W.heap.size ≤ q2.drew.heap.size from u3s) (by simp)) ?_
            intro g9 c9 u9 o9 gr9
            have BL := (unhide PVD).off
            have PA := (unhide PVD).app (p := (z0, z1, z2)) hO ((Below.refl _ _).drew.alloc (Nat.le_refl _) (.cells #[.int .i64 z0, .string z1, .string z2] 54)) gr9 o9
            have bx9 := PA.1
            have bc9 := bx9.c1
            have fr9 := bx9.free 1
            have P9 := hide PA.2
            have us9 := gr9.size
            simp at us9
            have KC : u9.cell? ⟨w.heap.size, 1, none⟩ = some (.slice (some ⟨g, 0, none⟩) x.ps.length x.c) ∧ u9.cell? ⟨g, k * 3, none⟩ = some (.int .i64 z0) ∧ u9.cell? ⟨g, k * 3 + 1, none⟩ = some (.string z1) ∧ u9.cell? ⟨g, k * 3 + 2, none⟩ = some (.string z2) := ⟨gr9.cell KB.1 (fun e => by have := BL _ e.symm; simp only at this; omega), gr9.cell KB.2.1 (fun e => by have := BL _ e.symm; simp only at this; omega), gr9.cell KB.2.2.1 (fun e => by have := BL _ e.symm; simp only at this; omega), gr9.cell KB.2.2.2 (fun e => by have := BL _ e.symm; simp only at this; omega)⟩
            have SB := bc_set1 bx9 (.slice (some ⟨g9, 0, none⟩) (m + 1) c9)
            have KD : (u9.setCell ⟨w.heap.size + 1 + 1 + 1, 1, none⟩ (.slice (some ⟨g9, 0, none⟩) (m + 1) c9)).cell? ⟨w.heap.size, 1, none⟩ = some (.slice (some ⟨g, 0, none⟩) x.ps.length x.c) ∧ (u9.setCell ⟨w.heap.size + 1 + 1 + 1, 1, none⟩ (.slice (some ⟨g9, 0, none⟩) (m + 1) c9)).cell? ⟨g, k * 3, none⟩ = some (.int .i64 z0) ∧ (u9.setCell ⟨w.heap.size + 1 + 1 + 1, 1, none⟩ (.slice (some ⟨g9, 0, none⟩) (m + 1) c9)).cell? ⟨g, k * 3 + 1, none⟩ = some (.string z1) ∧ (u9.setCell ⟨w.heap.size + 1 + 1 + 1, 1, none⟩ (.slice (some ⟨g9, 0, none⟩) (m + 1) c9)).cell? ⟨g, k * 3 + 2, none⟩ = some (.string z2) := ⟨(kcell SB.2 (1) (show w.heap.size < u9.heap.size from by omega) (show w.heap.size ≠ w.heap.size + 1 + 1 + 1 from by omega)).trans KC.1, (kcell SB.2 (k * 3) (show g < u9.heap.size from by omega) (show g ≠ w.heap.size + 1 + 1 + 1 from by omega)).trans KC.2.1, (kcell SB.2 (k * 3 + 1) (show g < u9.heap.size from by omega) (show g ≠ w.heap.size + 1 + 1 + 1 from by omega)).trans KC.2.2.1, (kcell SB.2 (k * 3 + 2) (show g < u9.heap.size from by omega) (show g ≠ w.heap.size + 1 + 1 + 1 from by omega)).trans KC.2.2.2⟩
            clear o9 gr9 PA SB bx9 BL
            refine hK.out _ _ KC (fun hHeld => ?_)
            clear hK K
            try simp only [oT8, Act.put, List.setIfInBounds_toArray, List.set_cons_zero, List.set_cons_succ]
            refine wpAnyH_take (i := 9) (oi := oT9) (v := .pointer (some ⟨w.heap.size + 1 + 1 + 1, 1, none⟩)) rfl (by kernel_rfl) (by kernel_rfl) (by kernel_rfl) (fun _ _ _ h => h) (Or.inl ⟨by rfl, fun w hSw => ?_⟩) hHeld ?_
            · (try dsimp only at hSw)
              unfold oT9
              go_simp
            try simp only [oT9, Act.put, List.setIfInBounds_toArray, List.set_cons_zero, List.set_cons_succ]
            refine wpAnyH_ready (rs := [10]) (by kernel_rfl) (by simp) ?_
            refine AllReadyH.cons (o := oT10) rfl (fun K hK => ?_) AllReadyH.nil
            unfold oT10
            go_simp
            refine hK.out _ _ KD (fun hHeld => ?_)
            clear hK K
            try simp only [oT10, Act.put, List.setIfInBounds_toArray, List.set_cons_zero, List.set_cons_succ]
            refine wpAnyH_done (by kernel_rfl) ?_ _
            clear K0 KB KC KD bc bcD bcA bc9 fr9
            go_wp2
            go_roundw
            case rel => exact ⟨k + 1, m + 1, c9, some ⟨g9, 0, none⟩, L ++ [(z0, z1, z2)], true, rfl, by go_num, by omega, by omega, NX, P9⟩
            case measure => simp [intOf]; omega
          · unfold oT7
            go_simp
            refine hK.out _ _ KB (fun hHeld => ?_)
            clear hK K
            try simp only [oT7, Act.put, List.setIfInBounds_toArray, List.set_cons_zero, List.set_cons_succ]
            refine wpAnyH_ready (rs := [1]) (by kernel_rfl) (by simp) ?_
            refine AllReadyH.cons (o := oT1) rfl (fun K hK => ?_) AllReadyH.nil
            unfold oT1
            go_simp
            refine hK.out _ _ KB (fun hHeld => ?_)
            clear hK K
            try simp only [oT1, Act.put, List.setIfInBounds_toArray, List.set_cons_zero, List.set_cons_succ]
            refine wpAnyH_ready (rs := [8]) (by kernel_rfl) (by simp) ?_
            refine AllReadyH.cons (o := oT8) rfl (fun K hK => ?_) AllReadyH.nil
            refine step_app (q2.drew.alloc (.cells #[.int .i64 z0, .string z1, .string z2] 54)) (by rfl) _ _ 24 54 (by rfl) (.agg #[.int .i64 0, .string ByteArray.empty, .string ByteArray.empty]) 3 40 Try.underlying24 HelpF14.info2 rfl (by decide) (by decide) W.heap.size (.slice a (m) c) (m) (flatF (L)) q2.drew.heap.size [.int .i64 z0, .string z1, .string z2] (by rfl) (by rfl) (row_step (W := q2.drew) (unhide PVD).ow (one_more q2.drew (.cells #[.int .i64 z0, .string z1, .string z2] 54))) rfl (litm q2.drew _ _ _ (by rfl)) (by simp [Value.oneCell']) (by omega) (Nat.le_trans (show W.heap.size ≤ q2.drew.heap.size from u3s) (by simp)) ?_
            intro g9 c9 u9 o9 gr9
            have BL := (unhide PVD).off
            have PA := (unhide PVD).app (p := (z0, z1, z2)) hO ((Below.refl _ _).drew.alloc (Nat.le_refl _) (.cells #[.int .i64 z0, .string z1, .string z2] 54)) gr9 o9
            have bx9 := PA.1
            have bc9 := bx9.c1
            have fr9 := bx9.free 1
            have P9 := hide PA.2
            have us9 := gr9.size
            simp at us9
            have KC : u9.cell? ⟨w.heap.size, 1, none⟩ = some (.slice (some ⟨g, 0, none⟩) x.ps.length x.c) ∧ u9.cell? ⟨g, k * 3, none⟩ = some (.int .i64 z0) ∧ u9.cell? ⟨g, k * 3 + 1, none⟩ = some (.string z1) ∧ u9.cell? ⟨g, k * 3 + 2, none⟩ = some (.string z2) := ⟨gr9.cell KB.1 (fun e => by have := BL _ e.symm; simp only at this; omega), gr9.cell KB.2.1 (fun e => by have := BL _ e.symm; simp only at this; omega), gr9.cell KB.2.2.1 (fun e => by have := BL _ e.symm; simp only at this; omega), gr9.cell KB.2.2.2 (fun e => by have := BL _ e.symm; simp only at this; omega)⟩
            have SB := bc_set1 bx9 (.slice (some ⟨g9, 0, none⟩) (m + 1) c9)
            have KD : (u9.setCell ⟨w.heap.size + 1 + 1 + 1, 1, none⟩ (.slice (some ⟨g9, 0, none⟩) (m + 1) c9)).cell? ⟨w.heap.size, 1, none⟩ = some (.slice (some ⟨g, 0, none⟩) x.ps.length x.c) ∧ (u9.setCell ⟨w.heap.size + 1 + 1 + 1, 1, none⟩ (.slice (some ⟨g9, 0, none⟩) (m + 1) c9)).cell? ⟨g, k * 3, none⟩ = some (.int .i64 z0) ∧ (u9.setCell ⟨w.heap.size + 1 + 1 + 1, 1, none⟩ (.slice (some ⟨g9, 0, none⟩) (m + 1) c9)).cell? ⟨g, k * 3 + 1, none⟩ = some (.string z1) ∧ (u9.setCell ⟨w.heap.size + 1 + 1 + 1, 1, none⟩ (.slice (some ⟨g9, 0, none⟩) (m + 1) c9)).cell? ⟨g, k * 3 + 2, none⟩ = some (.string z2) := ⟨(kcell SB.2 (1) (show w.heap.size < u9.heap.size from by omega) (show w.heap.size ≠ w.heap.size + 1 + 1 + 1 from by omega)).trans KC.1, (kcell SB.2 (k * 3) (show g < u9.heap.size from by omega) (show g ≠ w.heap.size + 1 + 1 + 1 from by omega)).trans KC.2.1, (kcell SB.2 (k * 3 + 1) (show g < u9.heap.size from by omega) (show g ≠ w.heap.size + 1 + 1 + 1 from by omega)).trans KC.2.2.1, (kcell SB.2 (k * 3 + 2) (show g < u9.heap.size from by omega) (show g ≠ w.heap.size + 1 + 1 + 1 from by omega)).trans KC.2.2.2⟩
            clear o9 gr9 PA SB bx9 BL
            refine hK.out _ _ KC (fun hHeld => ?_)
            clear hK K
            try simp only [oT8, Act.put, List.setIfInBounds_toArray, List.set_cons_zero, List.set_cons_succ]
            refine wpAnyH_take (i := 9) (oi := oT9) (v := .pointer (some ⟨w.heap.size + 1 + 1 + 1, 1, none⟩)) rfl (by kernel_rfl) (by kernel_rfl) (by kernel_rfl) (fun _ _ _ h => h) (Or.inl ⟨by rfl, fun w hSw => ?_⟩) hHeld ?_
            · (try dsimp only at hSw)
              unfold oT9
              go_simp
            try simp only [oT9, Act.put, List.setIfInBounds_toArray, List.set_cons_zero, List.set_cons_succ]
            refine wpAnyH_ready (rs := [10]) (by kernel_rfl) (by simp) ?_
            refine AllReadyH.cons (o := oT10) rfl (fun K hK => ?_) AllReadyH.nil
            unfold oT10
            go_simp
            refine hK.out _ _ KD (fun hHeld => ?_)
            clear hK K
            try simp only [oT10, Act.put, List.setIfInBounds_toArray, List.set_cons_zero, List.set_cons_succ]
            refine wpAnyH_done (by kernel_rfl) ?_ _
            clear K0 KB KC KD bc bcD bcA bc9 fr9
            go_wp2
            go_roundw
            case rel => exact ⟨k + 1, m + 1, c9, some ⟨g9, 0, none⟩, L ++ [(z0, z1, z2)], true, rfl, by go_num, by omega, by omega, NX, P9⟩
            case measure => simp [intOf]; omega
    · have e : k = x.ps.length := by omega
      subst e
      have fF := (kcell (unhide HPt).gr 0 wl1 (by omega)).trans (unhide F0)
      have fG := (kcell (unhide HPt).gr 1 wl1 (by omega)).trans (unhide F1)
      have fH := (kcell (unhide HPt).gr 2 wl1 (by omega)).trans (unhide F2)
      have wc := (kcell (unhide HPt).gr 1 wl0 (by omega)).trans (unhide HWD).c1
      cases pb
      · have E := hide (show putF x.ps (f0, f1, f2) = L ++ [(f0, f1, f2)] from by rw [unhide PF, unhide HP]; simp)
        clear PF HP
        have bo := (unhide HPt).bx.c1
        have lo := (unhide HPt).bx.lt.2
        have bob : (wr.alloc (.cells #[.int .i64 f0, .string f1, .string f2] 54)).cell? ⟨w.heap.size + 1 + 1 + 1, 1, none⟩ = some (.slice a (m) c) := ((one_more wr (.cells #[.int .i64 f0, .string f1, .string f2] 54)).cell (p := ⟨w.heap.size + 1 + 1 + 1, 1, none⟩) lo).trans bo
        have vs := (unhide HPt).gr.size
        go_wp2_with (first | (at_builtin; refine wp_app _ rfl _ _ rfl W.heap.size (.slice a (m) c) (m) (flatF (L)) wr.heap.size [.int .i64 f0, .string f1, .string f2] rfl rfl (row_step (unhide HPt).ow (one_more wr (.cells #[.int .i64 f0, .string f1, .string f2] 54))) rfl (litm wr _ _ _ (by rfl)) (by simp [Value.oneCell']) (by omega) (Nat.le_trans vs (by simp)) ?_) | go_in)
        intro g8 c8 u8 o8 gr8
        (try rw [← s3] at o8)
        have PA := (unhide HPt).app (p := (f0, f1, f2)) hO (one_more wr (.cells #[.int .i64 f0, .string f1, .string f2] 54)) gr8 o8
        have bx8 := PA.1
        have b80 := bx8.c1
        have b81 := bx8.free 1
        have P8 := hide PA.2
        clear o8 gr8 PA bo bob bx8
        generalize hL : L ++ [(f0, f1, f2)] = L9 at *
        clear hL
        have B0 := (unhide P8).bx.c0
        have B1 := (unhide P8).bx.c1
        have Rk := hide ((unhide HRB).kept (unhide P8).gr (by simp))
        have e0 := (unhide Rk).free 0
        have e1 := (unhide Rk).free 1
        have r0 := (unhide Rk).c0
        have r1 := (unhide Rk).c1
        have lm : L9.length = (m + 1) := by
          have := (unhide P8).ow.1
          rw [flatF_len] at this
          omega
        have LM := hide lm
        have OR := hide (row_base (unhide P8).ow (show w.heap.size ≤ W.heap.size from by omega))
        have LB := hide (show ∀ j, (Value.slice (some ⟨g8, 0, none⟩) (m + 1) c8).ownBlock = some j → w.heap.size + 4 ≤ j from fun j hj => by have := (unhide P8).off j hj; omega)
        have t0 := (unhide Rk).set0 (.int .i64 x.room)
        have t1 := bc_set1 t0.1 (.slice (some ⟨g8, 0, none⟩) (m + 1) c8)
        have ST := hide (grow_grow t0.2 t1.2)
        have BB := hide (grow_low (unhide HWD).b (unhide P8).gr (by omega))
        have us := (unhide P8).gr.size
        clear lm t0 t1
        go_wp2
        refine bodyPost_ret (v := .agg #[.int .i64 x.room, .slice (some ⟨g8, 0, none⟩) (m + 1) c8]) (by simp [results, Try.results56, go_sem, r0, r1]) rfl ⟨⟨x.room, (some ⟨g8, 0, none⟩), c8, L9⟩, rfl, (unhide E).symm, by simp [unhide LM], ?_, ?_⟩
        · unfold OwD
          simp only [unhide LM]
          exact World.ownsRow.kept (unhide OR) (unhide ST) (by
            cases hb : (Value.slice (some ⟨g8, 0, none⟩) (m + 1) c8).ownBlock with
            | none => exact .inl rfl
            | some g => exact .inr (fun e => by have := (unhide LB) g hb; injection e with e; omega))
        · exact grow_low (unhide BB) (unhide ST) (by omega)
      · have E := hide (show putF x.ps (f0, f1, f2) = L from by rw [unhide PF, unhide HP]; simp)
        clear PF HP
        have B0 := (unhide HPt).bx.c0
        have B1 := (unhide HPt).bx.c1
        have Rk := hide ((unhide HRB).kept (unhide HPt).gr (by simp))
        have e0 := (unhide Rk).free 0
        have e1 := (unhide Rk).free 1
        have r0 := (unhide Rk).c0
        have r1 := (unhide Rk).c1
        have lm : L.length = m := by
          have := (unhide HPt).ow.1
          rw [flatF_len] at this
          omega
        have LM := hide lm
        have OR := hide (row_base (unhide HPt).ow (show w.heap.size ≤ W.heap.size from by omega))
        have LB := hide (show ∀ j, (Value.slice a m c).ownBlock = some j → w.heap.size + 4 ≤ j from fun j hj => by have := (unhide HPt).off j hj; omega)
        have t0 := (unhide Rk).set0 (.int .i64 x.room)
        have t1 := bc_set1 t0.1 (.slice a m c)
        have ST := hide (grow_grow t0.2 t1.2)
        have BB := hide (grow_low (unhide HWD).b (unhide HPt).gr (by omega))
        have us := (unhide HPt).gr.size
        clear lm t0 t1
        go_wp2
        refine bodyPost_ret (v := .agg #[.int .i64 x.room, .slice a m c]) (by simp [results, Try.results56, go_sem, r0, r1]) rfl ⟨⟨x.room, a, c, L⟩, rfl, (unhide E).symm, by simp [unhide LM], ?_, ?_⟩
        · unfold OwD
          simp only [unhide LM]
          exact World.ownsRow.kept (unhide OR) (unhide ST) (by
            cases hb : (Value.slice a m c).ownBlock with
            | none => exact .inl rfl
            | some g => exact .inr (fun e => by have := (unhide LB) g hb; injection e with e; omega))
        · exact grow_low (unhide BB) (unhide ST) (by omega)
end Go.Proofs.Ytcajdiopgaoicaa.SPut14
