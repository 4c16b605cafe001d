/- Disks: the specification's disk with one file more, or another one of its name. -/
import Derived.Test.YtnjhgkclcnfooabSRef14
namespace Go.Proofs.Ytnjhgkclcnfooab.SPut14
open Go.ChangeShapes Go.WideShapes Go.ChangeAt Go.RowKit Fil14 OpensF14 DiskH14 DkH14 SDk14 SOk14 SRd14 App14 SLess14 SCopy14
open DkH14 (row_step)
set_option linter.unusedVariables false
set_option linter.unusedSimpArgs false

/-- The first k files with a file put among them, and whether it has been. -/
def putN (ps : List TF) (f : TF) : Nat → List TF × Bool
  | 0 => ([], false)
  | k + 1 =>
    let l := if (putN ps f k).2 = false ∧ f.1 ≤ (elF ps k).1 then (putN ps f k).1 ++ [f] else (putN ps f k).1
    (if (elF ps k).1 = f.1 then l else l ++ [elF ps k], (putN ps f k).2 || decide (f.1 ≤ (elF ps k).1))
/-- Files with one more, or another one of its name. -/
def putF (ps : List TF) (f : TF) : List TF := if (putN ps f ps.length).2 = true then (putN ps f ps.length).1 else (putN ps f ps.length).1 ++ [f]

/-- A world behind W in which the disk that is built has files L. -/
structure Pt (B O : Nat) (W wr : World) (room : Int) (L : List TF) (a : Option Addr) (m c : Nat) : Prop where
  gr : W.grownBy wr (some O)
  bx : Bc wr B O (.int .i64 room) (.slice a m c)
  ow : wr.ownsRow W.heap.size 46 3 (.slice a m c) m (flatF L)
theorem Pt.drew {B O : Nat} {W wr : World} {room : Int} {L : List TF} {a : Option Addr} {m c : Nat} (h : Pt B O W wr room L a m c) : Pt B O W wr.drew room L a m c := ⟨⟨h.gr.os, h.gr.tape, h.gr.output, h.gr.size, h.gr.block⟩, h.bx, h.ow⟩
theorem Pt.off {B O : Nat} {W wr : World} {room : Int} {L : List TF} {a : Option Addr} {m c : Nat} (h : Pt B O W wr room L a m c) : ∀ j, (Value.slice a m c).ownBlock = some j → W.heap.size ≤ j := fun j hj => (World.ownsRow.lt h.ow j hj).1
/-- One file more. -/
theorem Pt.app {B O : Nat} {W wr V u : World} {room : Int} {L : List TF} {a : Option Addr} {m c g9 c9 : Nat} {p : TF} (h : Pt B O W wr room L a m c) (hO : O < W.heap.size) (b : Below wr.heap.size wr V) (g : V.grownBy u (Value.slice a m c).ownBlock)
    (o : u.ownsRow W.heap.size 46 3 (.slice (some ⟨g9, 0, none⟩) (m + 1) c9) (m + 1) (flatF L ++ [.int .i64 p.1, .string p.2.1, .string p.2.2])) :
    Bc u B O (.int .i64 room) (.slice a m c) ∧ Pt B O W (u.setCell ⟨O, 1, none⟩ (.slice (some ⟨g9, 0, none⟩) (m + 1) c9)) room (L ++ [p]) (some ⟨g9, 0, none⟩) (m + 1) c9 := by
  have NG : some O ≠ (Value.slice a m c).ownBlock := fun e => by have := h.off _ e.symm; omega
  have bx9 := (h.bx.below b (h.bx.lt).2).kept g NG
  have gu : W.grownBy u (some O) := ⟨(g.os.trans b.os).trans h.gr.os, (g.tape.trans b.tape).trans h.gr.tape, (g.output.trans b.output).trans h.gr.output, Nat.le_trans h.gr.size (Nat.le_trans b.size g.size), fun i hi hr => by
    have l : i < wr.heap.size := Nat.lt_of_lt_of_le hi h.gr.size
    exact ((g.block i (Nat.lt_of_lt_of_le l b.size) (fun e => by have := h.off i e.symm; omega)).trans (b.block i l)).trans (h.gr.block i hi hr)⟩
  have s := bc_set1 bx9 (.slice (some ⟨g9, 0, none⟩) (m + 1) c9)
  refine ⟨bx9, grow_grow gu s.2, s.1, ?_⟩
  rw [flat_1]
  exact row_kept o s.2 hO

/-- A file appended to a list that may be nil. -/
theorem wp_app (u : World) {ops : Array Oper} {rest : List Oper} {o : Oper} {a : Act} {Q : Exit → Act → World → Prop} (hgd : o.guard = none) (s x : Operand)
    (ho : o.op = .call { callee := .builtin .append, args := #[s, x], argTypes := #[26, 26] }) (base : Nat) (v : Value) (n : Nat) (xs : List Value) (vb : Nat) (news : List Value) (hs : a.eval s = v) (hx : a.eval x = .slice (some ⟨vb, 0, none⟩) 1 1) (hown : u.ownsRow base 46 3 v n xs) (hl : news.length = 3) (hc : ∀ j w, news[j]? = some w → u.cell? ⟨vb, j, none⟩ = some w) (h1 : ∀ w ∈ news, w.oneCell' = true) (hn : n ≤ 1048576) (hb : base ≤ u.heap.size)
    (h : ∀ g' c' w', w'.ownsRow base 46 3 (.slice (some ⟨g', 0, none⟩) (n + 1) c') (n + 1) (xs ++ news) → u.grownBy w' v.ownBlock → wpList Try.prog ops Q rest (a.put o.dst (.slice (some ⟨g', 0, none⟩) (n + 1) c')) w') : wpList Try.prog ops Q (o :: rest) a u := by
  obtain ⟨i0, hi, hz0, hz1, hz2⟩ := info_parts HelpF14.info2
  refine wpList_append_own_at u hgd s x 26 ho base 46 i0 (.agg #[.int .i64 0, .string ByteArray.empty, .string ByteArray.empty]) 3 40 Try.underlying26 hi hz0 hz1 hz2 rfl (by decide) v n xs hs hown ⟨vb, 0, none⟩ 1 1 news hx (by omega) (fun j w hj => by rw [Addr.add_lit, Nat.zero_add]; exact hc j w hj) h1 (by unfold maxLen; omega) (by omega) hb ?_
  intro v' w' own' gr' nil' loc'
  rcases own'.2 with ⟨e1, _⟩ | ⟨g', c', cur, rfl, _⟩
  · rw [e1] at nil'; simp at nil'
  · exact h g' c' w' own' gr'

theorem putN_succ {ps : List TF} {f : TF} {k : Nat} {L : List TF} {pb : Bool} (h : putN ps f k = (L, pb)) : putN ps f (k + 1) = (if (elF ps k).1 = f.1 then (if pb = false ∧ f.1 ≤ (elF ps k).1 then L ++ [f] else L) else (if pb = false ∧ f.1 ≤ (elF ps k).1 then L ++ [f] else L) ++ [elF ps k], pb || decide (f.1 ≤ (elF ps k).1)) := by
  simp only [putN, h]