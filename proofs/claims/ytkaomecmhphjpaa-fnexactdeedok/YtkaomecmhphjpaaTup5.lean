/- Lists of structs of 5 numbers in memory: what their cells hold, and what a store, a call or an append keeps of them. -/
import Derived.Test.YtkaomecmhphjpaaRows
import Derived.WalkKit
import Derived.ProofKit
import Derived.OpenShut
import Derived.Below
import Derived.BigQuiet
namespace Go.Proofs.Ytkaomecmhphjpaa.Tup5
open Go.ChangeShapes Go.WideShapes Go.ChangeAt Go.RowKit
set_option linter.unusedVariables false
set_option linter.unusedSimpArgs false

theorem hide {p : Prop} (h : p) : Hid p := h
theorem unhide {p : Prop} (h : Hid p) : p := h

/-- 5 numbers. -/
abbrev T5 : Type := Int × Int × Int × Int × Int

/-- Element i. -/
abbrev el5 (ps : List T5) (i : Nat) : T5 := ps.getD i (0, 0, 0, 0, 0)

/-- The cells of a list. -/
def flat5 (ps : List T5) : List Value := ps.flatMap fun p => [.int .i64 p.1, .int .i64 p.2.1, .int .i64 p.2.2.1, .int .i64 p.2.2.2.1, .int .i64 p.2.2.2.2]

theorem flat5_nil : flat5 [] = [] := rfl
theorem flat5_cons (p : T5) (ps : List T5) : flat5 (p :: ps) = .int .i64 p.1 :: .int .i64 p.2.1 :: .int .i64 p.2.2.1 :: .int .i64 p.2.2.2.1 :: .int .i64 p.2.2.2.2 :: flat5 ps := rfl
theorem flat5_append (ps qs : List T5) : flat5 (ps ++ qs) = flat5 ps ++ flat5 qs := by simp [flat5, List.flatMap_append]
theorem flat5_len (ps : List T5) : (flat5 ps).length = ps.length * 5 := by
  induction ps with
  | nil => rfl
  | cons p ps ih => rw [flat5_cons]; simp [ih]; omega

theorem flat5_get (ps : List T5) : ∀ i, i < ps.length → (flat5 ps)[i * 5]? = some (.int .i64 (el5 ps i).1) ∧ (flat5 ps)[i * 5 + 1]? = some (.int .i64 (el5 ps i).2.1) ∧ (flat5 ps)[i * 5 + 2]? = some (.int .i64 (el5 ps i).2.2.1) ∧ (flat5 ps)[i * 5 + 3]? = some (.int .i64 (el5 ps i).2.2.2.1) ∧ (flat5 ps)[i * 5 + 4]? = some (.int .i64 (el5 ps i).2.2.2.2) := by
  induction ps with
  | nil => intro i h; simp at h
  | cons p ps ih =>
    intro i h
    cases i with
    | zero => rw [flat5_cons]; simp
    | succ i =>
      have := ih i (by simpa using h)
      rw [flat5_cons, show (i + 1) * 5 = i * 5 + 5 by omega, show i * 5 + 5 + 1 = (i * 5 + 1) + 5 by omega, show i * 5 + 5 + 2 = (i * 5 + 2) + 5 by omega, show i * 5 + 5 + 3 = (i * 5 + 3) + 5 by omega, show i * 5 + 5 + 4 = (i * 5 + 4) + 5 by omega]
      simpa using this

theorem flat5_one (u : Value) (ps : List T5) (h : u ∈ flat5 ps) : u.oneCell' = true := by
  induction ps with
  | nil => simp [flat5] at h
  | cons p ps ih =>
    rw [flat5_cons] at h
    simp only [List.mem_cons] at h
    rcases h with rfl | rfl | rfl | rfl | rfl | h
    · rfl
    · rfl
    · rfl
    · rfl
    · rfl
    · exact ih h

theorem flat5_set (ps : List T5) : ∀ (i : Nat) (x : Int), (flat5 ps).set (i * 5) (.int .i64 x) = flat5 (ps.modify i fun p => (x, p.2.1, p.2.2.1, p.2.2.2.1, p.2.2.2.2)) ∧ (flat5 ps).set (i * 5 + 1) (.int .i64 x) = flat5 (ps.modify i fun p => (p.1, x, p.2.2.1, p.2.2.2.1, p.2.2.2.2)) ∧ (flat5 ps).set (i * 5 + 2) (.int .i64 x) = flat5 (ps.modify i fun p => (p.1, p.2.1, x, p.2.2.2.1, p.2.2.2.2)) ∧ (flat5 ps).set (i * 5 + 3) (.int .i64 x) = flat5 (ps.modify i fun p => (p.1, p.2.1, p.2.2.1, x, p.2.2.2.2)) ∧ (flat5 ps).set (i * 5 + 4) (.int .i64 x) = flat5 (ps.modify i fun p => (p.1, p.2.1, p.2.2.1, p.2.2.2.1, x)) := by
  induction ps with
  | nil => intro i x; simp [flat5]
  | cons p ps ih =>
    intro i x
    cases i with
    | zero => simp [flat5_cons]
    | succ i =>
      obtain ⟨a0, a1, a2, a3, a4⟩ := ih i x
      refine ⟨?_, ?_, ?_, ?_, ?_⟩
      · rw [flat5_cons, show (i + 1) * 5 = i * 5 + 1 + 1 + 1 + 1 + 1 by omega, List.set_cons_succ, List.set_cons_succ, List.set_cons_succ, List.set_cons_succ, List.set_cons_succ, a0, List.modify_succ_cons, flat5_cons]
      · rw [flat5_cons, show (i + 1) * 5 + 1 = i * 5 + 1 + 1 + 1 + 1 + 1 + 1 by omega, List.set_cons_succ, List.set_cons_succ, List.set_cons_succ, List.set_cons_succ, List.set_cons_succ, a1, List.modify_succ_cons, flat5_cons]
      · rw [flat5_cons, show (i + 1) * 5 + 2 = i * 5 + 2 + 1 + 1 + 1 + 1 + 1 by omega, List.set_cons_succ, List.set_cons_succ, List.set_cons_succ, List.set_cons_succ, List.set_cons_succ, a2, List.modify_succ_cons, flat5_cons]
      · rw [flat5_cons, show (i + 1) * 5 + 3 = i * 5 + 3 + 1 + 1 + 1 + 1 + 1 by omega, List.set_cons_succ, List.set_cons_succ, List.set_cons_succ, List.set_cons_succ, List.set_cons_succ, a3, List.modify_succ_cons, flat5_cons]
      · rw [flat5_cons, show (i + 1) * 5 + 4 = i * 5 + 4 + 1 + 1 + 1 + 1 + 1 by omega, List.set_cons_succ, List.set_cons_succ, List.set_cons_succ, List.set_cons_succ, List.set_cons_succ, a4, List.modify_succ_cons, flat5_cons]

/-- The cells of an element, from cell o on in block g. -/
def Holds5 (w : World) (g o : Nat) (p : T5) : Prop := w.cell? ⟨g, o, none⟩ = some (.int .i64 p.1) ∧ w.cell? ⟨g, o + 1, none⟩ = some (.int .i64 p.2.1) ∧ w.cell? ⟨g, o + 2, none⟩ = some (.int .i64 p.2.2.1) ∧ w.cell? ⟨g, o + 3, none⟩ = some (.int .i64 p.2.2.2.1) ∧ w.cell? ⟨g, o + 4, none⟩ = some (.int .i64 p.2.2.2.2)

/-- The elements of a list of the call's own: block g from its head on. -/
def At5 (w : World) (g : Nat) (ps : List T5) : Prop := ∀ i, i < ps.length → Holds5 w g (i * 5) (el5 ps i)

/-- A list that came in, or any other one: nothing is asked where it is empty. -/
def Reads5 (w : World) (a : Option Addr) (ps : List T5) : Prop := ps.length = 0 ∨ ∃ b off, a = some ⟨b, off, none⟩ ∧ b < w.heap.size ∧ ∀ i, i < ps.length → Holds5 w b (off + i * 5) (el5 ps i)

/-- A list of the call's own of elements of type e, from block number base on. -/
def Own5 (e : TypeId) (w : World) (base g n cap : Nat) (ps : List T5) : Prop := w.ownsRow base e 5 (.slice (some ⟨g, 0, none⟩) n cap) n (flat5 ps)

section
variable {e : TypeId} {w w' : World} {base base' g n cap : Nat} {ps : List T5}

theorem Holds5.below {B o : Nat} {p : T5} (h : Holds5 w g o p) (k : Below B w w') (hg : g < B) : Holds5 w' g o p :=
  ⟨(k.cell (p := ⟨g, o, none⟩) hg).trans h.1, (k.cell (p := ⟨g, o + 1, none⟩) hg).trans h.2.1, (k.cell (p := ⟨g, o + 2, none⟩) hg).trans h.2.2.1, (k.cell (p := ⟨g, o + 3, none⟩) hg).trans h.2.2.2.1, (k.cell (p := ⟨g, o + 4, none⟩) hg).trans h.2.2.2.2⟩

theorem Own5.len (h : Own5 e w base g n cap ps) : ps.length = n := by
  have := h.1
  rw [flat5_len] at this
  omega

theorem Own5.lt (h : Own5 e w base g n cap ps) : base ≤ g ∧ g < w.heap.size := World.ownsRow.lt h g rfl

theorem Own5.at (h : Own5 e w base g n cap ps) : At5 w g ps := by
  intro i hi
  have hl := h.len
  obtain ⟨f0, f1, f2, f3, f4⟩ := flat5_get ps i hi
  exact ⟨(World.ownsRow.cellAt h (i * 5) (by omega)).trans f0, (World.ownsRow.cellAt h (i * 5 + 1) (by omega)).trans f1, (World.ownsRow.cellAt h (i * 5 + 2) (by omega)).trans f2, (World.ownsRow.cellAt h (i * 5 + 3) (by omega)).trans f3, (World.ownsRow.cellAt h (i * 5 + 4) (by omega)).trans f4⟩

theorem Own5.free (h : Own5 e w base g n cap ps) (i : Nat) : w.frozen? ⟨g, i, none⟩ = false := World.ownsRow.frozenAt h i

theorem Own5.rebase (h : Own5 e w base g n cap ps) (hb : base' ≤ g) : Own5 e w base' g n cap ps := by
  refine ⟨h.1, ?_⟩
  rcases h.2 with ⟨h1, _⟩ | ⟨g', c, cur, h1, h2, h3⟩
  · simp at h1
  · obtain ⟨e, _⟩ : g = g' ∧ cap = c := by simpa using h1
    subst e
    exact Or.inr ⟨g, c, cur, h1, hb, h3⟩

theorem Own5.kept {row : Option Nat} (h : Own5 e w base g n cap ps) (k : w.grownBy w' row) (hne : some g ≠ row) : Own5 e w' base g n cap ps :=
  World.ownsRow.kept h k (Or.inr hne)

theorem Own5.below {B : Nat} (h : Own5 e w base g n cap ps) (k : Below B w w') (hg : g < B) : Own5 e w' base g n cap ps := by
  refine ⟨h.1, ?_⟩
  rcases h.2 with ⟨h1, _⟩ | ⟨g', c, cur, h1, h2, h3, h4⟩
  · simp at h1
  · obtain ⟨e, _⟩ : g = g' ∧ cap = c := by simpa using h1
    subst e
    exact Or.inr ⟨g, c, cur, h1, h2, by rw [k.block g hg]; exact h3, h4⟩

theorem Own5.alloc (h : Own5 e w base g n cap ps) (o : Obj) : Own5 e (w.alloc o) base g n cap ps := World.ownsRow.alloc h o
theorem Own5.drew (h : Own5 e w base g n cap ps) : Own5 e w.drew base g n cap ps := h

theorem At5.below {B : Nat} (h : At5 w g ps) (k : Below B w w') (hg : g < B) : At5 w' g ps := fun i hi => (h i hi).below k hg
theorem At5.drewN (h : At5 w g ps) (m : Nat) : At5 (w.drewN m) g ps := h

theorem Reads5.below {a : Option Addr} (h : Reads5 w a ps) (k : Below w.heap.size w w') : Reads5 w' a ps := by
  rcases h with h | ⟨b, off, rfl, hb, hc⟩
  · exact Or.inl h
  · exact Or.inr ⟨b, off, rfl, Nat.lt_of_lt_of_le hb k.size, fun i hi => (hc i hi).below k hb⟩

theorem Own5.set0 (h : Own5 e w base g n cap ps) (i : Nat) (x : Int) :
    Own5 e (w.setCell ⟨g, i * 5, none⟩ (.int .i64 x)) base g n cap (ps.modify i fun p => (x, p.2.1, p.2.2.1, p.2.2.2.1, p.2.2.2.2)) ∧ w.grownBy (w.setCell ⟨g, i * 5, none⟩ (.int .i64 x)) (some g) := by
  have := World.ownsRow.stored h (i * 5) (.int .i64 x)
  refine ⟨?_, this.2⟩
  unfold Own5
  rw [← (flat5_set ps i x).1]
  exact this.1

theorem Own5.set1 (h : Own5 e w base g n cap ps) (i : Nat) (x : Int) :
    Own5 e (w.setCell ⟨g, i * 5 + 1, none⟩ (.int .i64 x)) base g n cap (ps.modify i fun p => (p.1, x, p.2.2.1, p.2.2.2.1, p.2.2.2.2)) ∧ w.grownBy (w.setCell ⟨g, i * 5 + 1, none⟩ (.int .i64 x)) (some g) := by
  have := World.ownsRow.stored h (i * 5 + 1) (.int .i64 x)
  refine ⟨?_, this.2⟩
  unfold Own5
  rw [← (flat5_set ps i x).2.1]
  exact this.1

theorem Own5.set2 (h : Own5 e w base g n cap ps) (i : Nat) (x : Int) :
    Own5 e (w.setCell ⟨g, i * 5 + 2, none⟩ (.int .i64 x)) base g n cap (ps.modify i fun p => (p.1, p.2.1, x, p.2.2.2.1, p.2.2.2.2)) ∧ w.grownBy (w.setCell ⟨g, i * 5 + 2, none⟩ (.int .i64 x)) (some g) := by
  have := World.ownsRow.stored h (i * 5 + 2) (.int .i64 x)
  refine ⟨?_, this.2⟩
  unfold Own5
  rw [← (flat5_set ps i x).2.2.1]
  exact this.1

theorem Own5.set3 (h : Own5 e w base g n cap ps) (i : Nat) (x : Int) :
    Own5 e (w.setCell ⟨g, i * 5 + 3, none⟩ (.int .i64 x)) base g n cap (ps.modify i fun p => (p.1, p.2.1, p.2.2.1, x, p.2.2.2.2)) ∧ w.grownBy (w.setCell ⟨g, i * 5 + 3, none⟩ (.int .i64 x)) (some g) := by
  have := World.ownsRow.stored h (i * 5 + 3) (.int .i64 x)
  refine ⟨?_, this.2⟩
  unfold Own5
  rw [← (flat5_set ps i x).2.2.2.1]
  exact this.1

theorem Own5.set4 (h : Own5 e w base g n cap ps) (i : Nat) (x : Int) :
    Own5 e (w.setCell ⟨g, i * 5 + 4, none⟩ (.int .i64 x)) base g n cap (ps.modify i fun p => (p.1, p.2.1, p.2.2.1, p.2.2.2.1, x)) ∧ w.grownBy (w.setCell ⟨g, i * 5 + 4, none⟩ (.int .i64 x)) (some g) := by
  have := World.ownsRow.stored h (i * 5 + 4) (.int .i64 x)
  refine ⟨?_, this.2⟩
  unfold Own5
  rw [← (flat5_set ps i x).2.2.2.2]
  exact this.1
end

theorem grownBy_below {w w' : World} (h : w.grownBy w' none) : Below w.heap.size w w' := ⟨h.os, h.tape, h.output, h.size, fun k hk => h.block k hk (by simp)⟩

/-- Two steps, each of which turns nothing that was there. -/
theorem next {a b c : World} (h : Below a.heap.size a b) (k : Below b.heap.size b c) : Below a.heap.size a c := h.trans (k.mono h.size)

/-- A row that an append or a literal has laid. -/
theorem own5_of_row {e : TypeId} {w : World} {base n n' : Nat} {v : Value} {vs : List Value} {ps : List T5} (h : w.ownsRow base e 5 v n vs) (hn : n = n') (hv : vs = flat5 ps) (hs : ¬ v = .slice none 0 0) :
    ∃ g c, v = .slice (some ⟨g, 0, none⟩) n' c ∧ Own5 e w base g n' c ps := by
  subst hn hv
  have h' := h
  rcases h.2 with ⟨h1, _⟩ | ⟨g, c, cur, rfl, _⟩
  · exact absurd h1 hs
  · exact ⟨g, c, rfl, h'⟩

theorem lit50 (e : TypeId) (w : World) (base : Nat) (hb : base ≤ w.heap.size) : Own5 e (w.alloc (.cells #[] e)) base w.heap.size 0 0 [] := World.ownsRow_lit w #[] 0 hb (by decide) rfl

theorem lit51 (e : TypeId) (w : World) (base : Nat) (x0 x1 x2 x3 x4 : Int) (hb : base ≤ w.heap.size) : Own5 e (w.alloc (.cells #[.int .i64 x0, .int .i64 x1, .int .i64 x2, .int .i64 x3, .int .i64 x4] e)) base w.heap.size 1 1 [(x0, x1, x2, x3, x4)] := World.ownsRow_lit w #[.int .i64 x0, .int .i64 x1, .int .i64 x2, .int .i64 x3, .int .i64 x4] 1 hb (by decide) rfl

/-- The cells of a list, as an append takes them. -/
theorem At5.cells {w : World} {g : Nat} {ps : List T5} (h : At5 w g ps) : ∀ (j : Nat) (u : Value), (flat5 ps)[j]? = some u → w.cell? ((⟨g, 0, none⟩ : Addr).add j) = some u := by
  intro j u hj
  have hl : j < ps.length * 5 := by
    have := (List.getElem?_eq_some_iff.1 hj).1
    rw [flat5_len] at this
    exact this
  rw [Addr.add_lit, Nat.zero_add]
  obtain ⟨c0, c1, c2, c3, c4⟩ := h (j / 5) (by omega)
  obtain ⟨f0, f1, f2, f3, f4⟩ := flat5_get ps (j / 5) (by omega)
  rcases (show j % 5 = 0 ∨ j % 5 = 1 ∨ j % 5 = 2 ∨ j % 5 = 3 ∨ j % 5 = 4 by omega) with e | e | e | e | e
  · rw [show j / 5 * 5 = j by omega] at c0 f0
    rw [c0, ← hj, f0]
  · rw [show j / 5 * 5 + 1 = j by omega] at c1 f1
    rw [c1, ← hj, f1]
  · rw [show j / 5 * 5 + 2 = j by omega] at c2 f2
    rw [c2, ← hj, f2]
  · rw [show j / 5 * 5 + 3 = j by omega] at c3 f3
    rw [c3, ← hj, f3]
  · rw [show j / 5 * 5 + 4 = j by omega] at c4 f4
    rw [c4, ← hj, f4]

theorem grown_trans {a b c : World} {row : Option Nat} (h : a.grownBy b row) (k : b.grownBy c row) : a.grownBy c row :=
  ⟨k.os.trans h.os, k.tape.trans h.tape, k.output.trans h.output, Nat.le_trans h.size k.size, fun j hj hne => (k.block j (Nat.lt_of_lt_of_le hj h.size) hne).trans (h.block j hj hne)⟩

theorem below_drewN {B : Nat} {a w : World} (h : Below B a w) (m : Nat) : Below B a (w.drewN m) := ⟨h.os, h.tape, h.output, h.size, h.block⟩

theorem drewN_more {w wr : World} (h : ∃ q, wr = w.drewN q) (m : Nat) : ∃ q, wr.drewN m = w.drewN q := by
  obtain ⟨q, rfl⟩ := h
  exact ⟨q + m, World.drewN_drewN ..⟩

theorem getD_mem {ps : List T5} {i : Nat} (h : i < ps.length) : el5 ps i ∈ ps := by
  unfold el5
  simp only [List.getD, List.getElem?_eq_getElem h, Option.getD_some]
  exact List.getElem_mem h

theorem mem_getD {ps : List T5} {p : T5} (h : p ∈ ps) : ∃ i, i < ps.length ∧ el5 ps i = p := by
  obtain ⟨i, hi, e⟩ := List.getElem_of_mem h
  refine ⟨i, hi, ?_⟩
  unfold el5
  simp [List.getD, hi, e]

theorem take_next {ps : List T5} {k : Nat} (h : k < ps.length) : ps.take (k + 1) = ps.take k ++ [el5 ps k] := by
  rw [List.take_add_one]
  simp [List.getD, h]

theorem drop_next {ps : List T5} {k : Nat} (h : k < ps.length) : ps.drop k = el5 ps k :: ps.drop (k + 1) := by
  rw [List.drop_eq_getElem_cons h]
  simp [el5, List.getD, h]

end Go.Proofs.Ytkaomecmhphjpaa.Tup5
