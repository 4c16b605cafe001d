/- Lists of pairs of numbers in memory (accounts, instruments): what their cells hold, and what a store, a call or an append keeps of them. -/
import Derived.Test.YtejbbhjhinkcdaaRows
import Derived.WalkKit
import Derived.ProofKit
import Derived.OpenShut
import Derived.Below
import Derived.BigQuiet
namespace Go.Proofs.Ytejbbhjhinkcdaa.Pairs
open Go.ChangeShapes Go.WideShapes Go.ChangeAt Go.RowKit
set_option linter.unusedVariables false
set_option linter.unusedSimpArgs false

theorem hide {p : Prop} (h : p) : Hid p := h
theorem unhide {p : Prop} (h : Hid p) : p := h

/-- The cells of a list of pairs. -/
def flat (ps : List (Int × Int)) : List Value := ps.flatMap fun p => [.int .i64 p.1, .int .i64 p.2]

theorem flat_nil : flat [] = [] := rfl
theorem flat_cons (p : Int × Int) (ps : List (Int × Int)) : flat (p :: ps) = .int .i64 p.1 :: .int .i64 p.2 :: flat ps := rfl
theorem flat_append (ps qs : List (Int × Int)) : flat (ps ++ qs) = flat ps ++ flat qs := by simp [flat, List.flatMap_append]
theorem flat_len (ps : List (Int × Int)) : (flat ps).length = ps.length * 2 := by
  induction ps with
  | nil => rfl
  | cons p ps ih => rw [flat_cons]; simp [ih]; omega

theorem flat_get (ps : List (Int × Int)) : ∀ i, i < ps.length → (flat ps)[i * 2]? = some (.int .i64 (ps.getD i (0, 0)).1) ∧ (flat ps)[i * 2 + 1]? = some (.int .i64 (ps.getD i (0, 0)).2) := by
  induction ps with
  | nil => intro i h; simp at h
  | cons p ps ih =>
    intro i h
    cases i with
    | zero => rw [flat_cons]; simp
    | succ i =>
      have := ih i (by simpa using h)
      rw [flat_cons, show (i + 1) * 2 = i * 2 + 2 by omega, show i * 2 + 2 + 1 = (i * 2 + 1) + 2 by omega]
      simpa using this

theorem flat_one (u : Value) (ps : List (Int × Int)) (h : u ∈ flat ps) : u.oneCell' = true := by
  induction ps with
  | nil => simp [flat] at h
  | cons p ps ih =>
    rw [flat_cons] at h
    simp only [List.mem_cons] at h
    rcases h with rfl | rfl | h
    · rfl
    · rfl
    · exact ih h

theorem flat_set0 (ps : List (Int × Int)) : ∀ (i : Nat) (x : Int), (flat ps).set (i * 2) (.int .i64 x) = flat (ps.modify i fun p => (x, p.2)) := by
  induction ps with
  | nil => intro i x; simp [flat]
  | cons p ps ih =>
    intro i x
    cases i with
    | zero => simp [flat_cons]
    | succ i =>
      rw [flat_cons, show (i + 1) * 2 = i * 2 + 1 + 1 by omega, List.set_cons_succ, List.set_cons_succ, ih i x, List.modify_succ_cons, flat_cons]

theorem flat_set1 (ps : List (Int × Int)) : ∀ (i : Nat) (x : Int), (flat ps).set (i * 2 + 1) (.int .i64 x) = flat (ps.modify i fun p => (p.1, x)) := by
  induction ps with
  | nil => intro i x; simp [flat]
  | cons p ps ih =>
    intro i x
    cases i with
    | zero => simp [flat_cons]
    | succ i =>
      rw [flat_cons, show (i + 1) * 2 + 1 = i * 2 + 1 + 1 + 1 by omega, List.set_cons_succ, List.set_cons_succ, ih i x, List.modify_succ_cons, flat_cons]

/-- The pairs of a list of the call's own: block g from its head on. -/
def At (w : World) (g : Nat) (ps : List (Int × Int)) : Prop :=
  ∀ i, i < ps.length → w.cell? ⟨g, i * 2, none⟩ = some (.int .i64 (ps.getD i (0, 0)).1) ∧ w.cell? ⟨g, i * 2 + 1, none⟩ = some (.int .i64 (ps.getD i (0, 0)).2)

/-- A list that came in, or any other one: nothing is asked where it is empty. -/
def Reads (w : World) (a : Option Addr) (ps : List (Int × Int)) : Prop :=
  ps.length = 0 ∨ ∃ b off, a = some ⟨b, off, none⟩ ∧ b < w.heap.size ∧ ∀ i, i < ps.length → w.cell? ⟨b, off + i * 2, none⟩ = some (.int .i64 (ps.getD i (0, 0)).1) ∧ w.cell? ⟨b, off + i * 2 + 1, none⟩ = some (.int .i64 (ps.getD i (0, 0)).2)

/-- A list of the call's own of elements of type e, from block number base on. -/
def Own (e : TypeId) (w : World) (base g n cap : Nat) (ps : List (Int × Int)) : Prop := w.ownsRow base e 2 (.slice (some ⟨g, 0, none⟩) n cap) n (flat ps)

section
variable {e : TypeId} {w w' : World} {base base' g n cap : Nat} {ps : List (Int × Int)}

theorem Own.len (h : Own e w base g n cap ps) : ps.length = n := by
  have := h.1
  rw [flat_len] at this
  omega

theorem Own.lt (h : Own e w base g n cap ps) : base ≤ g ∧ g < w.heap.size := World.ownsRow.lt h g rfl

theorem Own.at (h : Own e w base g n cap ps) : At w g ps := by
  intro i hi
  have hl := h.len
  have g0 := World.ownsRow.cellAt h (i * 2) (by omega)
  have g1 := World.ownsRow.cellAt h (i * 2 + 1) (by omega)
  obtain ⟨f0, f1⟩ := flat_get ps i hi
  exact ⟨g0.trans f0, g1.trans f1⟩

theorem Own.free (h : Own e w base g n cap ps) (i : Nat) : w.frozen? ⟨g, i, none⟩ = false := World.ownsRow.frozenAt h i

theorem Own.rebase (h : Own e w base g n cap ps) (hb : base' ≤ g) : Own e w base' g n cap ps := by
  refine ⟨h.1, ?_⟩
  rcases h.2 with ⟨h1, _⟩ | ⟨g', c, cur, h1, h2, h3⟩
  · simp at h1
  · obtain ⟨e, _⟩ : g = g' ∧ cap = c := by simpa using h1
    subst e
    exact Or.inr ⟨g, c, cur, h1, hb, h3⟩

theorem Own.kept {row : Option Nat} (h : Own e w base g n cap ps) (k : w.grownBy w' row) (hne : some g ≠ row) : Own e w' base g n cap ps :=
  World.ownsRow.kept h k (Or.inr hne)

theorem Own.below {B : Nat} (h : Own e w base g n cap ps) (k : Below B w w') (hg : g < B) : Own e w' base g n cap ps := by
  refine ⟨h.1, ?_⟩
  rcases h.2 with ⟨h1, _⟩ | ⟨g', c, cur, h1, h2, h3, h4⟩
  · simp at h1
  · obtain ⟨e, _⟩ : g = g' ∧ cap = c := by simpa using h1
    subst e
    exact Or.inr ⟨g, c, cur, h1, h2, by rw [k.block g hg]; exact h3, h4⟩

theorem Own.alloc (h : Own e w base g n cap ps) (o : Obj) : Own e (w.alloc o) base g n cap ps := World.ownsRow.alloc h o
theorem Own.drew (h : Own e w base g n cap ps) : Own e w.drew base g n cap ps := h

theorem At.below {B : Nat} (h : At w g ps) (k : Below B w w') (hg : g < B) : At w' g ps := fun i hi =>
  ⟨(k.cell (p := ⟨g, i * 2, none⟩) hg).trans (h i hi).1, (k.cell (p := ⟨g, i * 2 + 1, none⟩) hg).trans (h i hi).2⟩

theorem Reads.below {a : Option Addr} (h : Reads w a ps) (k : Below w.heap.size w w') : Reads w' a ps := by
  rcases h with h | ⟨b, off, rfl, hb, hc⟩
  · exact Or.inl h
  · exact Or.inr ⟨b, off, rfl, Nat.lt_of_lt_of_le hb k.size, fun i hi => ⟨(k.cell (p := ⟨b, off + i * 2, none⟩) hb).trans (hc i hi).1, (k.cell (p := ⟨b, off + i * 2 + 1, none⟩) hb).trans (hc i hi).2⟩⟩

/-- A store into the first or the second cell of an element. -/
theorem Own.set0 (h : Own e w base g n cap ps) (i : Nat) (x : Int) :
    Own e (w.setCell ⟨g, i * 2, none⟩ (.int .i64 x)) base g n cap (ps.modify i fun p => (x, p.2)) ∧ w.grownBy (w.setCell ⟨g, i * 2, none⟩ (.int .i64 x)) (some g) := by
  have := World.ownsRow.stored h (i * 2) (.int .i64 x)
  refine ⟨?_, this.2⟩
  unfold Own
  rw [← flat_set0]
  exact this.1

theorem Own.set1 (h : Own e w base g n cap ps) (i : Nat) (x : Int) :
    Own e (w.setCell ⟨g, i * 2 + 1, none⟩ (.int .i64 x)) base g n cap (ps.modify i fun p => (p.1, x)) ∧ w.grownBy (w.setCell ⟨g, i * 2 + 1, none⟩ (.int .i64 x)) (some g) := by
  have := World.ownsRow.stored h (i * 2 + 1) (.int .i64 x)
  refine ⟨?_, this.2⟩
  unfold Own
  rw [← flat_set1]
  exact this.1
end

theorem grownBy_below {w w' : World} (h : w.grownBy w' none) : Below w.heap.size w w' := ⟨h.os, h.tape, h.output, h.size, fun k hk => h.block k hk (by simp)⟩

/-- Two steps, each of which turns nothing that was there. -/
theorem next {a b c : World} (h : Below a.heap.size a b) (k : Below b.heap.size b c) : Below a.heap.size a c := h.trans (k.mono h.size)

/-- Two steps of one block's own. -/
theorem grown_trans {a b c : World} {row : Option Nat} (h : a.grownBy b row) (k : b.grownBy c row) : a.grownBy c row :=
  ⟨k.os.trans h.os, k.tape.trans h.tape, k.output.trans h.output, Nat.le_trans h.size k.size, fun j hj hne => (k.block j (Nat.lt_of_lt_of_le hj h.size) hne).trans (h.block j hj hne)⟩

theorem getD_take (ps : List (Int × Int)) (k i : Nat) (h : i < k) : (ps.take k).getD i (0, 0) = ps.getD i (0, 0) := by
  simp [List.getD, h]

/-- A row of pairs that an append or a literal has laid. -/
theorem own_of_row {e : TypeId} {w : World} {base n n' : Nat} {v : Value} {vs : List Value} {ps : List (Int × Int)} (h : w.ownsRow base e 2 v n vs) (hn : n = n') (hv : vs = flat ps) (hs : ¬ v = .slice none 0 0) :
    ∃ g c, v = .slice (some ⟨g, 0, none⟩) n' c ∧ Own e w base g n' c ps := by
  subst hn hv
  have h' := h
  rcases h.2 with ⟨h1, _⟩ | ⟨g, c, cur, rfl, _⟩
  · exact absurd h1 hs
  · exact ⟨g, c, rfl, h'⟩

theorem lit0 (e : TypeId) (w : World) (base : Nat) (hb : base ≤ w.heap.size) : Own e (w.alloc (.cells #[] e)) base w.heap.size 0 0 [] := World.ownsRow_lit w #[] 0 hb (by decide) rfl

theorem lit1 (e : TypeId) (w : World) (base : Nat) (x y : Int) (hb : base ≤ w.heap.size) : Own e (w.alloc (.cells #[.int .i64 x, .int .i64 y] e)) base w.heap.size 1 1 [(x, y)] := World.ownsRow_lit w #[.int .i64 x, .int .i64 y] 1 hb (by decide) rfl

/-- The cells of a list, as an append takes them. -/
theorem At.cells {w : World} {g : Nat} {ps : List (Int × Int)} (h : At w g ps) : ∀ (j : Nat) (u : Value), (flat ps)[j]? = some u → w.cell? ((⟨g, 0, none⟩ : Addr).add j) = some u := by
  intro j u hj
  have hl : j < ps.length * 2 := by
    have := (List.getElem?_eq_some_iff.1 hj).1
    rw [flat_len] at this
    exact this
  rw [Addr.add_lit, Nat.zero_add]
  obtain ⟨c0, c1⟩ := h (j / 2) (by omega)
  obtain ⟨f0, f1⟩ := flat_get ps (j / 2) (by omega)
  rcases (show j % 2 = 0 ∨ j % 2 = 1 by omega) with e | e
  · rw [show j / 2 * 2 = j by omega] at c0 f0
    rw [c0, ← hj, f0]
  · rw [show j / 2 * 2 + 1 = j by omega] at c1 f1
    rw [c1, ← hj, f1]

theorem below_drewN {B : Nat} {a w : World} (h : Below B a w) (m : Nat) : Below B a (w.drewN m) := ⟨h.os, h.tape, h.output, h.size, h.block⟩

end Go.Proofs.Ytejbbhjhinkcdaa.Pairs
