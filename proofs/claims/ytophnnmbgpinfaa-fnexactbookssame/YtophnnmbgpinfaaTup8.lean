/- Lists of structs of 8 numbers in memory: what their cells hold, and what a store, a call or an append keeps of them. -/
import Derived.Test.YtophnnmbgpinfaaRows
import Derived.WalkKit
import Derived.ProofKit
import Derived.OpenShut
import Derived.Below
import Derived.BigQuiet
namespace Go.Proofs.Ytophnnmbgpinfaa.Tup8
open Go.ChangeShapes Go.WideShapes Go.ChangeAt Go.RowKit
set_option linter.unusedVariables false
set_option linter.unusedSimpArgs false

theorem hide {p : Prop} (h : p) : Hid p := h
theorem unhide {p : Prop} (h : Hid p) : p := h

/-- 8 numbers. -/
abbrev T8 : Type := Int × Int × Int × Int × Int × Int × Int × Int

/-- Element i. -/
abbrev el8 (ps : List T8) (i : Nat) : T8 := ps.getD i (0, 0, 0, 0, 0, 0, 0, 0)

/-- The cells of a list. -/
def flat8 (ps : List T8) : List Value := ps.flatMap fun p => [.int .i64 p.1, .int .i64 p.2.1, .int .i64 p.2.2.1, .int .i64 p.2.2.2.1, .int .i64 p.2.2.2.2.1, .int .i64 p.2.2.2.2.2.1, .int .i64 p.2.2.2.2.2.2.1, .int .i64 p.2.2.2.2.2.2.2]

theorem flat8_nil : flat8 [] = [] := rfl
theorem flat8_cons (p : T8) (ps : List T8) : flat8 (p :: ps) = .int .i64 p.1 :: .int .i64 p.2.1 :: .int .i64 p.2.2.1 :: .int .i64 p.2.2.2.1 :: .int .i64 p.2.2.2.2.1 :: .int .i64 p.2.2.2.2.2.1 :: .int .i64 p.2.2.2.2.2.2.1 :: .int .i64 p.2.2.2.2.2.2.2 :: flat8 ps := rfl
theorem flat8_append (ps qs : List T8) : flat8 (ps ++ qs) = flat8 ps ++ flat8 qs := by simp [flat8, List.flatMap_append]
theorem flat8_len (ps : List T8) : (flat8 ps).length = ps.length * 8 := by
  induction ps with
  | nil => rfl
  | cons p ps ih => rw [flat8_cons]; simp [ih]; omega

theorem flat8_get (ps : List T8) : ∀ i, i < ps.length → (flat8 ps)[i * 8]? = some (.int .i64 (el8 ps i).1) ∧ (flat8 ps)[i * 8 + 1]? = some (.int .i64 (el8 ps i).2.1) ∧ (flat8 ps)[i * 8 + 2]? = some (.int .i64 (el8 ps i).2.2.1) ∧ (flat8 ps)[i * 8 + 3]? = some (.int .i64 (el8 ps i).2.2.2.1) ∧ (flat8 ps)[i * 8 + 4]? = some (.int .i64 (el8 ps i).2.2.2.2.1) ∧ (flat8 ps)[i * 8 + 5]? = some (.int .i64 (el8 ps i).2.2.2.2.2.1) ∧ (flat8 ps)[i * 8 + 6]? = some (.int .i64 (el8 ps i).2.2.2.2.2.2.1) ∧ (flat8 ps)[i * 8 + 7]? = some (.int .i64 (el8 ps i).2.2.2.2.2.2.2) := by
  induction ps with
  | nil => intro i h; simp at h
  | cons p ps ih =>
    intro i h
    cases i with
    | zero => rw [flat8_cons]; simp
    | succ i =>
      have := ih i (by simpa using h)
      rw [flat8_cons, show (i + 1) * 8 = i * 8 + 8 by omega, show i * 8 + 8 + 1 = (i * 8 + 1) + 8 by omega, show i * 8 + 8 + 2 = (i * 8 + 2) + 8 by omega, show i * 8 + 8 + 3 = (i * 8 + 3) + 8 by omega, show i * 8 + 8 + 4 = (i * 8 + 4) + 8 by omega, show i * 8 + 8 + 5 = (i * 8 + 5) + 8 by omega, show i * 8 + 8 + 6 = (i * 8 + 6) + 8 by omega, show i * 8 + 8 + 7 = (i * 8 + 7) + 8 by omega]
      simpa using this

theorem flat8_one (u : Value) (ps : List T8) (h : u ∈ flat8 ps) : u.oneCell' = true := by
  induction ps with
  | nil => simp [flat8] at h
  | cons p ps ih =>
    rw [flat8_cons] at h
    simp only [List.mem_cons] at h
    rcases h with rfl | rfl | rfl | rfl | rfl | rfl | rfl | rfl | h
    · rfl
    · rfl
    · rfl
    · rfl
    · rfl
    · rfl
    · rfl
    · rfl
    · exact ih h

theorem flat8_set (ps : List T8) : ∀ (i : Nat) (x : Int), (flat8 ps).set (i * 8) (.int .i64 x) = flat8 (ps.modify i fun p => (x, p.2.1, p.2.2.1, p.2.2.2.1, p.2.2.2.2.1, p.2.2.2.2.2.1, p.2.2.2.2.2.2.1, p.2.2.2.2.2.2.2)) ∧ (flat8 ps).set (i * 8 + 1) (.int .i64 x) = flat8 (ps.modify i fun p => (p.1, x, p.2.2.1, p.2.2.2.1, p.2.2.2.2.1, p.2.2.2.2.2.1, p.2.2.2.2.2.2.1, p.2.2.2.2.2.2.2)) ∧ (flat8 ps).set (i * 8 + 2) (.int .i64 x) = flat8 (ps.modify i fun p => (p.1, p.2.1, x, p.2.2.2.1, p.2.2.2.2.1, p.2.2.2.2.2.1, p.2.2.2.2.2.2.1, p.2.2.2.2.2.2.2)) ∧ (flat8 ps).set (i * 8 + 3) (.int .i64 x) = flat8 (ps.modify i fun p => (p.1, p.2.1, p.2.2.1, x, p.2.2.2.2.1, p.2.2.2.2.2.1, p.2.2.2.2.2.2.1, p.2.2.2.2.2.2.2)) ∧ (flat8 ps).set (i * 8 + 4) (.int .i64 x) = flat8 (ps.modify i fun p => (p.1, p.2.1, p.2.2.1, p.2.2.2.1, x, p.2.2.2.2.2.1, p.2.2.2.2.2.2.1, p.2.2.2.2.2.2.2)) ∧ (flat8 ps).set (i * 8 + 5) (.int .i64 x) = flat8 (ps.modify i fun p => (p.1, p.2.1, p.2.2.1, p.2.2.2.1, p.2.2.2.2.1, x, p.2.2.2.2.2.2.1, p.2.2.2.2.2.2.2)) ∧ (flat8 ps).set (i * 8 + 6) (.int .i64 x) = flat8 (ps.modify i fun p => (p.1, p.2.1, p.2.2.1, p.2.2.2.1, p.2.2.2.2.1, p.2.2.2.2.2.1, x, p.2.2.2.2.2.2.2)) ∧ (flat8 ps).set (i * 8 + 7) (.int .i64 x) = flat8 (ps.modify i fun p => (p.1, p.2.1, p.2.2.1, p.2.2.2.1, p.2.2.2.2.1, p.2.2.2.2.2.1, p.2.2.2.2.2.2.1, x)) := by
  induction ps with
  | nil => intro i x; simp [flat8]
  | cons p ps ih =>
    intro i x
    cases i with
    | zero => simp [flat8_cons]
    | succ i =>
      obtain ⟨a0, a1, a2, a3, a4, a5, a6, a7⟩ := ih i x
      refine ⟨?_, ?_, ?_, ?_, ?_, ?_, ?_, ?_⟩
      · rw [flat8_cons, show (i + 1) * 8 = i * 8 + 1 + 1 + 1 + 1 + 1 + 1 + 1 + 1 by omega, List.set_cons_succ, List.set_cons_succ, List.set_cons_succ, List.set_cons_succ, List.set_cons_succ, List.set_cons_succ, List.set_cons_succ, List.set_cons_succ, a0, List.modify_succ_cons, flat8_cons]
      · rw [flat8_cons, show (i + 1) * 8 + 1 = i * 8 + 1 + 1 + 1 + 1 + 1 + 1 + 1 + 1 + 1 by omega, List.set_cons_succ, List.set_cons_succ, List.set_cons_succ, List.set_cons_succ, List.set_cons_succ, List.set_cons_succ, List.set_cons_succ, List.set_cons_succ, a1, List.modify_succ_cons, flat8_cons]
      · rw [flat8_cons, show (i + 1) * 8 + 2 = i * 8 + 2 + 1 + 1 + 1 + 1 + 1 + 1 + 1 + 1 by omega, List.set_cons_succ, List.set_cons_succ, List.set_cons_succ, List.set_cons_succ, List.set_cons_succ, List.set_cons_succ, List.set_cons_succ, List.set_cons_succ, a2, List.modify_succ_cons, flat8_cons]
      · rw [flat8_cons, show (i + 1) * 8 + 3 = i * 8 + 3 + 1 + 1 + 1 + 1 + 1 + 1 + 1 + 1 by omega, List.set_cons_succ, List.set_cons_succ, List.set_cons_succ, List.set_cons_succ, List.set_cons_succ, List.set_cons_succ, List.set_cons_succ, List.set_cons_succ, a3, List.modify_succ_cons, flat8_cons]
      · rw [flat8_cons, show (i + 1) * 8 + 4 = i * 8 + 4 + 1 + 1 + 1 + 1 + 1 + 1 + 1 + 1 by omega, List.set_cons_succ, List.set_cons_succ, List.set_cons_succ, List.set_cons_succ, List.set_cons_succ, List.set_cons_succ, List.set_cons_succ, List.set_cons_succ, a4, List.modify_succ_cons, flat8_cons]
      · rw [flat8_cons, show (i + 1) * 8 + 5 = i * 8 + 5 + 1 + 1 + 1 + 1 + 1 + 1 + 1 + 1 by omega, List.set_cons_succ, List.set_cons_succ, List.set_cons_succ, List.set_cons_succ, List.set_cons_succ, List.set_cons_succ, List.set_cons_succ, List.set_cons_succ, a5, List.modify_succ_cons, flat8_cons]
      · rw [flat8_cons, show (i + 1) * 8 + 6 = i * 8 + 6 + 1 + 1 + 1 + 1 + 1 + 1 + 1 + 1 by omega, List.set_cons_succ, List.set_cons_succ, List.set_cons_succ, List.set_cons_succ, List.set_cons_succ, List.set_cons_succ, List.set_cons_succ, List.set_cons_succ, a6, List.modify_succ_cons, flat8_cons]
      · rw [flat8_cons, show (i + 1) * 8 + 7 = i * 8 + 7 + 1 + 1 + 1 + 1 + 1 + 1 + 1 + 1 by omega, List.set_cons_succ, List.set_cons_succ, List.set_cons_succ, List.set_cons_succ, List.set_cons_succ, List.set_cons_succ, List.set_cons_succ, List.set_cons_succ, a7, List.modify_succ_cons, flat8_cons]

/-- The cells of an element, from cell o on in block g. -/
def Holds8 (w : World) (g o : Nat) (p : T8) : Prop := w.cell? ⟨g, o, none⟩ = some (.int .i64 p.1) ∧ w.cell? ⟨g, o + 1, none⟩ = some (.int .i64 p.2.1) ∧ w.cell? ⟨g, o + 2, none⟩ = some (.int .i64 p.2.2.1) ∧ w.cell? ⟨g, o + 3, none⟩ = some (.int .i64 p.2.2.2.1) ∧ w.cell? ⟨g, o + 4, none⟩ = some (.int .i64 p.2.2.2.2.1) ∧ w.cell? ⟨g, o + 5, none⟩ = some (.int .i64 p.2.2.2.2.2.1) ∧ w.cell? ⟨g, o + 6, none⟩ = some (.int .i64 p.2.2.2.2.2.2.1) ∧ w.cell? ⟨g, o + 7, none⟩ = some (.int .i64 p.2.2.2.2.2.2.2)

/-- The elements of a list of the call's own: block g from its head on. -/
def At8 (w : World) (g : Nat) (ps : List T8) : Prop := ∀ i, i < ps.length → Holds8 w g (i * 8) (el8 ps i)

/-- A list that came in, or any other one: nothing is asked where it is empty. -/
def Reads8 (w : World) (a : Option Addr) (ps : List T8) : Prop := ps.length = 0 ∨ ∃ b off, a = some ⟨b, off, none⟩ ∧ b < w.heap.size ∧ ∀ i, i < ps.length → Holds8 w b (off + i * 8) (el8 ps i)

/-- A list of the call's own of elements of type e, from block number base on. -/
def Own8 (e : TypeId) (w : World) (base g n cap : Nat) (ps : List T8) : Prop := w.ownsRow base e 8 (.slice (some ⟨g, 0, none⟩) n cap) n (flat8 ps)

section
variable {e : TypeId} {w w' : World} {base base' g n cap : Nat} {ps : List T8}

theorem Holds8.below {B o : Nat} {p : T8} (h : Holds8 w g o p) (k : Below B w w') (hg : g < B) : Holds8 w' g o p :=
  ⟨(k.cell (p := ⟨g, o, none⟩) hg).trans h.1, (k.cell (p := ⟨g, o + 1, none⟩) hg).trans h.2.1, (k.cell (p := ⟨g, o + 2, none⟩) hg).trans h.2.2.1, (k.cell (p := ⟨g, o + 3, none⟩) hg).trans h.2.2.2.1, (k.cell (p := ⟨g, o + 4, none⟩) hg).trans h.2.2.2.2.1, (k.cell (p := ⟨g, o + 5, none⟩) hg).trans h.2.2.2.2.2.1, (k.cell (p := ⟨g, o + 6, none⟩) hg).trans h.2.2.2.2.2.2.1, (k.cell (p := ⟨g, o + 7, none⟩) hg).trans h.2.2.2.2.2.2.2⟩

theorem Own8.len (h : Own8 e w base g n cap ps) : ps.length = n := by
  have := h.1
  rw [flat8_len] at this
  omega

theorem Own8.lt (h : Own8 e w base g n cap ps) : base ≤ g ∧ g < w.heap.size := World.ownsRow.lt h g rfl

theorem Own8.at (h : Own8 e w base g n cap ps) : At8 w g ps := by
  intro i hi
  have hl := h.len
  obtain ⟨f0, f1, f2, f3, f4, f5, f6, f7⟩ := flat8_get ps i hi
  exact ⟨(World.ownsRow.cellAt h (i * 8) (by omega)).trans f0, (World.ownsRow.cellAt h (i * 8 + 1) (by omega)).trans f1, (World.ownsRow.cellAt h (i * 8 + 2) (by omega)).trans f2, (World.ownsRow.cellAt h (i * 8 + 3) (by omega)).trans f3, (World.ownsRow.cellAt h (i * 8 + 4) (by omega)).trans f4, (World.ownsRow.cellAt h (i * 8 + 5) (by omega)).trans f5, (World.ownsRow.cellAt h (i * 8 + 6) (by omega)).trans f6, (World.ownsRow.cellAt h (i * 8 + 7) (by omega)).trans f7⟩

theorem Own8.free (h : Own8 e w base g n cap ps) (i : Nat) : w.frozen? ⟨g, i, none⟩ = false := World.ownsRow.frozenAt h i

theorem Own8.rebase (h : Own8 e w base g n cap ps) (hb : base' ≤ g) : Own8 e w base' g n cap ps := by
  refine ⟨h.1, ?_⟩
  rcases h.2 with ⟨h1, _⟩ | ⟨g', c, cur, h1, h2, h3⟩
  · simp at h1
  · obtain ⟨e, _⟩ : g = g' ∧ cap = c := by simpa using h1
    subst e
    exact Or.inr ⟨g, c, cur, h1, hb, h3⟩

theorem Own8.kept {row : Option Nat} (h : Own8 e w base g n cap ps) (k : w.grownBy w' row) (hne : some g ≠ row) : Own8 e w' base g n cap ps :=
  World.ownsRow.kept h k (Or.inr hne)

theorem Own8.below {B : Nat} (h : Own8 e w base g n cap ps) (k : Below B w w') (hg : g < B) : Own8 e w' base g n cap ps := by
  refine ⟨h.1, ?_⟩
  rcases h.2 with ⟨h1, _⟩ | ⟨g', c, cur, h1, h2, h3, h4⟩
  · simp at h1
  · obtain ⟨e, _⟩ : g = g' ∧ cap = c := by simpa using h1
    subst e
    exact Or.inr ⟨g, c, cur, h1, h2, by rw [k.block g hg]; exact h3, h4⟩

theorem Own8.alloc (h : Own8 e w base g n cap ps) (o : Obj) : Own8 e (w.alloc o) base g n cap ps := World.ownsRow.alloc h o
theorem Own8.drew (h : Own8 e w base g n cap ps) : Own8 e w.drew base g n cap ps := h

theorem At8.below {B : Nat} (h : At8 w g ps) (k : Below B w w') (hg : g < B) : At8 w' g ps := fun i hi => (h i hi).below k hg
theorem At8.drewN (h : At8 w g ps) (m : Nat) : At8 (w.drewN m) g ps := h

theorem Reads8.below {a : Option Addr} (h : Reads8 w a ps) (k : Below w.heap.size w w') : Reads8 w' a ps := by
  rcases h with h | ⟨b, off, rfl, hb, hc⟩
  · exact Or.inl h
  · exact Or.inr ⟨b, off, rfl, Nat.lt_of_lt_of_le hb k.size, fun i hi => (hc i hi).below k hb⟩

theorem Own8.set0 (h : Own8 e w base g n cap ps) (i : Nat) (x : Int) :
    Own8 e (w.setCell ⟨g, i * 8, none⟩ (.int .i64 x)) base g n cap (ps.modify i fun p => (x, p.2.1, p.2.2.1, p.2.2.2.1, p.2.2.2.2.1, p.2.2.2.2.2.1, p.2.2.2.2.2.2.1, p.2.2.2.2.2.2.2)) ∧ w.grownBy (w.setCell ⟨g, i * 8, none⟩ (.int .i64 x)) (some g) := by
  have := World.ownsRow.stored h (i * 8) (.int .i64 x)
  refine ⟨?_, this.2⟩
  unfold Own8
  rw [← (flat8_set ps i x).1]
  exact this.1

theorem Own8.set1 (h : Own8 e w base g n cap ps) (i : Nat) (x : Int) :
    Own8 e (w.setCell ⟨g, i * 8 + 1, none⟩ (.int .i64 x)) base g n cap (ps.modify i fun p => (p.1, x, p.2.2.1, p.2.2.2.1, p.2.2.2.2.1, p.2.2.2.2.2.1, p.2.2.2.2.2.2.1, p.2.2.2.2.2.2.2)) ∧ w.grownBy (w.setCell ⟨g, i * 8 + 1, none⟩ (.int .i64 x)) (some g) := by
  have := World.ownsRow.stored h (i * 8 + 1) (.int .i64 x)
  refine ⟨?_, this.2⟩
  unfold Own8
  rw [← (flat8_set ps i x).2.1]
  exact this.1

theorem Own8.set2 (h : Own8 e w base g n cap ps) (i : Nat) (x : Int) :
    Own8 e (w.setCell ⟨g, i * 8 + 2, none⟩ (.int .i64 x)) base g n cap (ps.modify i fun p => (p.1, p.2.1, x, p.2.2.2.1, p.2.2.2.2.1, p.2.2.2.2.2.1, p.2.2.2.2.2.2.1, p.2.2.2.2.2.2.2)) ∧ w.grownBy (w.setCell ⟨g, i * 8 + 2, none⟩ (.int .i64 x)) (some g) := by
  have := World.ownsRow.stored h (i * 8 + 2) (.int .i64 x)
  refine ⟨?_, this.2⟩
  unfold Own8
  rw [← (flat8_set ps i x).2.2.1]
  exact this.1

theorem Own8.set3 (h : Own8 e w base g n cap ps) (i : Nat) (x : Int) :
    Own8 e (w.setCell ⟨g, i * 8 + 3, none⟩ (.int .i64 x)) base g n cap (ps.modify i fun p => (p.1, p.2.1, p.2.2.1, x, p.2.2.2.2.1, p.2.2.2.2.2.1, p.2.2.2.2.2.2.1, p.2.2.2.2.2.2.2)) ∧ w.grownBy (w.setCell ⟨g, i * 8 + 3, none⟩ (.int .i64 x)) (some g) := by
  have := World.ownsRow.stored h (i * 8 + 3) (.int .i64 x)
  refine ⟨?_, this.2⟩
  unfold Own8
  rw [← (flat8_set ps i x).2.2.2.1]
  exact this.1

theorem Own8.set4 (h : Own8 e w base g n cap ps) (i : Nat) (x : Int) :
    Own8 e (w.setCell ⟨g, i * 8 + 4, none⟩ (.int .i64 x)) base g n cap (ps.modify i fun p => (p.1, p.2.1, p.2.2.1, p.2.2.2.1, x, p.2.2.2.2.2.1, p.2.2.2.2.2.2.1, p.2.2.2.2.2.2.2)) ∧ w.grownBy (w.setCell ⟨g, i * 8 + 4, none⟩ (.int .i64 x)) (some g) := by
  have := World.ownsRow.stored h (i * 8 + 4) (.int .i64 x)
  refine ⟨?_, this.2⟩
  unfold Own8
  rw [← (flat8_set ps i x).2.2.2.2.1]
  exact this.1

theorem Own8.set5 (h : Own8 e w base g n cap ps) (i : Nat) (x : Int) :
    Own8 e (w.setCell ⟨g, i * 8 + 5, none⟩ (.int .i64 x)) base g n cap (ps.modify i fun p => (p.1, p.2.1, p.2.2.1, p.2.2.2.1, p.2.2.2.2.1, x, p.2.2.2.2.2.2.1, p.2.2.2.2.2.2.2)) ∧ w.grownBy (w.setCell ⟨g, i * 8 + 5, none⟩ (.int .i64 x)) (some g) := by
  have := World.ownsRow.stored h (i * 8 + 5) (.int .i64 x)
  refine ⟨?_, this.2⟩
  unfold Own8
  rw [← (flat8_set ps i x).2.2.2.2.2.1]
  exact this.1

theorem Own8.set6 (h : Own8 e w base g n cap ps) (i : Nat) (x : Int) :
    Own8 e (w.setCell ⟨g, i * 8 + 6, none⟩ (.int .i64 x)) base g n cap (ps.modify i fun p => (p.1, p.2.1, p.2.2.1, p.2.2.2.1, p.2.2.2.2.1, p.2.2.2.2.2.1, x, p.2.2.2.2.2.2.2)) ∧ w.grownBy (w.setCell ⟨g, i * 8 + 6, none⟩ (.int .i64 x)) (some g) := by
  have := World.ownsRow.stored h (i * 8 + 6) (.int .i64 x)
  refine ⟨?_, this.2⟩
  unfold Own8
  rw [← (flat8_set ps i x).2.2.2.2.2.2.1]
  exact this.1

theorem Own8.set7 (h : Own8 e w base g n cap ps) (i : Nat) (x : Int) :
    Own8 e (w.setCell ⟨g, i * 8 + 7, none⟩ (.int .i64 x)) base g n cap (ps.modify i fun p => (p.1, p.2.1, p.2.2.1, p.2.2.2.1, p.2.2.2.2.1, p.2.2.2.2.2.1, p.2.2.2.2.2.2.1, x)) ∧ w.grownBy (w.setCell ⟨g, i * 8 + 7, none⟩ (.int .i64 x)) (some g) := by
  have := World.ownsRow.stored h (i * 8 + 7) (.int .i64 x)
  refine ⟨?_, this.2⟩
  unfold Own8
  rw [← (flat8_set ps i x).2.2.2.2.2.2.2]
  exact this.1
end

theorem grownBy_below {w w' : World} (h : w.grownBy w' none) : Below w.heap.size w w' := ⟨h.os, h.tape, h.output, h.size, fun k hk => h.block k hk (by simp)⟩

/-- Two steps, each of which turns nothing that was there. -/
theorem next {a b c : World} (h : Below a.heap.size a b) (k : Below b.heap.size b c) : Below a.heap.size a c := h.trans (k.mono h.size)

/-- A row that an append or a literal has laid. -/
theorem own8_of_row {e : TypeId} {w : World} {base n n' : Nat} {v : Value} {vs : List Value} {ps : List T8} (h : w.ownsRow base e 8 v n vs) (hn : n = n') (hv : vs = flat8 ps) (hs : ¬ v = .slice none 0 0) :
    ∃ g c, v = .slice (some ⟨g, 0, none⟩) n' c ∧ Own8 e w base g n' c ps := by
  subst hn hv
  have h' := h
  rcases h.2 with ⟨h1, _⟩ | ⟨g, c, cur, rfl, _⟩
  · exact absurd h1 hs
  · exact ⟨g, c, rfl, h'⟩

theorem lit80 (e : TypeId) (w : World) (base : Nat) (hb : base ≤ w.heap.size) : Own8 e (w.alloc (.cells #[] e)) base w.heap.size 0 0 [] := World.ownsRow_lit w #[] 0 hb (by decide) rfl

theorem lit81 (e : TypeId) (w : World) (base : Nat) (x0 x1 x2 x3 x4 x5 x6 x7 : Int) (hb : base ≤ w.heap.size) : Own8 e (w.alloc (.cells #[.int .i64 x0, .int .i64 x1, .int .i64 x2, .int .i64 x3, .int .i64 x4, .int .i64 x5, .int .i64 x6, .int .i64 x7] e)) base w.heap.size 1 1 [(x0, x1, x2, x3, x4, x5, x6, x7)] := World.ownsRow_lit w #[.int .i64 x0, .int .i64 x1, .int .i64 x2, .int .i64 x3, .int .i64 x4, .int .i64 x5, .int .i64 x6, .int .i64 x7] 1 hb (by decide) rfl

/-- The cells of a list, as an append takes them. -/
theorem At8.cells {w : World} {g : Nat} {ps : List T8} (h : At8 w g ps) : ∀ (j : Nat) (u : Value), (flat8 ps)[j]? = some u → w.cell? ((⟨g, 0, none⟩ : Addr).add j) = some u := by
  intro j u hj
  have hl : j < ps.length * 8 := by
    have := (List.getElem?_eq_some_iff.1 hj).1
    rw [flat8_len] at this
    exact this
  rw [Addr.add_lit, Nat.zero_add]
  obtain ⟨c0, c1, c2, c3, c4, c5, c6, c7⟩ := h (j / 8) (by omega)
  obtain ⟨f0, f1, f2, f3, f4, f5, f6, f7⟩ := flat8_get ps (j / 8) (by omega)
  rcases (show j % 8 = 0 ∨ j % 8 = 1 ∨ j % 8 = 2 ∨ j % 8 = 3 ∨ j % 8 = 4 ∨ j % 8 = 5 ∨ j % 8 = 6 ∨ j % 8 = 7 by omega) with e | e | e | e | e | e | e | e
  · rw [show j / 8 * 8 = j by omega] at c0 f0
    rw [c0, ← hj, f0]
  · rw [show j / 8 * 8 + 1 = j by omega] at c1 f1
    rw [c1, ← hj, f1]
  · rw [show j / 8 * 8 + 2 = j by omega] at c2 f2
    rw [c2, ← hj, f2]
  · rw [show j / 8 * 8 + 3 = j by omega] at c3 f3
    rw [c3, ← hj, f3]
  · rw [show j / 8 * 8 + 4 = j by omega] at c4 f4
    rw [c4, ← hj, f4]
  · rw [show j / 8 * 8 + 5 = j by omega] at c5 f5
    rw [c5, ← hj, f5]
  · rw [show j / 8 * 8 + 6 = j by omega] at c6 f6
    rw [c6, ← hj, f6]
  · rw [show j / 8 * 8 + 7 = j by omega] at c7 f7
    rw [c7, ← hj, f7]

theorem grown_trans {a b c : World} {row : Option Nat} (h : a.grownBy b row) (k : b.grownBy c row) : a.grownBy c row :=
  ⟨k.os.trans h.os, k.tape.trans h.tape, k.output.trans h.output, Nat.le_trans h.size k.size, fun j hj hne => (k.block j (Nat.lt_of_lt_of_le hj h.size) hne).trans (h.block j hj hne)⟩

theorem below_drewN {B : Nat} {a w : World} (h : Below B a w) (m : Nat) : Below B a (w.drewN m) := ⟨h.os, h.tape, h.output, h.size, h.block⟩

theorem drewN_more {w wr : World} (h : ∃ q, wr = w.drewN q) (m : Nat) : ∃ q, wr.drewN m = w.drewN q := by
  obtain ⟨q, rfl⟩ := h
  exact ⟨q + m, World.drewN_drewN ..⟩

theorem getD_mem {ps : List T8} {i : Nat} (h : i < ps.length) : el8 ps i ∈ ps := by
  unfold el8
  simp only [List.getD, List.getElem?_eq_getElem h, Option.getD_some]
  exact List.getElem_mem h

theorem mem_getD {ps : List T8} {p : T8} (h : p ∈ ps) : ∃ i, i < ps.length ∧ el8 ps i = p := by
  obtain ⟨i, hi, e⟩ := List.getElem_of_mem h
  refine ⟨i, hi, ?_⟩
  unfold el8
  simp [List.getD, hi, e]

theorem take_next {ps : List T8} {k : Nat} (h : k < ps.length) : ps.take (k + 1) = ps.take k ++ [el8 ps k] := by
  rw [List.take_add_one]
  simp [List.getD, h]

theorem drop_next {ps : List T8} {k : Nat} (h : k < ps.length) : ps.drop k = el8 ps k :: ps.drop (k + 1) := by
  rw [List.drop_eq_getElem_cons h]
  simp [el8, List.getD, h]

end Go.Proofs.Ytophnnmbgpinfaa.Tup8
