/- Lists of files in memory: what their cells hold, and what a store, a call or an append keeps of them. -/
import Derived.Test.YtejbbhjhinkcdaaRows
import Derived.WalkKit
import Derived.ProofKit
import Derived.OpenShut
import Derived.Below
import Derived.BigQuiet
namespace Go.Proofs.Ytejbbhjhinkcdaa.Fil14
open Go.ChangeShapes Go.WideShapes Go.ChangeAt Go.RowKit
set_option linter.unusedVariables false
set_option linter.unusedSimpArgs false
/-- A file: its name, what is safe, and what is late. -/
abbrev TF : Type := Int × ByteArray × ByteArray
abbrev elF (ps : List TF) (i : Nat) : TF := ps.getD i (0, ByteArray.empty, ByteArray.empty)
theorem hide {p : Prop} (h : p) : Hid p := h
theorem unhide {p : Prop} (h : Hid p) : p := h
/-- The cells of a list of triples. -/
def flatF (ps : List TF) : List Value := ps.flatMap fun p => [.int .i64 p.1, .string p.2.1, .string p.2.2]
theorem flatF_cons (p : TF) (ps : List TF) : flatF (p :: ps) = .int .i64 p.1 :: .string p.2.1 :: .string p.2.2 :: flatF ps := rfl
theorem flatF_append (ps qs : List TF) : flatF (ps ++ qs) = flatF ps ++ flatF qs := by simp [flatF, List.flatMap_append]
theorem flatF_len (ps : List TF) : (flatF ps).length = ps.length * 3 := by
  induction ps with
  | nil => rfl
  | cons p ps ih => rw [flatF_cons]; simp [ih]; omega
theorem flatF_get (ps : List TF) : ∀ i, i < ps.length → (flatF ps)[i * 3]? = some (.int .i64 (elF ps i).1) ∧ (flatF ps)[i * 3 + 1]? = some (.string (elF ps i).2.1) ∧ (flatF ps)[i * 3 + 2]? = some (.string (elF ps i).2.2) := by
  induction ps with
  | nil => intro i h; simp at h
  | cons p ps ih =>
    intro i h
    cases i with
    | zero => rw [flatF_cons]; simp
    | succ i =>
      have := ih i (by simpa using h)
      rw [flatF_cons, show (i + 1) * 3 = i * 3 + 3 by omega, show i * 3 + 3 + 1 = (i * 3 + 1) + 3 by omega, show i * 3 + 3 + 2 = (i * 3 + 2) + 3 by omega]
      simpa using this
theorem flatF_one (u : Value) (ps : List TF) (h : u ∈ flatF ps) : u.oneCell' = true := by
  induction ps with
  | nil => simp [flatF] at h
  | cons p ps ih =>
    rw [flatF_cons] at h
    simp only [List.mem_cons] at h
    rcases h with rfl | rfl | rfl | h
    · rfl
    · rfl
    · rfl
    · exact ih h
theorem flatF_set0 (ps : List TF) : ∀ (i : Nat) (x : Int), (flatF ps).set (i * 3) (.int .i64 x) = flatF (ps.modify i fun p => (x, p.2)) := by
  induction ps with
  | nil => intro i x; simp [flatF]
  | cons p ps ih =>
    intro i x
    cases i with
    | zero => simp [flatF_cons]
    | succ i => rw [flatF_cons, show (i + 1) * 3 = i * 3 + 1 + 1 + 1 by omega, List.set_cons_succ, List.set_cons_succ, List.set_cons_succ, ih i x, List.modify_succ_cons, flatF_cons]
theorem flatF_set (ps : List TF) : ∀ (i : Nat) (x : ByteArray), (flatF ps).set (i * 3 + 1) (.string x) = flatF (ps.modify i fun p => (p.1, x, p.2.2)) ∧ (flatF ps).set (i * 3 + 2) (.string x) = flatF (ps.modify i fun p => (p.1, p.2.1, x)) := by
  induction ps with
  | nil => intro i x; simp [flatF]
  | cons p ps ih =>
    intro i x
    cases i with
    | zero => simp [flatF_cons]
    | succ i =>
      obtain ⟨b, c⟩ := ih i x
      refine ⟨?_, ?_⟩
      · rw [flatF_cons, show (i + 1) * 3 + 1 = i * 3 + 1 + 1 + 1 + 1 by omega, List.set_cons_succ, List.set_cons_succ, List.set_cons_succ, b, List.modify_succ_cons, flatF_cons]
      · rw [flatF_cons, show (i + 1) * 3 + 2 = i * 3 + 2 + 1 + 1 + 1 by omega, List.set_cons_succ, List.set_cons_succ, List.set_cons_succ, c, List.modify_succ_cons, flatF_cons]
/-- The three cells of element i, from cell o on in block g. -/
def HoldsF (w : World) (g o : Nat) (p : TF) : Prop := w.cell? ⟨g, o, none⟩ = some (.int .i64 p.1) ∧ w.cell? ⟨g, o + 1, none⟩ = some (.string p.2.1) ∧ w.cell? ⟨g, o + 2, none⟩ = some (.string p.2.2)
/-- The triples of a list of the call's own: block g from its head on. -/
def AtF (w : World) (g : Nat) (ps : List TF) : Prop := ∀ i, i < ps.length → HoldsF w g (i * 3) (elF ps i)
/-- A list that came in, or any other one: nothing is asked where it is empty. -/
def ReadsF (w : World) (a : Option Addr) (ps : List TF) : Prop := ps.length = 0 ∨ ∃ b off, a = some ⟨b, off, none⟩ ∧ b < w.heap.size ∧ ∀ i, i < ps.length → HoldsF w b (off + i * 3) (elF ps i)
/-- A list of the call's own of elements of type e, from block number base on. -/
def OwnF (e : TypeId) (w : World) (base g n cap : Nat) (ps : List TF) : Prop := w.ownsRow base e 3 (.slice (some ⟨g, 0, none⟩) n cap) n (flatF ps)
section
variable {e : TypeId} {w w' : World} {base base' g n cap : Nat} {ps : List TF}
theorem HoldsF.below {B o : Nat} {p : TF} (h : HoldsF w g o p) (k : Below B w w') (hg : g < B) : HoldsF w' g o p :=
  ⟨(k.cell (p := ⟨g, o, none⟩) hg).trans h.1, (k.cell (p := ⟨g, o + 1, none⟩) hg).trans h.2.1, (k.cell (p := ⟨g, o + 2, none⟩) hg).trans h.2.2⟩
theorem OwnF.len (h : OwnF e w base g n cap ps) : ps.length = n := by
  have := h.1
  rw [flatF_len] at this
  omega
theorem OwnF.lt (h : OwnF e w base g n cap ps) : base ≤ g ∧ g < w.heap.size := World.ownsRow.lt h g rfl
theorem OwnF.at (h : OwnF e w base g n cap ps) : AtF w g ps := by
  intro i hi
  have hl := h.len
  obtain ⟨f0, f1, f2⟩ := flatF_get ps i hi
  exact ⟨(World.ownsRow.cellAt h (i * 3) (by omega)).trans f0, (World.ownsRow.cellAt h (i * 3 + 1) (by omega)).trans f1, (World.ownsRow.cellAt h (i * 3 + 2) (by omega)).trans f2⟩
theorem OwnF.free (h : OwnF e w base g n cap ps) (i : Nat) : w.frozen? ⟨g, i, none⟩ = false := World.ownsRow.frozenAt h i
theorem OwnF.kept {row : Option Nat} (h : OwnF e w base g n cap ps) (k : w.grownBy w' row) (hne : some g ≠ row) : OwnF e w' base g n cap ps :=
  World.ownsRow.kept h k (Or.inr hne)
theorem OwnF.below {B : Nat} (h : OwnF e w base g n cap ps) (k : Below B w w') (hg : g < B) : OwnF e w' base g n cap ps := by
  refine ⟨h.1, ?_⟩
  rcases h.2 with ⟨h1, _⟩ | ⟨g', c, cur, h1, h2, h3, h4⟩
  · simp at h1
  · obtain ⟨e, _⟩ : g = g' ∧ cap = c := by simpa using h1
    subst e
    exact Or.inr ⟨g, c, cur, h1, h2, by rw [k.block g hg]; exact h3, h4⟩
theorem OwnF.alloc (h : OwnF e w base g n cap ps) (o : Obj) : OwnF e (w.alloc o) base g n cap ps := World.ownsRow.alloc h o
theorem OwnF.drew (h : OwnF e w base g n cap ps) : OwnF e w.drew base g n cap ps := h
theorem AtF.below {B : Nat} (h : AtF w g ps) (k : Below B w w') (hg : g < B) : AtF w' g ps := fun i hi => (h i hi).below k hg
theorem ReadsF.below {a : Option Addr} (h : ReadsF w a ps) (k : Below w.heap.size w w') : ReadsF w' a ps := by
  rcases h with h | ⟨b, off, rfl, hb, hc⟩
  · exact Or.inl h
  · exact Or.inr ⟨b, off, rfl, Nat.lt_of_lt_of_le hb k.size, fun i hi => (hc i hi).below k hb⟩
/-- A store into one of the three cells of an element. -/
theorem OwnF.set0 (h : OwnF e w base g n cap ps) (i : Nat) (x : Int) :
    OwnF e (w.setCell ⟨g, i * 3, none⟩ (.int .i64 x)) base g n cap (ps.modify i fun p => (x, p.2)) ∧ w.grownBy (w.setCell ⟨g, i * 3, none⟩ (.int .i64 x)) (some g) := by
  have := World.ownsRow.stored h (i * 3) (.int .i64 x)
  refine ⟨?_, this.2⟩
  unfold OwnF
  rw [← flatF_set0 ps i x]
  exact this.1
theorem OwnF.set1 (h : OwnF e w base g n cap ps) (i : Nat) (x : ByteArray) :
    OwnF e (w.setCell ⟨g, i * 3 + 1, none⟩ (.string x)) base g n cap (ps.modify i fun p => (p.1, x, p.2.2)) ∧ w.grownBy (w.setCell ⟨g, i * 3 + 1, none⟩ (.string x)) (some g) := by
  have := World.ownsRow.stored h (i * 3 + 1) (.string x)
  refine ⟨?_, this.2⟩
  unfold OwnF
  rw [← (flatF_set ps i x).1]
  exact this.1
theorem OwnF.set2 (h : OwnF e w base g n cap ps) (i : Nat) (x : ByteArray) :
    OwnF e (w.setCell ⟨g, i * 3 + 2, none⟩ (.string x)) base g n cap (ps.modify i fun p => (p.1, p.2.1, x)) ∧ w.grownBy (w.setCell ⟨g, i * 3 + 2, none⟩ (.string x)) (some g) := by
  have := World.ownsRow.stored h (i * 3 + 2) (.string x)
  refine ⟨?_, this.2⟩
  unfold OwnF
  rw [← (flatF_set ps i x).2]
  exact this.1
end
theorem grownBy_below {w w' : World} (h : w.grownBy w' none) : Below w.heap.size w w' := ⟨h.os, h.tape, h.output, h.size, fun k hk => h.block k hk (by simp)⟩
theorem litF0 (e : TypeId) (w : World) (base : Nat) (hb : base ≤ w.heap.size) : OwnF e (w.alloc (.cells #[] e)) base w.heap.size 0 0 [] := World.ownsRow_lit w #[] 0 hb (by decide) rfl
theorem litF1 (e : TypeId) (w : World) (base : Nat) (x : Int) (y z : ByteArray) (hb : base ≤ w.heap.size) : OwnF e (w.alloc (.cells #[.int .i64 x, .string y, .string z] e)) base w.heap.size 1 1 [(x, y, z)] := World.ownsRow_lit w #[.int .i64 x, .string y, .string z] 1 hb (by decide) rfl
/-- The cells of a list, as an append takes them. -/
theorem AtF.cells {w : World} {g : Nat} {ps : List TF} (h : AtF w g ps) : ∀ (j : Nat) (u : Value), (flatF ps)[j]? = some u → w.cell? ((⟨g, 0, none⟩ : Addr).add j) = some u := by
  intro j u hj
  have hl : j < ps.length * 3 := by
    have := (List.getElem?_eq_some_iff.1 hj).1
    rw [flatF_len] at this
    exact this
  rw [Addr.add_lit, Nat.zero_add]
  obtain ⟨c0, c1, c2⟩ := h (j / 3) (by omega)
  obtain ⟨f0, f1, f2⟩ := flatF_get ps (j / 3) (by omega)
  rcases (show j % 3 = 0 ∨ j % 3 = 1 ∨ j % 3 = 2 by omega) with e | e | e
  · rw [show j / 3 * 3 = j by omega] at c0 f0
    rw [c0, ← hj, f0]
  · rw [show j / 3 * 3 + 1 = j by omega] at c1 f1
    rw [c1, ← hj, f1]
  · rw [show j / 3 * 3 + 2 = j by omega] at c2 f2
    rw [c2, ← hj, f2]
end Go.Proofs.Ytejbbhjhinkcdaa.Fil14
