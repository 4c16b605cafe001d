/- Texts of one proof, one behind the other: Fil14, OpensF14, DiskH14, HelpF14, MarkF14, MarkFS14, DkH14, SDk14. -/
import Derived.Test.YticofefdbjihiaaRows
import Derived.WalkKit
import Derived.ProofKit
import Derived.OpenShut
import Derived.Below
import Derived.BigQuiet
import Derived.Deep.Slices
import Derived.Deep.Strs
import Derived.ChangeSlices
import Derived.Deep.RegionHeld3
import Derived.Laws.BytesArg
import Derived.Laws.Concat
set_option linter.unusedVariables false
set_option linter.unusedSimpArgs false
namespace Go.Proofs.Yticofefdbjihiaa.Fil14
open Go.ChangeShapes Go.WideShapes Go.ChangeAt Go.RowKit
/-- A file: its name, what is safe, and what is late. -/
abbrev TF : Type := Int × ByteArray × ByteArray
abbrev elF (ps : List TF) (i : Nat) : TF := ps.getD i (0, ByteArray.empty, ByteArray.empty)
theorem hide {p : Prop} (h : p) : Hid p := h
theorem unhide {p : Prop} (h : Hid p) : p := h
/-- The cells of a list of triples. -/
def flatF (ps : List TF) : List Value := ps.flatMap fun p => [.int .i64 p.1, .string p.2.1, .string p.2.2]
theorem flatF_cons (p : TF) (ps : List TF) : flatF (p :: ps) = .int .i64 p.1 :: .string p.2.1 :: .string p.2.2 :: flatF ps := rfl
theorem flatF_append (ps qs : List TF) : flatF (ps ++ qs) = flatF ps ++ flatF qs := by simp [flatF, List.flatMap_append]
theorem flatF_len (ps : List TF) : (flatF ps).length = ps.length * 3 := by
  induction ps with
  | nil => rfl
  | cons p ps ih => rw [flatF_cons]; simp [ih]; omega
theorem flatF_get (ps : List TF) : ∀ i, i < ps.length → (flatF ps)[i * 3]? = some (.int .i64 (elF ps i).1) ∧ (flatF ps)[i * 3 + 1]? = some (.string (elF ps i).2.1) ∧ (flatF ps)[i * 3 + 2]? = some (.string (elF ps i).2.2) := by
  induction ps with
  | nil => intro i h; simp at h
  | cons p ps ih =>
    intro i h
    cases i with
    | zero => rw [flatF_cons]; simp
    | succ i =>
      have := ih i (by simpa using h)
      rw [flatF_cons, show (i + 1) * 3 = i * 3 + 3 by omega, show i * 3 + 3 + 1 = (i * 3 + 1) + 3 by omega, show i * 3 + 3 + 2 = (i * 3 + 2) + 3 by omega]
      simpa using this
theorem flatF_one (u : Value) (ps : List TF) (h : u ∈ flatF ps) : u.oneCell' = true := by
  induction ps with
  | nil => simp [flatF] at h
  | cons p ps ih =>
    rw [flatF_cons] at h
    simp only [List.mem_cons] at h
    rcases h with rfl | rfl | rfl | h
    · rfl
    · rfl
    · rfl
    · exact ih h
theorem flatF_set0 (ps : List TF) : ∀ (i : Nat) (x : Int), (flatF ps).set (i * 3) (.int .i64 x) = flatF (ps.modify i fun p => (x, p.2)) := by
  induction ps with
  | nil => intro i x; simp [flatF]
  | cons p ps ih =>
    intro i x
    cases i with
    | zero => simp [flatF_cons]
    | succ i => rw [flatF_cons, show (i + 1) * 3 = i * 3 + 1 + 1 + 1 by omega, List.set_cons_succ, List.set_cons_succ, List.set_cons_succ, ih i x, List.modify_succ_cons, flatF_cons]
theorem flatF_set (ps : List TF) : ∀ (i : Nat) (x : ByteArray), (flatF ps).set (i * 3 + 1) (.string x) = flatF (ps.modify i fun p => (p.1, x, p.2.2)) ∧ (flatF ps).set (i * 3 + 2) (.string x) = flatF (ps.modify i fun p => (p.1, p.2.1, x)) := by
  induction ps with
  | nil => intro i x; simp [flatF]
  | cons p ps ih =>
    intro i x
    cases i with
    | zero => simp [flatF_cons]
    | succ i =>
      obtain ⟨b, c⟩ := ih i x
      refine ⟨?_, ?_⟩
      · rw [flatF_cons, show (i + 1) * 3 + 1 = i * 3 + 1 + 1 + 1 + 1 by omega, List.set_cons_succ, List.set_cons_succ, List.set_cons_succ, b, List.modify_succ_cons, flatF_cons]
      · rw [flatF_cons, show (i + 1) * 3 + 2 = i * 3 + 2 + 1 + 1 + 1 by omega, List.set_cons_succ, List.set_cons_succ, List.set_cons_succ, c, List.modify_succ_cons, flatF_cons]
/-- The three cells of element i, from cell o on in block g. -/
def HoldsF (w : World) (g o : Nat) (p : TF) : Prop := w.cell? ⟨g, o, none⟩ = some (.int .i64 p.1) ∧ w.cell? ⟨g, o + 1, none⟩ = some (.string p.2.1) ∧ w.cell? ⟨g, o + 2, none⟩ = some (.string p.2.2)
/-- The triples of a list of the call's own: block g from its head on. -/
def AtF (w : World) (g : Nat) (ps : List TF) : Prop := ∀ i, i < ps.length → HoldsF w g (i * 3) (elF ps i)
/-- A list that came in, or any other one: nothing is asked where it is empty. -/
def ReadsF (w : World) (a : Option Addr) (ps : List TF) : Prop := ps.length = 0 ∨ ∃ b off, a = some ⟨b, off, none⟩ ∧ b < w.heap.size ∧ ∀ i, i < ps.length → HoldsF w b (off + i * 3) (elF ps i)
/-- A list of the call's own of elements of type e, from block number base on. -/
def OwnF (e : TypeId) (w : World) (base g n cap : Nat) (ps : List TF) : Prop := w.ownsRow base e 3 (.slice (some ⟨g, 0, none⟩) n cap) n (flatF ps)
section
variable {e : TypeId} {w w' : World} {base base' g n cap : Nat} {ps : List TF}
theorem HoldsF.below {B o : Nat} {p : TF} (h : HoldsF w g o p) (k : Below B w w') (hg : g < B) : HoldsF w' g o p :=
  ⟨(k.cell (p := ⟨g, o, none⟩) hg).trans h.1, (k.cell (p := ⟨g, o + 1, none⟩) hg).trans h.2.1, (k.cell (p := ⟨g, o + 2, none⟩) hg).trans h.2.2⟩
theorem OwnF.len (h : OwnF e w base g n cap ps) : ps.length = n := by
  have := h.1
  rw [flatF_len] at this
  omega
theorem OwnF.lt (h : OwnF e w base g n cap ps) : base ≤ g ∧ g < w.heap.size := World.ownsRow.lt h g rfl
theorem OwnF.at (h : OwnF e w base g n cap ps) : AtF w g ps := by
  intro i hi
  have hl := h.len
  obtain ⟨f0, f1, f2⟩ := flatF_get ps i hi
  exact ⟨(World.ownsRow.cellAt h (i * 3) (by omega)).trans f0, (World.ownsRow.cellAt h (i * 3 + 1) (by omega)).trans f1, (World.ownsRow.cellAt h (i * 3 + 2) (by omega)).trans f2⟩
theorem OwnF.free (h : OwnF e w base g n cap ps) (i : Nat) : w.frozen? ⟨g, i, none⟩ = false := World.ownsRow.frozenAt h i
theorem OwnF.rebase (h : OwnF e w base g n cap ps) (hb : base' ≤ g) : OwnF e w base' g n cap ps := by
  refine ⟨h.1, ?_⟩
  rcases h.2 with ⟨h1, _⟩ | ⟨g', c, cur, h1, h2, h3⟩
  · simp at h1
  · obtain ⟨e, _⟩ : g = g' ∧ cap = c := by simpa using h1
    subst e
    exact Or.inr ⟨g, c, cur, h1, hb, h3⟩
theorem OwnF.kept {row : Option Nat} (h : OwnF e w base g n cap ps) (k : w.grownBy w' row) (hne : some g ≠ row) : OwnF e w' base g n cap ps :=
  World.ownsRow.kept h k (Or.inr hne)
theorem OwnF.below {B : Nat} (h : OwnF e w base g n cap ps) (k : Below B w w') (hg : g < B) : OwnF e w' base g n cap ps := by
  refine ⟨h.1, ?_⟩
  rcases h.2 with ⟨h1, _⟩ | ⟨g', c, cur, h1, h2, h3, h4⟩
  · simp at h1
  · obtain ⟨e, _⟩ : g = g' ∧ cap = c := by simpa using h1
    subst e
    exact Or.inr ⟨g, c, cur, h1, h2, by rw [k.block g hg]; exact h3, h4⟩
theorem OwnF.alloc (h : OwnF e w base g n cap ps) (o : Obj) : OwnF e (w.alloc o) base g n cap ps := World.ownsRow.alloc h o
theorem OwnF.drew (h : OwnF e w base g n cap ps) : OwnF e w.drew base g n cap ps := h
theorem AtF.below {B : Nat} (h : AtF w g ps) (k : Below B w w') (hg : g < B) : AtF w' g ps := fun i hi => (h i hi).below k hg
theorem ReadsF.below {a : Option Addr} (h : ReadsF w a ps) (k : Below w.heap.size w w') : ReadsF w' a ps := by
  rcases h with h | ⟨b, off, rfl, hb, hc⟩
  · exact Or.inl h
  · exact Or.inr ⟨b, off, rfl, Nat.lt_of_lt_of_le hb k.size, fun i hi => (hc i hi).below k hb⟩
/-- A store into one of the three cells of an element. -/
theorem OwnF.set0 (h : OwnF e w base g n cap ps) (i : Nat) (x : Int) :
    OwnF e (w.setCell ⟨g, i * 3, none⟩ (.int .i64 x)) base g n cap (ps.modify i fun p => (x, p.2)) ∧ w.grownBy (w.setCell ⟨g, i * 3, none⟩ (.int .i64 x)) (some g) := by
  have := World.ownsRow.stored h (i * 3) (.int .i64 x)
  refine ⟨?_, this.2⟩
  unfold OwnF
  rw [← flatF_set0 ps i x]
  exact this.1
theorem OwnF.set1 (h : OwnF e w base g n cap ps) (i : Nat) (x : ByteArray) :
    OwnF e (w.setCell ⟨g, i * 3 + 1, none⟩ (.string x)) base g n cap (ps.modify i fun p => (p.1, x, p.2.2)) ∧ w.grownBy (w.setCell ⟨g, i * 3 + 1, none⟩ (.string x)) (some g) := by
  have := World.ownsRow.stored h (i * 3 + 1) (.string x)
  refine ⟨?_, this.2⟩
  unfold OwnF
  rw [← (flatF_set ps i x).1]
  exact this.1
theorem OwnF.set2 (h : OwnF e w base g n cap ps) (i : Nat) (x : ByteArray) :
    OwnF e (w.setCell ⟨g, i * 3 + 2, none⟩ (.string x)) base g n cap (ps.modify i fun p => (p.1, p.2.1, x)) ∧ w.grownBy (w.setCell ⟨g, i * 3 + 2, none⟩ (.string x)) (some g) := by
  have := World.ownsRow.stored h (i * 3 + 2) (.string x)
  refine ⟨?_, this.2⟩
  unfold OwnF
  rw [← (flatF_set ps i x).2]
  exact this.1
end
theorem grownBy_below {w w' : World} (h : w.grownBy w' none) : Below w.heap.size w w' := ⟨h.os, h.tape, h.output, h.size, fun k hk => h.block k hk (by simp)⟩
/-- Two steps, each of which turns nothing that was there. -/
theorem next {a b c : World} (h : Below a.heap.size a b) (k : Below b.heap.size b c) : Below a.heap.size a c := h.trans (k.mono h.size)
theorem litF0 (e : TypeId) (w : World) (base : Nat) (hb : base ≤ w.heap.size) : OwnF e (w.alloc (.cells #[] e)) base w.heap.size 0 0 [] := World.ownsRow_lit w #[] 0 hb (by decide) rfl
theorem litF1 (e : TypeId) (w : World) (base : Nat) (x : Int) (y z : ByteArray) (hb : base ≤ w.heap.size) : OwnF e (w.alloc (.cells #[.int .i64 x, .string y, .string z] e)) base w.heap.size 1 1 [(x, y, z)] := World.ownsRow_lit w #[.int .i64 x, .string y, .string z] 1 hb (by decide) rfl
/-- The cells of a list, as an append takes them. -/
theorem AtF.cells {w : World} {g : Nat} {ps : List TF} (h : AtF w g ps) : ∀ (j : Nat) (u : Value), (flatF ps)[j]? = some u → w.cell? ((⟨g, 0, none⟩ : Addr).add j) = some u := by
  intro j u hj
  have hl : j < ps.length * 3 := by
    have := (List.getElem?_eq_some_iff.1 hj).1
    rw [flatF_len] at this
    exact this
  rw [Addr.add_lit, Nat.zero_add]
  obtain ⟨c0, c1, c2⟩ := h (j / 3) (by omega)
  obtain ⟨f0, f1, f2⟩ := flatF_get ps (j / 3) (by omega)
  rcases (show j % 3 = 0 ∨ j % 3 = 1 ∨ j % 3 = 2 by omega) with e | e | e
  · rw [show j / 3 * 3 = j by omega] at c0 f0
    rw [c0, ← hj, f0]
  · rw [show j / 3 * 3 + 1 = j by omega] at c1 f1
    rw [c1, ← hj, f1]
  · rw [show j / 3 * 3 + 2 = j by omega] at c2 f2
    rw [c2, ← hj, f2]
theorem grown_trans {a b c : World} {row : Option Nat} (h : a.grownBy b row) (k : b.grownBy c row) : a.grownBy c row :=
  ⟨k.os.trans h.os, k.tape.trans h.tape, k.output.trans h.output, Nat.le_trans h.size k.size, fun j hj hne => (k.block j (Nat.lt_of_lt_of_le hj h.size) hne).trans (h.block j hj hne)⟩
end Go.Proofs.Yticofefdbjihiaa.Fil14
namespace Go.Proofs.Yticofefdbjihiaa.OpensF14
open Go.ChangeShapes Go.WideShapes Go.ChangeAt Go.RowKit Fil14
/-- Texts that an int can tell the length of. -/
def FitF (ps : List TF) : Prop := ∀ p ∈ ps, p.2.1.size ≤ 9223372036854775807 ∧ p.2.2.size ≤ 9223372036854775807
theorem open_files {H : Type} {enc : TypeId × Value → H} {P : Program} {w : World} {base : Nat} {spare : Nat → Bool} {held : Bool} {t e i s : TypeId} {f0 f1 f2 : Field} {fuel : Nat} {a : Option Addr} {len cap : Nat} {x : DataW H × List MemPlace}
    (ht : P.underlying t = some (.slice e)) (he : P.underlying e = some (.struct #[f0, f1, f2]))
    (hc : (P.cellsOf e == 3 && P.cellsOf i == 1 && f0.type == i && f1.type == s && f2.type == s && P.cellsOf s == 1 && f0.offset == 0 && f1.offset == 1 && f2.offset == 2) = true) (hi : P.underlying i = some (.int .i64)) (hs : P.underlying s = some .string)
    (h : DataW.trod enc P w base spare held fuel t (Value.slice a len cap).cells.toList = some x) : ∃ ps : List TF, ps.length = len ∧ len ≤ 9223372036854775807 ∧ ReadsF w a ps ∧ FitF ps := by
  simp at hc
  obtain ⟨⟨⟨⟨⟨⟨⟨⟨ce, ci⟩, e0⟩, e1⟩, e2⟩, cs⟩, o0⟩, o1⟩, o2⟩ := hc
  rcases Deep.open_slice ht h with ⟨hcs, _⟩ | ⟨b, l, c, m, n, D, Pl, hcs, _, hlc, hm, hmm, _, hx⟩
  · simp [Value.cells] at hcs
    obtain ⟨rfl, rfl, rfl⟩ := hcs
    exact ⟨[], rfl, by omega, .inl rfl, fun p hp => by simp at hp⟩
  · simp [Value.cells] at hcs
    obtain ⟨rfl, rfl, rfl⟩ := hcs
    have hlm : len ≤ m := by rw [hmm]; split <;> omega
    have each : ∀ j, j < len → ∃ p : TF, w.cell? (b.add (j * 3)) = some (.int .i64 p.1) ∧ w.cell? (b.add (j * 3 + 1)) = some (.string p.2.1) ∧ w.cell? (b.add (j * 3 + 2)) = some (.string p.2.2) ∧ (p.2.1.size ≤ 9223372036854775807 ∧ p.2.2.size ≤ 9223372036854775807) := by
      intro j hj
      obtain ⟨cs', h1, h2⟩ := hx j (by omega)
      rw [ce] at h1
      obtain ⟨_, hlen, hcell⟩ := World.cells?_some h1
      obtain ⟨y0, y1, y2, k, _, _, g0, g1, g2⟩ := Deep.trod_struct3 he h2
      match cs', hlen with
      | [v0, v1, v2], _ =>
        rw [e0] at g0
        rw [e1] at g1
        rw [e2] at g2
        simp [o0, o1, o2, ci, cs] at g0 g1 g2
        obtain ⟨x0, q0, _⟩ := DataW.trod_int hi g0
        obtain ⟨x1, q1, _, m1⟩ := DataW.trod_string hs g1
        obtain ⟨x2, q2, _, m2⟩ := DataW.trod_string hs g2
        simp at q0 q1 q2
        subst q0 q1 q2
        have d0 := hcell 0 (by omega)
        have d1 := hcell 1 (by omega)
        have d2 := hcell 2 (by omega)
        rw [Deep.add_add] at d0 d1 d2
        exact ⟨(x0, x1, x2), by simpa using d0, by simpa using d1, by simpa using d2, by unfold maxLen at m1; exact m1, by unfold maxLen at m2; exact m2⟩
    obtain ⟨q, hq⟩ := Deep.choose_lt each
    refine ⟨(List.range len).map q, by simp, by unfold maxLen at hm; omega, ?_, fun p hp => by
      obtain ⟨j, hj, rfl⟩ := List.mem_map.1 hp
      exact (hq j (by simpa using hj)).2.2.2⟩
    by_cases z : len = 0
    · exact .inl (by simp [z])
    · obtain ⟨blk, off, spot⟩ := b
      have c0 := (hq 0 (by omega)).1
      have hspot : spot = none := by simpa [Addr.add] using World.cell?_spot c0
      subst hspot
      have c0' : w.cell? ⟨blk, off, none⟩ = some (.int .i64 (q 0).1) := by simpa [Addr.add] using c0
      refine .inr ⟨blk, off, rfl, World.block_lt_of_cell? w _ c0', fun j hj => ?_⟩
      have hj' : j < len := by simpa using hj
      obtain ⟨p0, p1, p2, _⟩ := hq j hj'
      rw [Addr.add_lit] at p0 p1 p2
      have hg : elF ((List.range len).map q) j = q j := by simp [List.getD, hj']
      rw [hg]
      exact ⟨p0, by rw [Nat.add_assoc]; exact p1, by rw [Nat.add_assoc]; exact p2⟩
theorem struct_cells2 {H : Type} {enc : TypeId × Value → H} {P : Program} {w : World} {base : Nat} {spare : Nat → Bool} {held : Bool} {e : TypeId} {f0 f1 : Field} {fuel : Nat} {cs : List Value} {x : DataW H × List MemPlace}
    (he : P.underlying e = some (.struct #[f0, f1])) (hc : (P.cellsOf e == 2 && P.cellsOf f0.type == 1 && P.cellsOf f1.type == 1 && f0.offset == 0 && f1.offset == 1) = true)
    (h : DataW.trod enc P w base spare held fuel e cs = some x) : ∃ v0 v1 k x0 x1, cs = [v0, v1] ∧ DataW.trod enc P w base spare held k f0.type [v0] = some x0 ∧ DataW.trod enc P w base spare held k f1.type [v1] = some x1 := by
  simp at hc
  obtain ⟨⟨⟨⟨ce, k0⟩, k1⟩, o0⟩, o1⟩ := hc
  obtain ⟨xs, k, _, _, hl, hlen, hf⟩ := DataW.trod_struct he h
  rw [ce] at hl
  match xs, hlen, cs, hl with
  | [y0, y1], _, [v0, v1], _ =>
    have g0 := hf 0 f0 rfl
    have g1 := hf 1 f1 rfl
    simp [o0, k0] at g0
    simp [o1, k1] at g1
    exact ⟨v0, v1, k, _, _, rfl, g0, g1⟩
set_option maxRecDepth 100000 in
theorem open_disk {H : Type} {enc : TypeId × Value → H} {w : World} {base b0' : Nat} {spare : Nat → Bool} {held : Bool} {r : Reach} {v : Value} {d : DataW H} {p : List MemPlace}
    (hv : Value.okWide Try.prog w r b0' 24 v) (h : DataW.Trod enc Try.prog w base spare held 24 v d p) : ∃ k a len cap ps, v = .agg #[.int .i64 k, .slice a len cap] ∧ ps.length = len ∧ len ≤ 9223372036854775807 ∧ ReadsF w a ps ∧ FitF ps ∧ (Lit.int .i64 k).wf = true := by
  obtain ⟨cs, rfl, _⟩ := okWide_struct Try.underlying24 hv
  obtain ⟨fuel, hf⟩ := h
  obtain ⟨v0, v1, k, x0, x1, e, g0, g1⟩ := struct_cells2 (cs := cs.toList) Try.underlying24 (by kernel_rfl) (by simpa [Value.cells] using hf)
  obtain ⟨z, q, _, wz⟩ := DataW.trod_int Try.underlying3 g0
  simp at q
  subst q
  obtain ⟨a, len, cap, rfl⟩ : ∃ a len cap, v1 = .slice a len cap := by
    rcases Deep.open_slice Try.underlying22 g1 with ⟨hcs, _⟩ | ⟨b, l, c, m, n, D, Pl, hcs, _⟩
    · simp at hcs
      exact ⟨none, 0, 0, hcs⟩
    · simp at hcs
      exact ⟨_, _, _, hcs⟩
  obtain ⟨ps, h1, h2, h3, h4⟩ := open_files (a := a) (len := len) (cap := cap) Try.underlying22 Try.underlying74 (by kernel_rfl) Try.underlying3 Try.underlying9 (by simpa [Value.cells] using g1)
  exact ⟨z, a, len, cap, ps, congrArg Value.agg (Array.ext' e), h1, h2, h3, h4, wz⟩
end Go.Proofs.Yticofefdbjihiaa.OpensF14
namespace Go.Proofs.Yticofefdbjihiaa.DiskH14
open Go.ChangeShapes Go.WideShapes Go.ChangeAt Go.RowKit Fil14 OpensF14
theorem one_more (w : World) (o : Obj) : Below w.heap.size w (w.alloc o) := (Below.refl _ _).alloc (Nat.le_refl _) _
/-- How many bytes files hold together. -/
def sumZ : List TF → Nat
  | [] => 0
  | p :: r => p.2.1.size + p.2.2.size + sumZ r
theorem sumZ_append (ps qs : List TF) : sumZ (ps ++ qs) = sumZ ps + sumZ qs := by
  induction ps with
  | nil => simp [sumZ]
  | cons p r ih => simp only [List.cons_append, sumZ, ih]; omega
theorem sumZ_next {ps : List TF} {k : Nat} (h : k < ps.length) : sumZ (ps.take (k + 1)) = sumZ (ps.take k) + ((elF ps k).2.1.size + (elF ps k).2.2.size) := by
  rw [List.take_succ_eq_append_getElem h, sumZ_append]
  simp [sumZ, List.getD, h]
theorem fit_el {ps : List TF} (h : FitF ps) {k : Nat} (hk : k < ps.length) : (elF ps k).2.1.size ≤ 9223372036854775807 ∧ (elF ps k).2.2.size ≤ 9223372036854775807 := by
  have := h (ps[k]) (List.getElem_mem _)
  simpa [List.getD, hk] using this
set_option maxRecDepth 100000 in
theorem szF (w : World) (x : Int) (s t : ByteArray) (left : Int) (h0 : 0 ≤ left) (h1 : left ≤ 1048576) (f1 : s.size ≤ 9223372036854775807) (f2 : t.size ≤ 9223372036854775807) :
    Calls Try.prog 62 #[.agg #[.int .i64 x, .string s, .string t], .int .i64 left] w fun e w' => ∃ r, e = .returned (.int .i64 r) ∧ (r = -1 ∨ (0 ≤ r ∧ r + s.size + t.size = left)) ∧ Below w.heap.size w w' := by
  have B0 := hide (one_more w (.cells #[.int .i64 x, .string s, .string t] 74))
  generalize hn : s.size = n at *
  generalize hm : t.size = m at *
  have HN := hide hn
  have HM := hide hm
  by_cases q : left - (n : Int) < 0
  · go_enter Try.func62, Try.ntmps62
    go_wp2
    go_ret
    exact ⟨-1, rfl, .inl rfl, unhide B0⟩
  by_cases q2 : left - (n : Int) - (m : Int) < 0
  · go_enter Try.func62, Try.ntmps62
    go_wp2
    go_ret
    exact ⟨-1, rfl, .inl rfl, unhide B0⟩
  · go_enter Try.func62, Try.ntmps62
    go_wp2
    go_ret
    exact ⟨left - n - m, rfl, .inr ⟨by omega, by omega⟩, unhide B0⟩
set_option maxRecDepth 100000 in
theorem szFS (w : World) (a : Option Addr) (len cap : Nat) (ps : List TF) (hl : ps.length = len) (hx : len ≤ 9223372036854775807) (hr : ReadsF w a ps) (hf : FitF ps) :
    Calls Try.prog 33 #[.slice a len cap, .int .i64 1048576] w fun e w' => ∃ r, e = .returned (.int .i64 r) ∧ (r = -1 ∨ (0 ≤ r ∧ len ≤ 1048576 ∧ sumZ ps ≤ 1048576)) ∧ Below w.heap.size w w' := by
  have B0 := hide (Below.refl w.heap.size w)
  have R := hide hr
  have HF := hide hf
  have HL := hide hl
  clear hr hf
  by_cases q : (1048576 : Int) - (len : Int) < 0
  · clear hl
    go_enter Try.func33, Try.ntmps33
    go_wp2
    go_ret
    exact ⟨-1, rfl, .inl rfl, unhide B0⟩
  have l20 : len ≤ 1048576 := by omega
  go_enter Try.func33, Try.ntmps33
  go_wp2
  go_loopw [1, 5] (fun m i wr => ∃ (k : Nat) (left : Int), k ≤ len ∧ i = .int .i64 k ∧ m = .int .i64 left ∧ 0 ≤ left ∧ left ≤ 1048576 ∧ Hid (left + len + sumZ (ps.take k) = 1048576) ∧ Hid (Below w.heap.size w wr)) (fun _ i _ => len - (intOf i).toNat)
  case atStart => exact ⟨0, 1048576 - (len : Int), by omega, rfl, rfl, by omega, by omega, hide (by simp [sumZ]), B0⟩
  case round =>
    clear B0
    obtain ⟨k, left, hk, rfl, rfl, l0, l1, HS, HB⟩ := hrel
    by_cases t : k < len
    · have tk : k < ps.length := by omega
      have NX := hide (sumZ_next tk)
      have F := fit_el (unhide HF) tk
      rcases (unhide R).below (unhide HB |>.mono (Nat.le_refl _)) with h | ⟨b, off, rfl, lb, hc⟩
      · omega
      obtain ⟨d0, d1, d2⟩ := hc k tk
      have SF := hide (fun u => szF u (elF ps k).1 (elF ps k).2.1 (elF ps k).2.2 left l0 l1 F.1 F.2)
      have kt : (k : Int) < len := by omega
      clear F hc
      generalize (elF ps k).1 = y0 at *
      generalize (elF ps k).2.1 = y1 at *
      generalize (elF ps k).2.2 = y2 at *
      go_wp2_with fail
      refine ((unhide SF) _).mono ?_
      rintro e u ⟨r, rfl, hr, bb⟩
      have B1 := hide ((unhide HB).trans (bb.mono (unhide HB).size))
      clear bb SF
      rcases hr with rfl | ⟨r0, r1⟩
      · go_wp2
        go_ret
        exact ⟨-1, rfl, .inl rfl, unhide B1⟩
      · have rn : ¬ r < 0 := by omega
        have R1 := hide r1
        have L0 := hide (And.intro l0 l1)
        clear r1 l0 l1
        go_wp2
        go_roundw
        case rel => exact ⟨k + 1, r, by omega, by go_num, rfl, r0, by have := unhide R1; have := unhide L0; omega, hide (by have := unhide R1; have := unhide HS; rw [unhide NX]; omega), B1⟩
        case measure => simp [intOf]; omega
    · have e : k = len := by omega
      subst e
      have S := unhide HS
      rw [← hl, List.take_length] at S
      have SS := hide S
      have L0 := hide l0
      clear S
      go_wp2
      go_ret
      exact ⟨left, rfl, .inr ⟨unhide L0, l20, by have := unhide SS; have := unhide L0; omega⟩, unhide HB⟩
set_option maxRecDepth 100000 in
theorem szD (w : World) (room : Int) (a : Option Addr) (len cap : Nat) (ps : List TF) (hl : ps.length = len) (hx : len ≤ 9223372036854775807) (hr : ReadsF w a ps) (hf : FitF ps) :
    Calls Try.prog 9 #[.agg #[.int .i64 room, .slice a len cap], .int .i64 1048576] w fun e w' => ∃ r, e = .returned (.int .i64 r) ∧ (r = -1 ∨ (0 ≤ r ∧ len ≤ 1048576 ∧ sumZ ps ≤ 1048576)) ∧ Below w.heap.size w w' := by
  have b0 := one_more w (.cells #[.int .i64 room, .slice a len cap] 24)
  have S := hide (szFS _ a len cap ps hl hx (hr.below b0) hf)
  have B0 := hide b0
  clear b0 hr hf
  go_enter Try.func9, Try.ntmps9
  go_wp2_with fail
  refine (unhide S).mono ?_
  rintro e u ⟨r, rfl, h, bb⟩
  have B1 := hide ((unhide B0).trans (bb.mono (unhide B0).size))
  have H := hide h
  clear bb S
  rcases h with rfl | ⟨r0, _⟩
  · go_wp2
    go_ret
    exact ⟨-1, rfl, .inl rfl, unhide B1⟩
  · have rn : ¬ r < 0 := by omega
    go_wp2
    go_ret
    exact ⟨r, rfl, unhide H, unhide B1⟩
end Go.Proofs.Yticofefdbjihiaa.DiskH14
namespace Go.Proofs.Yticofefdbjihiaa.HelpF14
open Go.ChangeShapes Go.WideShapes Go.ChangeAt Go.RowKit Fil14
theorem info2 : (Try.prog.info? 69).map (fun i => (i.zero, i.size, i.bytes)) = some (some (.agg #[.int .i64 0, .string ByteArray.empty, .string ByteArray.empty]), 3, 40) := by kernel_rfl
set_option maxRecDepth 100000 in
theorem to1 (w : World) (x : Int) (y z : ByteArray) : Calls Try.prog 66 #[.agg #[.int .i64 x, .string y, .string z]] w fun e w' => e = .returned (.agg #[.int .i64 x, .string y, .string z]) ∧ Below w.heap.size w w' := by
  go_enter Try.func66, Try.ntmps66
  go_wp2
  refine bodyPost_ret (v := .agg #[.int .i64 x, .string y, .string z]) (by simp [results, Try.results66, go_sem]) rfl ⟨rfl, ?_⟩
  exact (((Below.refl _ _).alloc (Nat.le_refl _) _).alloc (by simp) _).alloc (by simp; omega) _
theorem made_triples (n : Nat) : (madeCells (Value.agg #[.int .i64 0, .string ByteArray.empty, .string ByteArray.empty]).cells (n * 3)).toList = flatF (List.replicate n (0, ByteArray.empty, ByteArray.empty)) := by
  apply List.ext_getElem?
  intro j
  by_cases hj : j < n * 3
  · have hs : (Value.agg #[Value.int .i64 0, Value.string ByteArray.empty, Value.string ByteArray.empty]).cells = #[Value.int .i64 0, Value.string ByteArray.empty, Value.string ByteArray.empty] := rfl
    rw [hs]
    obtain ⟨f0, f1, f2⟩ := flatF_get (List.replicate n (0, ByteArray.empty, ByteArray.empty)) (j / 3) (by simp; omega)
    have hg : (List.replicate n ((0 : Int), ByteArray.empty, ByteArray.empty)).getD (j / 3) (0, ByteArray.empty, ByteArray.empty) = (0, ByteArray.empty, ByteArray.empty) := by simp [List.getD, show j / 3 < n by omega]
    unfold elF at f0 f1 f2
    rw [hg] at f0 f1 f2
    rcases (show j % 3 = 0 ∨ j % 3 = 1 ∨ j % 3 = 2 by omega) with e | e | e
    · rw [show j / 3 * 3 = j by omega] at f0
      rw [f0]
      simp [madeCells, hj, e]
    · rw [show j / 3 * 3 + 1 = j by omega] at f1
      rw [f1]
      simp [madeCells, hj, e]
    · rw [show j / 3 * 3 + 2 = j by omega] at f2
      rw [f2]
      simp [madeCells, hj, e]
  · rw [List.getElem?_eq_none (by simp [madeCells]; omega), List.getElem?_eq_none (by rw [flatF_len]; simp; omega)]
/-- The triples so far, and zeros behind. -/
def part (ps : List TF) (n k : Nat) : List TF := ps.take k ++ List.replicate (n - k) (0, ByteArray.empty, ByteArray.empty)
theorem part_zero (ps : List TF) (n : Nat) : part ps n 0 = List.replicate n (0, ByteArray.empty, ByteArray.empty) := by simp [part]
theorem part_all (ps : List TF) (n : Nat) (h : ps.length = n) : part ps n n = ps := by
  unfold part
  rw [← h]; simp
theorem part_step (ps : List TF) (n k : Nat) (h : ps.length = n) (hk : k < n) : (((part ps n k).modify k fun p => ((elF ps k).1, p.2)).modify k (fun p => (p.1, (elF ps k).2.1, p.2.2))).modify k (fun p => (p.1, p.2.1, (elF ps k).2.2)) = part ps n (k + 1) := by
  subst h
  unfold part
  apply List.ext_getElem?
  intro j
  have l1 : (ps.take k).length = k := by simp; omega
  have l2 : (ps.take (k + 1)).length = k + 1 := by simp; omega
  rw [List.getElem?_modify, List.getElem?_modify, List.getElem?_modify]
  by_cases e : k = j
  · subst e
    rw [List.getElem?_append_right (by omega), List.getElem?_append_left (by omega), List.getElem?_take, if_pos (by omega), l1]
    simp [List.getD, hk, show 0 < ps.length - k by omega]
  · by_cases l : j < k
    · rw [List.getElem?_append_left (by omega), List.getElem?_append_left (by omega), List.getElem?_take, List.getElem?_take, if_pos l, if_pos (by omega)]
      simp [e]
    · rw [List.getElem?_append_right (by omega), List.getElem?_append_right (by omega), l1, l2]
      simp only [List.getElem?_replicate]
      by_cases m : j < ps.length
      · rw [if_pos (by omega), if_pos (by omega)]; simp [e]
      · rw [if_neg (by omega), if_neg (by omega)]; simp [e]
set_option maxRecDepth 100000 in
theorem toS (w : World) (a : Option Addr) (len cap : Nat) (ps : List TF) (hl : ps.length = len) (h20 : len ≤ 1048576) (hr : ReadsF w a ps) :
    Calls Try.prog 37 #[.slice a len cap] w fun e w' => e = .returned (.slice (some ⟨w.heap.size, 0, none⟩) len len) ∧ OwnF 69 w' w.heap.size w.heap.size len len ps ∧ Below w.heap.size w w' := by
  obtain ⟨i0, hi, hz0, hz1, hz2⟩ := info_parts info2
  go_enter Try.func37, Try.ntmps37
  go_wp2_with (at_make; refine wpList_make_full _ rfl _ _ 29 rfl w.heap.size 69 i0 (.agg #[.int .i64 0, .string ByteArray.empty, .string ByteArray.empty]) 3 Try.underlying29 hi hz0 hz1 .i64 .i64 _ _ len rfl rfl rfl rfl (by rw [hz2]; omega) (by unfold maxLen; omega) (Nat.le_refl _) ?_; intro w1 hown hgrow)
  rw [made_triples, ← part_zero ps] at hown
  have hb := grownBy_below hgrow
  have hown : OwnF 69 w1 w.heap.size w.heap.size len len (part ps len 0) := hown
  clear hgrow
  go_loopw [4] (fun i wr => ∃ (k : Nat), k ≤ len ∧ i = .int .i64 k ∧ OwnF 69 wr w.heap.size w.heap.size len len (part ps len k) ∧ Below w.heap.size w wr) (fun i _ => len - (intOf i).toNat)
  case atStart => exact ⟨0, by omega, rfl, hown, hb⟩
  case round =>
    clear hown hb
    obtain ⟨k, hk, rfl, hown, hb⟩ := hrel
    by_cases t : k < len
    · rcases hr with hz | ⟨b, off, rfl, hlt, hcell⟩
      · omega
      have hc0 := (hb.cell (p := ⟨b, off + k * 3, none⟩) hlt).trans (hcell k (by omega)).1
      have hc1 := (hb.cell (p := ⟨b, off + k * 3 + 1, none⟩) hlt).trans (hcell k (by omega)).2.1
      have hc2 := (hb.cell (p := ⟨b, off + k * 3 + 2, none⟩) hlt).trans (hcell k (by omega)).2.2
      clear hcell
      have HO := hide hown
      have HB := hide hb
      clear hown hb
      have PS := hide (part_step ps len k hl t)
      generalize (elF ps k).1 = x at *
      generalize (elF ps k).2.1 = y at *
      generalize (elF ps k).2.2 = z at *
      go_wp2_with fail
      refine (to1 _ x y z).mono ?_
      rintro e w2 ⟨rfl, b2⟩
      have o2 := (unhide HO).below b2 (unhide HO).lt.2
      have hb2 := (unhide HB).trans (b2.mono (unhide HB).size)
      clear HO HB b2 hc0 hc1 hc2
      have hs := o2.set0 k x
      have hs2 := hs.1.set1 k y
      have hs3 := hs2.1.set2 k z
      have hd := o2.at k (by rw [o2.len]; exact t)
      have hd0 := hd.1
      have hd1 := hd.2.1
      have hd2 := hd.2.2
      have hf0 := o2.free (k * 3)
      have hf1 := o2.free (k * 3 + 1)
      have hf2 := o2.free (k * 3 + 2)
      have HS := hide hs3.1
      have HB := hide (((hb2.setCell (p := ⟨w.heap.size, k * 3, none⟩) (Nat.le_refl _) (.int .i64 x)).setCell (p := ⟨w.heap.size, k * 3 + 1, none⟩) (Nat.le_refl _) (.string y)).setCell (p := ⟨w.heap.size, k * 3 + 2, none⟩) (Nat.le_refl _) (.string z))
      clear hs hs2 hs3 hd o2 hb2
      go_wp2
      go_roundw
      case rel =>
        have o := unhide HS
        rw [unhide PS] at o
        exact ⟨k + 1, by omega, by go_num, o, unhide HB⟩
      case measure => simp [intOf]; omega
    · obtain rfl : k = len := by omega
      rw [part_all ps k hl] at hown
      have HO := hide hown
      have HB := hide hb
      clear hown hb hr
      go_wp2
      go_ret
      exact ⟨rfl, unhide HO, unhide HB⟩
set_option maxRecDepth 100000 in
theorem eq1 (w : World) (x : Int) (y z : ByteArray) : Calls Try.prog 71 #[.agg #[.int .i64 x, .string y, .string z], .agg #[.int .i64 x, .string y, .string z]] w fun e w' => e = .returned (.bool true) ∧ w' = (w.alloc (.cells #[.int .i64 x, .string y, .string z] 69)).alloc (.cells #[.int .i64 x, .string y, .string z] 69) := by
  go_enter Try.func71, Try.ntmps71
  go_wp2
  go_ret
  exact ⟨rfl, rfl⟩
theorem two_more (w : World) (o p : Obj) : Below w.heap.size w ((w.alloc o).alloc p).drew := (((Below.refl _ _).alloc (Nat.le_refl _) _).alloc (by simp) _).drew
set_option maxRecDepth 100000 in
theorem eqS (w : World) (g1 g2 n c1 c2 : Nat) (ps : List TF) (hl : ps.length = n) (h20 : n ≤ 1048576) (l1 : g1 < w.heap.size) (l2 : g2 < w.heap.size) (h1 : AtF w g1 ps) (h2 : AtF w g2 ps) :
    Calls Try.prog 41 #[.slice (some ⟨g1, 0, none⟩) n c1, .slice (some ⟨g2, 0, none⟩) n c2] w fun e w' => e = .returned (.bool true) ∧ Below w.heap.size w w' := by
  go_enter Try.func41, Try.ntmps41
  go_wp2
  go_loopw [5] (fun i wr => ∃ (k : Nat), k ≤ n ∧ i = .int .i64 k ∧ AtF wr g1 ps ∧ AtF wr g2 ps ∧ Below w.heap.size w wr) (fun i _ => n - (intOf i).toNat)
  case atStart => exact ⟨0, by omega, rfl, h1, h2, Below.refl _ _⟩
  case round =>
    clear h1 h2
    obtain ⟨k, hk, rfl, h1, h2, hb⟩ := hrel
    by_cases t : k < n
    · obtain ⟨e1, f1, i1⟩ := h1 k (by omega)
      obtain ⟨e2, f2, i2⟩ := h2 k (by omega)
      have s := hb.size
      have H1 := hide h1
      have H2 := hide h2
      have HB := hide hb
      clear h1 h2 hb
      generalize (elF ps k).1 = x at *
      generalize (elF ps k).2.1 = y at *
      generalize (elF ps k).2.2 = z at *
      go_wp2_with fail
      go_region_held3 (fun w' => w'.cell? ⟨g1, k * 3, none⟩ = some (.int .i64 x) ∧ w'.cell? ⟨g2, k * 3, none⟩ = some (.int .i64 x) ∧ w'.cell? ⟨g1, k * 3 + 1, none⟩ = some (.string y) ∧ w'.cell? ⟨g2, k * 3 + 1, none⟩ = some (.string y) ∧ w'.cell? ⟨g1, k * 3 + 2, none⟩ = some (.string z) ∧ w'.cell? ⟨g2, k * 3 + 2, none⟩ = some (.string z)) (go_keep)
        (first | (go_at_call 71; refine (eq1 _ _ _ _).mono ?_; rintro e w2 ⟨rfl, rfl⟩))
      all_goals (go_wp2; go_roundw)
      all_goals first
        | (have b2 := two_more wr (.cells #[.int .i64 x, .string y, .string z] 69) (.cells #[.int .i64 x, .string y, .string z] 69)
           exact ⟨k + 1, by omega, by go_num, (unhide H1).below b2 (by omega), (unhide H2).below b2 (by omega), next (unhide HB) b2⟩)
        | (simp [intOf]; omega)
    · have HB := hide hb
      clear h1 h2 hb
      go_wp2
      go_ret
      exact ⟨rfl, unhide HB⟩
end Go.Proofs.Yticofefdbjihiaa.HelpF14
namespace Go.Proofs.Yticofefdbjihiaa.MarkF14
open Go.ChangeShapes Go.WideShapes Go.ChangeAt Go.RowKit Fil14
/-- The digits of a number ahead of a text. -/
def dg (k : Nat) (s : ByteArray) : ByteArray := if 0 < k then dg (k / 10) (strOfNums [48 + (k : Int) % 10] ++ s) else s
termination_by k
decreasing_by omega
/-- The text that marks. -/
def mt (k : Int) : ByteArray := ⟨#[109]⟩ ++ dg k.toNat ⟨#[]⟩
theorem dg_more {k : Nat} {s : ByteArray} (h : 0 < k) : dg k s = dg (k / 10) (strOfNums [48 + (k : Int) % 10] ++ s) := by rw [dg, if_pos h]
theorem dg_last {k : Nat} {s : ByteArray} (h : ¬ 0 < k) : dg k s = s := by rw [dg, if_neg h]
set_option maxRecDepth 100000 in
theorem markT (w : World) (k0 : Int) (h0 : 0 < k0) (h1 : k0 ≤ 100000000) :
    Calls Try.prog 43 #[.int .i64 k0] w fun e w' => e = .returned (.string (mt k0)) ∧ Below w.heap.size w w' := by
  obtain ⟨r, hr⟩ : ∃ r, Hid (mt k0 = r) := ⟨_, rfl⟩
  rw [unhide hr]
  have S0 := hide (show (⟨#[109]⟩ : ByteArray) ++ dg k0.toNat ⟨#[]⟩ = r from unhide hr)
  go_enter Try.func43, Try.ntmps43
  go_wp2
  go_loopw [0, 3] (fun a o wr => ∃ (k : Int) (s : ByteArray), a = .int .i64 k ∧ o = .string s ∧ 0 ≤ k ∧ k ≤ 100000000 ∧ Hid ((⟨#[109]⟩ : ByteArray) ++ dg k.toNat s = r) ∧ Hid (s.size + k.toNat ≤ 100000000) ∧ Hid (Below w.heap.size w wr)) (fun a _ _ => (intOf a).toNat)
  case atStart => exact ⟨k0, ⟨#[]⟩, rfl, rfl, by omega, h1, S0, hide (by have : (⟨#[]⟩ : ByteArray).size = 0 := rfl; omega), hide (Below.refl _ _)⟩
  case round =>
    clear S0 h0 h1
    obtain ⟨k, s, rfl, rfl, k1, k2, HD, HZ, HB⟩ := hrel
    have hz := unhide HZ
    by_cases t : 0 < k
    · have ND := hide (show (⟨#[109]⟩ : ByteArray) ++ dg (k / 10).toNat (strOfNums [48 + k % 10] ++ s) = r from by
        rw [← unhide HD, dg_more (k := k.toNat) (by omega), show ((k.toNat : Nat) : Int) = k by omega, show k.toNat / 10 = (k / 10).toNat by omega])
      have CV := run_convert_bytes_arg (P := Try.prog) (wr.alloc (.cells #[.int .u8 (48 + k % 10)] 5)) 53 5 Try.underlying53 Try.underlying5 wr.heap.size 0 1 1 [48 + k % 10] rfl (fun i hi => by
        have : i = 0 := by omega
        subst this
        simp) 9 Try.underlying9
      have cz := strOfNums_size [48 + k % 10]
      have E := hide (show wrap64 (k.tdiv 10) = k / 10 from by rw [Int.tdiv_eq_ediv_of_nonneg k1, wrap64]; omega)
      have B1 := hide ((unhide HB).alloc (unhide HB).size (.cells #[.int .u8 (48 + k % 10)] 5))
      have KK := hide (And.intro k1 k2)
      have cz1 : (strOfNums [48 + k % 10]).size = 1 := cz
      obtain ⟨c, hc⟩ : ∃ c, Hid (strOfNums [48 + k % 10] = c) := ⟨_, rfl⟩
      rw [unhide hc] at CV ND cz1
      have sz : ¬ (c.size + s.size > 9223372036854775807) := by omega
      have CZ := hide cz1
      clear cz cz1 hc HD
      go_wp2
      go_roundw
      case rel =>
        have kk := unhide KK
        exact ⟨k / 10, c ++ s, by first | rfl | (congr 1; exact unhide E), rfl, by omega, by omega, ND, hide (by have := unhide CZ; rw [ByteArray.size_append]; omega), B1⟩
      case measure =>
        have kk := unhide KK
        have e := unhide E
        simp [intOf]
        omega
    · have e : k = 0 := by omega
      subst e
      have D := unhide HD
      rw [dg_last (by simp)] at D
      have HD2 := hide D
      have sz : ¬ ((⟨#[109]⟩ : ByteArray).size + s.size > 9223372036854775807) := by have : (⟨#[109]⟩ : ByteArray).size = 1 := rfl; omega
      clear D HD
      go_wp2
      go_ret
      exact ⟨by rw [← unhide HD2]; rfl, unhide HB⟩
end Go.Proofs.Yticofefdbjihiaa.MarkF14
namespace Go.Proofs.Yticofefdbjihiaa.MarkFS14
open Go.ChangeShapes Go.WideShapes Go.ChangeAt Go.RowKit Fil14 MarkF14
/-- The marks of n files. -/
def marks (s : Int) (n : Nat) : List TF := (List.range n).map fun (i : Nat) => (s + 3 * (i : Int), mt (s + 3 * (i : Int) + 1), mt (s + 3 * (i : Int) + 2))
theorem marks_len (s : Int) (n : Nat) : (marks s n).length = n := by simp [marks]
theorem marks_getD (s : Int) (n i : Nat) (h : i < n) : elF (marks s n) i = (s + 3 * (i : Int), mt (s + 3 * (i : Int) + 1), mt (s + 3 * (i : Int) + 2)) := by simp [marks, List.getD, h]
/-- The marks so far, and what stood behind. -/
def marked (s : Int) (ps : List TF) (n j : Nat) : List TF := (marks s n).take j ++ ps.drop j
theorem marked_zero (s : Int) (ps : List TF) (n : Nat) : marked s ps n 0 = ps := by simp [marked]
theorem marked_all (s : Int) (ps : List TF) (n : Nat) (h : ps.length = n) : marked s ps n n = marks s n := by
  unfold marked
  rw [List.take_of_length_le (by rw [marks_len]; exact Nat.le_refl _), List.drop_of_length_le (by omega), List.append_nil]
theorem marked_step (s : Int) (ps : List TF) (n j : Nat) (h : ps.length = n) (hj : j < n) : (((marked s ps n j).modify j fun p => (s + 3 * (j : Int), p.2)).modify j (fun p => (p.1, mt (s + 3 * (j : Int) + 1), p.2.2))).modify j (fun p => (p.1, p.2.1, mt (s + 3 * (j : Int) + 2))) = marked s ps n (j + 1) := by
  unfold marked
  have l := marks_len s n
  have g := marks_getD s n j hj
  have l1 : ((marks s n).take j).length = j := by simp; omega
  have l2 : ((marks s n).take (j + 1)).length = j + 1 := by simp; omega
  apply List.ext_getElem?
  intro i
  rw [List.getElem?_modify, List.getElem?_modify, List.getElem?_modify]
  by_cases e : j = i
  · subst e
    rw [List.getElem?_append_right (by omega), List.getElem?_append_left (by omega), List.getElem?_take, if_pos (by omega), l1]
    have hg : (marks s n)[j]? = some (s + 3 * (j : Int), mt (s + 3 * (j : Int) + 1), mt (s + 3 * (j : Int) + 2)) := by
      rw [← g]; simp [List.getD, l, hj]
    rw [hg]
    simp [List.getElem?_drop, h, hj]
  · by_cases d : i < j
    · rw [List.getElem?_append_left (by omega), List.getElem?_append_left (by omega), List.getElem?_take, List.getElem?_take, if_pos d, if_pos (by omega)]
      simp [e]
    · rw [List.getElem?_append_right (by omega), List.getElem?_append_right (by omega), l1, l2]
      simp only [List.getElem?_drop]
      rw [show j + (i - j) = i by omega, show j + 1 + (i - (j + 1)) = i by omega]
      simp [e]
set_option maxRecDepth 100000 in
set_option maxHeartbeats 2000000 in
theorem markS (w : World) (base g n cap : Nat) (s : Int) (ps : List TF) (h20 : n ≤ 1048576) (s0 : 1 ≤ s) (s1 : s ≤ 90000000) (hb0 : base ≤ w.heap.size) (ho : OwnF 69 w base g n cap ps) :
    Calls Try.prog 42 #[.slice (some ⟨g, 0, none⟩) n cap, .int .i64 s] w fun e w' => e = .returned (.int .i64 (s + 3 * (n : Int))) ∧ OwnF 69 w' base g n cap (marks s n) ∧ w.grownBy w' (some g) := by
  have hl := ho.len
  have ho' : OwnF 69 w base g n cap (marked s ps n 0) := by rw [marked_zero]; exact ho
  clear ho
  go_enter Try.func42, Try.ntmps42
  go_wp2
  go_loopw [1, 5] (fun m i wr => ∃ (k : Nat), k ≤ n ∧ i = .int .i64 k ∧ m = .int .i64 (s + 3 * (k : Int)) ∧ OwnF 69 wr base g n cap (marked s ps n k) ∧ w.grownBy wr (some g)) (fun _ i _ => n - (intOf i).toNat)
  case atStart => exact ⟨0, by omega, rfl, by go_num, ho', World.grownBy.refl _ _⟩
  case round =>
    clear ho'
    obtain ⟨k, hk, rfl, rfl, hown, hg⟩ := hrel
    by_cases t : k < n
    · obtain ⟨o1, q1⟩ := hown.set0 k (s + 3 * (k : Int))
      obtain ⟨hd0, hd1, hd2⟩ := hown.at k (by rw [OwnF.len hown]; exact t)
      have hf0 := hown.free (k * 3)
      have HO1 := hide o1
      have HG1 := hide (grown_trans hg q1)
      have ms := marked_step s ps n k hl t
      rw [show s + 3 * (k : Int) + 2 = s + 3 * (k : Int) + 1 + 1 by omega] at ms
      have MS := hide ms
      clear ms
      clear hown hg o1 q1 hd1 hd2
      generalize (elF (marked s ps n k) k).1 = z0 at hd0
      generalize marked s ps n k = mk at *
      have r1 : IntKind.i64.wrap (s + 3 * (k : Int) + 1) = s + 3 * (k : Int) + 1 := by rw [IntKind.wrap_i64]; omega
      have r2 : IntKind.i64.wrap (s + 3 * (k : Int) + 1 + 1) = s + 3 * (k : Int) + 1 + 1 := by rw [IntKind.wrap_i64]; omega
      have r3 : IntKind.i64.wrap (s + 3 * (k : Int) + 1 + 1 + 1) = s + 3 * (k : Int) + 1 + 1 + 1 := by rw [IntKind.wrap_i64]; omega
      go_wp2_with fail
      refine (markT _ (s + 3 * (k : Int) + 1) (by omega) (by omega)).mono ?_
      rintro e u1 ⟨rfl, bb⟩
      have a1 := (unhide HO1).below bb (unhide HO1).lt.2
      have G2 := hide (grown_trans (unhide HG1) ⟨bb.os, bb.tape, bb.output, bb.size, fun i hi _ => bb.block i hi⟩)
      obtain ⟨o2, q2⟩ := a1.set1 k (mt (s + 3 * (k : Int) + 1))
      obtain ⟨_, hd1, _⟩ := a1.at k (by rw [OwnF.len a1]; exact t)
      have hf1 := a1.free (k * 3 + 1)
      have HO2 := hide o2
      have HG2 := hide (grown_trans (unhide G2) q2)
      clear bb a1 o2 q2 G2 HO1 HG1 hd0 hf0
      generalize (elF (mk.modify k fun p => (s + 3 * (k : Int), p.2)) k).2.1 = z1 at hd1
      generalize mk.modify k (fun p => (s + 3 * (k : Int), p.2)) = mk1 at *
      go_wp2_with fail
      refine (markT _ (s + 3 * (k : Int) + 1 + 1) (by omega) (by omega)).mono ?_
      rintro e u2 ⟨rfl, bb⟩
      have a2 := (unhide HO2).below bb (unhide HO2).lt.2
      have G3 := hide (grown_trans (unhide HG2) ⟨bb.os, bb.tape, bb.output, bb.size, fun i hi _ => bb.block i hi⟩)
      obtain ⟨o3, q3⟩ := a2.set2 k (mt (s + 3 * (k : Int) + 1 + 1))
      obtain ⟨_, _, hd2⟩ := a2.at k (by rw [OwnF.len a2]; exact t)
      have hf2 := a2.free (k * 3 + 2)
      have HO3 := hide o3
      have HG3 := hide (grown_trans (unhide G3) q3)
      clear bb a2 o3 q3 G3 HO2 HG2 hd1 hf1
      generalize (elF (mk1.modify k fun p => (p.1, mt (s + 3 * (k : Int) + 1), p.2.2)) k).2.2 = z2 at hd2
      go_wp2
      go_roundw
      case rel => exact ⟨k + 1, by omega, by go_num, by go_num, by have h := unhide HO3; rw [unhide MS] at h; exact h, unhide HG3⟩
      case measure => simp [intOf]; omega
    · obtain rfl : k = n := by omega
      rw [marked_all s ps k hl] at hown
      have HO := hide hown
      have HG := hide hg
      clear hown hg
      go_wp2
      go_ret
      exact ⟨rfl, unhide HO, unhide HG⟩
abbrev oP0 : Oper := { dst := some 21, op := Go.Op.move (Go.Operand.tmp 0), type := 29, pos := "exact.go:1083", after := #[], guard := none }
abbrev oP1 : Oper := { dst := some 22, op := Go.Op.move (Go.Operand.tmp 5), type := 3, pos := "exact.go:1083", after := #[], guard := none }
abbrev oP2 : Oper := { dst := some 23, op := Go.Op.indexAddr 29 (Go.Operand.tmp 21) (Go.Operand.tmp 22), type := 0, pos := "exact.go:1083", after := #[{ on := 0, ground := Go.Ground.data }, { on := 1, ground := Go.Ground.data }], guard := none }
abbrev oP3 : Oper := { dst := some 24, op := Go.Op.fieldAddr 69 (Go.Operand.tmp 23) 1, type := 0, pos := "exact.go:1083", after := #[{ on := 2, ground := Go.Ground.data }], guard := none }
abbrev oP4 : Oper := { dst := some 25, op := Go.Op.load 9 (Go.Operand.tmp 24), type := 9, pos := "exact.go:1083", after := #[{ on := 3, ground := Go.Ground.data }], guard := none }
abbrev oP5 : Oper := { dst := some 26, op := Go.Op.move (Go.Operand.tmp 1), type := 3, pos := "exact.go:1083", after := #[], guard := none }
abbrev oP6 : Oper := { dst := some 27, op := Go.Op.call { callee := Go.Callee.value (Go.Operand.func 43), args := #[Go.Operand.tmp 26], argTypes := #[3] }, type := 9, pos := "exact.go:1083", after := #[{ on := 5, ground := Go.Ground.data }], guard := none }
abbrev oP7 : Oper := { dst := some 28, op := Go.Op.binOp Go.BinOp.neq 9 (Go.Operand.tmp 25) (Go.Operand.tmp 27) 9, type := 4, pos := "exact.go:1083", after := #[{ on := 4, ground := Go.Ground.data }, { on := 6, ground := Go.Ground.data }], guard := none }
abbrev oQ0 : Oper := { dst := some 31, op := Go.Op.move (Go.Operand.tmp 0), type := 29, pos := "exact.go:1087", after := #[], guard := none }
abbrev oQ1 : Oper := { dst := some 32, op := Go.Op.move (Go.Operand.tmp 5), type := 3, pos := "exact.go:1087", after := #[], guard := none }
abbrev oQ2 : Oper := { dst := some 33, op := Go.Op.indexAddr 29 (Go.Operand.tmp 31) (Go.Operand.tmp 32), type := 0, pos := "exact.go:1087", after := #[{ on := 0, ground := Go.Ground.data }, { on := 1, ground := Go.Ground.data }], guard := none }
abbrev oQ3 : Oper := { dst := some 34, op := Go.Op.fieldAddr 69 (Go.Operand.tmp 33) 2, type := 0, pos := "exact.go:1087", after := #[{ on := 2, ground := Go.Ground.data }], guard := none }
abbrev oQ4 : Oper := { dst := some 35, op := Go.Op.load 9 (Go.Operand.tmp 34), type := 9, pos := "exact.go:1087", after := #[{ on := 3, ground := Go.Ground.data }], guard := none }
abbrev oQ5 : Oper := { dst := some 36, op := Go.Op.move (Go.Operand.tmp 1), type := 3, pos := "exact.go:1087", after := #[], guard := none }
abbrev oQ6 : Oper := { dst := some 37, op := Go.Op.call { callee := Go.Callee.value (Go.Operand.func 43), args := #[Go.Operand.tmp 36], argTypes := #[3] }, type := 9, pos := "exact.go:1087", after := #[{ on := 5, ground := Go.Ground.data }], guard := none }
abbrev oQ7 : Oper := { dst := some 38, op := Go.Op.binOp Go.BinOp.neq 9 (Go.Operand.tmp 35) (Go.Operand.tmp 37) 9, type := 4, pos := "exact.go:1087", after := #[{ on := 4, ground := Go.Ground.data }, { on := 6, ground := Go.Ground.data }], guard := none }
set_option maxRecDepth 100000 in
set_option maxHeartbeats 2000000 in
theorem heldS (w : World) (g n cap : Nat) (s : Int) (h20 : n ≤ 1048576) (s0 : 1 ≤ s) (s1 : s ≤ 90000000) (lg : g < w.heap.size) (h : AtF w g (marks s n)) :
    Calls Try.prog 46 #[.slice (some ⟨g, 0, none⟩) n cap, .int .i64 s] w fun e w' => e = .returned (.int .i64 (s + 3 * (n : Int))) ∧ Below w.heap.size w w' := by
  have H := hide h
  clear h
  go_enter Try.func46, Try.ntmps46
  go_wp2
  go_loopw [1, 5] (fun m i wr => ∃ (k : Nat), k ≤ n ∧ i = .int .i64 k ∧ m = .int .i64 (s + 3 * (k : Int)) ∧ Hid (Below w.heap.size w wr)) (fun _ i _ => n - (intOf i).toNat)
  case atStart => exact ⟨0, by omega, rfl, by go_num, hide (Below.refl _ _)⟩
  case round =>
    obtain ⟨k, hk, rfl, rfl, HB⟩ := hrel
    by_cases t : k < n
    · obtain ⟨e1, e2, e3⟩ := ((unhide H).below (unhide HB) lg) k (by rw [marks_len]; exact t)
      rw [marks_getD s n k t] at e1 e2 e3
      have K1 : wr.cell? ⟨g, k * 3 + 1, none⟩ = some (.string (mt (s + 3 * (k : Int) + 1))) := e2
      replace e3 : wr.cell? ⟨g, k * 3 + 2, none⟩ = some (.string (mt (s + 3 * (k : Int) + 1 + 1))) := by rw [e3, show s + 3 * (k : Int) + 1 + 1 = s + 3 * (k : Int) + 2 by omega]
      have r1 : IntKind.i64.wrap (s + 3 * (k : Int) + 1) = s + 3 * (k : Int) + 1 := by rw [IntKind.wrap_i64]; omega
      have r2 : IntKind.i64.wrap (s + 3 * (k : Int) + 1 + 1) = s + 3 * (k : Int) + 1 + 1 := by rw [IntKind.wrap_i64]; omega
      have r3 : IntKind.i64.wrap (s + 3 * (k : Int) + 1 + 1 + 1) = s + 3 * (k : Int) + 1 + 1 + 1 := by rw [IntKind.wrap_i64]; omega
      clear e2
      go_wp2_with fail
      refine wp_region_held_drew (S := (fun w' => w'.cell? ⟨g, k * 3 + 1, none⟩ = some (.string (mt (s + 3 * (k : Int) + 1))))) (by kernel_rfl) K1 (fun hHeld => ?_)
      refine wpAnyH_take (i := 0) (oi := oP0) (v := .slice (some ⟨g, 0, none⟩) n cap) rfl (by kernel_rfl) (by kernel_rfl) (by kernel_rfl) (fun _ _ _ h => h) (Or.inl ⟨by rfl, fun w hSw => ?_⟩) hHeld ?_
      · (try dsimp only at hSw)
        unfold oP0
        go_simp
      try simp only [oP0, Act.put, List.setIfInBounds_toArray, List.set_cons_zero, List.set_cons_succ]
      refine wpAnyH_take (i := 1) (oi := oP1) (v := .int .i64 k) rfl (by kernel_rfl) (by kernel_rfl) (by kernel_rfl) (fun _ _ _ h => h) (Or.inl ⟨by rfl, fun w hSw => ?_⟩) hHeld ?_
      · (try dsimp only at hSw)
        unfold oP1
        go_simp
      try simp only [oP1, Act.put, List.setIfInBounds_toArray, List.set_cons_zero, List.set_cons_succ]
      refine wpAnyH_take (i := 2) (oi := oP2) (v := .pointer (some ⟨g, k * 3, none⟩)) rfl (by kernel_rfl) (by kernel_rfl) (by kernel_rfl) (fun _ _ _ h => h) (Or.inl ⟨by rfl, fun w hSw => ?_⟩) hHeld ?_
      · (try dsimp only at hSw)
        unfold oP2
        go_simp
      try simp only [oP2, Act.put, List.setIfInBounds_toArray, List.set_cons_zero, List.set_cons_succ]
      refine wpAnyH_take (i := 3) (oi := oP3) (v := .pointer (some ⟨g, k * 3 + 1, none⟩)) rfl (by kernel_rfl) (by kernel_rfl) (by kernel_rfl) (fun _ _ _ h => h) (Or.inl ⟨by rfl, fun w hSw => ?_⟩) hHeld ?_
      · (try dsimp only at hSw)
        unfold oP3
        go_simp
      try simp only [oP3, Act.put, List.setIfInBounds_toArray, List.set_cons_zero, List.set_cons_succ]
      refine wpAnyH_take (i := 4) (oi := oP4) (v := .string (mt (s + 3 * (k : Int) + 1))) rfl (by kernel_rfl) (by kernel_rfl) (by kernel_rfl) (fun _ _ _ h => h) (Or.inl ⟨by rfl, fun w hSw => ?_⟩) hHeld ?_
      · (try dsimp only at hSw)
        unfold oP4
        go_simp
      try simp only [oP4, Act.put, List.setIfInBounds_toArray, List.set_cons_zero, List.set_cons_succ]
      refine wpAnyH_take (i := 5) (oi := oP5) (v := .int .i64 (s + 3 * (k : Int) + 1)) rfl (by kernel_rfl) (by kernel_rfl) (by kernel_rfl) (fun _ _ _ h => h) (Or.inl ⟨by rfl, fun w hSw => ?_⟩) hHeld ?_
      · (try dsimp only at hSw)
        unfold oP5
        go_simp
      try simp only [oP5, Act.put, List.setIfInBounds_toArray, List.set_cons_zero, List.set_cons_succ]
      refine wpAnyH_ready (rs := [6]) (by kernel_rfl) (by simp) ?_
      refine AllReadyH.cons (o := oP6) rfl (fun K hK => ?_) AllReadyH.nil
      unfold oP6
      go_simp
      go_wp2_with fail
      refine (markT _ (s + 3 * (k : Int) + 1) (by omega) (by omega)).mono ?_
      rintro e u1 ⟨rfl, bb⟩
      have bu1 := hide (show Below wr.heap.size wr u1 from ⟨bb.os, bb.tape, bb.output, bb.size, bb.block⟩)
      have Ku1 : u1.cell? ⟨g, k * 3 + 1, none⟩ = some (.string (mt (s + 3 * (k : Int) + 1))) := ((unhide bu1).cell (p := ⟨g, k * 3 + 1, none⟩) (Nat.lt_of_lt_of_le lg (unhide HB).size)).trans K1
      clear bb
      go_wp2_with fail
      refine hK.out _ _ Ku1 (fun hHeld => ?_)
      clear hK K
      try simp only [oP6, Act.put, List.setIfInBounds_toArray, List.set_cons_zero, List.set_cons_succ]
      refine wpAnyH_take (i := 7) (oi := oP7) (v := .bool false) rfl (by kernel_rfl) (by kernel_rfl) (by kernel_rfl) (fun _ _ _ h => h) (Or.inl ⟨by rfl, fun w hSw => ?_⟩) hHeld ?_
      · (try dsimp only at hSw)
        unfold oP7
        go_simp
      try simp only [oP7, Act.put, List.setIfInBounds_toArray, List.set_cons_zero, List.set_cons_succ]
      refine wpAnyH_done (by kernel_rfl) ?_ _
      have B1 := hide ((unhide HB).trans ((unhide bu1).mono (unhide HB).size))
      have K2 : u1.cell? ⟨g, k * 3 + 2, none⟩ = some (.string (mt (s + 3 * (k : Int) + 1 + 1))) := ((unhide bu1).cell (p := ⟨g, k * 3 + 2, none⟩) (Nat.lt_of_lt_of_le lg (unhide HB).size)).trans e3
      clear K1 Ku1
      go_wp2_with fail
      refine wp_region_held_drew (S := (fun w' => w'.cell? ⟨g, k * 3 + 2, none⟩ = some (.string (mt (s + 3 * (k : Int) + 1 + 1))))) (by kernel_rfl) K2 (fun hHeld => ?_)
      refine wpAnyH_take (i := 0) (oi := oQ0) (v := .slice (some ⟨g, 0, none⟩) n cap) rfl (by kernel_rfl) (by kernel_rfl) (by kernel_rfl) (fun _ _ _ h => h) (Or.inl ⟨by rfl, fun w hSw => ?_⟩) hHeld ?_
      · (try dsimp only at hSw)
        unfold oQ0
        go_simp
      try simp only [oQ0, Act.put, List.setIfInBounds_toArray, List.set_cons_zero, List.set_cons_succ]
      refine wpAnyH_take (i := 1) (oi := oQ1) (v := .int .i64 k) rfl (by kernel_rfl) (by kernel_rfl) (by kernel_rfl) (fun _ _ _ h => h) (Or.inl ⟨by rfl, fun w hSw => ?_⟩) hHeld ?_
      · (try dsimp only at hSw)
        unfold oQ1
        go_simp
      try simp only [oQ1, Act.put, List.setIfInBounds_toArray, List.set_cons_zero, List.set_cons_succ]
      refine wpAnyH_take (i := 2) (oi := oQ2) (v := .pointer (some ⟨g, k * 3, none⟩)) rfl (by kernel_rfl) (by kernel_rfl) (by kernel_rfl) (fun _ _ _ h => h) (Or.inl ⟨by rfl, fun w hSw => ?_⟩) hHeld ?_
      · (try dsimp only at hSw)
        unfold oQ2
        go_simp
      try simp only [oQ2, Act.put, List.setIfInBounds_toArray, List.set_cons_zero, List.set_cons_succ]
      refine wpAnyH_take (i := 3) (oi := oQ3) (v := .pointer (some ⟨g, k * 3 + 2, none⟩)) rfl (by kernel_rfl) (by kernel_rfl) (by kernel_rfl) (fun _ _ _ h => h) (Or.inl ⟨by rfl, fun w hSw => ?_⟩) hHeld ?_
      · (try dsimp only at hSw)
        unfold oQ3
        go_simp
      try simp only [oQ3, Act.put, List.setIfInBounds_toArray, List.set_cons_zero, List.set_cons_succ]
      refine wpAnyH_take (i := 4) (oi := oQ4) (v := .string (mt (s + 3 * (k : Int) + 1 + 1))) rfl (by kernel_rfl) (by kernel_rfl) (by kernel_rfl) (fun _ _ _ h => h) (Or.inl ⟨by rfl, fun w hSw => ?_⟩) hHeld ?_
      · (try dsimp only at hSw)
        unfold oQ4
        go_simp
      try simp only [oQ4, Act.put, List.setIfInBounds_toArray, List.set_cons_zero, List.set_cons_succ]
      refine wpAnyH_take (i := 5) (oi := oQ5) (v := .int .i64 (s + 3 * (k : Int) + 1 + 1)) rfl (by kernel_rfl) (by kernel_rfl) (by kernel_rfl) (fun _ _ _ h => h) (Or.inl ⟨by rfl, fun w hSw => ?_⟩) hHeld ?_
      · (try dsimp only at hSw)
        unfold oQ5
        go_simp
      try simp only [oQ5, Act.put, List.setIfInBounds_toArray, List.set_cons_zero, List.set_cons_succ]
      refine wpAnyH_ready (rs := [6]) (by kernel_rfl) (by simp) ?_
      refine AllReadyH.cons (o := oQ6) rfl (fun K hK => ?_) AllReadyH.nil
      unfold oQ6
      go_simp
      go_wp2_with fail
      refine (markT _ (s + 3 * (k : Int) + 1 + 1) (by omega) (by omega)).mono ?_
      rintro e u2 ⟨rfl, bb⟩
      have bu2 := hide (show Below u1.heap.size u1 u2 from ⟨bb.os, bb.tape, bb.output, bb.size, bb.block⟩)
      have Ku2 : u2.cell? ⟨g, k * 3 + 2, none⟩ = some (.string (mt (s + 3 * (k : Int) + 1 + 1))) := ((unhide bu2).cell (p := ⟨g, k * 3 + 2, none⟩) (Nat.lt_of_lt_of_le lg (unhide B1).size)).trans K2
      clear bb
      go_wp2_with fail
      refine hK.out _ _ Ku2 (fun hHeld => ?_)
      clear hK K
      try simp only [oQ6, Act.put, List.setIfInBounds_toArray, List.set_cons_zero, List.set_cons_succ]
      refine wpAnyH_take (i := 7) (oi := oQ7) (v := .bool false) rfl (by kernel_rfl) (by kernel_rfl) (by kernel_rfl) (fun _ _ _ h => h) (Or.inl ⟨by rfl, fun w hSw => ?_⟩) hHeld ?_
      · (try dsimp only at hSw)
        unfold oQ7
        go_simp
      try simp only [oQ7, Act.put, List.setIfInBounds_toArray, List.set_cons_zero, List.set_cons_succ]
      refine wpAnyH_done (by kernel_rfl) ?_ _
      have B2 := hide ((unhide B1).trans ((unhide bu2).mono (unhide B1).size))
      clear K2 Ku2 bu2
      go_wp2
      go_roundw
      case rel => exact ⟨k + 1, by omega, by go_num, by go_num, B2⟩
      case measure => simp [intOf]; omega
    · obtain rfl : k = n := by omega
      go_wp2
      go_ret
      exact ⟨rfl, unhide HB⟩
end Go.Proofs.Yticofefdbjihiaa.MarkFS14
namespace Go.Proofs.Yticofefdbjihiaa.DkH14
open Go.ChangeShapes Go.WideShapes Go.ChangeAt Go.RowKit Fil14 OpensF14 DiskH14
open MarkFS14 (marks marks_len)
/-- A disk and where its files lie. -/
structure Dx where
  room : Int
  a : Option Addr
  c : Nat
  ps : List TF
/-- What is read of a disk. -/
structure RdD (w : World) (x : Dx) : Prop where
  e : x.ps.length ≠ 0 → ∃ g, x.a = some ⟨g, 0, none⟩
  r : ∀ g, x.a = some ⟨g, 0, none⟩ → g < w.heap.size ∧ AtF w g x.ps
  n : x.ps.length ≤ 1048576
theorem RdD.below {w w' : World} {x : Dx} (h : RdD w x) (k : Below w.heap.size w w') : RdD w' x := ⟨h.e, fun g e => ⟨Nat.lt_of_lt_of_le (h.r g e).1 k.size, (h.r g e).2.below k (h.r g e).1⟩, h.n⟩
/-- A disk of the call's own. -/
def OwD (w : World) (base : Nat) (x : Dx) : Prop := w.ownsRow base 69 3 (.slice x.a x.ps.length x.c) x.ps.length (flatF x.ps)
/-- It bears marks. -/
def OmD (w : World) (base : Nat) (x : Dx) : Prop := w.ownsRow base 69 3 (.slice x.a x.ps.length x.c) x.ps.length (flatF (marks 1 x.ps.length))
theorem row_step {W W' : World} {base : Nat} {e : TypeId} {m : Nat} {v : Value} {n : Nat} {vs : List Value} (h : W.ownsRow base e m v n vs) (k : Below W.heap.size W W') : W'.ownsRow base e m v n vs :=
  World.ownsRow.kept h (row := none) ⟨k.os, k.tape, k.output, k.size, fun i hi _ => k.block i hi⟩ (by
    cases hb : v.ownBlock with
    | none => exact .inl rfl
    | some g => exact .inr (by simp))
theorem addr_of {W : World} {base : Nat} {e : TypeId} {m n c : Nat} {a : Option Addr} {vs : List Value} (h : W.ownsRow base e m (.slice a n c) n vs) : (n ≠ 0 → ∃ g, a = some ⟨g, 0, none⟩) ∧ ∀ g, a = some ⟨g, 0, none⟩ → g < W.heap.size := by
  refine ⟨fun hn => ?_, fun g e => (World.ownsRow.lt h g (by rw [e]; rfl)).2⟩
  rcases h.2 with ⟨h1, _⟩ | ⟨g, c', cur, h1, _⟩
  · have : n = 0 := by simp at h1; omega
    exact absurd this hn
  · have : a = some ⟨g, 0, none⟩ ∧ c = c' := by simpa using h1
    exact ⟨g, this.1⟩
theorem OwD.rd {w : World} {base : Nat} {x : Dx} (h : OwD w base x) (hn : x.ps.length ≤ 1048576) : RdD w x := by
  refine ⟨(addr_of h).1, fun g e => ⟨(addr_of h).2 g e, ?_⟩, hn⟩
  have o := h
  unfold OwD at o
  rw [e] at o
  exact OwnF.at o
theorem OwD.step {w w' : World} {base : Nat} {x : Dx} (h : OwD w base x) (k : Below w.heap.size w w') : OwD w' base x := row_step h k
theorem OmD.step {w w' : World} {base : Nat} {x : Dx} (h : OmD w base x) (k : Below w.heap.size w w') : OmD w' base x := row_step h k
/-- The two cells of a disk in a box. -/
def Bc (w : World) (base g : Nat) (v0 v1 : Value) : Prop := w.ownsRow base 31 2 (.slice (some ⟨g, 0, none⟩) 1 1) 1 [v0, v1]
theorem Bc.made {w : World} {base g : Nat} (v0 v1 : Value) (hb : base ≤ w.heap.size) (hg : g = w.heap.size) : Bc (w.alloc (.cells #[v0, v1] 31)) base g v0 v1 := by
  subst hg
  exact ⟨rfl, .inr ⟨w.heap.size, 1, #[v0, v1], rfl, hb, heap_alloc_new w _, Nat.le_refl _, by unfold maxLen; omega, rfl, rfl⟩⟩
section
variable {w w' : World} {base g : Nat} {v0 v1 : Value}
theorem Bc.lt (h : Bc w base g v0 v1) : base ≤ g ∧ g < w.heap.size := World.ownsRow.lt h g rfl
theorem Bc.free (h : Bc w base g v0 v1) (i : Nat) : w.frozen? ⟨g, i, none⟩ = false := World.ownsRow.frozenAt h i
theorem Bc.c0 (h : Bc w base g v0 v1) : w.cell? ⟨g, 0, none⟩ = some v0 := (World.ownsRow.cellAt h 0 (by omega)).trans rfl
theorem Bc.c1 (h : Bc w base g v0 v1) : w.cell? ⟨g, 1, none⟩ = some v1 := (World.ownsRow.cellAt h 1 (by omega)).trans rfl
theorem Bc.set0 (h : Bc w base g v0 v1) (u : Value) : Bc (w.setCell ⟨g, 0, none⟩ u) base g u v1 ∧ w.grownBy (w.setCell ⟨g, 0, none⟩ u) (some g) := World.ownsRow.stored h 0 u
theorem Bc.kept {row : Option Nat} (h : Bc w base g v0 v1) (k : w.grownBy w' row) (hne : some g ≠ row) : Bc w' base g v0 v1 := World.ownsRow.kept h k (Or.inr hne)
theorem Bc.below {B : Nat} (h : Bc w base g v0 v1) (k : Below B w w') (hg : g < B) : Bc w' base g v0 v1 := by
  refine ⟨h.1, ?_⟩
  rcases h.2 with ⟨h1, _⟩ | ⟨g', c, cur, h1, h2, h3, h4⟩
  · simp at h1
  · have e : g = g' := by simp at h1; exact h1.1
    subst e
    exact .inr ⟨g, c, cur, h1, h2, (k.block g hg).trans h3, h4⟩
end
theorem row_store {w : World} {base g n cap : Nat} {xs : List TF} (h : OwnF 69 w base g n cap xs) {a : Addr} (ha : a.block < base) (u : Value) : OwnF 69 (w.setCell a u) base g n cap xs := ownsRow_setCell_below h ha u
set_option maxRecDepth 100000 in
set_option maxHeartbeats 4000000 in
/-- A copy of a disk that came in. -/
theorem toD0 (w : World) (k : Int) (a : Option Addr) (len cap : Nat) (xs : List TF) (hl : xs.length = len) (h20 : len ≤ 1048576) (hr : ReadsF w a xs) :
    Calls Try.prog 11 #[.agg #[.int .i64 k, .slice a len cap]] w fun e w' => ∃ g, e = .returned (.agg #[.int .i64 k, .slice (some ⟨g, 0, none⟩) len len]) ∧ OwnF 69 w' w.heap.size g len len xs ∧ Below w.heap.size w w' := by
  have F : ∀ W1, W1 = w.alloc (.cells #[.int .i64 k, .slice a len cap] 24) → ∀ W2, W2 = W1.alloc (.cells #[.int .i64 0, .slice none 0 0] 31) → ∀ W3, W3 = W2.alloc (.cells #[.int .i64 k, .slice none 0 0] 31) →
      Below w.heap.size w W3 ∧ Bc W3 w.heap.size (w.heap.size + 1) (.int .i64 0) (.slice none 0 0) ∧ Bc W3 w.heap.size (w.heap.size + 1 + 1) (.int .i64 k) (.slice none 0 0) ∧ W3.heap.size = w.heap.size + 3 := by
    intro W1 h1 W2 h2 W3 h3
    have s1 : W1.heap.size = w.heap.size + 1 := by rw [h1]; simp
    have s2 : W2.heap.size = w.heap.size + 1 + 1 := by rw [h2]; simp [s1]
    have s3 : W3.heap.size = w.heap.size + 3 := by rw [h3]; simp [s2]
    have b1 : Below w.heap.size w W1 := by rw [h1]; exact one_more _ _
    have b2 : Below W1.heap.size W1 W2 := by rw [h2]; exact one_more _ _
    have b3 : Below W2.heap.size W2 W3 := by rw [h3]; exact one_more _ _
    have R1 : Bc W2 w.heap.size (w.heap.size + 1) (.int .i64 0) (.slice none 0 0) := by rw [h2]; exact Bc.made _ _ (by omega) s1.symm
    have O1 : Bc W3 w.heap.size (w.heap.size + 1 + 1) (.int .i64 k) (.slice none 0 0) := by rw [h3]; exact Bc.made _ _ (by omega) s2.symm
    exact ⟨(b1.trans (b2.mono (by omega))).trans (b3.mono (by omega)), R1.below b3 (by omega), O1, s3⟩
  have G := hide (F _ rfl _ rfl _ rfl)
  have HR := hide hr
  clear F hr
  go_enter Try.func11, Try.ntmps11
  go_wp2_with fail
  refine (HelpF14.toS _ a len cap xs hl h20 ((unhide HR).below (unhide G).1)).mono ?_
  rintro e w1 ⟨rfl, o, bb⟩
  obtain ⟨BW, R0, O0, s3⟩ := unhide G
  rw [s3] at o
  have R1 := R0.below bb (by omega)
  have O1 := O0.below bb (by omega)
  have B1 := hide (BW.trans (bb.mono BW.size))
  have OX := hide o
  have z1 := bb.size
  have c0 := O1.c0
  have c1 := O1.c1
  have d0 := O1.free 0
  have d1 := O1.free 1
  have r0 := R1.c0
  have r1 := R1.c1
  have f0 := R1.free 0
  have f1 := R1.free 1
  clear bb o BW R0 O0 G HR R1 O1
  simp only [s3] at *
  go_wp2
  refine bodyPost_ret (v := .agg #[.int .i64 k, .slice (some ⟨w.heap.size + 3, 0, none⟩) len len]) (by simp [results, Try.results11, go_sem, r0, r1]) rfl ⟨w.heap.size + 3, rfl, ?_, ?_⟩
  · exact (row_store (row_store (row_store (unhide OX) (a := ⟨w.heap.size + 1 + 1, 1, none⟩) (by simp) _) (a := ⟨w.heap.size + 1, 0, none⟩) (by simp) _) (a := ⟨w.heap.size + 1, 1, none⟩) (by simp) _).rebase (by omega)
  · exact (((unhide B1).setCell (p := ⟨w.heap.size + 1 + 1, 1, none⟩) (by simp; omega) _).setCell (p := ⟨w.heap.size + 1, 0, none⟩) (by simp) _).setCell (p := ⟨w.heap.size + 1, 1, none⟩) (by simp) _
theorem toD (w : World) (room : Int) (a : Option Addr) (len cap : Nat) (ps : List TF) (hl : ps.length = len) (h20 : len ≤ 1048576) (hr : ReadsF w a ps) :
    Calls Try.prog 11 #[.agg #[.int .i64 room, .slice a len cap]] w fun e w' => ∃ x : Dx, x.room = room ∧ x.ps = ps ∧ e = .returned (.agg #[.int .i64 x.room, .slice x.a x.ps.length x.c]) ∧ OwD w' w.heap.size x ∧ Below w.heap.size w w' :=
  (toD0 w room a len cap ps hl h20 hr).mono fun e w' ⟨g, h1, h2, h3⟩ => ⟨⟨room, some ⟨g, 0, none⟩, len, ps⟩, rfl, rfl, by subst hl; exact h1, by subst hl; exact h2, h3⟩
set_option maxRecDepth 100000 in
theorem eqN (w : World) (a1 a2 : Option Addr) (c1 c2 : Nat) : Calls Try.prog 41 #[.slice a1 0 c1, .slice a2 0 c2] w fun e w' => e = .returned (.bool true) ∧ w' = w := by
  go_enter Try.func41, Try.ntmps41
  go_wp2
  go_loopw [5] (fun j wr => j = .int .i64 0 ∧ wr = w) (fun _ _ => 0)
  case atStart => exact ⟨rfl, rfl⟩
  case round =>
    obtain ⟨rfl, rfl⟩ := hrel
    go_wp2
    go_ret
    exact ⟨rfl, rfl⟩
theorem eqV (w : World) (x y : Dx) (hp : y.ps = x.ps) (hx : RdD w x) (hy : RdD w y) : Calls Try.prog 41 #[.slice x.a x.ps.length x.c, .slice y.a x.ps.length y.c] w fun e w' => e = .returned (.bool true) ∧ Below w.heap.size w w' := by
  by_cases z : x.ps.length = 0
  · rw [z]
    exact (eqN w _ _ _ _).mono fun e w' ⟨h1, h2⟩ => ⟨h1, by rw [h2]; exact Below.refl _ _⟩
  · obtain ⟨g1, e1⟩ := hx.e z
    obtain ⟨g2, e2⟩ := hy.e (by rw [hp]; exact z)
    have a1 := hx.r g1 e1
    have a2 := hy.r g2 e2
    rw [hp] at a2
    rw [e1, e2]
    exact HelpF14.eqS w g1 g2 _ _ _ x.ps rfl hx.n a1.1 a2.1 a1.2 a2.2
set_option maxRecDepth 100000 in
/-- Equal disks are told equal. -/
theorem eqD (w : World) (x y : Dx) (hr : y.room = x.room) (hp : y.ps = x.ps) (hx : RdD w x) (hy : RdD w y) :
    Calls Try.prog 14 #[.agg #[.int .i64 x.room, .slice x.a x.ps.length x.c], .agg #[.int .i64 y.room, .slice y.a y.ps.length y.c]] w fun e w' => e = .returned (.bool true) ∧ Below w.heap.size w w' := by
  have b1 := one_more w (.cells #[.int .i64 x.room, .slice x.a x.ps.length x.c] 31)
  have b2 := one_more (w.alloc (.cells #[.int .i64 x.room, .slice x.a x.ps.length x.c] 31)) (.cells #[.int .i64 y.room, .slice y.a y.ps.length y.c] 31)
  have B := hide (b1.trans (b2.mono b1.size))
  have E := hide (eqV _ x y hp (hx.below (unhide B)) (hy.below (unhide B)))
  rw [hr, hp] at B ⊢
  rw [hr, hp] at E
  have q : (x.room != x.room) = false := by simp
  clear hx hy b1 b2 hr hp
  go_enter Try.func14, Try.ntmps14
  go_wp2_with fail
  refine (unhide E).mono ?_
  rintro e u ⟨rfl, bb⟩
  have B2 := hide ((unhide B).trans (bb.mono (unhide B).size))
  clear bb
  go_wp2
  go_ret
  exact ⟨rfl, unhide B2⟩
set_option maxRecDepth 100000 in
theorem markN (w : World) (a : Option Addr) (c : Nat) (s : Int) : Calls Try.prog 42 #[.slice a 0 c, .int .i64 s] w fun e w' => e = .returned (.int .i64 s) ∧ w' = w := by
  go_enter Try.func42, Try.ntmps42
  go_wp2
  go_loopw [1, 5] (fun m j wr => m = .int .i64 s ∧ j = .int .i64 0 ∧ wr = w) (fun _ _ _ => 0)
  case atStart => exact ⟨rfl, rfl, rfl⟩
  case round =>
    obtain ⟨rfl, rfl, rfl⟩ := hrel
    go_wp2
    go_ret
    exact ⟨rfl, rfl⟩
set_option maxRecDepth 100000 in
theorem heldN (w : World) (a : Option Addr) (c : Nat) (s : Int) : Calls Try.prog 46 #[.slice a 0 c, .int .i64 s] w fun e w' => e = .returned (.int .i64 s) ∧ w' = w := by
  go_enter Try.func46, Try.ntmps46
  go_wp2
  go_loopw [1, 5] (fun m j wr => m = .int .i64 s ∧ j = .int .i64 0 ∧ wr = w) (fun _ _ _ => 0)
  case atStart => exact ⟨rfl, rfl, rfl⟩
  case round =>
    obtain ⟨rfl, rfl, rfl⟩ := hrel
    go_wp2
    go_ret
    exact ⟨rfl, rfl⟩
/-- Marks on the files of a disk, its list nil or not. -/
theorem markV (w : World) (base : Nat) (x : Dx) (hn : x.ps.length ≤ 1048576) (hb : base ≤ w.heap.size) (ho : OwD w base x) :
    Calls Try.prog 42 #[.slice x.a x.ps.length x.c, .int .i64 1] w fun e w' => e = .returned (.int .i64 (1 + 3 * (x.ps.length : Int))) ∧ OmD w' base x ∧ w.grownBy w' (Value.slice x.a x.ps.length x.c).ownBlock := by
  unfold OwD at ho
  unfold OmD
  generalize hl : x.ps.length = n at *
  generalize x.a = a at *
  generalize x.c = c at *
  have ho' := ho
  rcases ho.2 with ⟨h1, h2⟩ | ⟨g, c', cur, h1, _⟩
  · obtain ⟨rfl, _, rfl⟩ : a = none ∧ n = 0 ∧ c = 0 := by simpa using h1
    subst h2
    exact (markN w _ _ 1).mono fun e w' ⟨q1, q2⟩ => ⟨by rw [q1]; simp, by rw [q2]; exact World.ownsRow_nil w base _ _, by rw [q2]; exact World.grownBy.refl _ _⟩
  · obtain ⟨rfl, rfl⟩ : a = some ⟨g, 0, none⟩ ∧ c = c' := by simpa using h1
    exact MarkFS14.markS w base g n c 1 x.ps hn (by omega) (by omega) hb ho'
theorem heldV (w : World) (base : Nat) (x : Dx) (hn : x.ps.length ≤ 1048576) (ho : OmD w base x) :
    Calls Try.prog 46 #[.slice x.a x.ps.length x.c, .int .i64 1] w fun e w' => e = .returned (.int .i64 (1 + 3 * (x.ps.length : Int))) ∧ Below w.heap.size w w' := by
  unfold OmD at ho
  generalize hl : x.ps.length = n at *
  generalize x.a = a at *
  generalize x.c = c at *
  have ho' := ho
  rcases ho.2 with ⟨h1, h2⟩ | ⟨g, c', cur, h1, _⟩
  · obtain ⟨rfl, _, rfl⟩ : a = none ∧ n = 0 ∧ c = 0 := by simpa using h1
    subst h2
    exact (heldN w _ _ 1).mono fun e w' ⟨q1, q2⟩ => ⟨by rw [q1]; simp, by rw [q2]; exact Below.refl _ _⟩
  · obtain ⟨rfl, rfl⟩ : a = some ⟨g, 0, none⟩ ∧ c = c' := by simpa using h1
    exact MarkFS14.heldS w g n c 1 hn (by omega) (by omega) (OwnF.lt ho').2 (OwnF.at ho')
/-- What marks on a disk may turn: its own list alone. -/
structure TurnD (x : Dx) (w w' : World) : Prop where
  os : w'.os = w.os
  tape : w'.tape = w.tape
  output : w'.output = w.output
  size : w.heap.size ≤ w'.heap.size
  block : ∀ k, k < w.heap.size → some k ≠ (Value.slice x.a x.ps.length x.c).ownBlock → w'.heap[k]? = w.heap[k]?
theorem TurnD.below {x : Dx} {w w' : World} {base : Nat} (h : TurnD x w w') (o : OwD w base x) (hb : base ≤ w.heap.size) : Below base w w' :=
  ⟨h.os, h.tape, h.output, h.size, fun j hj => h.block j (by omega) (fun e => by have := (World.ownsRow.lt o j e.symm).1; omega)⟩
set_option maxRecDepth 100000 in
theorem markD (w : World) (base : Nat) (x : Dx) (hn : x.ps.length ≤ 1048576) (hb : base ≤ w.heap.size) (ho : OwD w base x) :
    Calls Try.prog 15 #[.agg #[.int .i64 x.room, .slice x.a x.ps.length x.c], .int .i64 1] w fun e w' => e = .returned (.int .i64 (1 + 3 * (x.ps.length : Int))) ∧ OmD w' base x ∧ TurnD x w w' := by
  have b1 := one_more w (.cells #[.int .i64 x.room, .slice x.a x.ps.length x.c] 31)
  have M := hide (markV _ base x hn (Nat.le_trans hb b1.size) (ho.step b1))
  have B1 := hide b1
  clear ho b1
  go_enter Try.func15, Try.ntmps15
  go_wp2_with fail
  refine (unhide M).mono ?_
  rintro e u ⟨rfl, o, gr⟩
  have O := hide o
  have T := hide (show TurnD x w u from ⟨gr.os.trans (unhide B1).os, gr.tape.trans (unhide B1).tape, gr.output.trans (unhide B1).output, Nat.le_trans (unhide B1).size gr.size, fun k hk ne => (gr.block k (Nat.lt_of_lt_of_le hk (unhide B1).size) ne).trans ((unhide B1).block k hk)⟩)
  clear o gr M
  go_wp2
  go_ret
  exact ⟨rfl, unhide O, unhide T⟩
set_option maxRecDepth 100000 in
theorem heldD (w : World) (base : Nat) (x : Dx) (hn : x.ps.length ≤ 1048576) (ho : OmD w base x) :
    Calls Try.prog 20 #[.agg #[.int .i64 x.room, .slice x.a x.ps.length x.c], .int .i64 1] w fun e w' => e = .returned (.int .i64 (1 + 3 * (x.ps.length : Int))) ∧ Below w.heap.size w w' := by
  have b1 := one_more w (.cells #[.int .i64 x.room, .slice x.a x.ps.length x.c] 31)
  have M := hide (heldV _ base x hn (ho.step b1))
  have B1 := hide b1
  have q : ¬ (1 + 3 * (x.ps.length : Int) < 0) := by omega
  clear ho b1
  go_enter Try.func20, Try.ntmps20
  go_wp2_with fail
  refine (unhide M).mono ?_
  rintro e u ⟨rfl, bb⟩
  have B2 := hide ((unhide B1).trans (bb.mono (unhide B1).size))
  clear bb M
  go_wp2
  go_ret
  exact ⟨rfl, unhide B2⟩
end Go.Proofs.Yticofefdbjihiaa.DkH14
namespace Go.Proofs.Yticofefdbjihiaa.SDk14
open Go.ChangeShapes Go.WideShapes Go.ChangeAt Go.RowKit Fil14 OpensF14 DiskH14 DkH14
/-- Where a file of this name stands, or -1. -/
def findF (ps : List TF) (nm : Int) : Int := match ps.findIdx? (fun p => p.1 == nm) with | some i => i | none => -1
theorem sumZ_le (ps : List TF) (k : Nat) : sumZ (ps.take k) ≤ sumZ ps := by
  have := sumZ_append (ps.take k) (ps.drop k)
  rw [List.take_append_drop] at this
  omega
theorem cells_of {w : World} {x : Dx} (h : RdD w x) {k : Nat} (hk : k < x.ps.length) : ∃ g, x.a = some ⟨g, 0, none⟩ ∧ g < w.heap.size ∧ HoldsF w g (k * 3) (elF x.ps k) := by
  obtain ⟨g, e⟩ := h.e (by omega)
  exact ⟨g, e, (h.r g e).1, (h.r g e).2 k hk⟩
/-- A world in which a call keeps its disk in a box at the call's head. -/
structure Wd (w wr : World) (x : Dx) : Prop where
  c0 : wr.cell? ⟨w.heap.size, 0, none⟩ = some (.int .i64 x.room)
  c1 : wr.cell? ⟨w.heap.size, 1, none⟩ = some (.slice x.a x.ps.length x.c)
  lt : w.heap.size < wr.heap.size
  b : Below w.heap.size w wr
  r : RdD wr x
theorem Wd.made {w : World} {x : Dx} (hr : RdD w x) (t : TypeId) : Wd w (w.alloc (.cells #[.int .i64 x.room, .slice x.a x.ps.length x.c] t)) x :=
  ⟨by simp [go_sem], by simp [go_sem], by simp, one_more _ _, hr.below (one_more _ _)⟩
theorem Wd.step {w wr wz : World} {x : Dx} (h : Wd w wr x) (k : Below wr.heap.size wr wz) : Wd w wz x :=
  ⟨(k.cell (p := ⟨w.heap.size, 0, none⟩) h.lt).trans h.c0, (k.cell (p := ⟨w.heap.size, 1, none⟩) h.lt).trans h.c1, Nat.lt_of_lt_of_le h.lt k.size, h.b.trans (k.mono h.b.size), h.r.below k⟩
theorem Wd.drew {w wr : World} {x : Dx} (h : Wd w wr x) : Wd w wr.drew x := h.step (Below.refl _ _).drew
set_option maxRecDepth 100000 in
set_option maxHeartbeats 4000000 in
theorem sSize (w : World) (x : Dx) (hr : RdD w x) (hz : sumZ x.ps ≤ 1048576) :
    Calls Try.prog 79 #[.agg #[.int .i64 x.room, .slice x.a x.ps.length x.c]] w fun e w' => e = .returned (.int .i64 (sumZ x.ps)) ∧ Below w.heap.size w w' := by
  have W0 := hide (Wd.made hr 31)
  have h20 := hr.n
  clear hr
  go_enter Try.func79, Try.ntmps79
  go_wp2
  go_loopw [3, 4] (fun n i wr => ∃ (k : Nat) (y : Int), k ≤ x.ps.length ∧ i = .int .i64 k ∧ n = .int .i64 y ∧ 0 ≤ y ∧ y ≤ 1048576 ∧ Hid (y = sumZ (x.ps.take k)) ∧ Hid (Wd w wr x)) (fun _ i _ => x.ps.length - (intOf i).toNat)
  case atStart => exact ⟨0, 0, by omega, rfl, rfl, by omega, by omega, hide (by simp [sumZ]), W0⟩
  case round =>
    clear W0
    obtain ⟨k, y, hk, rfl, rfl, y0, y1, HY, HW⟩ := hrel
    have c1 := (unhide HW).c1
    have lt := (unhide HW).lt
    by_cases t : k < x.ps.length
    · have kt : (k : Int) < x.ps.length := by omega
      have NX := sumZ_next t
      have LE := sumZ_le x.ps (k + 1)
      have YE := unhide HY
      obtain ⟨g, ea, lg, d0, d1, d2⟩ := cells_of (unhide HW).r t
      generalize (elF x.ps k).1 = z0 at *
      generalize (elF x.ps k).2.1 = z1 at *
      generalize (elF x.ps k).2.2 = z2 at *
      have b1 : (z1.size : Int) ≤ 1048576 := by omega
      have b2 : y + z1.size + z2.size ≤ 1048576 := by omega
      have a1 : wrap64 (y + z1.size) = y + z1.size := by rw [wrap64]; omega
      have a2 : wrap64 (y + z1.size + z2.size) = y + z1.size + z2.size := by rw [wrap64]; omega
      have NY := hide (show y + z1.size + z2.size = sumZ (x.ps.take (k + 1)) by omega)
      clear NX LE YE
      rw [ea] at c1
      go_wp2_with fail
      go_region
      go_wp2
      go_roundw
      case rel => exact ⟨k + 1, y + z1.size + z2.size, by omega, by go_num, rfl, by omega, by omega, NY, (unhide HW).drew⟩
      case measure => simp [intOf]; omega
    · have e : k = x.ps.length := by omega
      have E := hide (show y = sumZ x.ps by have := unhide HY; rw [e, List.take_length] at this; exact this)
      have kt : ¬ (k : Int) < x.ps.length := by omega
      clear HY
      subst e
      go_wp2
      go_ret
      exact ⟨congrArg (fun z => Ending.returned (.int .i64 z)) (unhide E), (unhide HW).b⟩
theorem elF_get {ps : List TF} {k : Nat} (hk : k < ps.length) : elF ps k = ps[k] := by simp [List.getD, hk]
theorem findF_at {ps : List TF} {nm : Int} {k : Nat} (hk : k < ps.length) (h : ∀ j, j < k → (elF ps j).1 ≠ nm) (e : (elF ps k).1 = nm) : findF ps nm = k := by
  have : ps.findIdx? (fun p => p.1 == nm) = some k := by
    rw [List.findIdx?_eq_some_iff_getElem]
    refine ⟨hk, by rw [elF_get hk] at e; simp [e], fun j hj => ?_⟩
    have := h j hj
    rw [elF_get (by omega)] at this
    simp [this]
  unfold findF
  rw [this]
theorem findF_no {ps : List TF} {nm : Int} (h : ∀ j, j < ps.length → (elF ps j).1 ≠ nm) : findF ps nm = -1 := by
  have : ps.findIdx? (fun p => p.1 == nm) = none := by
    rw [List.findIdx?_eq_none_iff]
    intro q hq
    obtain ⟨i, hi, rfl⟩ := List.getElem_of_mem hq
    have := h i hi
    rw [elF_get hi] at this
    simp [this]
  unfold findF
  rw [this]
theorem findF_in {ps : List TF} {nm : Int} (h : 0 ≤ findF ps nm) : ∃ k : Nat, findF ps nm = k ∧ k < ps.length ∧ (elF ps k).1 = nm := by
  unfold findF at *
  cases q : ps.findIdx? (fun p => p.1 == nm) with
  | none => rw [q] at h; simp at h
  | some i =>
    rw [List.findIdx?_eq_some_iff_getElem] at q
    obtain ⟨hi, e, _⟩ := q
    exact ⟨i, rfl, hi, by rw [elF_get hi]; simpa using e⟩
set_option maxRecDepth 100000 in
set_option maxHeartbeats 4000000 in
theorem sFind (w : World) (x : Dx) (nm : Int) (hr : RdD w x) :
    Calls Try.prog 54 #[.agg #[.int .i64 x.room, .slice x.a x.ps.length x.c], .int .i64 nm] w fun e w' => e = .returned (.int .i64 (findF x.ps nm)) ∧ Below w.heap.size w w' := by
  have W0 := hide (Wd.made hr 31)
  have h20 := hr.n
  clear hr
  go_enter Try.func54, Try.ntmps54
  go_wp2
  go_loopw [5] (fun i wr => ∃ (k : Nat), k ≤ x.ps.length ∧ i = .int .i64 k ∧ Hid (∀ j, j < k → (elF x.ps j).1 ≠ nm) ∧ Hid (Wd w wr x)) (fun i _ => x.ps.length - (intOf i).toNat)
  case atStart => exact ⟨0, by omega, rfl, hide (fun j h => absurd h (by omega)), W0⟩
  case round =>
    clear W0
    obtain ⟨k, hk, rfl, HY, HW⟩ := hrel
    have c1 := (unhide HW).c1
    have lt := (unhide HW).lt
    by_cases t : k < x.ps.length
    · have kt : (k : Int) < x.ps.length := by omega
      have AT := hide (fun e => findF_at t (unhide HY) e)
      have NO := hide (fun (e : ¬ (elF x.ps k).1 = nm) j (h : j < k + 1) => show (elF x.ps j).1 ≠ nm from by
        by_cases q : j = k
        · subst q; exact e
        · exact (unhide HY) j (by omega))
      obtain ⟨g, ea, lg, d0, d1, d2⟩ := cells_of (unhide HW).r t
      generalize (elF x.ps k).1 = z0 at *
      clear HY d1 d2
      rw [ea] at c1
      by_cases q : z0 = nm
      · have A := hide ((unhide AT) q)
        clear AT NO
        subst q
        go_wp2
        go_ret
        exact ⟨congrArg (fun z => Ending.returned (.int .i64 z)) (unhide A).symm, (unhide HW).b⟩
      · have N := hide ((unhide NO) q)
        clear AT NO
        go_wp2
        go_roundw
        case rel => exact ⟨k + 1, by omega, by go_num, N, HW⟩
        case measure => simp [intOf]; omega
    · have e : k = x.ps.length := by omega
      have E := hide (show findF x.ps nm = -1 from findF_no (by rw [← e]; exact unhide HY))
      clear HY
      subst e
      go_wp2
      go_ret
      exact ⟨congrArg (fun z => Ending.returned (.int .i64 z)) (unhide E).symm, (unhide HW).b⟩
end Go.Proofs.Yticofefdbjihiaa.SDk14
