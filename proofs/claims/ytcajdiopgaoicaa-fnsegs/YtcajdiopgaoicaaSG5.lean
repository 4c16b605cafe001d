/- Texts of one proof, one behind the other: LawM15, Pairs, Draw, SPuts11, Draw11, Code11, DrawS11, DrawT14, Pure14, SAppend14, SSync14, SMove14. -/
import Derived.Test.YtcajdiopgaoicaaRows
import Derived.Test.YtcajdiopgaoicaaSG1
import Derived.Test.YtcajdiopgaoicaaSG2
import Derived.Test.YtcajdiopgaoicaaSG3
import Derived.Test.YtcajdiopgaoicaaSG4
import Derived.WalkKit
import Derived.ProofKit
import Derived.OpenShut
import Derived.Below
import Derived.BigQuiet
import Derived.Laws.BytesArg
import Derived.Deep.RegionHeld3
set_option linter.unusedVariables false
set_option linter.unusedSimpArgs false
namespace Go.Proofs.Ytcajdiopgaoicaa.LawM15
open Go.ChangeShapes Go.WideShapes Go.ChangeAt Go.RowKit
open Fil14 (TF elF hide unhide)
open DiskH14 (sumZ one_more)
open SOk14 (OkD okN)
open DkH14 (Dx RdD OwD)
open Law14 (Kd)
/-- A disk in a box, its files there. -/
structure Kr (W : World) (g : Nat) (x : Dx) : Prop where
  k : Kd W g x
  r : RdD W x
theorem Kr.step {W W' : World} {g : Nat} {x : Dx} (h : Kr W g x) (b : Below W.heap.size W W') : Kr W' g x := ⟨h.k.step b, h.r.below b⟩
theorem Kr.made {u : World} {x : Dx} (h : RdD u x) (e : TypeId) : Kr (u.alloc (.cells #[.int .i64 x.room, .slice x.a x.ps.length x.c] e)) u.heap.size x := ⟨Kd.made u x e, h.below (one_more u _)⟩
theorem ok_small {room : Int} {ps : List TF} (h : OkD room ps) : ps.length ≤ 22 ∧ sumZ ps ≤ 1048576 := ⟨h.2.1, by have := h.1; have := h.2.2.1; omega⟩
theorem two {a c : Int} {b d : List TF} (h : (a, b) = (c, d)) : a = c ∧ b = d := Prod.mk.inj h
end Go.Proofs.Ytcajdiopgaoicaa.LawM15
namespace Go.Proofs.Ytcajdiopgaoicaa.Pairs
open Go.ChangeShapes Go.WideShapes Go.ChangeAt Go.RowKit
theorem hide {p : Prop} (h : p) : Hid p := h
theorem unhide {p : Prop} (h : Hid p) : p := h
/-- The cells of a list of pairs. -/
def flat (ps : List (Int × Int)) : List Value := ps.flatMap fun p => [.int .i64 p.1, .int .i64 p.2]
theorem flat_cons (p : Int × Int) (ps : List (Int × Int)) : flat (p :: ps) = .int .i64 p.1 :: .int .i64 p.2 :: flat ps := rfl
theorem flat_len (ps : List (Int × Int)) : (flat ps).length = ps.length * 2 := by
  induction ps with
  | nil => rfl
  | cons p ps ih => rw [flat_cons]; simp [ih]; omega
theorem flat_get (ps : List (Int × Int)) : ∀ i, i < ps.length → (flat ps)[i * 2]? = some (.int .i64 (ps.getD i (0, 0)).1) ∧ (flat ps)[i * 2 + 1]? = some (.int .i64 (ps.getD i (0, 0)).2) := by
  induction ps with
  | nil => intro i h; simp at h
  | cons p ps ih =>
    intro i h
    cases i with
    | zero => rw [flat_cons]; simp
    | succ i =>
      have := ih i (by simpa using h)
      rw [flat_cons, show (i + 1) * 2 = i * 2 + 2 by omega, show i * 2 + 2 + 1 = (i * 2 + 1) + 2 by omega]
      simpa using this
theorem flat_set0 (ps : List (Int × Int)) : ∀ (i : Nat) (x : Int), (flat ps).set (i * 2) (.int .i64 x) = flat (ps.modify i fun p => (x, p.2)) := by
  induction ps with
  | nil => intro i x; simp [flat]
  | cons p ps ih =>
    intro i x
    cases i with
    | zero => simp [flat_cons]
    | succ i =>
      rw [flat_cons, show (i + 1) * 2 = i * 2 + 1 + 1 by omega, List.set_cons_succ, List.set_cons_succ, ih i x, List.modify_succ_cons, flat_cons]
theorem flat_set1 (ps : List (Int × Int)) : ∀ (i : Nat) (x : Int), (flat ps).set (i * 2 + 1) (.int .i64 x) = flat (ps.modify i fun p => (p.1, x)) := by
  induction ps with
  | nil => intro i x; simp [flat]
  | cons p ps ih =>
    intro i x
    cases i with
    | zero => simp [flat_cons]
    | succ i =>
      rw [flat_cons, show (i + 1) * 2 + 1 = i * 2 + 1 + 1 + 1 by omega, List.set_cons_succ, List.set_cons_succ, ih i x, List.modify_succ_cons, flat_cons]
/-- The pairs of a list of the call's own: block g from its head on. -/
def At (w : World) (g : Nat) (ps : List (Int × Int)) : Prop :=
  ∀ i, i < ps.length → w.cell? ⟨g, i * 2, none⟩ = some (.int .i64 (ps.getD i (0, 0)).1) ∧ w.cell? ⟨g, i * 2 + 1, none⟩ = some (.int .i64 (ps.getD i (0, 0)).2)
/-- A list that came in, or any other one: nothing is asked where it is empty. -/
def Reads (w : World) (a : Option Addr) (ps : List (Int × Int)) : Prop :=
  ps.length = 0 ∨ ∃ b off, a = some ⟨b, off, none⟩ ∧ b < w.heap.size ∧ ∀ i, i < ps.length → w.cell? ⟨b, off + i * 2, none⟩ = some (.int .i64 (ps.getD i (0, 0)).1) ∧ w.cell? ⟨b, off + i * 2 + 1, none⟩ = some (.int .i64 (ps.getD i (0, 0)).2)
/-- A list of the call's own of elements of type e, from block number base on. -/
def Own (e : TypeId) (w : World) (base g n cap : Nat) (ps : List (Int × Int)) : Prop := w.ownsRow base e 2 (.slice (some ⟨g, 0, none⟩) n cap) n (flat ps)
section
variable {e : TypeId} {w w' : World} {base base' g n cap : Nat} {ps : List (Int × Int)}
theorem Own.len (h : Own e w base g n cap ps) : ps.length = n := by
  have := h.1
  rw [flat_len] at this
  omega
theorem Own.lt (h : Own e w base g n cap ps) : base ≤ g ∧ g < w.heap.size := World.ownsRow.lt h g rfl
theorem Own.at (h : Own e w base g n cap ps) : At w g ps := by
  intro i hi
  have hl := h.len
  have g0 := World.ownsRow.cellAt h (i * 2) (by omega)
  have g1 := World.ownsRow.cellAt h (i * 2 + 1) (by omega)
  obtain ⟨f0, f1⟩ := flat_get ps i hi
  exact ⟨g0.trans f0, g1.trans f1⟩
theorem Own.free (h : Own e w base g n cap ps) (i : Nat) : w.frozen? ⟨g, i, none⟩ = false := World.ownsRow.frozenAt h i
theorem Own.kept {row : Option Nat} (h : Own e w base g n cap ps) (k : w.grownBy w' row) (hne : some g ≠ row) : Own e w' base g n cap ps :=
  World.ownsRow.kept h k (Or.inr hne)
theorem Own.below {B : Nat} (h : Own e w base g n cap ps) (k : Below B w w') (hg : g < B) : Own e w' base g n cap ps := by
  refine ⟨h.1, ?_⟩
  rcases h.2 with ⟨h1, _⟩ | ⟨g', c, cur, h1, h2, h3, h4⟩
  · simp at h1
  · obtain ⟨e, _⟩ : g = g' ∧ cap = c := by simpa using h1
    subst e
    exact Or.inr ⟨g, c, cur, h1, h2, by rw [k.block g hg]; exact h3, h4⟩
theorem Own.alloc (h : Own e w base g n cap ps) (o : Obj) : Own e (w.alloc o) base g n cap ps := World.ownsRow.alloc h o
theorem Own.drew (h : Own e w base g n cap ps) : Own e w.drew base g n cap ps := h
theorem At.below {B : Nat} (h : At w g ps) (k : Below B w w') (hg : g < B) : At w' g ps := fun i hi =>
  ⟨(k.cell (p := ⟨g, i * 2, none⟩) hg).trans (h i hi).1, (k.cell (p := ⟨g, i * 2 + 1, none⟩) hg).trans (h i hi).2⟩
theorem Reads.below {a : Option Addr} (h : Reads w a ps) (k : Below w.heap.size w w') : Reads w' a ps := by
  rcases h with h | ⟨b, off, rfl, hb, hc⟩
  · exact Or.inl h
  · exact Or.inr ⟨b, off, rfl, Nat.lt_of_lt_of_le hb k.size, fun i hi => ⟨(k.cell (p := ⟨b, off + i * 2, none⟩) hb).trans (hc i hi).1, (k.cell (p := ⟨b, off + i * 2 + 1, none⟩) hb).trans (hc i hi).2⟩⟩
/-- A store into the first or the second cell of an element. -/
theorem Own.set0 (h : Own e w base g n cap ps) (i : Nat) (x : Int) :
    Own e (w.setCell ⟨g, i * 2, none⟩ (.int .i64 x)) base g n cap (ps.modify i fun p => (x, p.2)) ∧ w.grownBy (w.setCell ⟨g, i * 2, none⟩ (.int .i64 x)) (some g) := by
  have := World.ownsRow.stored h (i * 2) (.int .i64 x)
  refine ⟨?_, this.2⟩
  unfold Own
  rw [← flat_set0]
  exact this.1
theorem Own.set1 (h : Own e w base g n cap ps) (i : Nat) (x : Int) :
    Own e (w.setCell ⟨g, i * 2 + 1, none⟩ (.int .i64 x)) base g n cap (ps.modify i fun p => (p.1, x)) ∧ w.grownBy (w.setCell ⟨g, i * 2 + 1, none⟩ (.int .i64 x)) (some g) := by
  have := World.ownsRow.stored h (i * 2 + 1) (.int .i64 x)
  refine ⟨?_, this.2⟩
  unfold Own
  rw [← flat_set1]
  exact this.1
end
/-- Two steps, each of which turns nothing that was there. -/
theorem next {a b c : World} (h : Below a.heap.size a b) (k : Below b.heap.size b c) : Below a.heap.size a c := h.trans (k.mono h.size)
/-- The cells of a list, as an append takes them. -/
theorem At.cells {w : World} {g : Nat} {ps : List (Int × Int)} (h : At w g ps) : ∀ (j : Nat) (u : Value), (flat ps)[j]? = some u → w.cell? ((⟨g, 0, none⟩ : Addr).add j) = some u := by
  intro j u hj
  have hl : j < ps.length * 2 := by
    have := (List.getElem?_eq_some_iff.1 hj).1
    rw [flat_len] at this
    exact this
  rw [Addr.add_lit, Nat.zero_add]
  obtain ⟨c0, c1⟩ := h (j / 2) (by omega)
  obtain ⟨f0, f1⟩ := flat_get ps (j / 2) (by omega)
  rcases (show j % 2 = 0 ∨ j % 2 = 1 by omega) with e | e
  · rw [show j / 2 * 2 = j by omega] at c0 f0
    rw [c0, ← hj, f0]
  · rw [show j / 2 * 2 + 1 = j by omega] at c1 f1
    rw [c1, ← hj, f1]
end Go.Proofs.Ytcajdiopgaoicaa.Pairs
namespace Go.Proofs.Ytcajdiopgaoicaa.Draw
open Go.ChangeShapes Go.WideShapes Go.ChangeAt Go.RowKit Pairs
/-- The bytes that came in, as cells of the world in which the law began. -/
def CodeAt (w : World) (a : Option Addr) (len : Nat) : Prop :=
  len = 0 ∨ ∃ (b off : Nat) (zs : List Int), a = some ⟨b, off, none⟩ ∧ b < w.heap.size ∧ ∀ i, i < len → w.cell? ⟨b, off + i, none⟩ = some (.int .u8 (zs.getD i 0)) ∧ 0 ≤ zs.getD i 0 ∧ zs.getD i 0 ≤ 255
theorem CodeAt.below {w w' : World} {a : Option Addr} {len : Nat} (h : CodeAt w a len) (k : Below w.heap.size w w') : CodeAt w' a len := by
  rcases h with h | ⟨b, off, zs, rfl, hb, hc⟩
  · exact Or.inl h
  · exact Or.inr ⟨b, off, zs, rfl, Nat.lt_of_lt_of_le hb k.size, fun i hi => ⟨(k.cell (p := ⟨b, off + i, none⟩) hb).trans (hc i hi).1, (hc i hi).2⟩⟩
/-- A number of 64 bits with a sign. -/
def In64 (x : Int) : Prop := -9223372036854775808 ≤ x ∧ x ≤ 9223372036854775807
/-- The cursor, in a block of the call's own. -/
structure Cur (w0 w : World) (c : Nat) (a : Option Addr) (len cap : Nat) : Prop where
  bel : Below w0.heap.size w0 w
  lo : w0.heap.size ≤ c
  hi : c < w.heap.size
  cb : w.cell? ⟨c, 0, none⟩ = some (.slice a len cap)
  ci : ∃ i : Nat, i ≤ len ∧ w.cell? ⟨c, 1, none⟩ = some (.int .i64 i)
  ch : ∃ h : Int, w.cell? ⟨c, 2, none⟩ = some (.int .i64 h) ∧ In64 h
  f1 : w.frozen? ⟨c, 1, none⟩ = false
  f2 : w.frozen? ⟨c, 2, none⟩ = false
theorem in64_wrap (n : Int) : In64 (wrap64 n) := by unfold In64 wrap64; omega
theorem i64_and255 (n : Int) : bits BinOp.and IntKind.i64 n 255 = n % 256 := by
  have h1 : (BitVec.ofInt 64 255).toNat = 2 ^ 8 - 1 := by decide
  have key : (BitVec.ofInt 64 n &&& BitVec.ofInt 64 255).toNat = (n % ((2 ^ 64 : Nat) : Int)).toNat % 2 ^ 8 := by
    rw [BitVec.toNat_and, BitVec.toNat_ofInt, h1, Nat.and_two_pow_sub_one_eq_mod]
  show IntKind.i64.wrap ((BitVec.ofInt 64 n &&& BitVec.ofInt 64 255).toNat : Nat) = n % 256
  rw [key, IntKind.wrap_i64]
  omega
theorem i64_and30 (n : Int) : bits BinOp.and IntKind.i64 n 1073741823 = n % 1073741824 := by
  have h1 : (BitVec.ofInt 64 1073741823).toNat = 2 ^ 30 - 1 := by decide
  have key : (BitVec.ofInt 64 n &&& BitVec.ofInt 64 1073741823).toNat = (n % ((2 ^ 64 : Nat) : Int)).toNat % 2 ^ 30 := by
    rw [BitVec.toNat_and, BitVec.toNat_ofInt, h1, Nat.and_two_pow_sub_one_eq_mod]
  show IntKind.i64.wrap ((BitVec.ofInt 64 n &&& BitVec.ofInt 64 1073741823).toNat : Nat) = n % 1073741824
  rw [key, IntKind.wrap_i64]
  omega
/-- From w to w' no block has turned but the one numbered c. -/
def Only (c : Nat) (w w' : World) : Prop := w.heap.size ≤ w'.heap.size ∧ ∀ k, k < w.heap.size → k ≠ c → w'.heap[k]? = w.heap[k]?
theorem Only.refl (c : Nat) (w : World) : Only c w w := ⟨Nat.le_refl _, fun _ _ _ => rfl⟩
theorem Only.trans {c : Nat} {u v w : World} (h : Only c u v) (k : Only c v w) : Only c u w :=
  ⟨Nat.le_trans h.1 k.1, fun i hi hc => (k.2 i (Nat.lt_of_lt_of_le hi h.1) hc).trans (h.2 i hi hc)⟩
theorem Only.drew {c : Nat} {u w : World} (h : Only c u w) : Only c u w.drew := h
theorem Only.setCell {c : Nat} {u w : World} (h : Only c u w) (o : Nat) (v : Value) : Only c u (w.setCell ⟨c, o, none⟩ v) := by
  refine ⟨by simpa [World.setCell] using h.1, fun k hk hc => ?_⟩
  rw [Below.heap_setCell _ _ _ _ hc]
  exact h.2 k hk hc
theorem Only.cell {c : Nat} {w w' : World} (h : Only c w w') {p : Addr} (hp : p.block < w.heap.size) (hc : p.block ≠ c) : w'.cell? p = w.cell? p :=
  World.cell?_of_block (w := w) (h.2 p.block hp hc)
theorem Cur.drew {w0 w : World} {c : Nat} {a : Option Addr} {len cap : Nat} (h : Cur w0 w c a len cap) : Cur w0 w.drew c a len cap :=
  ⟨h.bel.drew, h.lo, h.hi, h.cb, h.ci, h.ch, h.f1, h.f2⟩
theorem Cur.setH {w0 w : World} {c : Nat} {a : Option Addr} {len cap : Nat} (h : Cur w0 w c a len cap) (x : Int) (hx : In64 x) : Cur w0 (w.setCell ⟨c, 2, none⟩ (.int .i64 x)) c a len cap := by
  obtain ⟨bel, lo, hi, cb, ⟨i, hi1, ci⟩, ⟨y, ch, hy⟩, f1, f2⟩ := h
  refine ⟨bel.setCell lo _, lo, by simpa [World.setCell] using hi, ?_, ⟨i, hi1, ?_⟩, ⟨x, ?_, hx⟩, ?_, ?_⟩
  · exact (World.cell?_setCell_other _ _ _ _ (by simp)).trans cb
  · exact (World.cell?_setCell_other _ _ _ _ (by simp)).trans ci
  · exact World.cell?_setCell_same _ _ _ ch
  · rw [World.frozen?_setCell]; exact f1
  · rw [World.frozen?_setCell]; exact f2
theorem Cur.setI {w0 w : World} {c : Nat} {a : Option Addr} {len cap : Nat} (h : Cur w0 w c a len cap) (i : Nat) (hi' : i ≤ len) : Cur w0 (w.setCell ⟨c, 1, none⟩ (.int .i64 i)) c a len cap := by
  obtain ⟨bel, lo, hi, cb, ⟨j, hi1, ci⟩, ⟨y, ch, hy⟩, f1, f2⟩ := h
  refine ⟨bel.setCell lo _, lo, by simpa [World.setCell] using hi, ?_, ⟨i, hi', ?_⟩, ⟨y, ?_, hy⟩, ?_, ?_⟩
  · exact (World.cell?_setCell_other _ _ _ _ (by simp)).trans cb
  · exact World.cell?_setCell_same _ _ _ ci
  · exact (World.cell?_setCell_other _ _ _ _ (by simp)).trans ch
  · rw [World.frozen?_setCell]; exact f1
  · rw [World.frozen?_setCell]; exact f2
set_option maxRecDepth 100000 in
theorem byte (w0 w : World) (c : Nat) (a : Option Addr) (len cap : Nat) (hl : len ≤ 1048576) (hcode : CodeAt w0 a len) (h : Cur w0 w c a len cap) :
    Calls Try.prog 69 #[.pointer (some ⟨c, 0, none⟩)] w fun e w' => (∃ x : Int, 0 ≤ x ∧ x ≤ 255 ∧ e = .returned (.int .i64 x)) ∧ Cur w0 w' c a len cap ∧ Only c w w' := by
  have h' := hide h
  obtain ⟨bel, lo, hi, cb, ⟨i, hi1, ci⟩, ⟨x, ch, hx⟩, f1, f2⟩ := h
  by_cases t : i < len
  · rcases hcode with hz | ⟨b, off, zs, rfl, hb, hcell⟩
    · omega
    obtain ⟨k1, k2, k3⟩ := hcell i t
    rw [← bel.cell (p := ⟨b, off + i, none⟩) hb] at k1
    generalize zs.getD i 0 = z at k1 k2 k3
    have hne : ¬ b = c := by omega
    clear hcell
    go_enter Try.func69, Try.ntmps69
    go_wp2
    go_region
    go_wp2
    go_region
    go_wp2
    go_region
    go_wp2
    go_ret
    refine ⟨⟨_, ?_, ?_, rfl⟩, ?_, ?_⟩
    · rw [i64_and255]; omega
    · rw [i64_and255]; omega
    · exact (((((unhide h').setH _ (in64_wrap _)).setI (i + 1) (by omega)).drew).drew).drew
    · exact ((((Only.refl c w).setCell 2 _).setCell 1 _).drew.drew).drew
  · go_enter Try.func69, Try.ntmps69
    go_wp2
    go_region
    go_wp2
    go_region
    go_wp2
    go_ret
    refine ⟨⟨_, ?_, ?_, rfl⟩, ?_, ?_⟩
    · rw [i64_and255]; omega
    · rw [i64_and255]; omega
    · exact (((unhide h').setH _ (in64_wrap _)).drew).drew
    · exact (((Only.refl c w).setCell 2 _).drew).drew
/-- What a drawing step leaves: the cursor, and all else as it was. -/
def Moved (w0 w w' : World) (c : Nat) (a : Option Addr) (len cap : Nat) : Prop := Cur w0 w' c a len cap ∧ Only c w w'
theorem Moved.trans {w0 u v w : World} {c : Nat} {a : Option Addr} {len cap : Nat} (h : Moved w0 u v c a len cap) (k : Moved w0 v w c a len cap) : Moved w0 u w c a len cap :=
  ⟨k.1, h.2.trans k.2⟩
set_option maxRecDepth 100000 in
theorem below_small (w0 w : World) (c : Nat) (a : Option Addr) (len cap : Nat) (n : Int) (hl : len ≤ 1048576) (hcode : CodeAt w0 a len) (h : Cur w0 w c a len cap) (n0 : 1 ≤ n) (n1 : n ≤ 256) :
    Calls Try.prog 38 #[.pointer (some ⟨c, 0, none⟩), .int .i64 n] w fun e w' => (∃ x : Int, 0 ≤ x ∧ x < n ∧ e = .returned (.int .i64 x)) ∧ Moved w0 w w' c a len cap := by
  go_enter Try.func38, Try.ntmps38
  go_wp2_with fail
  refine (byte w0 w c a len cap hl hcode h).mono ?_
  rintro e w1 ⟨⟨x, x0, x1, rfl⟩, h1, o1⟩
  go_wp2
  go_ret
  refine ⟨⟨_, ?_, ?_, rfl⟩, h1, o1⟩
  · exact Int.emod_nonneg _ (by omega)
  · exact Int.emod_lt_of_pos _ (by omega)
set_option maxRecDepth 100000 in
theorem below_big (w0 w : World) (c : Nat) (a : Option Addr) (len cap : Nat) (n : Int) (hl : len ≤ 1048576) (hcode : CodeAt w0 a len) (h : Cur w0 w c a len cap) (n0 : 257 ≤ n) :
    Calls Try.prog 38 #[.pointer (some ⟨c, 0, none⟩), .int .i64 n] w fun e w' => (∃ x : Int, 0 ≤ x ∧ x < n ∧ e = .returned (.int .i64 x)) ∧ Moved w0 w w' c a len cap := by
  go_enter Try.func38, Try.ntmps38
  go_wp2_with fail
  refine (byte w0 w c a len cap hl hcode h).mono ?_
  rintro e w1 ⟨⟨x1, x10, x11, rfl⟩, h1, o1⟩
  go_wp2_with fail
  refine (byte w0 w1 c a len cap hl hcode h1).mono ?_
  rintro e w2 ⟨⟨x2, x20, x21, rfl⟩, h2, o2⟩
  go_wp2_with fail
  refine (byte w0 w2 c a len cap hl hcode h2).mono ?_
  rintro e w3 ⟨⟨x3, x30, x31, rfl⟩, h3, o3⟩
  go_wp2_with fail
  refine (byte w0 w3 c a len cap hl hcode h3).mono ?_
  rintro e w4 ⟨⟨x4, x40, x41, rfl⟩, h4, o4⟩
  go_wp2
  go_ret
  refine ⟨⟨_, ?_, ?_, rfl⟩, h4, ((o1.trans o2).trans o3).trans o4⟩
  · exact Int.emod_nonneg _ (by omega)
  · exact Int.emod_lt_of_pos _ (by omega)
/-- A number below n. -/
theorem below (w0 w : World) (c : Nat) (a : Option Addr) (len cap : Nat) (n : Int) (hl : len ≤ 1048576) (hcode : CodeAt w0 a len) (h : Cur w0 w c a len cap) (n0 : 1 ≤ n) :
    Calls Try.prog 38 #[.pointer (some ⟨c, 0, none⟩), .int .i64 n] w fun e w' => (∃ x : Int, 0 ≤ x ∧ x < n ∧ e = .returned (.int .i64 x)) ∧ Moved w0 w w' c a len cap := by
  by_cases k : n ≤ 256
  · exact below_small w0 w c a len cap n hl hcode h n0 k
  · exact below_big w0 w c a len cap n hl hcode h (by omega)
set_option maxRecDepth 100000 in
theorem once (w0 w : World) (c : Nat) (a : Option Addr) (len cap : Nat) (n : Int) (hl : len ≤ 1048576) (hcode : CodeAt w0 a len) (h : Cur w0 w c a len cap) (n0 : 1 ≤ n) :
    Calls Try.prog 40 #[.pointer (some ⟨c, 0, none⟩), .int .i64 n] w fun e w' => (∃ t : Bool, e = .returned (.bool t)) ∧ Moved w0 w w' c a len cap := by
  go_enter Try.func40, Try.ntmps40
  go_wp2_with fail
  refine (below w0 w c a len cap n hl hcode h n0).mono ?_
  rintro e w1 ⟨⟨x, x0, x1, rfl⟩, h1⟩
  go_wp2
  go_ret
  exact ⟨⟨_, rfl⟩, h1⟩
theorem laid (w : World) (a : Option Addr) (len cap : Nat) (x : Int) (hx : In64 x) :
    Cur w (w.alloc (Obj.cells #[Value.slice a len cap, Value.int IntKind.i64 0, Value.int IntKind.i64 x] 88)) w.heap.size a len cap := by
  refine ⟨(Below.refl _ _).alloc (Nat.le_refl _) _, Nat.le_refl _, by simp, ?_, ⟨0, by omega, ?_⟩, ⟨x, ?_, hx⟩, ?_, ?_⟩
  · rw [World.cell?_alloc_at _ _ _ _ rfl]; rfl
  · rw [World.cell?_alloc_at _ _ _ _ rfl]; rfl
  · rw [World.cell?_alloc_at _ _ _ _ rfl]; rfl
  · rw [World.frozen?_alloc_at _ _ _ _ rfl]
  · rw [World.frozen?_alloc_at _ _ _ _ rfl]
set_option maxRecDepth 100000 in
theorem new (w : World) (a : Option Addr) (len cap : Nat) (hl : len ≤ 1048576) (hcode : CodeAt w a len) :
    Calls Try.prog 36 #[.slice a len cap] w fun e w' => ∃ c, e = .returned (.pointer (some ⟨c, 0, none⟩)) ∧ Cur w w' c a len cap := by
  go_enter Try.func36, Try.ntmps36
  go_wp2
  go_loop [3, 4] (fun h i => ∃ (k : Nat) (x : Int), k ≤ len ∧ i = .int .i64 k ∧ h = .int .i64 x ∧ 0 ≤ x ∧ x ≤ 1073741823)
    (fun _ i => len - (intOf i).toNat)
  case atStart => exact ⟨0, 11029 + len, by omega, rfl, rfl, by omega, by omega⟩
  case round =>
    obtain ⟨k, x, hk, rfl, rfl, x0, x1⟩ := hrel
    by_cases t : k < len
    · rcases hcode with hz | ⟨b, off, zs, rfl, hb, hcell⟩
      · omega
      obtain ⟨k1, k2, k3⟩ := hcell k t
      generalize zs.getD k 0 = z at k1 k2 k3
      clear hcell
      by_cases s : k < 4000
      · go_wp2
        go_round
        case rel => exact ⟨k + 1, _, by omega, by go_num, rfl, by rw [i64_and30]; omega, by rw [i64_and30]; omega⟩
        case measure => simp [intOf]; omega
      · go_wp2
        go_ret
        exact ⟨_, rfl, laid w _ len cap x (by unfold In64; omega)⟩
    · go_wp2
      go_ret
      exact ⟨_, rfl, laid w _ len cap x (by unfold In64; omega)⟩
set_option maxRecDepth 100000 in
theorem pick (w0 w : World) (c : Nat) (a : Option Addr) (len cap s m : Nat) (ks : Nat → Int) (hl : len ≤ 1048576) (hcode : CodeAt w0 a len) (h : Cur w0 w c a len cap) (m0 : 1 ≤ m) (m1 : m ≤ 1048576) (hs : s < w.heap.size) (hc : s ≠ c)
    (hk : ∀ j, j < m → w.cell? ⟨s, j, none⟩ = some (.int .i64 (ks j))) :
    Calls Try.prog 65 #[.pointer (some ⟨c, 0, none⟩), .slice (some ⟨s, 0, none⟩) m m] w fun e w' => (∃ j, j < m ∧ e = .returned (.int .i64 (ks j))) ∧ Moved w0 w w' c a len cap := by
  go_enter Try.func65, Try.ntmps65
  go_wp2_with fail
  refine (below w0 w c a len cap m hl hcode h (by omega)).mono ?_
  rintro e w1 ⟨⟨x, x0, x1, rfl⟩, h1, o1⟩
  obtain ⟨k, rfl⟩ := Int.eq_ofNat_of_zero_le x0
  have hc1 := (o1.cell (p := ⟨s, k, none⟩) hs hc).trans (hk k (by omega))
  clear hk
  go_wp2
  go_ret
  exact ⟨⟨k, by omega, rfl⟩, h1, o1⟩
/-- A new block beside the cursor. -/
theorem Cur.alloc {w0 w : World} {c : Nat} {a : Option Addr} {len cap : Nat} (h : Cur w0 w c a len cap) (cs : Array Value) (t : TypeId) : Cur w0 (w.alloc (.cells cs t)) c a len cap := by
  obtain ⟨bel, lo, hi, cb, ⟨i, hi1, ci⟩, ⟨y, ch, hy⟩, f1, f2⟩ := h
  have f (o : Nat) : (w.alloc (.cells cs t)).frozen? ⟨c, o, none⟩ = w.frozen? ⟨c, o, none⟩ := frozen?_alloc_cells _ _ _ _
  refine ⟨bel.alloc bel.size _, lo, by simp; omega, ?_, ⟨i, hi1, ?_⟩, ⟨y, ?_, hy⟩, (f 1).trans f1, (f 2).trans f2⟩
  · rw [World.cell?_alloc_past _ _ _ hi]; exact cb
  · rw [World.cell?_alloc_past _ _ _ hi]; exact ci
  · rw [World.cell?_alloc_past _ _ _ hi]; exact ch
theorem Only.alloc {c : Nat} {u w : World} (h : Only c u w) (o : Obj) : Only c u (w.alloc o) := by
  refine ⟨by simp; have := h.1; omega, fun k hk hc => ?_⟩
  rw [Below.heap_alloc _ _ _ (Nat.lt_of_lt_of_le hk h.1)]
  exact h.2 k hk hc
theorem Moved.alloc {w0 w : World} {c : Nat} {a : Option Addr} {len cap : Nat} (h : Cur w0 w c a len cap) (cs : Array Value) (t : TypeId) : Moved w0 w (w.alloc (.cells cs t)) c a len cap :=
  ⟨Cur.alloc h cs t, Only.alloc (Only.refl c w) _⟩
/-- The cursor stays as it is when another list grows. -/
theorem cur_grown {w0 w w' : World} {c g : Nat} {a : Option Addr} {len cap : Nat} (h : Cur w0 w c a len cap) (k : w.grownBy w' (some g)) (hg : w0.heap.size ≤ g) (hne : g ≠ c) : Cur w0 w' c a len cap := by
  obtain ⟨bel, lo, hi, cb, ⟨i, hi1, ci⟩, ⟨y, ch, hy⟩, f1, f2⟩ := h
  have e : w'.heap[c]? = w.heap[c]? := k.block c hi (by simpa using Ne.symm hne)
  have ec (o : Nat) : w'.cell? ⟨c, o, none⟩ = w.cell? ⟨c, o, none⟩ := World.cell?_of_block (w := w) e
  have ef (o : Nat) : w'.frozen? ⟨c, o, none⟩ = w.frozen? ⟨c, o, none⟩ := World.frozen?_of_block (w := w) e
  exact ⟨bel.grown k bel.size (by simpa using hg), lo, Nat.lt_of_lt_of_le hi k.size, (ec 0).trans cb, ⟨i, hi1, (ec 1).trans ci⟩, ⟨y, (ec 2).trans ch, hy⟩, (ef 1).trans f1, (ef 2).trans f2⟩
/-- The cursor stays as it is behind a call that turns nothing of what was there. -/
theorem cur_below {w0 w w' : World} {c : Nat} {a : Option Addr} {len cap : Nat} (h : Cur w0 w c a len cap) (k : Below w.heap.size w w') : Cur w0 w' c a len cap := by
  obtain ⟨bel, lo, hi, cb, ⟨i, hi1, ci⟩, ⟨y, ch, hy⟩, f1, f2⟩ := h
  exact ⟨Pairs.next bel k, lo, Nat.lt_of_lt_of_le hi k.size, (k.cell (p := ⟨c, 0, none⟩) hi).trans cb, ⟨i, hi1, (k.cell (p := ⟨c, 1, none⟩) hi).trans ci⟩, ⟨y, (k.cell (p := ⟨c, 2, none⟩) hi).trans ch, hy⟩,
    (k.frozen (p := ⟨c, 1, none⟩) hi).trans f1, (k.frozen (p := ⟨c, 2, none⟩) hi).trans f2⟩
/-- Three numbers, four numbers: to pick one of them. -/
def of3 (x y z : Int) (j : Nat) : Int := if j = 0 then x else if j = 1 then y else z
def of4 (x y z u : Int) (j : Nat) : Int := if j = 0 then x else if j = 1 then y else if j = 2 then z else u
theorem of3_cells (w : World) (t : TypeId) (x y z : Int) (j : Nat) (hj : j < 3) : (w.alloc (Obj.cells #[Value.int .i64 x, Value.int .i64 y, Value.int .i64 z] t)).cell? ⟨w.heap.size, j, none⟩ = some (.int .i64 (of3 x y z j)) := by
  rw [World.cell?_alloc_at _ _ _ _ rfl]
  match j, hj with
  | 0, _ => rfl
  | 1, _ => rfl
  | 2, _ => rfl
theorem of4_cells (w : World) (t : TypeId) (x y z u : Int) (j : Nat) (hj : j < 4) : (w.alloc (Obj.cells #[Value.int .i64 x, Value.int .i64 y, Value.int .i64 z, Value.int .i64 u] t)).cell? ⟨w.heap.size, j, none⟩ = some (.int .i64 (of4 x y z u j)) := by
  rw [World.cell?_alloc_at _ _ _ _ rfl]
  match j, hj with
  | 0, _ => rfl
  | 1, _ => rfl
  | 2, _ => rfl
  | 3, _ => rfl
end Go.Proofs.Ytcajdiopgaoicaa.Draw
namespace Go.Proofs.Ytcajdiopgaoicaa.SPuts11
open Go.ChangeShapes Go.WideShapes Go.ChangeAt Go.RowKit SBytes SPut11
open ByteH (Own At)
/-- What PutNums answers. -/
def numsB (xs : List Int) : List Int := if ∀ i, i < xs.length → 0 ≤ xs.getD i 0 then xs.flatMap numB else []
theorem flat_next {xs : List Int} {k : Nat} (h : k < xs.length) : (xs.take (k + 1)).flatMap numB = (xs.take k).flatMap numB ++ numB (xs.getD k 0) := by
  rw [List.take_succ_eq_append_getElem h, List.flatMap_append]
  simp [List.getD, h]
theorem numB_pos {x : Int} (h : 0 ≤ x) : numB x = numF x.toNat := if_neg (by omega)
end Go.Proofs.Ytcajdiopgaoicaa.SPuts11
namespace Go.Proofs.Ytcajdiopgaoicaa.Draw11
open Go.ChangeShapes Go.WideShapes Go.ChangeAt Go.RowKit SBytes SPut11 SPuts11
open Draw (CodeAt Cur Only Moved below once new pick byte)
theorem bytes_only {w w' : World} {base g n cap c : Nat} {xs : List Int} (h : ByteH.Own w base g n cap xs) (o : Only c w w') (hne : g ≠ c) : ByteH.Own w' base g n cap xs := by
  refine ⟨h.1, ?_⟩
  have hlt := h.lt.2
  rcases h.2 with ⟨z, _⟩ | ⟨g', c', cur, z, h2, h3, h4⟩
  · simp at z
  · obtain ⟨e, _⟩ : g = g' ∧ cap = c' := by simpa using z
    subst e
    exact Or.inr ⟨g, c', cur, z, h2, by rw [o.2 g hlt hne]; exact h3, h4⟩
section
variable {w0 w u v : World} {c g : Nat} {a : Option Addr} {len cap : Nat}
theorem moved_start (h : Cur w0 w c a len cap) : Moved w0 w w c a len cap := ⟨h, Only.refl c w⟩
theorem moved_below (h : Moved w0 w u c a len cap) (k : Below u.heap.size u v) : Moved w0 w v c a len cap :=
  ⟨Draw.cur_below h.1 k, Nat.le_trans h.2.1 k.size, fun i hi hc => (k.block i (Nat.lt_of_lt_of_le hi h.2.1)).trans (h.2.2 i hi hc)⟩
theorem moved_alloc (h : Moved w0 w u c a len cap) (cs : Array Value) (t : TypeId) : Moved w0 w (u.alloc (.cells cs t)) c a len cap := moved_below h ((Below.refl _ _).alloc (Nat.le_refl _) _)
theorem moved_grown (h : Moved w0 w u c a len cap) (k : u.grownBy v (some g)) (hc : c < w.heap.size) (hg : w.heap.size ≤ g) (h0 : w0.heap.size ≤ w.heap.size) : Moved w0 w v c a len cap :=
  ⟨Draw.cur_grown h.1 k (Nat.le_trans h0 hg) (by omega), Nat.le_trans h.2.1 k.size, fun i hi hne => (k.block i (Nat.lt_of_lt_of_le hi h.2.1) (by simp; omega)).trans (h.2.2 i hi hne)⟩
end
/-- The fourteen numbers that one is picked from. -/
def ks (x y : Int) (j : Nat) : Int := ([0, 1, 127, 128, 255, 16383, 16384, 2097151, 2097152, -1, 9223372036854775807, 72057594037927935, x, y] : List Int).getD j 0
end Go.Proofs.Ytcajdiopgaoicaa.Draw11
namespace Go.Proofs.Ytcajdiopgaoicaa.Code11
open Go.ChangeShapes Go.WideShapes Go.ChangeAt Go.RowKit SBytes SPut11 SPuts11
open Draw (CodeAt)
set_option maxRecDepth 100000 in
theorem atC (w : World) (a : Option Addr) (len cap : Nat) (i : Nat) (hl : len ≤ 1048576) (hi : i ≤ 100) (hcode : CodeAt w a len) :
    Calls Try.prog 14 #[.slice a len cap, .int .i64 i] w fun e w' => ∃ x : Int, 0 ≤ x ∧ x ≤ 255 ∧ e = .returned (.int .i64 x) ∧ w' = w := by
  by_cases h : i < len
  · rcases hcode with h0 | ⟨b, off, zs, rfl, hb, hc⟩
    · omega
    obtain ⟨c0, c1, c2⟩ := hc i h
    clear hc
    generalize zs.getD i 0 = z at *
    have e1 : wrap64 z = z := by rw [wrap64]; omega
    have Z := hide (And.intro c1 c2)
    have h1 : (i : Int) < len := by omega
    clear c1 c2
    go_enter Try.func14, Try.ntmps14
    go_wp2
    go_ret
    exact ⟨z, (unhide Z).1, (unhide Z).2, by simp [e1], rfl⟩
  · have h1 : ¬ (i : Int) < len := by omega
    have e1 : wrap64 ((i : Int) * 7) = i * 7 := by rw [wrap64]; omega
    have e2 : wrap64 ((i : Int) * 7 + len) = i * 7 + len := by rw [wrap64]; omega
    have e3 : ((i : Int) * 7 + len).tmod 256 = ((i : Int) * 7 + len) % 256 := Int.tmod_eq_emod_of_nonneg (by omega)
    have e4 : wrap64 (((i : Int) * 7 + len) % 256) = ((i : Int) * 7 + len) % 256 := by rw [wrap64]; omega
    have E := hide (And.intro e1 (And.intro e2 (And.intro e3 e4)))
    clear e1 e2 e3 e4
    go_enter Try.func14, Try.ntmps14
    go_wp2
    go_ret
    obtain ⟨e1, e2, e3, e4⟩ := unhide E
    exact ⟨((i : Int) * 7 + len) % 256, by omega, by omega, by simp [e1, e2, e3, e4], rfl⟩
end Go.Proofs.Ytcajdiopgaoicaa.Code11
namespace Go.Proofs.Ytcajdiopgaoicaa.DrawS11
open Go.ChangeShapes Go.WideShapes Go.ChangeAt Go.RowKit SBytes SPut11 SPuts11 Draw11
open Draw (CodeAt Cur Only Moved below once new pick byte)
/-- Bytes of a call's own, drawn with a cursor. -/
def DrawnB (w0 w : World) (c : Nat) (a : Option Addr) (len cap most : Nat) (e : Ending) (w' : World) : Prop :=
  ∃ (xs : List Int) (g k : Nat), e = .returned (.slice (some ⟨g, 0, none⟩) xs.length k) ∧ ByteH.Own w' w.heap.size g xs.length k xs ∧ xs.length ≤ most ∧ (∀ x ∈ xs, 0 ≤ x ∧ x ≤ 255) ∧ Moved w0 w w' c a len cap
set_option maxRecDepth 100000 in
set_option maxHeartbeats 4000000 in
theorem drawBytes (w0 w : World) (c : Nat) (a : Option Addr) (len cap most : Nat) (hl : len ≤ 1048576) (hm : most ≤ 1000) (hcode : CodeAt w0 a len) (h : Cur w0 w c a len cap) :
    Calls Try.prog 71 #[.pointer (some ⟨c, 0, none⟩), .int .i64 most] w (DrawnB w0 w c a len cap most) := by
  have HC := hide hcode
  have H1 := hide (moved_alloc (moved_start h) #[] 5)
  have hc := h.hi
  have hs := h.bel.size
  have O1 := hide (lit0 w w.heap.size (Nat.le_refl _) rfl)
  have e0 : wrap64 ((most : Int) + 1) = most + 1 := by rw [wrap64]; omega
  clear h hcode
  go_enter Try.func71, Try.ntmps71
  go_wp2_with fail
  refine (below w0 _ c a len cap (most + 1) hl (unhide HC) (unhide H1).1 (by omega)).mono ?_
  rintro e w2 ⟨⟨n, n0, n1, rfl⟩, h2⟩
  have H2 := hide (Moved.trans (unhide H1) h2)
  have O2 := hide (bytes_only (unhide O1) h2.2 (by omega))
  clear h2 H1 O1 e0
  obtain ⟨n, rfl⟩ : ∃ k : Nat, n = k := ⟨n.toNat, by omega⟩
  have n9 : n ≤ most := by omega
  clear n0 n1
  go_wp2
  go_loopw [5, 7] (fun l i wr => ∃ (k : Nat) (xs : List Int) (g cS : Nat), k ≤ n ∧ i = .int .i64 (k : Int) ∧ l = .slice (some ⟨g, 0, none⟩) xs.length cS ∧ xs.length ≤ k ∧ Hid (∀ x ∈ xs, 0 ≤ x ∧ x ≤ 255) ∧ Hid (ByteH.Own wr w.heap.size g xs.length cS xs) ∧ Hid (Moved w0 w wr c a len cap)) (fun _ i _ => n - (intOf i).toNat)
  case atStart => exact ⟨0, [], w.heap.size, 0, by omega, rfl, rfl, by simp, hide (by simp), O2, H2⟩
  case round =>
    clear O2 H2
    obtain ⟨k, xs, g, cS, hk, rfl, rfl, hx, HX, HO, HM⟩ := hrel
    have gl := (unhide HO).lt.1
    have gne : g ≠ c := by omega
    by_cases t : k < n
    · have ki : (k : Int) < n := by omega
      go_wp2_with fail
      refine (byte w0 _ c a len cap hl (unhide HC) (unhide HM).1).mono ?_
      rintro e w5 ⟨⟨x, x0, x1, rfl⟩, h5⟩
      have O5 := hide (bytes_only (unhide HO) h5.2 gne)
      have M5 := hide (Moved.trans (unhide HM) h5)
      have A := hide (show ∀ z ∈ xs ++ [x], 0 ≤ z ∧ z ≤ 255 from fun z hz => by
        rcases List.mem_append.1 hz with h | h
        · exact (unhide HX) z h
        · simp at h; omega)
      clear h5
      have s6 := (unhide M5).2.1
      have O7 := hide (own_alloc (unhide O5) (.cells #[.int .u8 x] 5))
      have M7 := hide (moved_alloc (unhide M5) #[.int .u8 x] 5)
      go_wp2_with (first | (at_builtin; refine wp_catB _ rfl _ _ rfl w.heap.size g xs.length cS 1 xs [x] w5.heap.size 0 1 rfl rfl (unhide O7) rfl (lit_one _ _) (by omega) (by simp; omega) ?_) | go_in)
      intro g8 c8 w8 o8 gr8 _
      have M8 := hide (moved_grown (unhide M7) gr8 hc gl hs)
      have el : (xs ++ [x]).length = xs.length + 1 := by simp
      have O8 := hide o8
      clear gr8 o8
      go_wp2
      go_roundw
      case rel => exact ⟨k + 1, xs ++ [x], g8, c8, by omega, by go_num, by rw [el], by rw [el]; omega, A, hide (by rw [el]; exact unhide O8), M8⟩
      case measure => simp [intOf]; omega
    · go_wp2
      go_ret
      exact ⟨xs, g, cS, rfl, unhide HO, by omega, unhide HX, unhide HM⟩
end Go.Proofs.Ytcajdiopgaoicaa.DrawS11
namespace Go.Proofs.Ytcajdiopgaoicaa.DrawT14
open Go.ChangeShapes Go.WideShapes Go.ChangeAt Go.RowKit Draw Draw11 DrawS11
theorem hide {p : Prop} (h : p) : Hid p := h
theorem unhide {p : Prop} (h : Hid p) : p := h
set_option maxRecDepth 100000 in
theorem drawText (w0 w : World) (c : Nat) (a : Option Addr) (len cap most : Nat) (hl : len ≤ 1048576) (hm : most ≤ 1000) (hcode : CodeAt w0 a len) (h : Cur w0 w c a len cap) :
    Calls Try.prog 52 #[.pointer (some ⟨c, 0, none⟩), .int .i64 most] w fun e w' => (∃ s : ByteArray, s.size ≤ most ∧ e = .returned (.string s)) ∧ Moved w0 w w' c a len cap := by
  have DB := hide (drawBytes w0 w c a len cap most hl hm hcode h)
  clear hcode h
  go_enter Try.func52, Try.ntmps52
  go_wp2_with fail
  refine (unhide DB).mono ?_
  rintro e u ⟨xs, g, k, rfl, o, hx, _, mv⟩
  have cv := run_convert_bytes_arg (P := Try.prog) u 22 5 Try.underlying22 Try.underlying5 g 0 xs.length k xs rfl (fun i hi => by rw [Nat.zero_add]; exact o.at i hi) 9 Try.underlying9
  have MV := hide mv
  have SZ := hide (strOfNums_size xs)
  have HX := hide hx
  clear mv o hx DB
  generalize strOfNums xs = s at *
  go_wp2
  go_ret
  exact ⟨⟨s, by rw [unhide SZ]; exact unhide HX, rfl⟩, unhide MV⟩
end Go.Proofs.Ytcajdiopgaoicaa.DrawT14
namespace Go.Proofs.Ytcajdiopgaoicaa.Pure14
open Fil14 DiskH14 SDk14 SOk14 SRd14 SLess14 SRef14 SCom14 SPut14
/-- Ascending by name. -/
def Asc (ps : List TF) : Prop := ps.Pairwise (fun p q => p.1 < q.1)
def Named (ps : List TF) : Prop := ∀ p ∈ ps, 0 ≤ p.1 ∧ p.1 ≤ 21
theorem elF_mem {ps : List TF} {i : Nat} (h : i < ps.length) : elF ps i ∈ ps := by
  rw [elF_get h]
  exact List.getElem_mem h
theorem mem_elF {ps : List TF} {p : TF} (h : p ∈ ps) : ∃ i, i < ps.length ∧ elF ps i = p := by
  obtain ⟨i, hi, e⟩ := List.getElem_of_mem h
  exact ⟨i, hi, by rw [elF_get hi]; exact e⟩
theorem ok_named {n : Int} : okN n = true ↔ 0 ≤ n ∧ n ≤ 21 := by unfold okN; simp
theorem step_lt {ps : List TF} (h : ∀ i, i < ps.length → okAt ps i) : ∀ j i, i < j → j < ps.length → (elF ps i).1 < (elF ps j).1
  | 0, i => fun a _ => absurd a (by omega)
  | j + 1, i => fun a b => by
    have s := (h (j + 1) b).2 (by omega)
    simp only [Nat.add_sub_cancel] at s
    by_cases e : i = j
    · subst e; exact s
    · have := step_lt h j i (by omega) (by omega)
      omega
theorem asc_of {room : Int} {ps : List TF} (h : OkD room ps) : Asc ps ∧ Named ps := by
  refine ⟨?_, fun p hp => ?_⟩
  · unfold Asc
    rw [List.pairwise_iff_getElem]
    intro i j hi hj l
    have := step_lt h.2.2.2 j i l hj
    rwa [elF_get hi, elF_get hj] at this
  · obtain ⟨i, hi, rfl⟩ := mem_elF hp
    exact ok_named.1 (h.2.2.2 i hi).1
theorem named_len : ∀ (ps : List TF) (lo : Int), 0 ≤ lo → lo ≤ 22 → Asc ps → (∀ p ∈ ps, lo ≤ p.1 ∧ p.1 ≤ 21) → (ps.length : Int) ≤ 22 - lo
  | [], lo, _, _, _, _ => by simp; omega
  | p :: ps, lo, h0, h1, ha, hn => by
    have hp := hn p (by simp)
    have ha' := List.pairwise_cons.1 ha
    have := named_len ps (p.1 + 1) (by omega) (by omega) ha'.2 (fun q hq => ⟨by have := ha'.1 q hq; omega, (hn q (by simp [hq])).2⟩)
    simp only [List.length_cons]
    omega
theorem okd_of {room : Int} {ps : List TF} (h1 : 0 ≤ room ∧ room ≤ 60000) (h3 : (sumZ ps : Int) ≤ room) (h4 : Asc ps) (h5 : Named ps) : OkD room ps := by
  refine ⟨h1, by have := named_len ps 0 (by omega) (by omega) h4 h5; omega, h3, fun i hi => ⟨ok_named.2 (h5 _ (elF_mem hi)), fun hz => ?_⟩⟩
  have := List.pairwise_iff_getElem.1 h4 (i - 1) i (by omega) hi (by omega)
  rw [elF_get hi, elF_get (show i - 1 < ps.length by omega)]
  exact this
def lows (ps : List TF) (n : Int) : List TF := ps.filter (fun p => decide (p.1 < n))
def highs (ps : List TF) (n : Int) : List TF := ps.filter (fun p => decide (n < p.1))
theorem lows_all {ps : List TF} {n : Int} (h : ∀ p ∈ ps, p.1 < n) : lows ps n = ps ∧ highs ps n = [] := by
  constructor
  · unfold lows; rw [List.filter_eq_self]; intro p hp; simpa using h p hp
  · unfold highs; rw [List.filter_eq_nil_iff]; intro p hp; have := h p hp; simp; omega
open Classical in
theorem putN_is {ps : List TF} (f : TF) (h : Asc ps) : ∀ k, k ≤ ps.length → putN ps f k = if ∃ p ∈ ps.take k, f.1 ≤ p.1 then (lows (ps.take k) f.1 ++ f :: highs (ps.take k) f.1, true) else (ps.take k, false)
  | 0, _ => by simp [putN]
  | k + 1, hk => by
    have ih := putN_is f h k (by omega)
    have tk : ps.take (k + 1) = ps.take k ++ [elF ps k] := by rw [List.take_succ_eq_append_getElem (show k < ps.length by omega), elF_get (show k < ps.length by omega)]
    have gt : ∀ q ∈ ps.take k, q.1 < (elF ps k).1 := by
      intro q hq
      obtain ⟨i, hi, e⟩ := List.getElem_of_mem hq
      have hi' : i < k := by simp at hi; omega
      rw [List.getElem_take] at e
      have := List.pairwise_iff_getElem.1 h i k (by omega) (by omega) hi'
      rw [elF_get (show k < ps.length by omega), ← e]
      exact this
    have hs := fun L pb (e : putN ps f k = (L, pb)) => putN_succ e
    generalize elF ps k = p at *
    by_cases c : ∃ q ∈ ps.take k, f.1 ≤ q.1
    · rw [if_pos c] at ih
      have pg : f.1 < p.1 := by obtain ⟨q, hq, hf⟩ := c; have := gt q hq; omega
      have c' : ∃ q ∈ ps.take (k + 1), f.1 ≤ q.1 := by obtain ⟨q, hq, hf⟩ := c; exact ⟨q, by rw [tk]; simp [hq], hf⟩
      rw [hs _ _ ih, if_pos c', tk]
      have n1 : ¬ p.1 = f.1 := by omega
      have n2 : ¬ p.1 < f.1 := by omega
      simp [lows, highs, List.filter_append, n1, n2, pg]
    · rw [if_neg c] at ih
      have lo : ∀ q ∈ ps.take k, q.1 < f.1 := fun q hq => by
        rcases Int.lt_or_le q.1 f.1 with l | l
        · exact l
        · exact absurd ⟨q, hq, l⟩ c
      obtain ⟨l1, l2⟩ := lows_all lo
      rw [hs _ _ ih]
      by_cases d : f.1 ≤ p.1
      · have c' : ∃ q ∈ ps.take (k + 1), f.1 ≤ q.1 := ⟨p, by rw [tk]; simp, d⟩
        rw [if_pos c', tk]
        unfold lows at l1
        unfold highs at l2
        by_cases e : p.1 = f.1
        · have n2 : ¬ p.1 < f.1 := by omega
          have n3 : ¬ f.1 < p.1 := by omega
          simp only [lows, highs, List.filter_append, l1, l2]
          simp [e]
        · have n2 : ¬ p.1 < f.1 := by omega
          have n3 : f.1 < p.1 := by omega
          simp only [lows, highs, List.filter_append, l1, l2]
          simp [e, d, n2, n3]
      · have c' : ¬ ∃ q ∈ ps.take (k + 1), f.1 ≤ q.1 := by
          rintro ⟨q, hq, hf⟩
          rw [tk] at hq
          simp at hq
          rcases hq with hq | rfl
          · exact c ⟨q, hq, hf⟩
          · exact d hf
        have n1 : ¬ p.1 = f.1 := by omega
        rw [if_neg c', tk]
        simp [n1, d]
theorem put_is {ps : List TF} (f : TF) (h : Asc ps) : putF ps f = lows ps f.1 ++ f :: highs ps f.1 := by
  have q := putN_is f h ps.length (Nat.le_refl _)
  rw [List.take_length] at q
  unfold putF
  rw [q]
  by_cases c : ∃ p ∈ ps, f.1 ≤ p.1
  · rw [if_pos c]; simp
  · rw [if_neg c]
    obtain ⟨l1, l2⟩ := lows_all (ps := ps) (n := f.1) (fun q hq => by
      rcases Int.lt_or_le q.1 f.1 with l | l
      · exact l
      · exact absurd ⟨q, hq, l⟩ c)
    rw [l1, l2]
    simp
theorem low_mem {ps : List TF} {n : Int} {p : TF} : p ∈ lows ps n ↔ p ∈ ps ∧ p.1 < n := by simp [lows]
theorem high_mem {ps : List TF} {n : Int} {p : TF} : p ∈ highs ps n ↔ p ∈ ps ∧ n < p.1 := by simp [highs]
theorem put_mem {ps : List TF} {f p : TF} (h : Asc ps) : p ∈ putF ps f ↔ p = f ∨ (p ∈ ps ∧ p.1 ≠ f.1) := by
  rw [put_is f h]
  simp only [List.mem_append, List.mem_cons, low_mem, high_mem]
  constructor
  · rintro (⟨a, b⟩ | rfl | ⟨a, b⟩)
    · exact .inr ⟨a, by omega⟩
    · exact .inl rfl
    · exact .inr ⟨a, by omega⟩
  · rintro (rfl | ⟨a, b⟩)
    · exact .inr (.inl rfl)
    · rcases Int.lt_trichotomy p.1 f.1 with l | l | l
      · exact .inl ⟨a, l⟩
      · exact absurd l b
      · exact .inr (.inr ⟨a, l⟩)
theorem put_asc {ps : List TF} (f : TF) (h : Asc ps) : Asc (putF ps f) := by
  rw [put_is f h]
  unfold Asc
  rw [List.pairwise_append]
  refine ⟨h.filter _, ?_, ?_⟩
  · rw [List.pairwise_cons]
    exact ⟨fun q hq => (high_mem.1 hq).2, h.filter _⟩
  · intro p hp q hq
    have := (low_mem.1 hp).2
    rcases List.mem_cons.1 hq with rfl | hq
    · exact this
    · have := (high_mem.1 hq).2
      omega
theorem put_named {ps : List TF} {f : TF} (h : Asc ps) (hn : Named ps) (hf : 0 ≤ f.1 ∧ f.1 ≤ 21) : Named (putF ps f) := fun p hp => by
  rcases (put_mem h).1 hp with rfl | ⟨a, _⟩
  · exact hf
  · exact hn p a
theorem asc_lt {ps : List TF} (h : Asc ps) {i j : Nat} (l : i < j) (hj : j < ps.length) : (elF ps i).1 < (elF ps j).1 := by
  have := List.pairwise_iff_getElem.1 h i j (by omega) hj l
  rwa [elF_get (show i < ps.length by omega), elF_get hj]
theorem find_ix {ps : List TF} (h : Asc ps) {i : Nat} (hi : i < ps.length) : findF ps (elF ps i).1 = i :=
  findF_at hi (fun j hj => by have := asc_lt h hj hi; omega) rfl
theorem find_yes {ps : List TF} (h : Asc ps) {f : TF} (hf : f ∈ ps) : ∃ k : Nat, findF ps f.1 = k ∧ k < ps.length ∧ elF ps k = f := by
  obtain ⟨i, hi, rfl⟩ := mem_elF hf
  exact ⟨i, find_ix h hi, hi, rfl⟩
theorem find_neg {ps : List TF} {nm : Int} (h : findF ps nm < 0) : ∀ p ∈ ps, p.1 ≠ nm := fun p hp e => by
  have : 0 ≤ findF ps nm := by
    unfold findF
    have : (ps.findIdx? (fun p => p.1 == nm)).isSome = true := by
      rw [List.findIdx?_isSome]
      exact List.any_eq_true.2 ⟨p, hp, by simpa using e⟩
    obtain ⟨i, hi⟩ := Option.isSome_iff_exists.1 this
    rw [hi]
    simp
  omega
/-- The files at a place, ahead of it and behind it. -/
theorem parts {ps : List TF} (h : Asc ps) {k : Nat} (hk : k < ps.length) : lows ps (elF ps k).1 = ps.take k ∧ highs ps (elF ps k).1 = ps.drop (k + 1) := by
  have e : ps = ps.take k ++ elF ps k :: ps.drop (k + 1) := by
    rw [elF_get hk, List.getElem_cons_drop, List.take_append_drop]
  have a : ∀ q ∈ ps.take k, q.1 < (elF ps k).1 := by
    intro q hq
    obtain ⟨i, hi, e⟩ := List.getElem_of_mem hq
    have hi' : i < k := by simp at hi; omega
    rw [List.getElem_take] at e
    have := asc_lt h hi' hk
    rw [elF_get (show i < ps.length by omega)] at this
    rw [← e]
    exact this
  have b : ∀ q ∈ ps.drop (k + 1), (elF ps k).1 < q.1 := by
    intro q hq
    obtain ⟨i, hi, e⟩ := List.getElem_of_mem hq
    rw [List.getElem_drop] at e
    simp at hi
    have := asc_lt h (show k < k + 1 + i by omega) (by omega)
    rw [elF_get (show k + 1 + i < ps.length by omega)] at this
    rw [← e]
    exact this
  generalize elF ps k = p at *
  constructor
  · conv => lhs; rw [e]
    unfold lows
    rw [List.filter_append, List.filter_cons]
    rw [List.filter_eq_self.2 (fun q hq => by simpa using a q hq)]
    rw [List.filter_eq_nil_iff.2 (fun q hq => by have := b q hq; simp; omega)]
    simp
  · conv => lhs; rw [e]
    unfold highs
    have h1 : (ps.take k).filter (fun q => decide (p.1 < q.1)) = [] := List.filter_eq_nil_iff.2 (fun q hq => by have := a q hq; simp; omega)
    have h2 : (ps.drop (k + 1)).filter (fun q => decide (p.1 < q.1)) = ps.drop (k + 1) := List.filter_eq_self.2 (fun q hq => by simpa using b q hq)
    rw [List.filter_append, List.filter_cons, h1, h2]
    simp
theorem lessN_is (ps : List TF) (k : Nat) : ∀ n, n ≤ ps.length → lessN ps k n = (ps.take n).eraseIdx k
  | 0, _ => by simp [lessN]
  | n + 1, h => by
    have ih := lessN_is ps k n (by omega)
    have tk : ps.take (n + 1) = ps.take n ++ [elF ps n] := by rw [List.take_succ_eq_append_getElem (show n < ps.length by omega), elF_get (show n < ps.length by omega)]
    have ln : (ps.take n).length = n := by simp; omega
    simp only [lessN]
    rw [tk]
    by_cases e : (n : Int) = k
    · have e' : n = k := by omega
      rw [if_pos e, ih, List.eraseIdx_of_length_le (by omega), List.eraseIdx_append_of_length_le (by omega)]
      rw [ln, e', Nat.sub_self]
      simp
    · rw [if_neg e, ih]
      by_cases l : k < n
      · rw [List.eraseIdx_append_of_lt_length (by omega)]
      · rw [List.eraseIdx_of_length_le (by omega), List.eraseIdx_of_length_le (by simp; omega)]
theorem less_is {ps : List TF} (h : Asc ps) {k : Nat} (hk : k < ps.length) : lessN ps k ps.length = lows ps (elF ps k).1 ++ highs ps (elF ps k).1 := by
  rw [lessN_is ps k ps.length (Nat.le_refl _), List.take_length, (parts h hk).1, (parts h hk).2, List.eraseIdx_eq_take_drop_succ]
theorem less_asc {ps : List TF} (h : Asc ps) {k : Nat} (hk : k < ps.length) : Asc (lessN ps k ps.length) := by
  rw [lessN_is ps k ps.length (Nat.le_refl _), List.take_length]
  exact h.sublist (List.eraseIdx_sublist _ _)
theorem less_mem {ps : List TF} (h : Asc ps) {k : Nat} (hk : k < ps.length) {p : TF} : p ∈ lessN ps k ps.length ↔ p ∈ ps ∧ p.1 ≠ (elF ps k).1 := by
  rw [less_is h hk]
  simp only [List.mem_append, low_mem, high_mem]
  constructor
  · rintro (⟨a, b⟩ | ⟨a, b⟩)
    · exact ⟨a, by omega⟩
    · exact ⟨a, by omega⟩
  · rintro ⟨a, b⟩
    rcases Int.lt_trichotomy p.1 (elF ps k).1 with l | l | l
    · exact .inl ⟨a, l⟩
    · exact absurd l b
    · exact .inr ⟨a, l⟩
theorem sum_cons (p : TF) (ps : List TF) : sumZ (p :: ps) = (p.2.1.size + p.2.2.size) + sumZ ps := by simp [sumZ]
theorem sum_mid (l r : List TF) (p : TF) : sumZ (l ++ p :: r) = sumZ l + (p.2.1.size + p.2.2.size) + sumZ r := by rw [sumZ_append, sum_cons]; omega
/-- All bytes of the files but those of one name. -/
theorem sum_rest {ps : List TF} (h : Asc ps) {k : Nat} (hk : k < ps.length) : sumZ ps = sumZ (lows ps (elF ps k).1) + ((elF ps k).2.1.size + (elF ps k).2.2.size) + sumZ (highs ps (elF ps k).1) := by
  rw [(parts h hk).1, (parts h hk).2, ← sum_mid]
  congr 1
  rw [elF_get hk, List.getElem_cons_drop, List.take_append_drop]
theorem parts_no : ∀ {ps : List TF} {n : Int}, Asc ps → (∀ p ∈ ps, p.1 ≠ n) → lows ps n ++ highs ps n = ps
  | [], n, _, _ => by simp [lows, highs]
  | p :: ps, n, h, hn => by
    have ha := List.pairwise_cons.1 h
    have hp := hn p (by simp)
    have ih := parts_no ha.2 (fun q hq => hn q (by simp [hq]))
    rcases Int.lt_trichotomy p.1 n with l | l | l
    · have n2 : ¬ n < p.1 := by omega
      simp only [lows, highs, List.filter_cons] at ih ⊢
      simp [l, n2, ih]
    · exact absurd l hp
    · have al : ∀ q ∈ ps, n < q.1 := fun q hq => by have := ha.1 q hq; omega
      have n2 : ¬ p.1 < n := by omega
      simp only [lows, highs, List.filter_cons]
      rw [List.filter_eq_nil_iff.2 (fun q hq => by have := al q hq; simp; omega), List.filter_eq_self.2 (fun q hq => by simpa using al q hq)]
      simp [l, n2]
theorem sum_new {ps : List TF} (h : Asc ps) {n : Int} (hn : ∀ p ∈ ps, p.1 ≠ n) : sumZ ps = sumZ (lows ps n) + sumZ (highs ps n) := by
  conv => lhs; rw [← parts_no h hn]
  rw [sumZ_append]
theorem sum_put {ps : List TF} (f : TF) (h : Asc ps) : sumZ (putF ps f) = sumZ (lows ps f.1) + (f.2.1.size + f.2.2.size) + sumZ (highs ps f.1) := by rw [put_is f h, sum_mid]
end Go.Proofs.Ytcajdiopgaoicaa.Pure14
namespace Go.Proofs.Ytcajdiopgaoicaa.SAppend14
open Go.ChangeShapes Go.WideShapes Go.ChangeAt Go.RowKit Fil14 DiskH14 DkH14 SDk14 SOk14 SRd14 App14 SLess14 SCopy14 SRef14 SCom14 SPut14
open DkH14 (row_step)
/-- The file with a text behind what it has, or a new one. -/
def appF (ps : List TF) (nm : Int) (s : ByteArray) : TF := if 0 ≤ findF ps nm then ((elF ps (findF ps nm).toNat).1, (elF ps (findF ps nm).toNat).2.1, (elF ps (findF ps nm).toNat).2.2 ++ s) else (nm, ⟨#[]⟩, s)
/-- What DiskAppend answers. -/
noncomputable def appendD (room : Int) (ps : List TF) (nm : Int) (s : ByteArray) : (Int × List TF) × Int := @ite _ (OkD room ps ∧ okN nm = true) (Classical.propDecidable _) (if room - sumZ ps < s.size then ((room, ps), 3) else ((room, putF ps (appF ps nm s)), 0)) ((0, []), 1)
abbrev oD0 : Oper := { dst := some 21, op := Go.Op.move (Go.Operand.tmp 2), type := 9, pos := "l14_disk.go:82", after := #[], guard := none }
abbrev oD1 : Oper := { dst := some 22, op := Go.Op.call { callee := Go.Callee.builtin Go.Builtin.len, args := #[Go.Operand.tmp 21], argTypes := #[9] }, type := 3, pos := "l14_disk.go:82", after := #[{ on := 0, ground := Go.Ground.data }], guard := none }
abbrev oD2 : Oper := { dst := some 23, op := Go.Op.fieldAddr 26 (Go.Operand.tmp 3) 0, type := 0, pos := "l14_disk.go:82", after := #[], guard := none }
abbrev oD3 : Oper := { dst := some 24, op := Go.Op.load 3 (Go.Operand.tmp 23), type := 3, pos := "l14_disk.go:82", after := #[{ on := 2, ground := Go.Ground.data }], guard := none }
abbrev oD4 : Oper := { dst := some 25, op := Go.Op.load 26 (Go.Operand.tmp 3), type := 26, pos := "l14_disk.go:82", after := #[], guard := none }
abbrev oD5 : Oper := { dst := some 26, op := Go.Op.call { callee := Go.Callee.value (Go.Operand.func 45), args := #[Go.Operand.tmp 25], argTypes := #[26] }, type := 3, pos := "l14_disk.go:82", after := #[{ on := 4, ground := Go.Ground.data }], guard := none }
abbrev oD6 : Oper := { dst := some 27, op := Go.Op.binOp Go.BinOp.sub 3 (Go.Operand.tmp 24) (Go.Operand.tmp 26) 3, type := 3, pos := "l14_disk.go:82", after := #[{ on := 3, ground := Go.Ground.data }, { on := 5, ground := Go.Ground.data }], guard := none }
abbrev oD7 : Oper := { dst := some 28, op := Go.Op.binOp Go.BinOp.gtr 3 (Go.Operand.tmp 22) (Go.Operand.tmp 27) 3, type := 4, pos := "l14_disk.go:82", after := #[{ on := 1, ground := Go.Ground.data }, { on := 6, ground := Go.Ground.data }], guard := none }
abbrev oD8 : Oper := { dst := some 20, op := Go.Op.assign (Go.Operand.tmp 28), type := 4, pos := "l14_disk.go:82", after := #[{ on := 7, ground := Go.Ground.data }, { on := 5, ground := Go.Ground.chain }], guard := none }
set_option maxRecDepth 100000 in
set_option maxHeartbeats 4000000 in
theorem sDiskAppend (w : World) (x : Dx) (nm : Int) (s : ByteArray) (hr : RdD w x) (hz : sumZ x.ps ≤ 1048576) (hs : s.size ≤ 9223372036854775807) :
    Calls Try.prog 61 #[.agg #[.int .i64 x.room, .slice x.a x.ps.length x.c], .int .i64 nm, .string s] w (ToldD (appendD x.room x.ps nm s) w) := by
  have HR := hide hr
  have G0 := hide (begunD hr)
  have s2 : ((w.alloc (.cells #[.int .i64 x.room, .slice x.a x.ps.length x.c] 26)).alloc (.cells #[.int .i64 0, .slice none 0 0] 26)).heap.size = w.heap.size + 2 := by simp
  have OK0 := hide (sDiskOk _ x (unhide G0).1.r hz)
  have NM := hide (fun u => sName u nm)
  have RE := hide (show appendD x.room x.ps nm s = @ite _ (OkD x.room x.ps ∧ okN nm = true) (Classical.propDecidable _) (if x.room - sumZ x.ps < s.size then ((x.room, x.ps), 3) else ((x.room, putF x.ps (appF x.ps nm s)), 0)) ((0, []), 1) from rfl)
  generalize appendD x.room x.ps nm s = rr at *
  clear hr
  by_cases ok : OkD x.room x.ps
  case neg =>
    have E := hide (show rr = ((0, []), 1) by rw [unhide RE, if_neg (fun h => ok h.1)])
    have OK := hide (show Calls Try.prog 17 #[.agg #[.int .i64 x.room, .slice x.a x.ps.length x.c]] _ fun e w' => e = .returned (.bool false) ∧ Below _ _ w' by have := unhide OK0; rw [decide_eq_false ok] at this; exact this)
    clear OK0 ok RE
    go_enter Try.func61, Try.ntmps61
    go_wp2_with fail
    refine (unhide OK).mono ?_
    rintro e u ⟨rfl, b1⟩
    have R2 := hide ((unhide G0).2.below b1 (by omega))
    have EN := hide (endedD (y := ⟨0, none, 0, []⟩) (base0 := w.heap.size + 2) (((unhide G0).1.step b1).b) (unhide R2) ⟨rfl, .inl ⟨rfl, rfl⟩⟩ (by omega))
    have f0 := (unhide R2).free 0
    have f1 := (unhide R2).free 1
    have r0 := (unhide R2).c0
    have r1 := (unhide R2).c1
    clear b1
    go_wp2
    refine bodyPost_ret (v := .tuple #[.agg #[.int .i64 0, .slice none 0 0], .int .i64 1]) (by simp [results, Try.results61, go_sem, r0, r1]) rfl ?_
    rw [unhide E]
    exact ⟨⟨0, none, 0, []⟩, rfl, rfl, (unhide EN).1, (unhide EN).2⟩
  have OK := hide (show Calls Try.prog 17 #[.agg #[.int .i64 x.room, .slice x.a x.ps.length x.c]] _ fun e w' => e = .returned (.bool true) ∧ Below _ _ w' by have := unhide OK0; rw [decide_eq_true ok] at this; exact this)
  clear OK0
  have OKH := hide ok
  cases okn : okN nm with
  | false =>
    have E := hide (show rr = ((0, []), 1) by rw [unhide RE, if_neg (fun h => by rw [okn] at h; simp at h)])
    rw [okn] at NM
    clear RE ok
    go_enter Try.func61, Try.ntmps61
    go_wp2_with fail
    refine (unhide OK).mono ?_
    rintro e u0 ⟨rfl, b1⟩
    have R2 := hide ((unhide G0).2.below b1 (by omega))
    have EN := hide (endedD (y := ⟨0, none, 0, []⟩) (base0 := w.heap.size + 2) (((unhide G0).1.step b1).b) (unhide R2) ⟨rfl, .inl ⟨rfl, rfl⟩⟩ (by omega))
    clear b1
    go_wp2_with fail
    refine ((unhide NM) u0).mono ?_
    rintro e u ⟨rfl, rfl⟩
    have f0 := (unhide R2).free 0
    have f1 := (unhide R2).free 1
    have r0 := (unhide R2).c0
    have r1 := (unhide R2).c1
    go_wp2
    refine bodyPost_ret (v := .tuple #[.agg #[.int .i64 0, .slice none 0 0], .int .i64 1]) (by simp [results, Try.results61, go_sem, r0, r1]) rfl ?_
    rw [unhide E]
    exact ⟨⟨0, none, 0, []⟩, rfl, rfl, (unhide EN).1, (unhide EN).2⟩
  | true =>
    rw [okn] at NM
    obtain ⟨b, hb⟩ : ∃ b, decide (x.room - (sumZ x.ps : Int) < (s.size : Int)) = b := ⟨_, rfl⟩
    have HB := hide hb
    have z0 := ok.1
    have z1 := ok.2.2.1
    have wr1 : wrap64 (x.room - (sumZ x.ps : Int)) = x.room - (sumZ x.ps : Int) := by rw [wrap64]; omega
    have wr2 : IntKind.i64.wrap (x.room - (sumZ x.ps : Int)) = x.room - (sumZ x.ps : Int) := by rw [IntKind.wrap_i64]; omega
    go_enter Try.func61, Try.ntmps61
    go_wp2_with fail
    generalize (w.alloc (.cells #[.int .i64 x.room, .slice x.a x.ps.length x.c] 26)).alloc (.cells #[.int .i64 0, .slice none 0 0] 26) = W at *
    refine (unhide OK).mono ?_
    rintro e u0 ⟨rfl, b1⟩
    have W1 := hide ((unhide G0).1.step b1)
    have R1 := hide ((unhide G0).2.below b1 (by omega))
    have us := b1.size
    clear b1 OK G0
    go_wp2_with fail
    refine ((unhide NM) u0).mono ?_
    rintro e u ⟨rfl, rfl⟩
    clear NM
    have c0 := (unhide W1).c0
    have c1 := (unhide W1).c1
    have K0 : u.cell? ⟨w.heap.size, 0, none⟩ = some (.int .i64 x.room) ∧ u.cell? ⟨w.heap.size, 1, none⟩ = some (.slice x.a x.ps.length x.c) := ⟨c0, c1⟩
    go_wp2_with fail
    refine wp_region_held_drew (S := (fun w' => w'.cell? ⟨w.heap.size, 0, none⟩ = some (.int .i64 x.room) ∧ w'.cell? ⟨w.heap.size, 1, none⟩ = some (.slice x.a x.ps.length x.c))) (by kernel_rfl) K0 (fun hHeld => ?_)
    refine wpAnyH_take (i := 0) (oi := oD0) (v := .string s) rfl (by kernel_rfl) (by kernel_rfl) (by kernel_rfl) (fun _ _ _ h => h) (Or.inl ⟨by rfl, fun w hSw => ?_⟩) hHeld ?_
    · (try dsimp only at hSw)
      unfold oD0
      go_simp
    try simp only [oD0, Act.put, List.setIfInBounds_toArray, List.set_cons_zero, List.set_cons_succ]
    refine wpAnyH_take (i := 1) (oi := oD1) (v := .int .i64 s.size) rfl (by kernel_rfl) (by kernel_rfl) (by kernel_rfl) (fun _ _ _ h => h) (Or.inl ⟨by rfl, fun w hSw => ?_⟩) hHeld ?_
    · (try dsimp only at hSw)
      unfold oD1
      go_simp
    try simp only [oD1, Act.put, List.setIfInBounds_toArray, List.set_cons_zero, List.set_cons_succ]
    refine wpAnyH_take (i := 2) (oi := oD2) (v := .pointer (some ⟨w.heap.size, 0, none⟩)) rfl (by kernel_rfl) (by kernel_rfl) (by kernel_rfl) (fun _ _ _ h => h) (Or.inl ⟨by rfl, fun w hSw => ?_⟩) hHeld ?_
    · (try dsimp only at hSw)
      unfold oD2
      go_simp
    try simp only [oD2, Act.put, List.setIfInBounds_toArray, List.set_cons_zero, List.set_cons_succ]
    refine wpAnyH_take (i := 3) (oi := oD3) (v := .int .i64 x.room) rfl (by kernel_rfl) (by kernel_rfl) (by kernel_rfl) (fun _ _ _ h => h) (Or.inl ⟨by rfl, fun w hSw => ?_⟩) hHeld ?_
    · (try dsimp only at hSw)
      unfold oD3
      go_simp
    try simp only [oD3, Act.put, List.setIfInBounds_toArray, List.set_cons_zero, List.set_cons_succ]
    refine wpAnyH_take (i := 4) (oi := oD4) (v := .agg #[.int .i64 x.room, .slice x.a x.ps.length x.c]) rfl (by kernel_rfl) (by kernel_rfl) (by kernel_rfl) (fun _ _ _ h => h) (Or.inl ⟨by rfl, fun w hSw => ?_⟩) hHeld ?_
    · (try dsimp only at hSw)
      unfold oD4
      go_simp
    try simp only [oD4, Act.put, List.setIfInBounds_toArray, List.set_cons_zero, List.set_cons_succ]
    refine wpAnyH_ready (rs := [5]) (by kernel_rfl) (by simp) ?_
    refine AllReadyH.cons (o := oD5) rfl (fun K hK => ?_) AllReadyH.nil
    unfold oD5
    go_simp
    go_wp2_with fail
    refine (sSize u.drew x (unhide W1).drew.r hz).mono ?_
    rintro e v ⟨rfl, bb⟩
    have bb1 : Below u.heap.size u v := ⟨bb.os, bb.tape, bb.output, bb.size, bb.block⟩
    have W4 := hide ((unhide W1).step bb1)
    have R4 := hide ((unhide R1).below bb1 (unhide R1).lt.2)
    have K1 : v.cell? ⟨w.heap.size, 0, none⟩ = some (.int .i64 x.room) ∧ v.cell? ⟨w.heap.size, 1, none⟩ = some (.slice x.a x.ps.length x.c) := ⟨(unhide W4).c0, (unhide W4).c1⟩
    have vs := bb1.size
    clear bb bb1
    go_wp2_with fail
    refine hK.out _ _ K1 (fun hHeld => ?_)
    clear hK K
    try simp only [oD5, Act.put, List.setIfInBounds_toArray, List.set_cons_zero, List.set_cons_succ]
    refine wpAnyH_take (i := 6) (oi := oD6) (v := .int .i64 (x.room - sumZ x.ps)) rfl (by kernel_rfl) (by kernel_rfl) (by kernel_rfl) (fun _ _ _ h => h) (Or.inl ⟨by rfl, fun w hSw => ?_⟩) hHeld ?_
    · (try dsimp only at hSw)
      unfold oD6
      go_simp
    try simp only [oD6, Act.put, List.setIfInBounds_toArray, List.set_cons_zero, List.set_cons_succ]
    refine wpAnyH_take (i := 7) (oi := oD7) (v := .bool b) rfl (by kernel_rfl) (by kernel_rfl) (by kernel_rfl) (fun _ _ _ h => h) (Or.inl ⟨by rfl, fun w hSw => ?_⟩) hHeld ?_
    · (try dsimp only at hSw)
      unfold oD7
      go_simp
    try simp only [oD7, Act.put, List.setIfInBounds_toArray, List.set_cons_zero, List.set_cons_succ]
    refine wpAnyH_take (i := 8) (oi := oD8) (v := .bool b) rfl (by kernel_rfl) (by kernel_rfl) (by kernel_rfl) (fun _ _ _ h => h) (Or.inl ⟨by rfl, fun w hSw => ?_⟩) hHeld ?_
    · (try dsimp only at hSw)
      unfold oD8
      go_simp
    try simp only [oD8, Act.put, List.setIfInBounds_toArray, List.set_cons_zero, List.set_cons_succ]
    refine wpAnyH_done (by kernel_rfl) ?_ _
    clear c0 c1 hb wr1 wr2 z0 z1
    have W5 := W4
    have R5 := R4
    cases b with
    | true =>
      have E := hide (show rr = ((x.room, x.ps), 3) by rw [unhide RE, if_pos ⟨ok, okn⟩, if_pos (by simpa using unhide HB)])
      have d0 := (unhide W4).c0
      have d1 := (unhide W4).c1
      clear K0 K1
      go_wp2_with fail
      refine (sCopy _ x (unhide W5).r).mono ?_
      rintro e u2 ⟨y, yr, yp, rfl, oy, b2⟩
      have HY := hide (show (y.room, y.ps) = (x.room, x.ps) by rw [yr, yp])
      have R2 := hide ((unhide R5).below b2 (unhide R5).lt.2)
      have EN := hide (endedD ((unhide W5).b.trans (b2.mono (unhide W5).b.size)) (unhide R2) oy (unhide R5).lt.2)
      have f0 := (unhide R2).free 0
      have f1 := (unhide R2).free 1
      have r0 := (unhide R2).c0
      have r1 := (unhide R2).c1
      clear b2 oy yr yp d0 d1
      go_wp2
      refine bodyPost_ret (v := .tuple #[.agg #[.int .i64 y.room, .slice y.a y.ps.length y.c], .int .i64 3]) (by simp [results, Try.results61, go_sem, r0, r1]) rfl ?_
      rw [unhide E]
      exact ⟨y, unhide HY, rfl, (unhide EN).1, (unhide EN).2⟩
    | false =>
      have RE2 := hide (show rr = ((x.room, putF x.ps (appF x.ps nm s)), 0) by rw [unhide RE, if_pos ⟨ok, okn⟩, if_neg (by have := unhide HB; simpa using this)])
      have sr : (s.size : Int) ≤ x.room - sumZ x.ps := by have := unhide HB; simpa using this
      clear RE HB
      obtain ⟨V3, hV3⟩ : ∃ V3, Hid (V3 = v.alloc (.cells #[.int .i64 nm, .string ⟨#[]⟩, .string ⟨#[]⟩] 54)) := ⟨_, rfl⟩
      have b3 := hide (show Below v.heap.size v V3 by rw [unhide hV3]; exact one_more _ _)
      have W6 := hide ((unhide W5).step (unhide b3))
      have R6 := hide ((unhide R5).below (unhide b3) (unhide R5).lt.2)
      have F6 := hide (show OwnF 54 V3 w.heap.size v.heap.size 1 1 [(nm, ⟨#[]⟩, ⟨#[]⟩)] by rw [unhide hV3]; exact litF1 _ _ _ _ _ _ (by have := (unhide W5).lt; omega))
      have d0 := (unhide W6).c0
      have d1 := (unhide W6).c1
      have e0 : v.cell? ⟨w.heap.size, 0, none⟩ = some (.int .i64 x.room) := (unhide W5).c0
      have e1 : v.cell? ⟨w.heap.size, 1, none⟩ = some (.slice x.a x.ps.length x.c) := (unhide W5).c1
      have wl := (unhide W5).lt
      go_wp2_with fail
      rw [← unhide hV3]
      clear e0 e1 hV3
      refine (sFind V3 x nm (unhide W6).r).mono ?_
      rintro e u3 ⟨rfl, b4⟩
      have W7 := hide ((unhide W6).step b4)
      have R7 := hide ((unhide R6).below b4 (unhide R6).lt.2)
      have F7 := hide ((unhide F6).below b4 (by have := (unhide F6).lt; omega))
      have v7 := b4.size
      have fl := (unhide F6).lt
      clear b4 W6 R6 F6 d0 d1
      have FI := hide (findF_in (ps := x.ps) (nm := nm))
      have RF := hide (show appF x.ps nm s = if 0 ≤ findF x.ps nm then ((elF x.ps (findF x.ps nm).toNat).1, (elF x.ps (findF x.ps nm).toNat).2.1, (elF x.ps (findF x.ps nm).toNat).2.2 ++ s) else (nm, ⟨#[]⟩, s) from rfl)
      generalize appF x.ps nm s = ff at *
      generalize findF x.ps nm = fi at *
      have q0 : u3.cell? ⟨v.heap.size, 0, none⟩ = some (.int .i64 nm) := ((unhide F7).at 0 (by simp)).1
      have q1 : u3.cell? ⟨v.heap.size, 1, none⟩ = some (.string ⟨#[]⟩) := ((unhide F7).at 0 (by simp)).2.1
      have q2 : u3.cell? ⟨v.heap.size, 2, none⟩ = some (.string ⟨#[]⟩) := ((unhide F7).at 0 (by simp)).2.2
      have x0 := (unhide F7).free 0
      have x1 := (unhide F7).free 1
      have x2 := (unhide F7).free 2
      have z60 := ok.1.2
      by_cases fn : 0 ≤ fi
      · obtain ⟨k, rfl, kl, en⟩ := (unhide FI) fn
        have kt : (k : Int) < x.ps.length := by omega
        obtain ⟨g, ea, lg, h0, h1, h2⟩ := cells_of (unhide W7).r kl
        have ix := ixF x.c ea kl
        have NX := sumZ_next kl
        have LE := sumZ_le x.ps (k + 1)
        have ES := hide (show ff = ((elF x.ps k).1, (elF x.ps k).2.1, (elF x.ps k).2.2 ++ s) by rw [unhide RF, if_pos fn]; rfl)
        have s1 : (elF x.ps k).2.1.size + (elF x.ps k).2.2.size ≤ 1048576 := by omega
        clear FI RF en ea NX LE
        generalize (elF x.ps k).1 = z0 at *
        generalize (elF x.ps k).2.1 = z1 at *
        generalize (elF x.ps k).2.2 = z2 at *
        have s3 : z2.size + s.size ≤ 9223372036854775807 := by omega
        obtain ⟨o1, g1⟩ := (unhide F7).set0 0 z0
        obtain ⟨o2, g2⟩ := o1.set1 0 z1
        obtain ⟨o3, g3⟩ := o2.set2 0 z2
        obtain ⟨o4, g4⟩ := o3.set2 0 (z2 ++ s)
        have GG := hide (grow_grow (grow_grow (grow_grow g1 g2) g3) g4)
        have q3 : (((u3.setCell ⟨v.heap.size, 0, none⟩ (.int .i64 z0)).setCell ⟨v.heap.size, 1, none⟩ (.string z1)).setCell ⟨v.heap.size, 2, none⟩ (.string z2)).cell? ⟨v.heap.size, 2, none⟩ = some (.string z2) := (o3.at 0 (by simp)).2.2
        have d0 := (unhide W7).c0
        have d1 := (unhide W7).c1
        have B7 := hide (grow_low (unhide W7).b (unhide GG) ⟨by omega, (unhide W7).b.size⟩)
        have W5 := hide (show Wd w ((((u3.setCell ⟨v.heap.size, 0, none⟩ (.int .i64 z0)).setCell ⟨v.heap.size, 1, none⟩ (.string z1)).setCell ⟨v.heap.size, 2, none⟩ (.string z2)).setCell ⟨v.heap.size, 2, none⟩ (.string (z2 ++ s))) x from ⟨(kcell (unhide GG) 0 (unhide W7).lt (by omega)).trans d0, (kcell (unhide GG) 1 (unhide W7).lt (by omega)).trans d1, Nat.lt_of_lt_of_le (unhide W7).lt (unhide GG).size, unhide B7, (unhide HR).below (unhide B7)⟩)
        have R5 := hide (show Bc ((((u3.setCell ⟨v.heap.size, 0, none⟩ (.int .i64 z0)).setCell ⟨v.heap.size, 1, none⟩ (.string z1)).setCell ⟨v.heap.size, 2, none⟩ (.string z2)).setCell ⟨v.heap.size, 2, none⟩ (.string (z2 ++ s))) w.heap.size (w.heap.size + 1) (.int .i64 0) (.slice none 0 0) from (unhide R7).kept (unhide GG) (by simp; omega))
        have gsz := (unhide GG).size
        clear o1 o2 o3 o4 g1 g2 g3 g4
        go_wp2_with fail
        refine (sPut _ x z0 z1 (z2 ++ s) (unhide W5).r ok.2.1).mono ?_
        rintro e u2 ⟨y, yr, yp, rfl, oy, b2⟩
        have E := RE2
        have HY := hide (show (y.room, y.ps) = (x.room, putF x.ps ff) by rw [yr, yp, unhide ES])
        have R2 := hide ((unhide R5).below b2 (unhide R5).lt.2)
        have EN := hide (endedD ((unhide W5).b.trans (b2.mono (unhide W5).b.size)) (unhide R2) oy (unhide R5).lt.2)
        have f0 := (unhide R2).free 0
        have f1 := (unhide R2).free 1
        have r0 := (unhide R2).c0
        have r1 := (unhide R2).c1
        clear b2 oy yr yp
        go_wp2
        refine bodyPost_ret (v := .tuple #[.agg #[.int .i64 y.room, .slice y.a y.ps.length y.c], .int .i64 0]) (by simp [results, Try.results61, go_sem, r0, r1]) rfl ?_
        rw [unhide E]
        exact ⟨y, unhide HY, rfl, (unhide EN).1, (unhide EN).2⟩
      · have ES := hide (show ff = (nm, ⟨#[]⟩, s) by rw [unhide RF, if_neg fn])
        clear FI RF
        have s3 : s.size ≤ 9223372036854775807 := by omega
        obtain ⟨o3, g3⟩ := (unhide F7).set2 0 s
        have GG := hide g3
        have d0 := (unhide W7).c0
        have d1 := (unhide W7).c1
        have B7 := hide (grow_low (unhide W7).b (unhide GG) ⟨by omega, (unhide W7).b.size⟩)
        have W5 := hide (show Wd w (u3.setCell ⟨v.heap.size, 2, none⟩ (.string s)) x from ⟨(kcell (unhide GG) 0 (unhide W7).lt (by omega)).trans d0, (kcell (unhide GG) 1 (unhide W7).lt (by omega)).trans d1, Nat.lt_of_lt_of_le (unhide W7).lt (unhide GG).size, unhide B7, (unhide HR).below (unhide B7)⟩)
        have R5 := hide (show Bc (u3.setCell ⟨v.heap.size, 2, none⟩ (.string s)) w.heap.size (w.heap.size + 1) (.int .i64 0) (.slice none 0 0) from (unhide R7).kept (unhide GG) (by simp; omega))
        have gsz := (unhide GG).size
        clear o3 g3
        go_wp2_with fail
        refine (sPut _ x nm ⟨#[]⟩ s (unhide W5).r ok.2.1).mono ?_
        rintro e u2 ⟨y, yr, yp, rfl, oy, b2⟩
        have E := RE2
        have HY := hide (show (y.room, y.ps) = (x.room, putF x.ps ff) by rw [yr, yp, unhide ES])
        have R2 := hide ((unhide R5).below b2 (unhide R5).lt.2)
        have EN := hide (endedD ((unhide W5).b.trans (b2.mono (unhide W5).b.size)) (unhide R2) oy (unhide R5).lt.2)
        have f0 := (unhide R2).free 0
        have f1 := (unhide R2).free 1
        have r0 := (unhide R2).c0
        have r1 := (unhide R2).c1
        clear b2 oy yr yp
        go_wp2
        refine bodyPost_ret (v := .tuple #[.agg #[.int .i64 y.room, .slice y.a y.ps.length y.c], .int .i64 0]) (by simp [results, Try.results61, go_sem, r0, r1]) rfl ?_
        rw [unhide E]
        exact ⟨y, unhide HY, rfl, (unhide EN).1, (unhide EN).2⟩
end Go.Proofs.Ytcajdiopgaoicaa.SAppend14
namespace Go.Proofs.Ytcajdiopgaoicaa.SSync14
open Go.ChangeShapes Go.WideShapes Go.ChangeAt Go.RowKit Fil14 DiskH14 DkH14 SDk14 SOk14 SRd14 App14 SLess14 SCopy14 SRef14 SCom14 SPut14
/-- What DiskSync answers. -/
def syncD (room : Int) (ps : List TF) (nm : Int) : (Int × List TF) × Int := if (atD room ps nm).2 = 0 then ((room, putF ps (nm, bytesAt ps (atD room ps nm).1.toNat, ByteArray.empty)), 0) else (refD (atD room ps nm).2 room ps, (atD room ps nm).2)
set_option maxRecDepth 100000 in
set_option maxHeartbeats 4000000 in
theorem sDiskSync (w : World) (x : Dx) (nm : Int) (hr : RdD w x) (hz : sumZ x.ps ≤ 1048576) :
    Calls Try.prog 32 #[.agg #[.int .i64 x.room, .slice x.a x.ps.length x.c], .int .i64 nm] w (ToldD (syncD x.room x.ps nm) w) := by
  have G0 := hide (begunD hr)
  have s2 : ((w.alloc (.cells #[.int .i64 x.room, .slice x.a x.ps.length x.c] 26)).alloc (.cells #[.int .i64 0, .slice none 0 0] 26)).heap.size = w.heap.size + 2 := by simp
  have AT := hide (sAt _ x nm (unhide G0).1.r hz)
  have AI := hide (at_in (room := x.room) (ps := x.ps) (nm := nm))
  have RE := hide (show syncD x.room x.ps nm = if (atD x.room x.ps nm).2 = 0 then ((x.room, putF x.ps (nm, bytesAt x.ps (atD x.room x.ps nm).1.toNat, ByteArray.empty)), 0) else (refD (atD x.room x.ps nm).2 x.room x.ps, (atD x.room x.ps nm).2) from rfl)
  generalize syncD x.room x.ps nm = rr at *
  generalize atD x.room x.ps nm = at' at *
  obtain ⟨k0, c⟩ := at'
  clear hr
  go_enter Try.func32, Try.ntmps32
  go_wp2_with fail
  generalize (w.alloc (.cells #[.int .i64 x.room, .slice x.a x.ps.length x.c] 26)).alloc (.cells #[.int .i64 0, .slice none 0 0] 26) = W at *
  refine (unhide AT).mono ?_
  rintro e u ⟨rfl, b1⟩
  have W1 := hide ((unhide G0).1.step b1)
  have R1 := hide ((unhide G0).2.below b1 (by omega))
  have us := b1.size
  clear b1 AT G0
  have c0 := (unhide W1).c0
  have c1 := (unhide W1).c1
  have lt := (unhide W1).lt
  by_cases q : c = 0
  case neg =>
    have E := hide (show rr = (refD c x.room x.ps, c) by rw [unhide RE, if_neg q])
    have qb : (c != 0) = true := by simpa using q
    clear RE AI q
    go_wp2_with fail
    refine (sRefused u x c (unhide W1).r).mono ?_
    rintro e u2 ⟨y, hy, rfl, oy, b2⟩
    have R2 := hide ((unhide R1).below b2 (unhide R1).lt.2)
    have EN := hide (endedD ((unhide W1).b.trans (b2.mono (unhide W1).b.size)) (unhide R2) oy (by omega))
    have HY := hide hy
    have f0 := (unhide R2).free 0
    have f1 := (unhide R2).free 1
    have r0 := (unhide R2).c0
    have r1 := (unhide R2).c1
    clear b2 oy hy c0 c1 lt W1 R1
    go_wp2
    refine bodyPost_ret (v := .tuple #[.agg #[.int .i64 y.room, .slice y.a y.ps.length y.c], .int .i64 c]) (by simp [results, Try.results32, go_sem, r0, r1]) rfl ?_
    rw [unhide E]
    exact ⟨y, unhide HY, rfl, (unhide EN).1, (unhide EN).2⟩
  subst q
  obtain ⟨ok, okn, k, rfl, kl, en⟩ := (unhide AI) rfl
  have E := hide (show rr = ((x.room, putF x.ps (nm, bytesAt x.ps k, ByteArray.empty)), 0) by rw [unhide RE, if_pos rfl]; rfl)
  have h22 := ok.2.1
  have kt : (k : Int) < x.ps.length := by omega
  obtain ⟨g, ea, lg, d0, d1, d2⟩ := cells_of (unhide W1).r kl
  have ix := ixF x.c ea kl
  have ES := hide (show bytesAt x.ps k = (elF x.ps k).2.1 ++ (elF x.ps k).2.2 from rfl)
  have NX := sumZ_next kl
  have LE := sumZ_le x.ps (k + 1)
  have s1 : (elF x.ps k).2.1.size + (elF x.ps k).2.2.size ≤ 1048576 := by omega
  clear RE AI ok okn en ea NX LE
  generalize (elF x.ps k).1 = z0 at *
  generalize (elF x.ps k).2.1 = z1 at *
  generalize (elF x.ps k).2.2 = z2 at *
  have W3 := hide ((unhide W1).step (one_more u (.cells #[.int .i64 z0, .string z1, .string z2] 54)))
  have R3 := hide ((unhide R1).below (one_more u (.cells #[.int .i64 z0, .string z1, .string z2] 54)) (unhide R1).lt.2)
  go_wp2_with fail
  refine (sPut _ x nm (z1 ++ z2) ByteArray.empty (unhide W3).r h22).mono ?_
  rintro e u2 ⟨y, hy0, hy, rfl, oy, b2⟩
  have R2 := hide ((unhide R3).below b2 (unhide R3).lt.2)
  have EN := hide (endedD ((unhide W3).b.trans (b2.mono (unhide W3).b.size)) (unhide R2) oy (by simp; omega))
  have HY := hide (show (y.room, y.ps) = (x.room, putF x.ps (nm, bytesAt x.ps k, ByteArray.empty)) by rw [hy0, hy, unhide ES])
  have f0 := (unhide R2).free 0
  have f1 := (unhide R2).free 1
  have r0 := (unhide R2).c0
  have r1 := (unhide R2).c1
  clear b2 oy hy hy0 c0 c1 lt W1 R1 W3 R3 d0 d1 d2 ix s1
  go_wp2
  refine bodyPost_ret (v := .tuple #[.agg #[.int .i64 y.room, .slice y.a y.ps.length y.c], .int .i64 0]) (by simp [results, Try.results32, go_sem, r0, r1]) rfl ?_
  rw [unhide E]
  exact ⟨y, unhide HY, rfl, (unhide EN).1, (unhide EN).2⟩
end Go.Proofs.Ytcajdiopgaoicaa.SSync14
namespace Go.Proofs.Ytcajdiopgaoicaa.SMove14
open Go.ChangeShapes Go.WideShapes Go.ChangeAt Go.RowKit Fil14 DiskH14 DkH14 SDk14 SOk14 SRd14 App14 SLess14 SCopy14 SRef14 SCom14 SPut14
/-- What DiskMove answers. -/
def moveD (room : Int) (ps : List TF) (nm to : Int) : (Int × List TF) × Int := if okN to = true ∧ nm ≠ to then (if (atD room ps nm).2 = 0 then ((room, putF (lessN ps (atD room ps nm).1 ps.length) (to, (elF ps (atD room ps nm).1.toNat).2.1, (elF ps (atD room ps nm).1.toNat).2.2)), 0) else (refD (atD room ps nm).2 room ps, (atD room ps nm).2)) else (refD 1 room ps, 1)
theorem less_len (ps : List TF) (nm : Int) : ∀ n, (lessN ps nm n).length ≤ n
  | 0 => by simp [lessN]
  | n + 1 => by
    have := less_len ps nm n
    simp only [lessN]
    split <;> simp <;> omega
abbrev oM0 : Oper := { dst := some 38, op := Go.Op.load 26 (Go.Operand.tmp 3), type := 26, pos := "l14_disk.go:144", after := #[], guard := none }
abbrev oM1 : Oper := { dst := some 39, op := Go.Op.move (Go.Operand.tmp 8), type := 3, pos := "l14_disk.go:144", after := #[], guard := none }
abbrev oM2 : Oper := { dst := some 40, op := Go.Op.call { callee := Go.Callee.value (Go.Operand.func 85), args := #[Go.Operand.tmp 38, Go.Operand.tmp 39], argTypes := #[26, 3] }, type := 26, pos := "l14_disk.go:144", after := #[{ on := 0, ground := Go.Ground.data }, { on := 1, ground := Go.Ground.data }], guard := none }
abbrev oM3 : Oper := { dst := some 41, op := Go.Op.load 54 (Go.Operand.tmp 10), type := 54, pos := "l14_disk.go:144", after := #[], guard := none }
abbrev oM4 : Oper := { dst := some 42, op := Go.Op.call { callee := Go.Callee.value (Go.Operand.func 56), args := #[Go.Operand.tmp 40, Go.Operand.tmp 41], argTypes := #[26, 54] }, type := 26, pos := "l14_disk.go:144", after := #[{ on := 2, ground := Go.Ground.data }, { on := 3, ground := Go.Ground.data }, { on := 2, ground := Go.Ground.chain }], guard := none }
abbrev oM5 : Oper := { dst := none, op := Go.Op.store 26 (Go.Operand.tmp 6) (Go.Operand.tmp 42), type := 0, pos := "l14_disk.go:144", after := #[{ on := 4, ground := Go.Ground.data }, { on := 4, ground := Go.Ground.chain }, { on := 0, ground := Go.Ground.phase }, { on := 1, ground := Go.Ground.phase }, { on := 2, ground := Go.Ground.phase }, { on := 3, ground := Go.Ground.phase }, { on := 4, ground := Go.Ground.phase }], guard := none }
abbrev oM6 : Oper := { dst := some 7, op := Go.Op.assign (Go.Operand.const (Go.Value.int Go.IntKind.i64 0)), type := 3, pos := "l14_disk.go:144", after := #[{ on := 5, ground := Go.Ground.chain }, { on := 0, ground := Go.Ground.phase }, { on := 1, ground := Go.Ground.phase }, { on := 2, ground := Go.Ground.phase }, { on := 3, ground := Go.Ground.phase }, { on := 4, ground := Go.Ground.phase }, { on := 5, ground := Go.Ground.phase }], guard := none }
set_option maxRecDepth 100000 in
set_option maxHeartbeats 4000000 in
theorem sDiskMove (w : World) (x : Dx) (nm to : Int) (hr : RdD w x) (hz : sumZ x.ps ≤ 1048576) :
    Calls Try.prog 83 #[.agg #[.int .i64 x.room, .slice x.a x.ps.length x.c], .int .i64 nm, .int .i64 to] w (ToldD (moveD x.room x.ps nm to) w) := by
  have G0 := hide (begunD hr)
  have s2 : ((w.alloc (.cells #[.int .i64 x.room, .slice x.a x.ps.length x.c] 26)).alloc (.cells #[.int .i64 0, .slice none 0 0] 26)).heap.size = w.heap.size + 2 := by simp
  have AT := hide (sAt _ x nm (unhide G0).1.r hz)
  have AI := hide (at_in (room := x.room) (ps := x.ps) (nm := nm))
  have NM := hide (fun u => sName u to)
  have RE := hide (show moveD x.room x.ps nm to = if okN to = true ∧ nm ≠ to then (if (atD x.room x.ps nm).2 = 0 then ((x.room, putF (lessN x.ps (atD x.room x.ps nm).1 x.ps.length) (to, (elF x.ps (atD x.room x.ps nm).1.toNat).2.1, (elF x.ps (atD x.room x.ps nm).1.toNat).2.2)), 0) else (refD (atD x.room x.ps nm).2 x.room x.ps, (atD x.room x.ps nm).2)) else (refD 1 x.room x.ps, 1) from rfl)
  generalize moveD x.room x.ps nm to = rr at *
  generalize atD x.room x.ps nm = at' at *
  obtain ⟨k0, c⟩ := at'
  generalize okN to = bt at *
  clear hr
  go_enter Try.func83, Try.ntmps83
  go_wp2_with fail
  generalize (w.alloc (.cells #[.int .i64 x.room, .slice x.a x.ps.length x.c] 26)).alloc (.cells #[.int .i64 0, .slice none 0 0] 26) = W at *
  refine (unhide AT).mono ?_
  rintro e u0 ⟨rfl, b1⟩
  have W1 := hide ((unhide G0).1.step b1)
  have R1 := hide ((unhide G0).2.below b1 (by omega))
  have us := b1.size
  clear b1 AT G0
  have c0 := (unhide W1).c0
  have c1 := (unhide W1).c1
  have lt := (unhide W1).lt
  go_wp2_with fail
  refine ((unhide NM) u0).mono ?_
  rintro e u ⟨rfl, rfl⟩
  clear NM
  cases bt with
  | false =>
    have E := hide (show rr = (refD 1 x.room x.ps, 1) by rw [unhide RE, if_neg (fun h => by simp at h)])
    clear RE AI
    go_wp2_with fail
    refine (sRefused u x (1) (unhide W1).r).mono ?_
    rintro e u2 ⟨y, hy, rfl, oy, b2⟩
    have R2 := hide ((unhide R1).below b2 (unhide R1).lt.2)
    have EN := hide (endedD ((unhide W1).b.trans (b2.mono (unhide W1).b.size)) (unhide R2) oy (by omega))
    have HY := hide hy
    have f0 := (unhide R2).free 0
    have f1 := (unhide R2).free 1
    have r0 := (unhide R2).c0
    have r1 := (unhide R2).c1
    clear b2 oy hy c0 c1 lt W1 R1
    go_wp2
    refine bodyPost_ret (v := .tuple #[.agg #[.int .i64 y.room, .slice y.a y.ps.length y.c], .int .i64 (1)]) (by simp [results, Try.results83, go_sem, r0, r1]) rfl ?_
    rw [unhide E]
    exact ⟨y, unhide HY, rfl, (unhide EN).1, (unhide EN).2⟩
  | true =>
    by_cases qt : nm = to
    · have E := hide (show rr = (refD 1 x.room x.ps, 1) by rw [unhide RE, if_neg (fun h => h.2 qt)])
      have qtb : (nm == to) = true := by simpa using qt
      clear RE AI qt
      go_wp2_with fail
      refine (sRefused u x (1) (unhide W1).r).mono ?_
      rintro e u2 ⟨y, hy, rfl, oy, b2⟩
      have R2 := hide ((unhide R1).below b2 (unhide R1).lt.2)
      have EN := hide (endedD ((unhide W1).b.trans (b2.mono (unhide W1).b.size)) (unhide R2) oy (by omega))
      have HY := hide hy
      have f0 := (unhide R2).free 0
      have f1 := (unhide R2).free 1
      have r0 := (unhide R2).c0
      have r1 := (unhide R2).c1
      clear b2 oy hy c0 c1 lt W1 R1
      go_wp2
      refine bodyPost_ret (v := .tuple #[.agg #[.int .i64 y.room, .slice y.a y.ps.length y.c], .int .i64 (1)]) (by simp [results, Try.results83, go_sem, r0, r1]) rfl ?_
      rw [unhide E]
      exact ⟨y, unhide HY, rfl, (unhide EN).1, (unhide EN).2⟩
    have qtb : (nm == to) = false := by simpa using qt
    have RE2 := hide (show rr = if c = 0 then ((x.room, putF (lessN x.ps k0 x.ps.length) (to, (elF x.ps k0.toNat).2.1, (elF x.ps k0.toNat).2.2)), 0) else (refD c x.room x.ps, c) by rw [unhide RE, if_pos ⟨rfl, qt⟩])
    clear RE qt
    by_cases q : c = 0
    case neg =>
      have E := hide (show rr = (refD c x.room x.ps, c) by rw [unhide RE2, if_neg q])
      have qb : (c != 0) = true := by simpa using q
      clear RE2 AI q
      go_wp2_with fail
      refine (sRefused u x (c) (unhide W1).r).mono ?_
      rintro e u2 ⟨y, hy, rfl, oy, b2⟩
      have R2 := hide ((unhide R1).below b2 (unhide R1).lt.2)
      have EN := hide (endedD ((unhide W1).b.trans (b2.mono (unhide W1).b.size)) (unhide R2) oy (by omega))
      have HY := hide hy
      have f0 := (unhide R2).free 0
      have f1 := (unhide R2).free 1
      have r0 := (unhide R2).c0
      have r1 := (unhide R2).c1
      clear b2 oy hy c0 c1 lt W1 R1
      go_wp2
      refine bodyPost_ret (v := .tuple #[.agg #[.int .i64 y.room, .slice y.a y.ps.length y.c], .int .i64 (c)]) (by simp [results, Try.results83, go_sem, r0, r1]) rfl ?_
      rw [unhide E]
      exact ⟨y, unhide HY, rfl, (unhide EN).1, (unhide EN).2⟩
    subst q
    obtain ⟨ok, okn, k, rfl, kl, en⟩ := (unhide AI) rfl
    have E := hide (show rr = ((x.room, putF (lessN x.ps k x.ps.length) (to, (elF x.ps k).2.1, (elF x.ps k).2.2)), 0) by rw [unhide RE2, if_pos rfl]; rfl)
    have h22 := ok.2.1
    have LL := hide (less_len x.ps k x.ps.length)
    have kt : (k : Int) < x.ps.length := by omega
    obtain ⟨g, ea, lg, d0, d1, d2⟩ := cells_of (unhide W1).r kl
    have ix := ixF x.c ea kl
    clear RE2 AI ok okn en ea
    generalize (elF x.ps k).1 = z0 at *
    generalize (elF x.ps k).2.1 = z1 at *
    generalize (elF x.ps k).2.2 = z2 at *
    obtain ⟨u3, hu3⟩ : ∃ u3, Hid (u3 = u.alloc (.cells #[.int .i64 to, .string z1, .string z2] 54)) := ⟨_, rfl⟩
    have W3 := hide (show Wd w u3 x by rw [unhide hu3]; exact (unhide W1).step (one_more _ _))
    have R3 := hide (show Bc u3 w.heap.size (w.heap.size + 1) (.int .i64 0) (.slice none 0 0) by rw [unhide hu3]; exact (unhide R1).below (one_more _ _) (unhide R1).lt.2)
    have fb : u3.cell? ⟨u.heap.size, 0, none⟩ = some (.int .i64 to) ∧ u3.cell? ⟨u.heap.size, 1, none⟩ = some (.string z1) ∧ u3.cell? ⟨u.heap.size, 2, none⟩ = some (.string z2) := by rw [unhide hu3]; simp
    have s3 : u3.heap.size = u.heap.size + 1 := by rw [unhide hu3]; simp
    go_wp2_with fail
    rw [← unhide hu3]
    clear c0 c1 lt W1 R1 d0 d1 d2 ix hu3
    obtain ⟨b0, b1, b2⟩ := fb
    have c0 := (unhide W3).c0
    have c1 := (unhide W3).c1
    have K0 : u3.cell? ⟨w.heap.size, 0, none⟩ = some (.int .i64 x.room) ∧ u3.cell? ⟨w.heap.size, 1, none⟩ = some (.slice x.a x.ps.length x.c) ∧ u3.cell? ⟨u.heap.size, 0, none⟩ = some (.int .i64 to) ∧ u3.cell? ⟨u.heap.size, 1, none⟩ = some (.string z1) ∧ u3.cell? ⟨u.heap.size, 2, none⟩ = some (.string z2) := ⟨c0, c1, b0, b1, b2⟩
    refine wp_region_held_drew (S := (fun w' => w'.cell? ⟨w.heap.size, 0, none⟩ = some (.int .i64 x.room) ∧ w'.cell? ⟨w.heap.size, 1, none⟩ = some (.slice x.a x.ps.length x.c) ∧ w'.cell? ⟨u.heap.size, 0, none⟩ = some (.int .i64 to) ∧ w'.cell? ⟨u.heap.size, 1, none⟩ = some (.string z1) ∧ w'.cell? ⟨u.heap.size, 2, none⟩ = some (.string z2))) (by kernel_rfl) K0 (fun hHeld => ?_)
    refine wpAnyH_take (i := 0) (oi := oM0) (v := .agg #[.int .i64 x.room, .slice x.a x.ps.length x.c]) rfl (by kernel_rfl) (by kernel_rfl) (by kernel_rfl) (fun _ _ _ h => h) (Or.inl ⟨by rfl, fun w hSw => ?_⟩) hHeld ?_
    · (try dsimp only at hSw)
      unfold oM0
      go_simp
    try simp only [oM0, Act.put, List.setIfInBounds_toArray, List.set_cons_zero, List.set_cons_succ]
    refine wpAnyH_take (i := 1) (oi := oM1) (v := .int .i64 k) rfl (by kernel_rfl) (by kernel_rfl) (by kernel_rfl) (fun _ _ _ h => h) (Or.inl ⟨by rfl, fun w hSw => ?_⟩) hHeld ?_
    · (try dsimp only at hSw)
      unfold oM1
      go_simp
    try simp only [oM1, Act.put, List.setIfInBounds_toArray, List.set_cons_zero, List.set_cons_succ]
    refine wpAnyH_take (i := 3) (oi := oM3) (v := .agg #[.int .i64 to, .string z1, .string z2]) rfl (by kernel_rfl) (by kernel_rfl) (by kernel_rfl) (fun _ _ _ h => h) (Or.inl ⟨by rfl, fun w hSw => ?_⟩) hHeld ?_
    · (try dsimp only at hSw)
      unfold oM3
      go_simp
    try simp only [oM3, Act.put, List.setIfInBounds_toArray, List.set_cons_zero, List.set_cons_succ]
    refine wpAnyH_ready (rs := [2]) (by kernel_rfl) (by simp) ?_
    refine AllReadyH.cons (o := oM2) rfl (fun K hK => ?_) AllReadyH.nil
    unfold oM2
    go_simp
    go_wp2_with fail
    refine (sLess u3.drew x k (unhide W3.drew).r).mono ?_
    rintro e v1 ⟨y, yr, yp, rfl, oy, bb⟩
    have bb1 : Below u3.heap.size u3 v1 := ⟨bb.os, bb.tape, bb.output, bb.size, bb.block⟩
    have W4 := hide ((unhide W3).step bb1)
    have R4 := hide ((unhide R3).below bb1 (unhide R3).lt.2)
    have O4 := hide oy
    have HY1 := hide (And.intro yr yp)
    have K1 : v1.cell? ⟨w.heap.size, 0, none⟩ = some (.int .i64 x.room) ∧ v1.cell? ⟨w.heap.size, 1, none⟩ = some (.slice x.a x.ps.length x.c) ∧ v1.cell? ⟨u.heap.size, 0, none⟩ = some (.int .i64 to) ∧ v1.cell? ⟨u.heap.size, 1, none⟩ = some (.string z1) ∧ v1.cell? ⟨u.heap.size, 2, none⟩ = some (.string z2) := ⟨(unhide W4).c0, (unhide W4).c1, (bb1.cell (p := ⟨u.heap.size, 0, none⟩) (show u.heap.size < u3.heap.size by omega)).trans b0, (bb1.cell (p := ⟨u.heap.size, 1, none⟩) (show u.heap.size < u3.heap.size by omega)).trans b1, (bb1.cell (p := ⟨u.heap.size, 2, none⟩) (show u.heap.size < u3.heap.size by omega)).trans b2⟩
    have vs := bb1.size
    clear bb bb1 oy yr yp
    go_wp2_with fail
    refine hK.out _ _ K1 (fun hHeld => ?_)
    clear hK K
    try simp only [oM2, Act.put, List.setIfInBounds_toArray, List.set_cons_zero, List.set_cons_succ]
    refine wpAnyH_ready (rs := [4]) (by kernel_rfl) (by simp) ?_
    refine AllReadyH.cons (o := oM4) rfl (fun K hK => ?_) AllReadyH.nil
    unfold oM4
    go_simp
    go_wp2_with fail
    refine (sPut v1 y to z1 z2 (OwD.rd (unhide O4) (by rw [(unhide HY1).2]; have := unhide LL; omega)) (by rw [(unhide HY1).2]; have := unhide LL; omega)).mono ?_
    rintro e v2 ⟨y2, yr2, yp2, rfl, oy2, bb2⟩
    have W5 := hide ((unhide W4).step bb2)
    have R5 := hide ((unhide R4).below bb2 (unhide R4).lt.2)
    have vs2 := bb2.size
    have K2 : v2.cell? ⟨w.heap.size, 0, none⟩ = some (.int .i64 x.room) ∧ v2.cell? ⟨w.heap.size, 1, none⟩ = some (.slice x.a x.ps.length x.c) ∧ v2.cell? ⟨u.heap.size, 0, none⟩ = some (.int .i64 to) ∧ v2.cell? ⟨u.heap.size, 1, none⟩ = some (.string z1) ∧ v2.cell? ⟨u.heap.size, 2, none⟩ = some (.string z2) := ⟨(unhide W5).c0, (unhide W5).c1, (bb2.cell (p := ⟨u.heap.size, 0, none⟩) (show u.heap.size < v1.heap.size by omega)).trans K1.2.2.1, (bb2.cell (p := ⟨u.heap.size, 1, none⟩) (show u.heap.size < v1.heap.size by omega)).trans K1.2.2.2.1, (bb2.cell (p := ⟨u.heap.size, 2, none⟩) (show u.heap.size < v1.heap.size by omega)).trans K1.2.2.2.2⟩
    have EN := hide (endedD (unhide W5).b (unhide R5) oy2 (by have := (unhide W4).lt; omega))
    have HY2 := hide (show (y2.room, y2.ps) = (x.room, putF (lessN x.ps k x.ps.length) (to, z1, z2)) by rw [yr2, yp2, (unhide HY1).1, (unhide HY1).2])
    have f0 := (unhide R5).free 0
    have f1 := (unhide R5).free 1
    have r0 := (unhide R5).c0
    have r1 := (unhide R5).c1
    have wl := (unhide W5).lt
    have st := grow_grow ((unhide R5).set0 (.int .i64 y2.room)).2 (bc_set1 ((unhide R5).set0 (.int .i64 y2.room)).1 (.slice y2.a y2.ps.length y2.c)).2
    have K3 : ((v2.setCell ⟨w.heap.size + 1, 0, none⟩ (.int .i64 y2.room)).setCell ⟨w.heap.size + 1, 1, none⟩ (.slice y2.a y2.ps.length y2.c)).cell? ⟨w.heap.size, 0, none⟩ = some (.int .i64 x.room) ∧ ((v2.setCell ⟨w.heap.size + 1, 0, none⟩ (.int .i64 y2.room)).setCell ⟨w.heap.size + 1, 1, none⟩ (.slice y2.a y2.ps.length y2.c)).cell? ⟨w.heap.size, 1, none⟩ = some (.slice x.a x.ps.length x.c) ∧ ((v2.setCell ⟨w.heap.size + 1, 0, none⟩ (.int .i64 y2.room)).setCell ⟨w.heap.size + 1, 1, none⟩ (.slice y2.a y2.ps.length y2.c)).cell? ⟨u.heap.size, 0, none⟩ = some (.int .i64 to) ∧ ((v2.setCell ⟨w.heap.size + 1, 0, none⟩ (.int .i64 y2.room)).setCell ⟨w.heap.size + 1, 1, none⟩ (.slice y2.a y2.ps.length y2.c)).cell? ⟨u.heap.size, 1, none⟩ = some (.string z1) ∧ ((v2.setCell ⟨w.heap.size + 1, 0, none⟩ (.int .i64 y2.room)).setCell ⟨w.heap.size + 1, 1, none⟩ (.slice y2.a y2.ps.length y2.c)).cell? ⟨u.heap.size, 2, none⟩ = some (.string z2) := ⟨(kcell st 0 wl (by omega)).trans K2.1, (kcell st 1 wl (by omega)).trans K2.2.1, (kcell st 0 (g := u.heap.size) (by omega) (by omega)).trans K2.2.2.1, (kcell st 1 (g := u.heap.size) (by omega) (by omega)).trans K2.2.2.2.1, (kcell st 2 (g := u.heap.size) (by omega) (by omega)).trans K2.2.2.2.2⟩
    clear bb2 oy2 yr2 yp2
    go_wp2_with fail
    refine hK.out _ _ K2 (fun hHeld => ?_)
    clear hK K
    try simp only [oM4, Act.put, List.setIfInBounds_toArray, List.set_cons_zero, List.set_cons_succ]
    refine wpAnyH_ready (rs := [5]) (by kernel_rfl) (by simp) ?_
    refine AllReadyH.cons (o := oM5) rfl (fun K hK => ?_) AllReadyH.nil
    unfold oM5
    go_simp
    refine hK.out _ _ K3 (fun hHeld => ?_)
    clear hK K
    try simp only [oM5, Act.put, List.setIfInBounds_toArray, List.set_cons_zero, List.set_cons_succ]
    refine wpAnyH_take (i := 6) (oi := oM6) (v := .int .i64 0) rfl (by kernel_rfl) (by kernel_rfl) (by kernel_rfl) (fun _ _ _ h => h) (Or.inl ⟨by rfl, fun w hSw => ?_⟩) hHeld ?_
    · (try dsimp only at hSw)
      unfold oM6
      go_simp
    try simp only [oM6, Act.put, List.setIfInBounds_toArray, List.set_cons_zero, List.set_cons_succ]
    refine wpAnyH_done (by kernel_rfl) ?_ _
    clear K0 K1 K2 K3 st
    go_wp2
    refine bodyPost_ret (v := .tuple #[.agg #[.int .i64 y2.room, .slice y2.a y2.ps.length y2.c], .int .i64 0]) (by simp [results, Try.results83, go_sem, r0, r1]) rfl ?_
    rw [unhide E]
    exact ⟨y2, unhide HY2, rfl, (unhide EN).1, (unhide EN).2⟩
end Go.Proofs.Ytcajdiopgaoicaa.SMove14
