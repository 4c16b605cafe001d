/- Texts of one proof, one behind the other: SCopy, Ans, Trd, LawQ, ICopied, ICmdB, ICmdW, IPlace8. -/
import Derived.Test.YtpkgkekonhgonaaGreatDoorRows
import Derived.Test.YtpkgkekonhgonaaGreatDoorCards
import Derived.Test.YtpkgkekonhgonaaGreatDoorTie
import Derived.Test.YtpkgkekonhgonaaGreatDoorNA1
import Derived.Test.YtpkgkekonhgonaaGreatDoorNA2
import Derived.Test.YtpkgkekonhgonaaGreatDoorNL3
import Derived.Test.YtpkgkekonhgonaaGreatDoorNL4
import Derived.Test.YtpkgkekonhgonaaGreatDoorNL5
import Derived.Defers
import Derived.Deep.LoopGhost
set_option linter.unusedVariables false
set_option linter.unusedSimpArgs false
namespace Go.Proofs.YtpkgkekonhgonaaGreatDoor.SCopy
open Go.ChangeShapes Go.WideShapes Go.ChangeAt Go.RowKit BMem Bks ILists
open BHelp (row_block row_apart row_store)
open IBalsFit (one_more)
/-- On the way to a copy: the books, the copy so far, and the answer's variable. -/
structure TC (w W : World) (x : Bx) (v0 v1 v2 v3 v4 v5 : Value) : Prop where
  b : Below w.heap.size w W
  c : Cl W w.heap.size x
  o : Box W w.heap.size (w.heap.size + 1 + 1) v0 v1 v2 v3 v4 v5
  r : Box W w.heap.size (w.heap.size + 1) (.slice none 0 0) (.slice none 0 0) (.slice none 0 0) (.slice none 0 0) (.slice none 0 0) (.int .i64 0)
section
variable {w W W' : World} {x : Bx} {v0 v1 v2 v3 v4 v5 : Value}
theorem TC.call (h : TC w W x v0 v1 v2 v3 v4 v5) (k : Below W.heap.size W W') : TC w W' x v0 v1 v2 v3 v4 v5 := by
  have l := h.o.lt
  exact ⟨h.b.trans (k.mono h.b.size), h.c.below k (by omega), h.o.below k (by omega), h.r.below k (by omega)⟩
theorem TC.grown {g : Nat} (h : TC w W x v0 v1 v2 v3 v4 v5) (k : W.grownBy W' (some g)) (hg : w.heap.size + 3 ≤ g) : TC w W' x v0 v1 v2 v3 v4 v5 := by
  have n0 : some w.heap.size ≠ some g := fun e => by injection e; omega
  exact ⟨h.b.grown k h.b.size (fun j e => by injection e; omega), ⟨k.cell h.c.c0 n0, k.cell h.c.c1 n0, k.cell h.c.c2 n0, k.cell h.c.c3 n0, k.cell h.c.c4 n0, k.cell h.c.c5 n0⟩, h.o.kept k (fun e => by injection e; omega), h.r.kept k (fun e => by injection e; omega)⟩
theorem TC.set0 (h : TC w W x v0 v1 v2 v3 v4 v5) (u : Value) : TC w (W.setCell ⟨w.heap.size + 1 + 1, 0, none⟩ u) x u v1 v2 v3 v4 v5 := by
  obtain ⟨b, g⟩ := h.o.set0 u
  have n0 : some w.heap.size ≠ some (w.heap.size + 1 + 1) := fun e => by injection e; omega
  exact ⟨h.b.setCell (by simp; omega) u, ⟨g.cell h.c.c0 n0, g.cell h.c.c1 n0, g.cell h.c.c2 n0, g.cell h.c.c3 n0, g.cell h.c.c4 n0, g.cell h.c.c5 n0⟩, b, h.r.kept g (fun e => by injection e; omega)⟩
theorem TC.set1 (h : TC w W x v0 v1 v2 v3 v4 v5) (u : Value) : TC w (W.setCell ⟨w.heap.size + 1 + 1, 1, none⟩ u) x v0 u v2 v3 v4 v5 := by
  obtain ⟨b, g⟩ := h.o.set1 u
  have n0 : some w.heap.size ≠ some (w.heap.size + 1 + 1) := fun e => by injection e; omega
  exact ⟨h.b.setCell (by simp; omega) u, ⟨g.cell h.c.c0 n0, g.cell h.c.c1 n0, g.cell h.c.c2 n0, g.cell h.c.c3 n0, g.cell h.c.c4 n0, g.cell h.c.c5 n0⟩, b, h.r.kept g (fun e => by injection e; omega)⟩
theorem TC.set2 (h : TC w W x v0 v1 v2 v3 v4 v5) (u : Value) : TC w (W.setCell ⟨w.heap.size + 1 + 1, 2, none⟩ u) x v0 v1 u v3 v4 v5 := by
  obtain ⟨b, g⟩ := h.o.set2 u
  have n0 : some w.heap.size ≠ some (w.heap.size + 1 + 1) := fun e => by injection e; omega
  exact ⟨h.b.setCell (by simp; omega) u, ⟨g.cell h.c.c0 n0, g.cell h.c.c1 n0, g.cell h.c.c2 n0, g.cell h.c.c3 n0, g.cell h.c.c4 n0, g.cell h.c.c5 n0⟩, b, h.r.kept g (fun e => by injection e; omega)⟩
theorem TC.set3 (h : TC w W x v0 v1 v2 v3 v4 v5) (u : Value) : TC w (W.setCell ⟨w.heap.size + 1 + 1, 3, none⟩ u) x v0 v1 v2 u v4 v5 := by
  obtain ⟨b, g⟩ := h.o.set3 u
  have n0 : some w.heap.size ≠ some (w.heap.size + 1 + 1) := fun e => by injection e; omega
  exact ⟨h.b.setCell (by simp; omega) u, ⟨g.cell h.c.c0 n0, g.cell h.c.c1 n0, g.cell h.c.c2 n0, g.cell h.c.c3 n0, g.cell h.c.c4 n0, g.cell h.c.c5 n0⟩, b, h.r.kept g (fun e => by injection e; omega)⟩
theorem TC.set4 (h : TC w W x v0 v1 v2 v3 v4 v5) (u : Value) : TC w (W.setCell ⟨w.heap.size + 1 + 1, 4, none⟩ u) x v0 v1 v2 v3 u v5 := by
  obtain ⟨b, g⟩ := h.o.set4 u
  have n0 : some w.heap.size ≠ some (w.heap.size + 1 + 1) := fun e => by injection e; omega
  exact ⟨h.b.setCell (by simp; omega) u, ⟨g.cell h.c.c0 n0, g.cell h.c.c1 n0, g.cell h.c.c2 n0, g.cell h.c.c3 n0, g.cell h.c.c4 n0, g.cell h.c.c5 n0⟩, b, h.r.kept g (fun e => by injection e; omega)⟩
theorem TC.set5 (h : TC w W x v0 v1 v2 v3 v4 v5) (u : Value) : TC w (W.setCell ⟨w.heap.size + 1 + 1, 5, none⟩ u) x v0 v1 v2 v3 v4 u := by
  obtain ⟨b, g⟩ := h.o.set5 u
  have n0 : some w.heap.size ≠ some (w.heap.size + 1 + 1) := fun e => by injection e; omega
  exact ⟨h.b.setCell (by simp; omega) u, ⟨g.cell h.c.c0 n0, g.cell h.c.c1 n0, g.cell h.c.c2 n0, g.cell h.c.c3 n0, g.cell h.c.c4 n0, g.cell h.c.c5 n0⟩, b, h.r.kept g (fun e => by injection e; omega)⟩
end
end Go.Proofs.YtpkgkekonhgonaaGreatDoor.SCopy
namespace Go.Proofs.YtpkgkekonhgonaaGreatDoor.Ans
open Go.ChangeShapes Go.WideShapes Go.ChangeAt Go.RowKit BMem Bks ILists BHelp
open IBalsFit (one_more)
theorem ow_alloc {w : World} {base : Nat} {z : Bx} (h : Ow w base z) (o : Obj) : Ow (w.alloc o) base z :=
  ⟨h.oa.alloc o, h.oi.alloc o, h.ob.alloc o, h.ol.alloc o, h.ot.alloc o⟩
/-- The books that were handed in, in their box, and the answer's variable behind it. -/
structure SR (w W : World) (x : Bx) : Prop where
  r : Rd W x
  c : Cl W w.heap.size x
  v : Box W w.heap.size (w.heap.size + 1) (.slice none 0 0) (.slice none 0 0) (.slice none 0 0) (.slice none 0 0) (.slice none 0 0) (.int .i64 0)
  b : Below w.heap.size w W
theorem SR.start {w : World} {x : Bx} (h : Rd w x) : SR w ((w.alloc (.cells #[.slice (some ⟨x.ga, 0, none⟩) x.b.ac.length x.ca, .slice (some ⟨x.gi, 0, none⟩) x.b.ic.length x.ci, .slice (some ⟨x.gb, 0, none⟩) x.b.bs.length x.cb, .slice (some ⟨x.gl, 0, none⟩) x.b.ls.length x.cl, .slice (some ⟨x.gt, 0, none⟩) x.b.ts.length x.ct, .int .i64 x.b.lot] 40)).alloc (.cells #[.slice none 0 0, .slice none 0 0, .slice none 0 0, .slice none 0 0, .slice none 0 0, .int .i64 0] 40)) x :=
  ⟨(h.alloc _).alloc _, (boxed w x 40).below (one_more _ _) (by simp), Box.made _ _ _ _ _ _ (by simp) (by simp), ((Below.refl w.heap.size w).alloc (Nat.le_refl _) _).alloc (by simp) _⟩
theorem SR.step {w W W' : World} {x : Bx} (h : SR w W x) (k : Below W.heap.size W W') : SR w W' x := by
  have l := h.v.lt
  exact ⟨h.r.below k, h.c.below k (by omega), h.v.below k (by omega), h.b.trans (k.mono h.b.size)⟩
end Go.Proofs.YtpkgkekonhgonaaGreatDoor.Ans
namespace Go.Proofs.YtpkgkekonhgonaaGreatDoor.Trd
open Bks Tup8
open Bals (T3)
open Lots (NoOk)
/-- The first trade of that number stands at place k; there is none. -/
def IsAt (ps : List T8) (no : Int) (k : Nat) : Prop := k < ps.length ∧ (el8 ps k).1 = no ∧ ∀ j, j < k → (el8 ps j).1 ≠ no
def NoneAt (ps : List T8) (no : Int) : Prop := ∀ j, j < ps.length → (el8 ps j).1 ≠ no
theorem IsAt.same {ps : List T8} {no : Int} {k l : Nat} (h : IsAt ps no k) (g : IsAt ps no l) : k = l := by
  rcases Nat.lt_trichotomy k l with a | a | a
  · exact absurd h.2.1 (g.2.2 k a)
  · exact a
  · exact absurd g.2.1 (h.2.2 l a)
theorem IsAt.not {ps : List T8} {no : Int} {k : Nat} (h : IsAt ps no k) (g : NoneAt ps no) : False := g k h.1 h.2.1
/-- In a list that is right, a number stands once. -/
theorem asc {ps : List T8} (h : TRight ps) : ∀ j i, i < j → j < ps.length → (el8 ps i).1 < (el8 ps j).1 := by
  intro j
  induction j with
  | zero => intro i hi; omega
  | succ j ih =>
    intro i hi hj
    have s := (h.2 (j + 1) hj).2 (by omega)
    rw [Nat.add_sub_cancel] at s
    by_cases e : i = j
    · subst e; exact s
    · have := ih i (by omega) (by omega)
      omega
/-- The trade t among the others, by its number. -/
def insT (t : T8) : List T8 → List T8
  | [] => [t]
  | p :: r => if t.1 < p.1 then t :: p :: r else p :: insT t r
/-- A trade in another state. -/
def inState (p : T8) (s : Int) : T8 := (p.1, p.2.1, p.2.2.1, p.2.2.2.1, p.2.2.2.2.1, p.2.2.2.2.2.1, p.2.2.2.2.2.2.1, s)
def setState (ps : List T8) (k : Nat) (s : Int) : List T8 := ps.modify k (fun p => inState p s)
/-- What the telling of a trade makes of books. -/
def NoneT (b : Bk) (x y p m : Int) : Prop := kindOf b.ac x = 0 ∨ kindOf b.ac y = 0 ∨ kindOf b.ic p = 0 ∨ kindOf b.ic m = 0
def KindT (b : Bk) (x y p m : Int) : Prop := kindOf b.ac x ≠ 1 ∨ kindOf b.ac y ≠ 1 ∨ x = y ∨ kindOf b.ic p ≠ 2 ∨ kindOf b.ic m ≠ 1
def IsTrade (b : Bk) (no x y p q m pr : Int) (b' : Bk) (c : Int) : Prop :=
  ((∃ k, IsAt b.ts no k) ∧ b' = b ∧ c = 2) ∨
  (NoneAt b.ts no ∧ NoneT b x y p m ∧ b' = b ∧ c = 3) ∨
  (NoneAt b.ts no ∧ ¬ NoneT b x y p m ∧ KindT b x y p m ∧ b' = b ∧ c = 4) ∨
  (NoneAt b.ts no ∧ ¬ NoneT b x y p m ∧ ¬ KindT b x y p m ∧ b.ts.length = 30 ∧ b' = b ∧ c = 7) ∨
  (NoneAt b.ts no ∧ ¬ NoneT b x y p m ∧ ¬ KindT b x y p m ∧ b.ts.length ≠ 30 ∧ b' = { b with ts := insT (no, x, y, p, q, m, pr, 1) b.ts } ∧ c = 0)
theorem IsTrade.same {b b1 b2 : Bk} {no x y p q m pr c1 c2 : Int} (h : IsTrade b no x y p q m pr b1 c1) (k : IsTrade b no x y p q m pr b2 c2) : b1 = b2 ∧ c1 = c2 := by
  rcases h with ⟨⟨l, h⟩, rfl, rfl⟩ | ⟨h, h2, rfl, rfl⟩ | ⟨h, h2, h3, rfl, rfl⟩ | ⟨h, h2, h3, h4, rfl, rfl⟩ | ⟨h, h2, h3, h4, rfl, rfl⟩ <;>
    rcases k with ⟨⟨m, k⟩, rfl, rfl⟩ | ⟨k, k2, rfl, rfl⟩ | ⟨k, k2, k3, rfl, rfl⟩ | ⟨k, k2, k3, k4, rfl, rfl⟩ | ⟨k, k2, k3, k4, rfl, rfl⟩ <;>
    first | exact ⟨rfl, rfl⟩ | exact (h.not k).elim | exact (k.not h).elim | exact absurd h2 k2 | exact absurd k2 h2 | exact absurd h3 k3 | exact absurd k3 h3 | exact absurd h4 k4 | exact absurd k4 h4
/-- What a cancelling makes of books. -/
def IsCancel (b : Bk) (no : Int) (b' : Bk) (c : Int) : Prop :=
  (NoneAt b.ts no ∧ b' = b ∧ c = 3) ∨
  (∃ k, IsAt b.ts no k ∧ (((el8 b.ts k).2.2.2.2.2.2.2 ≠ 1 ∧ b' = b ∧ c = 6) ∨ ((el8 b.ts k).2.2.2.2.2.2.2 = 1 ∧ b' = { b with ts := setState b.ts k 3 } ∧ c = 0)))
theorem IsCancel.same {b b1 b2 : Bk} {no c1 c2 : Int} (h : IsCancel b no b1 c1) (k : IsCancel b no b2 c2) : b1 = b2 ∧ c1 = c2 := by
  rcases h with ⟨h, rfl, rfl⟩ | ⟨l, h, h'⟩ <;> rcases k with ⟨k, rfl, rfl⟩ | ⟨m, k, k'⟩
  · exact ⟨rfl, rfl⟩
  · exact (k.not h).elim
  · exact (h.not k).elim
  · obtain rfl := h.same k
    rcases h' with ⟨h1, rfl, rfl⟩ | ⟨h1, rfl, rfl⟩ <;> rcases k' with ⟨k1, rfl, rfl⟩ | ⟨k1, rfl, rfl⟩ <;> first | exact ⟨rfl, rfl⟩ | exact absurd k1 h1 | exact absurd h1 k1
/-- The legs of a trade. -/
def legsT (t : T8) : List T3 := pairL t.2.1 t.2.2.1 t.2.2.2.2.2.1 t.2.2.2.2.2.2.1 ++ pairL t.2.2.1 t.2.1 t.2.2.2.1 t.2.2.2.2.1
/-- What a settling makes of books. -/
def IsSettle (b : Bk) (no way : Int) (b' : Bk) (gain c : Int) : Prop :=
  (NoneAt b.ts no ∧ b' = b ∧ gain = 0 ∧ c = 3) ∨
  (∃ k, IsAt b.ts no k ∧ (((el8 b.ts k).2.2.2.2.2.2.2 ≠ 1 ∧ b' = b ∧ gain = 0 ∧ c = 6) ∨
    ((el8 b.ts k).2.2.2.2.2.2.2 = 1 ∧ ∃ b1 c1, IsPosted b (legsT (el8 b.ts k)) b1 c1 ∧ ((c1 ≠ 0 ∧ b' = b ∧ gain = 0 ∧ c = c1) ∨
      (c1 = 0 ∧ ∃ b2 k2 c2, IsTake b1 (el8 b.ts k).2.2.1 (el8 b.ts k).2.2.2.1 (el8 b.ts k).2.2.2.2.1 way b2 k2 c2 ∧ ((c2 ≠ 0 ∧ b' = b ∧ gain = 0 ∧ c = c2) ∨
        (c2 = 0 ∧ ∃ b3 c3, IsOpen b2 (el8 b.ts k).2.1 (el8 b.ts k).2.2.2.1 (el8 b.ts k).2.2.2.2.1 (el8 b.ts k).2.2.2.2.2.2.1 b3 c3 ∧ ((c3 ≠ 0 ∧ b' = b ∧ gain = 0 ∧ c = c3) ∨
          (c3 = 0 ∧ b' = { b3 with ts := setState b3.ts k 2 } ∧ gain = IntKind.i64.wrap ((el8 b.ts k).2.2.2.2.2.2.1 - k2) ∧ c = 0)))))))))
theorem IsSettle.same {b b1 b2 : Bk} {no way g1 g2 c1 c2 : Int} (h : IsSettle b no way b1 g1 c1) (k : IsSettle b no way b2 g2 c2) : b1 = b2 ∧ g1 = g2 ∧ c1 = c2 := by
  rcases h with ⟨h, rfl, rfl, rfl⟩ | ⟨l, h, h'⟩ <;> rcases k with ⟨k, rfl, rfl, rfl⟩ | ⟨m, k, k'⟩
  · exact ⟨rfl, rfl, rfl⟩
  · exact (k.not h).elim
  · exact (h.not k).elim
  · obtain rfl := h.same k
    rcases h' with ⟨h1, rfl, rfl, rfl⟩ | ⟨h1, d1, e1, hp, h'⟩ <;> rcases k' with ⟨k1, rfl, rfl, rfl⟩ | ⟨k1, d2, e2, kp, k'⟩
    · exact ⟨rfl, rfl, rfl⟩
    · exact absurd k1 h1
    · exact absurd h1 k1
    · obtain ⟨rfl, rfl⟩ := hp.same kp
      rcases h' with ⟨h2, rfl, rfl, rfl⟩ | ⟨h2, f1, t1, u1, ht, h'⟩ <;> rcases k' with ⟨k2, rfl, rfl, rfl⟩ | ⟨k2, f2, t2, u2, kt, k'⟩
      · exact ⟨rfl, rfl, rfl⟩
      · exact absurd k2 h2
      · exact absurd h2 k2
      · obtain ⟨rfl, rfl, rfl⟩ := ht.same kt
        rcases h' with ⟨h3, rfl, rfl, rfl⟩ | ⟨h3, p1, q1, ho, h'⟩ <;> rcases k' with ⟨k3, rfl, rfl, rfl⟩ | ⟨k3, p2, q2, ko, k'⟩
        · exact ⟨rfl, rfl, rfl⟩
        · exact absurd k3 h3
        · exact absurd h3 k3
        · obtain ⟨rfl, rfl⟩ := ho.same ko
          rcases h' with ⟨h4, rfl, rfl, rfl⟩ | ⟨h4, rfl, rfl, rfl⟩ <;> rcases k' with ⟨k4, rfl, rfl, rfl⟩ | ⟨k4, rfl, rfl, rfl⟩ <;> first | exact ⟨rfl, rfl, rfl⟩ | exact absurd k4 h4 | exact absurd h4 k4
/-- The numbers of the trades that are open, from lo to hi. -/
def openT (lo hi : Int) : List T8 → List Int
  | [] => []
  | p :: r => (if p.2.2.2.2.2.2.2 = 1 ∧ lo ≤ p.1 ∧ p.1 ≤ hi then [p.1] else []) ++ openT lo hi r
/-- The place of a trade by its number, -1 for none; whether it is open; what is told of it. -/
def FoundAt (ps : List T8) (no r : Int) : Prop := (∃ k : Nat, IsAt ps no k ∧ r = k) ∨ (NoneAt ps no ∧ r = -1)
def OpenAt (ps : List T8) (no r c : Int) : Prop := (NoneAt ps no ∧ r = -1 ∧ c = 3) ∨ (∃ k : Nat, IsAt ps no k ∧ r = k ∧ (((el8 ps k).2.2.2.2.2.2.2 ≠ 1 ∧ c = 6) ∨ ((el8 ps k).2.2.2.2.2.2.2 = 1 ∧ c = 0)))
def ToldT (b : Bk) (no : Int) (p : T8) (ok : Bool) : Prop := (ok = true ∧ Ok b ∧ ∃ k, IsAt b.ts no k ∧ p = el8 b.ts k) ∨ (ok = false ∧ (¬ Ok b ∨ NoneAt b.ts no) ∧ p = (0, 0, 0, 0, 0, 0, 0, 0))
theorem ToldT.same {b : Bk} {no : Int} {p q : T8} {s t : Bool} (h : ToldT b no p s) (k : ToldT b no q t) : p = q ∧ s = t := by
  rcases h with ⟨rfl, h1, l, h2, rfl⟩ | ⟨rfl, h1, rfl⟩ <;> rcases k with ⟨rfl, k1, m, k2, rfl⟩ | ⟨rfl, k1, rfl⟩
  · rw [h2.same k2]; exact ⟨rfl, rfl⟩
  · rcases k1 with k1 | k1
    · exact absurd h1 k1
    · exact (h2.not k1).elim
  · rcases h1 with h1 | h1
    · exact absurd k1 h1
    · exact (k2.not h1).elim
  · exact ⟨rfl, rfl⟩
end Go.Proofs.YtpkgkekonhgonaaGreatDoor.Trd
namespace Go.Proofs.YtpkgkekonhgonaaGreatDoor.LawQ
open Go.ChangeShapes Go.WideShapes Go.ChangeAt Go.RowKit BMem Bks BHelp BkEq LawB
open IBalsFit (one_more)
/-- The model's answer z, in its variable. -/
structure QZ (w W : World) (y : Ix) (z : Bx) (pz : Nat) : Prop where
  l : LB w W y
  bz : Bv W pz z
  oz : Ow W (w.heap.size + 1) z
  uz : Up z pz
  n : w.heap.size < pz
theorem QZ.step {w W W' : World} {y : Ix} {z : Bx} {pz : Nat} (h : QZ w W y z pz) (k : Below W.heap.size W W') : QZ w W' y z pz :=
  ⟨h.l.step k, h.bz.step k, h.oz.below k (Nat.le_refl _), h.uz, h.n⟩
/-- And the books x that are handed to the program. -/
structure QX (w W : World) (y : Ix) (z x : Bx) (pz px : Nat) : Prop where
  q : QZ w W y z pz
  bx : Bv W px x
  ox : Ow W (pz + 1) x
  ux : Up x px
  m : pz < px
theorem QX.step {w W W' : World} {y : Ix} {z x : Bx} {pz px : Nat} (h : QX w W y z x pz px) (k : Below W.heap.size W W') : QX w W' y z x pz px :=
  ⟨h.q.step k, h.bx.step k, h.ox.below k (Nat.le_refl _), h.ux, h.m⟩
/-- And the program's answer g. -/
structure QG (w W : World) (y : Ix) (z x g : Bx) (pz px pg : Nat) : Prop where
  q : QX w W y z x pz px
  bg : Bv W pg g
  og : Ow W (px + 1) g
  ug : Up g pg
  k : px < pg
theorem QG.step {w W W' : World} {y : Ix} {z x g : Bx} {pz px pg : Nat} (h : QG w W y z x g pz px pg) (k : Below W.heap.size W W') : QG w W' y z x g pz px pg :=
  ⟨h.q.step k, h.bg.step k, h.og.below k (Nat.le_refl _), h.ug, h.k⟩
/-- Behind the marks on x. -/
structure QM (w W : World) (y : Ix) (z g : Bx) (pz pg : Nat) : Prop where
  q : QZ w W y z pz
  bg : Bv W pg g
  og : Ow W (pz + 1) g
  ug : Up g pg
  k : pz < pg
theorem QM.step {w W W' : World} {y : Ix} {z g : Bx} {pz pg : Nat} (h : QM w W y z g pz pg) (k : Below W.heap.size W W') : QM w W' y z g pz pg :=
  ⟨h.q.step k, h.bg.step k, h.og.below k (Nat.le_refl _), h.ug, h.k⟩
theorem QG.turn {w W W' : World} {y : Ix} {z x g : Bx} {pz px pg : Nat} (H : RdI w y) (h : QG w W y z x g pz px pg) (t : Turn x W W') : QM w W' y z g pz pg := by
  have n := h.q.q.n
  have m := h.q.m
  have k := h.k
  have lx := ow_lo h.q.ox
  have lg := ow_lo h.og
  exact ⟨⟨LB.turn H h.q.q.l t (LawB.Lo.mono lx (by omega)), h.q.q.bz.turn t (.inl ⟨pz + 1, by omega, lx⟩), t.ow h.q.q.oz (.inr ⟨pz, LawB.Lo.mono lx (by omega), h.q.q.uz⟩), h.q.q.uz, n⟩, h.bg.turn t (.inr ⟨px, by omega, h.q.ux⟩), (t.ow h.og (.inl ⟨px, h.q.ux, LawB.Lo.mono lg (by omega)⟩)).rebase (by omega), h.ug, by omega⟩
/-- Behind the marks on g. -/
structure QH (w W : World) (y : Ix) (z g : Bx) (pz pg : Nat) : Prop where
  q : QZ w W y z pz
  bg : Bv W pg g
  og : OwM W (pz + 1) g
theorem QH.step {w W W' : World} {y : Ix} {z g : Bx} {pz pg : Nat} (h : QH w W y z g pz pg) (k : Below W.heap.size W W') : QH w W' y z g pz pg :=
  ⟨h.q.step k, h.bg.step k, h.og.below k⟩
theorem QM.turn {w W W' : World} {y : Ix} {z g : Bx} {pz pg : Nat} (H : RdI w y) (h : QM w W y z g pz pg) (t : Turn g W W') (o : OwM W' (pz + 1) g) : QH w W' y z g pz pg := by
  have n := h.q.n
  have k := h.k
  have lg := ow_lo h.og
  exact ⟨⟨LB.turn H h.q.l t (LawB.Lo.mono lg (by omega)), h.q.bz.turn t (.inl ⟨pz + 1, by omega, lg⟩), t.ow h.q.oz (.inr ⟨pz, LawB.Lo.mono lg (by omega), h.q.uz⟩), h.q.uz, n⟩, h.bg.turn t (.inr ⟨pg, Nat.le_refl _, h.ug⟩), o⟩
/-- A variable of books that holds nothing at all. -/
structure Zv (W : World) (g : Nat) : Prop where
  c0 : W.cell? ⟨g, 0, none⟩ = some (.slice none 0 0)
  c1 : W.cell? ⟨g, 1, none⟩ = some (.slice none 0 0)
  c2 : W.cell? ⟨g, 2, none⟩ = some (.slice none 0 0)
  c3 : W.cell? ⟨g, 3, none⟩ = some (.slice none 0 0)
  c4 : W.cell? ⟨g, 4, none⟩ = some (.slice none 0 0)
  c5 : W.cell? ⟨g, 5, none⟩ = some (.int .i64 0)
  l : g < W.heap.size
theorem Zv.step {W W' : World} {g : Nat} (h : Zv W g) (k : Below W.heap.size W W') : Zv W' g :=
  ⟨(k.cell (p := ⟨g, 0, none⟩) h.l).trans h.c0, (k.cell (p := ⟨g, 1, none⟩) h.l).trans h.c1, (k.cell (p := ⟨g, 2, none⟩) h.l).trans h.c2, (k.cell (p := ⟨g, 3, none⟩) h.l).trans h.c3, (k.cell (p := ⟨g, 4, none⟩) h.l).trans h.c4, (k.cell (p := ⟨g, 5, none⟩) h.l).trans h.c5, Nat.lt_of_lt_of_le h.l k.size⟩
theorem Zv.made (W : World) (e : TypeId) : Zv (W.alloc (.cells #[.slice none 0 0, .slice none 0 0, .slice none 0 0, .slice none 0 0, .slice none 0 0, .int .i64 0] e)) W.heap.size := ⟨by simp, by simp, by simp, by simp, by simp, by simp, by simp⟩
theorem Zv.turn {W W' : World} {g : Nat} {z : Bx} (h : Zv W g) (k : Turn z W W') (ne : (∃ N, g < N ∧ Lo z N) ∨ ∃ N, N ≤ g ∧ Up z N) : Zv W' g := by
  have e : W'.heap[g]? = W.heap[g]? := by
    refine k.block g h.l ?_ ?_ ?_ ?_ ?_
    all_goals
      rcases ne with ⟨N, a, b⟩ | ⟨N, a, b⟩
      · unfold Lo at b; omega
      · unfold Up at b; omega
  have cc : ∀ i, W'.cell? ⟨g, i, none⟩ = W.cell? ⟨g, i, none⟩ := fun i => World.cell?_of_block (w := W) (w' := W') (a := ⟨g, i, none⟩) e
  exact ⟨(cc 0).trans h.c0, (cc 1).trans h.c1, (cc 2).trans h.c2, (cc 3).trans h.c3, (cc 4).trans h.c4, (cc 5).trans h.c5, Nat.lt_of_lt_of_le h.l k.size⟩
/-- Nothing at all as the model's answer, the books x that are handed to the program, nothing at all as its answer. -/
structure ZX (w W : World) (y : Ix) (x : Bx) (pz px : Nat) : Prop where
  l : LB w W y
  zz : Zv W pz
  bx : Bv W px x
  ox : Ow W (pz + 1) x
  ux : Up x px
  n : w.heap.size < pz
theorem ZX.step {w W W' : World} {y : Ix} {x : Bx} {pz px : Nat} (h : ZX w W y x pz px) (k : Below W.heap.size W W') : ZX w W' y x pz px :=
  ⟨h.l.step k, h.zz.step k, h.bx.step k, h.ox.below k (Nat.le_refl _), h.ux, h.n⟩
structure ZG (w W : World) (y : Ix) (pz pg : Nat) : Prop where
  l : LB w W y
  zz : Zv W pz
  zg : Zv W pg
theorem ZG.step {w W W' : World} {y : Ix} {pz pg : Nat} (h : ZG w W y pz pg) (k : Below W.heap.size W W') : ZG w W' y pz pg :=
  ⟨h.l.step k, h.zz.step k, h.zg.step k⟩
theorem ZX.turn {w W W' : World} {y : Ix} {x : Bx} {pz px pg : Nat} (H : RdI w y) (h : ZX w W y x pz px) (g : Zv W pg) (hg : px ≤ pg) (t : Turn x W W') : ZG w W' y pz pg := by
  have n := h.n
  have lx := ow_lo h.ox
  exact ⟨LB.turn H h.l t (LawB.Lo.mono lx (by omega)), h.zz.turn t (.inl ⟨pz + 1, by omega, lx⟩), g.turn t (.inr ⟨px, hg, h.ux⟩)⟩
end Go.Proofs.YtpkgkekonhgonaaGreatDoor.LawQ
namespace Go.Proofs.YtpkgkekonhgonaaGreatDoor.ICopied
open Go.ChangeShapes Go.WideShapes Go.ChangeAt Go.RowKit BMem Bks ILists
open BHelp (row_block row_apart)
open IBalsFit (one_more)
/-- How far a list's copy has come: its empty start, the field's address, the list that is copied, the copy. -/
def Ch (W : World) (base : Nat) (e : TypeId) (size : Nat) (fb ff fl fa : Bool) (vb vf vl va pf src : Value) (n : Nat) (xs : List Value) : Prop :=
  (ff = true → vf = pf) ∧ (fl = true → vl = src) ∧ (fb = true → fa = false → ∃ g, vb = .slice (some ⟨g, 0, none⟩) 0 0 ∧ W.ownsRow base e size (.slice (some ⟨g, 0, none⟩) 0 0) 0 []) ∧ (fa = true → ∃ g c, va = .slice (some ⟨g, 0, none⟩) n c ∧ W.ownsRow base e size (.slice (some ⟨g, 0, none⟩) n c) n xs)
section
variable {W W' : World} {base : Nat} {e : TypeId} {size : Nat} {fb ff fl fa : Bool} {vb vf vl va pf src : Value} {n : Nat} {xs : List Value}
theorem Ch.zero (W : World) (base : Nat) (e : TypeId) (size : Nat) (vb vf vl va pf src : Value) (n : Nat) (xs : List Value) : Ch W base e size false false false false vb vf vl va pf src n xs :=
  ⟨(fun h => by cases h), (fun h => by cases h), (fun h => by cases h), (fun h => by cases h)⟩
theorem Ch.alloc (h : Ch W base e size fb ff fl fa vb vf vl va pf src n xs) (o : Obj) : Ch (W.alloc o) base e size fb ff fl fa vb vf vl va pf src n xs := by
  refine ⟨h.1, h.2.1, fun a b => ?_, fun a => ?_⟩
  · obtain ⟨g, e1, o1⟩ := h.2.2.1 a b
    exact ⟨g, e1, o1.alloc o⟩
  · obtain ⟨g, c, e1, o1⟩ := h.2.2.2 a
    exact ⟨g, c, e1, o1.alloc o⟩
theorem Ch.start (h : Ch W base e size fb ff fl fa vb vf vl va pf src n xs) (hb : base ≤ W.heap.size) : Ch (W.alloc (.cells #[] e)) base e size true ff fl fa (.slice (some ⟨W.heap.size, 0, none⟩) 0 0) vf vl va pf src n xs := by
  refine ⟨h.1, h.2.1, fun _ _ => ⟨W.heap.size, rfl, World.ownsRow_made W #[] 0 hb (by unfold maxLen; omega) (by simp)⟩, fun a => ?_⟩
  obtain ⟨g, c, e1, o1⟩ := h.2.2.2 a
  exact ⟨g, c, e1, o1.alloc _⟩
theorem Ch.kept {g0 : Nat} (h : Ch W base e size fb ff fl fa vb vf vl va pf src n xs) (k : W.grownBy W' (some g0)) (hne : ∀ (m c : Nat) (ys : List Value), ¬ W.ownsRow base e size (.slice (some ⟨g0, 0, none⟩) m c) m ys) : Ch W' base e size fb ff fl fa vb vf vl va pf src n xs := by
  refine ⟨h.1, h.2.1, fun a b => ?_, fun a => ?_⟩
  · obtain ⟨g, e1, o1⟩ := h.2.2.1 a b
    exact ⟨g, e1, o1.kept k (Or.inr (fun e => by
      have : g = g0 := by simpa [Value.ownBlock] using e
      subst this
      exact hne _ _ _ o1))⟩
  · obtain ⟨g, c, e1, o1⟩ := h.2.2.2 a
    exact ⟨g, c, e1, o1.kept k (Or.inr (fun e => by
      have : g = g0 := by simpa [Value.ownBlock] using e
      subst this
      exact hne _ _ _ o1))⟩
end
end Go.Proofs.YtpkgkekonhgonaaGreatDoor.ICopied
namespace Go.Proofs.YtpkgkekonhgonaaGreatDoor.ICmdB
open Go.ChangeShapes Go.WideShapes Go.ChangeAt Go.RowKit BMem Bks ILists BHelp Ans ICopied
open IBalsFit (one_more)
open Lots (Says says_of NoOk)
/-- A variable that holds some books, whatever they are. -/
def AnyBox (w : World) (base g : Nat) : Prop := ∃ (a0 a1 a2 a3 a4 : Option Addr) (n0 n1 n2 n3 n4 k0 k1 k2 k3 k4 : Nat) (l : Int), Box w base g (.slice a0 n0 k0) (.slice a1 n1 k1) (.slice a2 n2 k2) (.slice a3 n3 k3) (.slice a4 n4 k4) (.int .i64 l)
/-- The variable of x. -/
def Var (w : World) (base g : Nat) (x : Bx) : Prop := Box w base g (.slice (some ⟨x.ga, 0, none⟩) x.b.ac.length x.ca) (.slice (some ⟨x.gi, 0, none⟩) x.b.ic.length x.ci) (.slice (some ⟨x.gb, 0, none⟩) x.b.bs.length x.cb) (.slice (some ⟨x.gl, 0, none⟩) x.b.ls.length x.cl) (.slice (some ⟨x.gt, 0, none⟩) x.b.ts.length x.ct) (.int .i64 x.b.lot)
theorem Var.any {w : World} {base g : Nat} {x : Bx} (h : Var w base g x) : AnyBox w base g := ⟨_, _, _, _, _, _, _, _, _, _, _, _, _, _, _, _, h⟩
/-- The frame's own variables: the books that were handed in, what is told and the code. -/
structure CW (w W : World) (x : Bx) (t c : Int) : Prop where
  r : Rd W x
  cl : Cl W w.heap.size x
  b : Below w.heap.size w W
  s : w.heap.size + 1 + 1 + 1 < W.heap.size
  t : W.cell? ⟨w.heap.size + 1 + 1, 0, none⟩ = some (.int .i64 t)
  tf : W.frozen? ⟨w.heap.size + 1 + 1, 0, none⟩ = false
  c : W.cell? ⟨w.heap.size + 1 + 1 + 1, 0, none⟩ = some (.int .i64 c)
  cf : W.frozen? ⟨w.heap.size + 1 + 1 + 1, 0, none⟩ = false
theorem free_new (w : World) (v : Value) (e : TypeId) {g : Nat} (hg : g = w.heap.size) : (w.alloc (.cells #[v] e)).frozen? ⟨g, 0, none⟩ = false := by
  subst hg
  exact World.ownsRow.frozenAt (base := 0) (e := e) (size := 1) (n := 1) (cap := 1) (xs := [v]) ⟨rfl, .inr ⟨w.heap.size, 1, #[v], rfl, Nat.zero_le _, heap_alloc_new w _, Nat.le_refl _, by unfold maxLen; omega, rfl, rfl⟩⟩ 0
theorem cell_new (w : World) (v : Value) (e : TypeId) {g : Nat} (hg : g = w.heap.size) : (w.alloc (.cells #[v] e)).cell? ⟨g, 0, none⟩ = some v := by
  subst hg
  simp
theorem CW.step {w W W' : World} {x : Bx} {t c : Int} (h : CW w W x t c) (k : Below W.heap.size W W') : CW w W' x t c := by
  have s := h.s
  exact ⟨h.r.below k, h.cl.below k (by omega), h.b.trans (k.mono h.b.size), Nat.lt_of_lt_of_le h.s k.size, (k.cell (p := ⟨w.heap.size + 1 + 1, 0, none⟩) (by simp; omega)).trans h.t, (k.frozen (p := ⟨w.heap.size + 1 + 1, 0, none⟩) (by simp; omega)).trans h.tf, (k.cell (p := ⟨w.heap.size + 1 + 1 + 1, 0, none⟩) h.s).trans h.c, (k.frozen (p := ⟨w.heap.size + 1 + 1 + 1, 0, none⟩) h.s).trans h.cf⟩
theorem CW.grown {w W W' : World} {x : Bx} {t c : Int} (H : Rd w x) (h : CW w W x t c) (k : W.grownBy W' (some (w.heap.size + 1))) : CW w W' x t c := by
  have s := h.s
  have b : Below w.heap.size w W' := h.b.grown k h.b.size (fun j e => by injection e; omega)
  have n0 : some w.heap.size ≠ some (w.heap.size + 1) := fun e => by injection e; omega
  have n2 : some (w.heap.size + 1 + 1) ≠ some (w.heap.size + 1) := fun e => by injection e; omega
  have n3 : some (w.heap.size + 1 + 1 + 1) ≠ some (w.heap.size + 1) := fun e => by injection e; omega
  exact ⟨H.below b, ⟨k.cell h.cl.c0 n0, k.cell h.cl.c1 n0, k.cell h.cl.c2 n0, k.cell h.cl.c3 n0, k.cell h.cl.c4 n0, k.cell h.cl.c5 n0⟩, b, Nat.lt_of_lt_of_le h.s k.size, k.cell h.t n2, (World.frozen?_of_block (a := ⟨w.heap.size + 1 + 1, 0, none⟩) (k.block (w.heap.size + 1 + 1) (by omega) n2)).trans h.tf, k.cell h.c n3, (World.frozen?_of_block (a := ⟨w.heap.size + 1 + 1 + 1, 0, none⟩) (k.block (w.heap.size + 1 + 1 + 1) (by omega) n3)).trans h.cf⟩
theorem CW.start {w : World} {x : Bx} (h : Rd w x) : CW w ((((w.alloc (.cells #[.slice (some ⟨x.ga, 0, none⟩) x.b.ac.length x.ca, .slice (some ⟨x.gi, 0, none⟩) x.b.ic.length x.ci, .slice (some ⟨x.gb, 0, none⟩) x.b.bs.length x.cb, .slice (some ⟨x.gl, 0, none⟩) x.b.ls.length x.cl, .slice (some ⟨x.gt, 0, none⟩) x.b.ts.length x.ct, .int .i64 x.b.lot] 40)).alloc (.cells #[.slice none 0 0, .slice none 0 0, .slice none 0 0, .slice none 0 0, .slice none 0 0, .int .i64 0] 40)).alloc (.cells #[.int .i64 0] 3)).alloc (.cells #[.int .i64 0] 3)) x 0 0 := by
  have s := SR.start h
  have b : Below ((w.alloc (.cells #[.slice (some ⟨x.ga, 0, none⟩) x.b.ac.length x.ca, .slice (some ⟨x.gi, 0, none⟩) x.b.ic.length x.ci, .slice (some ⟨x.gb, 0, none⟩) x.b.bs.length x.cb, .slice (some ⟨x.gl, 0, none⟩) x.b.ls.length x.cl, .slice (some ⟨x.gt, 0, none⟩) x.b.ts.length x.ct, .int .i64 x.b.lot] 40)).alloc (.cells #[.slice none 0 0, .slice none 0 0, .slice none 0 0, .slice none 0 0, .slice none 0 0, .int .i64 0] 40)).heap.size ((w.alloc (.cells #[.slice (some ⟨x.ga, 0, none⟩) x.b.ac.length x.ca, .slice (some ⟨x.gi, 0, none⟩) x.b.ic.length x.ci, .slice (some ⟨x.gb, 0, none⟩) x.b.bs.length x.cb, .slice (some ⟨x.gl, 0, none⟩) x.b.ls.length x.cl, .slice (some ⟨x.gt, 0, none⟩) x.b.ts.length x.ct, .int .i64 x.b.lot] 40)).alloc (.cells #[.slice none 0 0, .slice none 0 0, .slice none 0 0, .slice none 0 0, .slice none 0 0, .int .i64 0] 40)) ((((w.alloc (.cells #[.slice (some ⟨x.ga, 0, none⟩) x.b.ac.length x.ca, .slice (some ⟨x.gi, 0, none⟩) x.b.ic.length x.ci, .slice (some ⟨x.gb, 0, none⟩) x.b.bs.length x.cb, .slice (some ⟨x.gl, 0, none⟩) x.b.ls.length x.cl, .slice (some ⟨x.gt, 0, none⟩) x.b.ts.length x.ct, .int .i64 x.b.lot] 40)).alloc (.cells #[.slice none 0 0, .slice none 0 0, .slice none 0 0, .slice none 0 0, .slice none 0 0, .int .i64 0] 40)).alloc (.cells #[.int .i64 0] 3)).alloc (.cells #[.int .i64 0] 3)) := ((Below.refl _ _).alloc (Nat.le_refl _) _).alloc (by simp) _
  have s2 := s.step b
  exact ⟨s2.r, s2.c, s2.b, by simp, ((one_more _ _).cell (p := ⟨w.heap.size + 1 + 1, 0, none⟩) (by simp)).trans (cell_new _ _ _ (by simp)), ((one_more _ _).frozen (p := ⟨w.heap.size + 1 + 1, 0, none⟩) (by simp)).trans (free_new _ _ _ (by simp)), cell_new _ _ _ (by simp), free_new _ _ _ (by simp)⟩
theorem CW.drew {w W : World} {x : Bx} {t c : Int} (H : Rd w x) (h : CW w W x t c) : CW w W.drew x t c :=
  ⟨H.below h.b.drew, ⟨h.cl.c0, h.cl.c1, h.cl.c2, h.cl.c3, h.cl.c4, h.cl.c5⟩, h.b.drew, h.s, h.t, h.tf, h.c, h.cf⟩
/-- The variable that a command works on, while only memory behind it is made. -/
structure DW (u W : World) (z : Bx) (base g : Nat) : Prop where
  r : Rd W z
  v : Var W base g z
  o : Ow W (base + 4) z
  b : Below u.heap.size u W
theorem DW.start {u : World} {z : Bx} {base g : Nat} (V : Var u base g z) (O : Ow u (base + 4) z) (s : Small z.b) : DW u u z base g := ⟨O.rd s, V, O, Below.refl _ _⟩
theorem DW.step {u W W' : World} {z : Bx} {base g : Nat} (h : DW u W z base g) (k : Below W.heap.size W W') : DW u W' z base g :=
  ⟨h.r.below k, Box.below h.v k (Box.lt h.v).2, h.o.below k (Nat.le_refl _), h.b.trans (k.mono h.b.size)⟩
theorem DW.drew {u W : World} {z : Bx} {base g : Nat} (h : DW u W z base g) : DW u W.drew z base g := h.step (Below.refl _ _).drew
theorem DW.grown {u W : World} {z : Bx} {base g : Nat} (h : DW u W z base g) : u.grownBy W (some g) := ⟨h.b.os, h.b.tape, h.b.output, h.b.size, fun j hj _ => h.b.block j hj⟩
end Go.Proofs.YtpkgkekonhgonaaGreatDoor.ICmdB
namespace Go.Proofs.YtpkgkekonhgonaaGreatDoor.ICmdW
open Go.ChangeShapes Go.WideShapes Go.ChangeAt Go.RowKit BMem Bks ILists BHelp Ans ICopied ICmdB
open Lots (Says says_of NoOk)
/-- What a command may change: its variable g, and memory from base + 4 on. -/
structure Frm (u u' : World) (base g : Nat) : Prop where
  os : u'.os = u.os
  tape : u'.tape = u.tape
  output : u'.output = u.output
  size : u.heap.size ≤ u'.heap.size
  block : ∀ j, j < base + 4 → j ≠ g → u'.heap[j]? = u.heap[j]?
theorem Frm.refl (u : World) (base g : Nat) : Frm u u base g := ⟨rfl, rfl, rfl, Nat.le_refl _, fun _ _ _ => rfl⟩
theorem Frm.trans {u v w : World} {base g : Nat} (h : Frm u v base g) (k : Frm v w base g) : Frm u w base g :=
  ⟨k.os.trans h.os, k.tape.trans h.tape, k.output.trans h.output, Nat.le_trans h.size k.size, fun j hj hn => (k.block j hj hn).trans (h.block j hj hn)⟩
theorem Frm.grown {u v : World} {base g r : Nat} (k : u.grownBy v (some r)) (hr : r = g ∨ base + 4 ≤ r) (hs : base + 4 ≤ u.heap.size) : Frm u v base g :=
  ⟨k.os, k.tape, k.output, k.size, fun j hj hn => k.block j (by omega) (fun e => by injection e; omega)⟩
theorem Frm.below {u v : World} {base g B : Nat} (k : Below B u v) (hB : base + 4 ≤ B) : Frm u v base g :=
  ⟨k.os, k.tape, k.output, k.size, fun j hj hn => k.block j (by omega)⟩
end Go.Proofs.YtpkgkekonhgonaaGreatDoor.ICmdW
namespace Go.Proofs.YtpkgkekonhgonaaGreatDoor.IPlace8
open Go.ChangeShapes Go.WideShapes Go.ChangeAt Go.RowKit BMem Bks IRead IHave ITrade ILists IBalsFit Trd
open Tup8 (T8 el8 At8 Holds8)
open AccountIPlace (Cmp iCompare)
/-- The place of a number among trades; whether one stands there. -/
def IsPlace8 (ps : List T8) (no : Int) (c : Nat) : Prop := c ≤ ps.length ∧ (∀ i, i < c → (el8 ps i).1 < no) ∧ (∀ i, c ≤ i → i < ps.length → no ≤ (el8 ps i).1)
def StandsAt8 (f : Bool) (ps : List T8) (no : Int) (c : Nat) : Prop := f = true ↔ c < ps.length ∧ (el8 ps c).1 = no
theorem place_at {ps : List T8} {no : Int} {c : Nat} (h : IsPlace8 ps no c) (k : StandsAt8 true ps no c) : IsAt ps no c :=
  ⟨(k.1 rfl).1, (k.1 rfl).2, fun j hj e => by have := h.2.1 j hj; omega⟩
theorem place_none {ps : List T8} {no : Int} {c : Nat} (h : IsPlace8 ps no c) (k : StandsAt8 false ps no c) (asc : ∀ j i, i < j → j < ps.length → (el8 ps i).1 < (el8 ps j).1) : NoneAt ps no := by
  intro j hj e
  rcases Nat.lt_trichotomy j c with a | a | a
  · have := h.2.1 j a; omega
  · subst a; exact Bool.noConfusion (k.2 ⟨hj, e⟩)
  · have a1 := asc j c a hj
    have a2 := h.2.2 c (Nat.le_refl _) (by omega)
    omega
set_option maxRecDepth 100000 in
theorem iCmp (y0 y1 y2 y3 y4 y5 y6 y7 no : Int) (w : World) : Calls Tryz.prog 129 #[.agg #[.int .i64 y0, .int .i64 y1, .int .i64 y2, .int .i64 y3, .int .i64 y4, .int .i64 y5, .int .i64 y6, .int .i64 y7], .int .i64 no] w fun e w' => ∃ r, Cmp y0 no r ∧ e = .returned (.int .i64 r) ∧ Below w.heap.size w w' := by
  go_enter Tryz.func129, Tryz.ntmps129
  go_wp2_with fail
  refine (iCompare y0 no _).mono ?_
  rintro e w1 ⟨r, hr, rfl, rfl⟩
  go_wp2
  go_ret
  exact ⟨r, hr, rfl, by repeat (first | exact Below.refl _ _ | refine Below.alloc ?_ (by simp; try omega) _)⟩
set_option maxRecDepth 100000 in
set_option maxHeartbeats 2000000 in
theorem iSearch (w : World) (g n cap : Nat) (ps : List T8) (no : Int) (hl : ps.length = n) (h20 : n ≤ 1048576) (hg : g < w.heap.size) (h : At8 w g ps) (asc : Hid (∀ j i, i < j → j < ps.length → (el8 ps i).1 < (el8 ps j).1)) :
    Calls Tryz.prog 128 #[.slice (some ⟨g, 0, none⟩) n cap, .int .i64 no, .func (.func 129) #[] #[]] w fun e w' => ∃ c f, IsPlace8 ps no c ∧ StandsAt8 f ps no c ∧ e = .returned (.tuple #[.int .i64 (c : Nat), .bool f]) ∧ Below w.heap.size w w' := by
  go_enter Tryz.func128, Tryz.ntmps128
  go_wp2
  go_loopw [9, 10] (fun p q wr => ∃ (lo hi : Nat), lo ≤ hi ∧ hi ≤ n ∧ p = .int .i64 lo ∧ q = .int .i64 hi ∧ At8 wr g ps ∧ Below w.heap.size w wr ∧ Hid ((∀ t, t < lo → (el8 ps t).1 < no) ∧ ∀ t, hi ≤ t → t < n → no ≤ (el8 ps t).1)) (fun p q _ => (intOf q).toNat - (intOf p).toNat)
  case atStart => exact ⟨0, n, by omega, by omega, rfl, rfl, h, Below.refl _ _, hide ⟨fun t ht => by omega, fun t h1 h2 => by omega⟩⟩
  case round =>
    clear h
    obtain ⟨lo, hi, hlh, hin, rfl, rfl, h, hb, HI⟩ := hrel
    have sz := hb.size
    by_cases t : lo < hi
    · obtain ⟨m, hm⟩ : ∃ m, m = (lo + hi) / 2 := ⟨_, rfl⟩
      obtain ⟨e0, e1, e2, e3, e4, e5, e6, e7⟩ := h m (by omega)
      have HA := hide h
      have HB := hide hb
      clear h hb
      have LOW := hide (show (el8 ps m).1 < no → ∀ t, t < m + 1 → (el8 ps t).1 < no from fun hx t ht => by
        by_cases e : t = m
        · subst e; exact hx
        · have := (unhide asc) m t (by omega) (by omega)
          omega)
      have HIGH := hide (show ¬ (el8 ps m).1 < no → ∀ t, m ≤ t → t < n → no ≤ (el8 ps t).1 from fun hx t h1 h2 => by
        by_cases e : t = m
        · subst e; omega
        · have := (unhide asc) t m (by omega) (by omega)
          omega)
      generalize (el8 ps m).1 = y0 at *
      generalize (el8 ps m).2.1 = y1 at *
      generalize (el8 ps m).2.2.1 = y2 at *
      generalize (el8 ps m).2.2.2.1 = y3 at *
      generalize (el8 ps m).2.2.2.2.1 = y4 at *
      generalize (el8 ps m).2.2.2.2.2.1 = y5 at *
      generalize (el8 ps m).2.2.2.2.2.2.1 = y6 at *
      generalize (el8 ps m).2.2.2.2.2.2.2 = y7 at *
      have hm' : (((lo : Int) + (hi : Int)) / 2) = ((m : Nat) : Int) := by omega
      have M1 : lo ≤ m := by omega
      have M2 : m < hi := by omega
      have HM := hide hm
      clear hm
      go_wp2_with fail
      refine (iCmp y0 y1 y2 y3 y4 y5 y6 y7 no _).mono ?_
      rintro e w1 ⟨r, hr, rfl, b1⟩
      have bb := hide (next (unhide HB) b1)
      have aa := hide ((unhide HA).below b1 (by omega))
      by_cases lt : y0 < no
      · obtain rfl : r = -1 := by rcases hr with ⟨_, e⟩ | ⟨h1, _⟩ | ⟨h1, _⟩ <;> omega
        have L := hide ((unhide LOW) lt)
        clear hr b1 LOW HIGH
        go_wp2
        go_roundw
        case rel => exact ⟨m + 1, hi, by omega, hin, by go_num, rfl, unhide aa, unhide bb, hide ⟨unhide L, (unhide HI).2⟩⟩
        case measure => simp [intOf]; omega
      · have nr : ¬ r < 0 := by rcases hr with ⟨h1, _⟩ | ⟨_, e⟩ | ⟨_, e⟩ <;> omega
        have L := hide ((unhide HIGH) (by omega))
        clear hr b1 LOW HIGH
        go_wp2
        go_roundw
        case rel => exact ⟨lo, m, by omega, by omega, rfl, by go_num, unhide aa, unhide bb, hide ⟨(unhide HI).1, unhide L⟩⟩
        case measure => simp [intOf]; omega
    · obtain rfl : lo = hi := by omega
      have PL := hide (show IsPlace8 ps no lo from ⟨by omega, (unhide HI).1, fun t h1 h2 => (unhide HI).2 t h1 (by omega)⟩)
      by_cases lt : lo < n
      · obtain ⟨e0, e1, e2, e3, e4, e5, e6, e7⟩ := h lo (by omega)
        have HA := hide h
        have HB := hide hb
        clear h hb
        have FT := hide (show (el8 ps lo).1 = no → StandsAt8 true ps no lo from fun z => ⟨fun _ => ⟨by omega, z⟩, fun _ => rfl⟩)
        have FN := hide (show ¬ (el8 ps lo).1 = no → StandsAt8 false ps no lo from fun z => ⟨fun e => Bool.noConfusion e, fun e => absurd e.2 z⟩)
        generalize (el8 ps lo).1 = y0 at *
        generalize (el8 ps lo).2.1 = y1 at *
        generalize (el8 ps lo).2.2.1 = y2 at *
        generalize (el8 ps lo).2.2.2.1 = y3 at *
        generalize (el8 ps lo).2.2.2.2.1 = y4 at *
        generalize (el8 ps lo).2.2.2.2.2.1 = y5 at *
        generalize (el8 ps lo).2.2.2.2.2.2.1 = y6 at *
        generalize (el8 ps lo).2.2.2.2.2.2.2 = y7 at *
        go_wp2_with fail
        refine (iCmp y0 y1 y2 y3 y4 y5 y6 y7 no _).mono ?_
        rintro e w1 ⟨r, hr, rfl, b1⟩
        have bb := hide (next (unhide HB) b1)
        by_cases eq : y0 = no
        · obtain rfl : r = 0 := by rcases hr with ⟨_, e⟩ | ⟨h1, _⟩ | ⟨_, e⟩ <;> omega
          have FF := (unhide FT) eq
          clear hr b1 FT FN eq
          go_wp2
          go_ret2
          exact ⟨lo, true, unhide PL, FF, rfl, unhide bb⟩
        · have nr : (r == 0) = false := by rw [beq_eq_false_iff_ne]; rcases hr with ⟨_, e⟩ | ⟨h1, _⟩ | ⟨_, e⟩ <;> omega
          have FF := (unhide FN) eq
          clear hr b1 FT FN eq
          go_wp2
          go_ret2
          exact ⟨lo, false, unhide PL, FF, rfl, unhide bb⟩
      · have HB := hide hb
        clear h hb
        go_wp2
        go_ret2
        exact ⟨lo, false, unhide PL, ⟨fun e => Bool.noConfusion e, fun e => absurd e.1 (by omega)⟩, rfl, unhide HB⟩
set_option maxRecDepth 100000 in
theorem iPlace (w : World) (x : Bx) (no : Int) (h : Rd w x) (asc : Hid (∀ j i, i < j → j < x.b.ts.length → (el8 x.b.ts i).1 < (el8 x.b.ts j).1)) :
    Calls Tryz.prog 88 #[.agg #[.slice (some ⟨x.ga, 0, none⟩) x.b.ac.length x.ca, .slice (some ⟨x.gi, 0, none⟩) x.b.ic.length x.ci, .slice (some ⟨x.gb, 0, none⟩) x.b.bs.length x.cb, .slice (some ⟨x.gl, 0, none⟩) x.b.ls.length x.cl, .slice (some ⟨x.gt, 0, none⟩) x.b.ts.length x.ct, .int .i64 x.b.lot], .int .i64 no] w fun e w' => ∃ c f, IsPlace8 x.b.ts no c ∧ StandsAt8 f x.b.ts no c ∧ e = .returned (.tuple #[.int .i64 (c : Nat), .bool f]) ∧ Below w.heap.size w w' := by
  have S0 := hide (St.start h 40)
  have nt := h.nt
  have lt := h.lt
  clear h
  go_enter Tryz.func88, Tryz.ntmps88
  go_wp2_with fail
  refine (iSearch _ x.gt _ x.ct x.b.ts no rfl nt (by simp; omega) (unhide S0).r.rt asc).mono ?_
  rintro e w1 ⟨c, f, hc, hf, rfl, b1⟩
  have bb := hide ((unhide S0).step b1).b
  have PC := hide hc
  have PF := hide hf
  clear hc hf b1
  go_wp2
  go_ret2
  exact ⟨c, f, unhide PC, unhide PF, rfl, unhide bb⟩
end Go.Proofs.YtpkgkekonhgonaaGreatDoor.IPlace8
