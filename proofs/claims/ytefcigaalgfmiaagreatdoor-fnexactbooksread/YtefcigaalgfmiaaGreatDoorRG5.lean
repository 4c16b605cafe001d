/- Texts of one proof, one behind the other: ICl13, IRows13, Legs, BalApp, IIndex8, ITradesFit, LaidE. -/
import Derived.Test.YtefcigaalgfmiaaGreatDoorRows
import Derived.Test.YtefcigaalgfmiaaGreatDoorCards
import Derived.Test.YtefcigaalgfmiaaGreatDoorTie
import Derived.Test.YtefcigaalgfmiaaGreatDoorRG1
import Derived.Test.YtefcigaalgfmiaaGreatDoorRG2
import Derived.Test.YtefcigaalgfmiaaGreatDoorRG3
import Derived.Test.YtefcigaalgfmiaaGreatDoorRG4
import Derived.Maps.AppendAt
import Derived.Stop.LaidErr
import Derived.WalkKit
import Derived.ProofKit
import Derived.OpenShut
import Derived.Deep.DeepHandedRow
set_option linter.unusedVariables false
set_option linter.unusedSimpArgs false
namespace Go.Proofs.YtefcigaalgfmiaaGreatDoor.ICl13
open Go.ChangeShapes Go.WideShapes Go.ChangeAt Go.RowKit BMem Bks BHelp SRead13 VB13
open SBytes (AtB getN)
open SPuts11 (gets)
open IRd11 (Pl cell_grown grow_below)
open IInto13
open IBalsFit (one_more)
open SRead13 (row_kept)
open Bals (T3 el3)
open Tup5 (T5 el5)
open Tup8 (T8 el8)
/-- A row behind the others. -/
def addRow (k : Nat) (r : List Int) (b : Bk) : Bk :=
  match k with
  | 0 => ⟨b.ac ++ [r2 r], b.ic, b.bs, b.ls, b.ts, b.lot⟩
  | 1 => ⟨b.ac, b.ic ++ [r2 r], b.bs, b.ls, b.ts, b.lot⟩
  | 2 => ⟨b.ac, b.ic, b.bs ++ [r3 r], b.ls, b.ts, b.lot⟩
  | 3 => ⟨b.ac, b.ic, b.bs, b.ls ++ [r5 r], b.ts, b.lot⟩
  | _ => ⟨b.ac, b.ic, b.bs, b.ls, b.ts ++ [r8 r], b.lot⟩
theorem add_put (k : Nat) (rs : List (List Int)) (r : List Int) (b : Bk) : addRow k r (putRows k rs b) = putRows k (rs ++ [r]) b := by
  unfold addRow putRows
  split <;> simp
/-- Blocks that reading leaves as they are: readers, the table's rows, and the place of the books. -/
def keptT : Obj → Bool
  | .cells _ t _ => t == 75 || t == 81 || t == 78
  | _ => false
def Kp (W W' : World) : Prop := ∀ (i : Nat) (o : Obj), W.heap[i]? = some o → keptT o = true → W'.heap[i]? = some o
theorem Kp.refl (W : World) : Kp W W := fun _ _ h _ => h
theorem Kp.trans {a b c : World} (h : Kp a b) (k : Kp b c) : Kp a c := fun i o h1 h2 => k i o (h i o h1 h2) h2
theorem Kp.below {W W' : World} (k : Below W.heap.size W W') : Kp W W' := fun i o h _ => (k.block i (Array.getElem?_eq_some_iff.1 h).1).trans h
theorem Kp.drew {W W' : World} (k : Kp W.drew W') : Kp W W' := k
theorem Kp.grown {W W' : World} {row : Option Nat} (k : W.grownBy W' row) (h : ∀ j, row = some j → ∃ o, W.heap[j]? = some o ∧ keptT o = false) : Kp W W' := fun i o h1 h2 => by
  refine (k.block i (Array.getElem?_eq_some_iff.1 h1).1 (fun e => ?_)).trans h1
  obtain ⟨o', e1, e2⟩ := h i e.symm
  rw [h1] at e1
  injection e1 with e1
  rw [e1, e2] at h2
  cases h2
/-- A row's block bears the row's type. -/
theorem row_typ {W : World} {base : Nat} {e : TypeId} {m : Nat} {v : Value} {n : Nat} {vs : List Value} (h : W.ownsRow base e m v n vs) : ∀ j, v.ownBlock = some j → ∃ c, W.heap[j]? = some (.cells c e (0, 0)) := by
  intro j hj
  rcases h.2 with ⟨h1, _⟩ | ⟨g, c, cur, h1, h2, h3, _⟩
  · rw [h1] at hj; cases hj
  · rw [h1] at hj
    have : g = j := by simpa [Value.ownBlock] using hj
    subst this
    exact ⟨cur, h3⟩
theorem row_ne {W : World} {b1 b2 : Nat} {e1 e2 : TypeId} {m1 m2 : Nat} {v1 v2 : Value} {n1 n2 : Nat} {x1 x2 : List Value} (h1 : W.ownsRow b1 e1 m1 v1 n1 x1) (h2 : W.ownsRow b2 e2 m2 v2 n2 x2) (he : e1 ≠ e2) : v1.ownBlock = none ∨ v1.ownBlock ≠ v2.ownBlock := by
  cases h : v1.ownBlock with
  | none => exact .inl rfl
  | some j =>
    refine .inr fun e => ?_
    obtain ⟨c, hc⟩ := row_typ h1 j h
    obtain ⟨c', hc'⟩ := row_typ h2 j e.symm
    rw [hc] at hc'
    injection hc' with hc'
    injection hc' with _ q _
    exact he q
theorem Gr2.grown {w w1 : World} {a b : Nat} (h : Gr2 w w1 a b) (hb : w.heap.size ≤ b) : w.grownBy w1 (some a) :=
  ⟨h.os, h.tape, h.output, h.size, fun i hi hne => h.block i hi (fun e => hne (by rw [e])) (by omega)⟩
/-- What does not change while books are read. -/
structure Pg (w0 : World) (gl cl p D B N : Nat) (xs : List Int) (et : TypeId) (ev : Value) : Prop where
  l0 : xs.length ≤ 1048576
  l1 : xs.length ≤ cl
  g : gl < w0.heap.size
  a : AtB w0 gl xs
  e : w0.cell? ⟨0, 0, none⟩ = some (.iface et ev)
  z : 0 < w0.heap.size
  p0 : w0.heap.size ≤ p
  p1 : p < N
  d0 : w0.heap.size ≤ D
  d1 : D < N
  q0 : w0.heap.size ≤ B
  q1 : B < N
  pd : p ≠ D
  pq : p ≠ B
  dq : D ≠ B
/-- Where reading stands: the place, the books so far. -/
structure Rs (w0 W : World) (p D B N : Nat) (s : Int) (x : Ix) : Prop where
  pl : Pl W w0.heap.size p s
  bx : Box W w0.heap.size D (.slice x.aa x.b.ac.length x.ca) (.slice x.ai x.b.ic.length x.ci) (.slice x.ab x.b.bs.length x.cb) (.slice x.al x.b.ls.length x.cl) (.slice x.ats x.b.ts.length x.ct) (.int .i64 x.b.lot)
  o : OwV W N x
  q : W.heap[B]? = some (.cells #[.pointer (some ⟨D, 0, none⟩)] 78 (0, 0))
  b : Below w0.heap.size w0 W
  n : N ≤ W.heap.size
theorem Rs.step {w0 W W' : World} {p D B N : Nat} {s : Int} {x : Ix} (h : Rs w0 W p D B N s x) (k : Below W.heap.size W W') : Rs w0 W' p D B N s x :=
  ⟨h.pl.below k h.pl.lt.2, h.bx.below k h.bx.lt.2, ⟨row_step h.o.oa k, row_step h.o.oi k, row_step h.o.ob k, row_step h.o.ol k, row_step h.o.ot k⟩, (k.block B (Array.getElem?_eq_some_iff.1 h.q).1).trans h.q, h.b.trans (k.mono h.b.size), Nat.le_trans h.n k.size⟩
theorem Rs.cellB {w0 W : World} {p D B N : Nat} {s : Int} {x : Ix} (h : Rs w0 W p D B N s x) : W.cell? ⟨B, 0, none⟩ = some (.pointer (some ⟨D, 0, none⟩)) := by
  have := h.q
  simp [World.cell?, this]
theorem Rs.ltB {w0 W : World} {p D B N : Nat} {s : Int} {x : Ix} (h : Rs w0 W p D B N s x) : B < W.heap.size := (Array.getElem?_eq_some_iff.1 h.q).1
theorem Rs.moved {w0 W W' : World} {p D B N : Nat} {s s' : Int} {x : Ix} (h : Rs w0 W p D B N s x) (k : W.grownBy W' (some p)) (p0 : w0.heap.size ≤ p) (p1 : p < N) (pd : p ≠ D) (pq : p ≠ B) (hp : Pl W' w0.heap.size p s') : Rs w0 W' p D B N s' x :=
  ⟨hp, h.bx.kept k (fun e => pd (by injection e with e; exact e.symm)), ⟨row_kept h.o.oa k p1, row_kept h.o.oi k p1, row_kept h.o.ob k p1, row_kept h.o.ol k p1, row_kept h.o.ot k p1⟩, (k.block B h.ltB (fun e => pq (by injection e with e; exact e.symm))).trans h.q, h.b.grown k h.b.size (fun j hj => by injection hj with hj; omega), Nat.le_trans h.n k.size⟩
theorem Rs.typP {w0 W : World} {p D B N : Nat} {s : Int} {x : Ix} (h : Rs w0 W p D B N s x) : ∃ o, W.heap[p]? = some o ∧ keptT o = false := by
  obtain ⟨c, hc⟩ := row_typ h.pl p rfl
  exact ⟨_, hc, rfl⟩
/-- What reading a row comes to. -/
def ClS (k : Nat) (r : List Int × Int × Bool) (w0 W : World) (p D B N : Nat) (x : Ix) (e : Ending) (W' : World) : Prop :=
  (r.2.2 = false ∧ Pan e ∧ Below w0.heap.size w0 W') ∨ (r.2.2 = true ∧ e = .returned (.tuple #[]) ∧ Kp W W' ∧ ∃ x', x'.b = addRow k r.1 x.b ∧ Rs w0 W' p D B N r.2.1 x')
theorem list2 {l : List Int} (h : l.length = 2) : ∃ a b, l = [a, b] := by
  match l, h with
  | [a, b], _ => exact ⟨a, b, rfl⟩
theorem list3 {l : List Int} (h : l.length = 3) : ∃ a b c, l = [a, b, c] := by
  match l, h with
  | [a, b, c], _ => exact ⟨a, b, c, rfl⟩
theorem list5 {l : List Int} (h : l.length = 5) : ∃ a b c d e, l = [a, b, c, d, e] := by
  match l, h with
  | [a, b, c, d, e], _ => exact ⟨a, b, c, d, e, rfl⟩
theorem list8 {l : List Int} (h : l.length = 8) : ∃ a b c d e f g i, l = [a, b, c, d, e, f, g, i] := by
  match l, h with
  | [a, b, c, d, e, f, g, i], _ => exact ⟨a, b, c, d, e, f, g, i, rfl⟩
theorem row_out {W : World} {base d : Nat} {e : TypeId} {m : Nat} {v : Value} {n : Nat} {vs : List Value} (h : W.ownsRow base e m v n vs) (hd : W.heap.size ≤ d) : v.ownBlock = none ∨ v.ownBlock ≠ some d := by
  cases q : v.ownBlock with
  | none => exact .inl rfl
  | some j =>
    refine .inr fun e => ?_
    have := (World.ownsRow.lt h j q).2
    injection e with e
    omega
theorem rs_drew {w0 W : World} {p D B N : Nat} {s : Int} {x : Ix} (h : Rs w0 W p D B N s x) : Rs w0 W.drew p D B N s x := ⟨h.pl, h.bx, ⟨h.o.oa, h.o.oi, h.o.ob, h.o.ol, h.o.ot⟩, h.q, h.b.drew, h.n⟩
abbrev oC00 : Oper := { dst := some 10, op := Go.Op.load 78 (Go.Operand.tmp 1), type := 78, pos := "l13_save.go:66", after := #[], guard := none }
abbrev oC01 : Oper := { dst := some 11, op := Go.Op.load 78 (Go.Operand.tmp 1), type := 78, pos := "l13_save.go:66", after := #[], guard := none }
abbrev oC02 : Oper := { dst := some 12, op := Go.Op.nilCheck (Go.Operand.tmp 11), type := 0, pos := "l13_save.go:66", after := #[{ on := 1, ground := Go.Ground.data }], guard := none }
abbrev oC03 : Oper := { dst := some 13, op := Go.Op.fieldAddr 29 (Go.Operand.tmp 12) 0, type := 0, pos := "l13_save.go:66", after := #[{ on := 2, ground := Go.Ground.data }], guard := none }
abbrev oC04 : Oper := { dst := some 14, op := Go.Op.load 23 (Go.Operand.tmp 13), type := 23, pos := "l13_save.go:66", after := #[{ on := 3, ground := Go.Ground.data }], guard := none }
abbrev oC05 : Oper := { dst := some 15, op := Go.Op.load 43 (Go.Operand.tmp 3), type := 43, pos := "l13_save.go:66", after := #[], guard := none }
abbrev oC06 : Oper := { dst := some 16, op := Go.Op.buildSlice 23 1 #[(0, Go.Operand.tmp 15)], type := 23, pos := "l13_save.go:66", after := #[{ on := 5, ground := Go.Ground.data }], guard := none }
abbrev oC07 : Oper := { dst := some 17, op := Go.Op.call { callee := Go.Callee.builtin Go.Builtin.append, args := #[Go.Operand.tmp 14, Go.Operand.tmp 16], argTypes := #[23, 23] }, type := 23, pos := "l13_save.go:66", after := #[{ on := 4, ground := Go.Ground.data }, { on := 6, ground := Go.Ground.data }], guard := none }
abbrev oC08 : Oper := { dst := some 18, op := Go.Op.nilCheck (Go.Operand.tmp 10), type := 0, pos := "l13_save.go:66", after := #[{ on := 0, ground := Go.Ground.data }, { on := 0, ground := Go.Ground.phase }, { on := 1, ground := Go.Ground.phase }, { on := 2, ground := Go.Ground.phase }, { on := 3, ground := Go.Ground.phase }, { on := 4, ground := Go.Ground.phase }, { on := 5, ground := Go.Ground.phase }, { on := 6, ground := Go.Ground.phase }, { on := 7, ground := Go.Ground.phase }], guard := none }
abbrev oC09 : Oper := { dst := some 19, op := Go.Op.fieldAddr 29 (Go.Operand.tmp 18) 0, type := 0, pos := "l13_save.go:66", after := #[{ on := 8, ground := Go.Ground.data }, { on := 0, ground := Go.Ground.phase }, { on := 1, ground := Go.Ground.phase }, { on := 2, ground := Go.Ground.phase }, { on := 3, ground := Go.Ground.phase }, { on := 4, ground := Go.Ground.phase }, { on := 5, ground := Go.Ground.phase }, { on := 6, ground := Go.Ground.phase }, { on := 7, ground := Go.Ground.phase }], guard := none }
abbrev oC010 : Oper := { dst := none, op := Go.Op.store 23 (Go.Operand.tmp 19) (Go.Operand.tmp 17), type := 0, pos := "l13_save.go:66", after := #[{ on := 9, ground := Go.Ground.data }, { on := 7, ground := Go.Ground.data }, { on := 7, ground := Go.Ground.chain }, { on := 0, ground := Go.Ground.phase }, { on := 1, ground := Go.Ground.phase }, { on := 2, ground := Go.Ground.phase }, { on := 3, ground := Go.Ground.phase }, { on := 4, ground := Go.Ground.phase }, { on := 5, ground := Go.Ground.phase }, { on := 6, ground := Go.Ground.phase }, { on := 7, ground := Go.Ground.phase }], guard := none }
abbrev oC10 : Oper := { dst := some 10, op := Go.Op.load 78 (Go.Operand.tmp 1), type := 78, pos := "l13_save.go:71", after := #[], guard := none }
abbrev oC11 : Oper := { dst := some 11, op := Go.Op.load 78 (Go.Operand.tmp 1), type := 78, pos := "l13_save.go:71", after := #[], guard := none }
abbrev oC12 : Oper := { dst := some 12, op := Go.Op.nilCheck (Go.Operand.tmp 11), type := 0, pos := "l13_save.go:71", after := #[{ on := 1, ground := Go.Ground.data }], guard := none }
abbrev oC13 : Oper := { dst := some 13, op := Go.Op.fieldAddr 29 (Go.Operand.tmp 12) 1, type := 0, pos := "l13_save.go:71", after := #[{ on := 2, ground := Go.Ground.data }], guard := none }
abbrev oC14 : Oper := { dst := some 14, op := Go.Op.load 24 (Go.Operand.tmp 13), type := 24, pos := "l13_save.go:71", after := #[{ on := 3, ground := Go.Ground.data }], guard := none }
abbrev oC15 : Oper := { dst := some 15, op := Go.Op.load 44 (Go.Operand.tmp 3), type := 44, pos := "l13_save.go:71", after := #[], guard := none }
abbrev oC16 : Oper := { dst := some 16, op := Go.Op.buildSlice 24 1 #[(0, Go.Operand.tmp 15)], type := 24, pos := "l13_save.go:71", after := #[{ on := 5, ground := Go.Ground.data }], guard := none }
abbrev oC17 : Oper := { dst := some 17, op := Go.Op.call { callee := Go.Callee.builtin Go.Builtin.append, args := #[Go.Operand.tmp 14, Go.Operand.tmp 16], argTypes := #[24, 24] }, type := 24, pos := "l13_save.go:71", after := #[{ on := 4, ground := Go.Ground.data }, { on := 6, ground := Go.Ground.data }], guard := none }
abbrev oC18 : Oper := { dst := some 18, op := Go.Op.nilCheck (Go.Operand.tmp 10), type := 0, pos := "l13_save.go:71", after := #[{ on := 0, ground := Go.Ground.data }, { on := 0, ground := Go.Ground.phase }, { on := 1, ground := Go.Ground.phase }, { on := 2, ground := Go.Ground.phase }, { on := 3, ground := Go.Ground.phase }, { on := 4, ground := Go.Ground.phase }, { on := 5, ground := Go.Ground.phase }, { on := 6, ground := Go.Ground.phase }, { on := 7, ground := Go.Ground.phase }], guard := none }
abbrev oC19 : Oper := { dst := some 19, op := Go.Op.fieldAddr 29 (Go.Operand.tmp 18) 1, type := 0, pos := "l13_save.go:71", after := #[{ on := 8, ground := Go.Ground.data }, { on := 0, ground := Go.Ground.phase }, { on := 1, ground := Go.Ground.phase }, { on := 2, ground := Go.Ground.phase }, { on := 3, ground := Go.Ground.phase }, { on := 4, ground := Go.Ground.phase }, { on := 5, ground := Go.Ground.phase }, { on := 6, ground := Go.Ground.phase }, { on := 7, ground := Go.Ground.phase }], guard := none }
abbrev oC110 : Oper := { dst := none, op := Go.Op.store 24 (Go.Operand.tmp 19) (Go.Operand.tmp 17), type := 0, pos := "l13_save.go:71", after := #[{ on := 9, ground := Go.Ground.data }, { on := 7, ground := Go.Ground.data }, { on := 7, ground := Go.Ground.chain }, { on := 0, ground := Go.Ground.phase }, { on := 1, ground := Go.Ground.phase }, { on := 2, ground := Go.Ground.phase }, { on := 3, ground := Go.Ground.phase }, { on := 4, ground := Go.Ground.phase }, { on := 5, ground := Go.Ground.phase }, { on := 6, ground := Go.Ground.phase }, { on := 7, ground := Go.Ground.phase }], guard := none }
abbrev oC20 : Oper := { dst := some 15, op := Go.Op.load 78 (Go.Operand.tmp 1), type := 78, pos := "l13_save.go:77", after := #[], guard := none }
abbrev oC21 : Oper := { dst := some 16, op := Go.Op.load 78 (Go.Operand.tmp 1), type := 78, pos := "l13_save.go:77", after := #[], guard := none }
abbrev oC22 : Oper := { dst := some 17, op := Go.Op.nilCheck (Go.Operand.tmp 16), type := 0, pos := "l13_save.go:77", after := #[{ on := 1, ground := Go.Ground.data }], guard := none }
abbrev oC23 : Oper := { dst := some 18, op := Go.Op.fieldAddr 29 (Go.Operand.tmp 17) 2, type := 0, pos := "l13_save.go:77", after := #[{ on := 2, ground := Go.Ground.data }], guard := none }
abbrev oC24 : Oper := { dst := some 19, op := Go.Op.load 25 (Go.Operand.tmp 18), type := 25, pos := "l13_save.go:77", after := #[{ on := 3, ground := Go.Ground.data }], guard := none }
abbrev oC25 : Oper := { dst := some 20, op := Go.Op.load 46 (Go.Operand.tmp 3), type := 46, pos := "l13_save.go:77", after := #[], guard := none }
abbrev oC26 : Oper := { dst := some 21, op := Go.Op.buildSlice 25 1 #[(0, Go.Operand.tmp 20)], type := 25, pos := "l13_save.go:77", after := #[{ on := 5, ground := Go.Ground.data }], guard := none }
abbrev oC27 : Oper := { dst := some 22, op := Go.Op.call { callee := Go.Callee.builtin Go.Builtin.append, args := #[Go.Operand.tmp 19, Go.Operand.tmp 21], argTypes := #[25, 25] }, type := 25, pos := "l13_save.go:77", after := #[{ on := 4, ground := Go.Ground.data }, { on := 6, ground := Go.Ground.data }], guard := none }
abbrev oC28 : Oper := { dst := some 23, op := Go.Op.nilCheck (Go.Operand.tmp 15), type := 0, pos := "l13_save.go:77", after := #[{ on := 0, ground := Go.Ground.data }, { on := 0, ground := Go.Ground.phase }, { on := 1, ground := Go.Ground.phase }, { on := 2, ground := Go.Ground.phase }, { on := 3, ground := Go.Ground.phase }, { on := 4, ground := Go.Ground.phase }, { on := 5, ground := Go.Ground.phase }, { on := 6, ground := Go.Ground.phase }, { on := 7, ground := Go.Ground.phase }], guard := none }
abbrev oC29 : Oper := { dst := some 24, op := Go.Op.fieldAddr 29 (Go.Operand.tmp 23) 2, type := 0, pos := "l13_save.go:77", after := #[{ on := 8, ground := Go.Ground.data }, { on := 0, ground := Go.Ground.phase }, { on := 1, ground := Go.Ground.phase }, { on := 2, ground := Go.Ground.phase }, { on := 3, ground := Go.Ground.phase }, { on := 4, ground := Go.Ground.phase }, { on := 5, ground := Go.Ground.phase }, { on := 6, ground := Go.Ground.phase }, { on := 7, ground := Go.Ground.phase }], guard := none }
abbrev oC210 : Oper := { dst := none, op := Go.Op.store 25 (Go.Operand.tmp 24) (Go.Operand.tmp 22), type := 0, pos := "l13_save.go:77", after := #[{ on := 9, ground := Go.Ground.data }, { on := 7, ground := Go.Ground.data }, { on := 7, ground := Go.Ground.chain }, { on := 0, ground := Go.Ground.phase }, { on := 1, ground := Go.Ground.phase }, { on := 2, ground := Go.Ground.phase }, { on := 3, ground := Go.Ground.phase }, { on := 4, ground := Go.Ground.phase }, { on := 5, ground := Go.Ground.phase }, { on := 6, ground := Go.Ground.phase }, { on := 7, ground := Go.Ground.phase }], guard := none }
abbrev oC30 : Oper := { dst := some 13, op := Go.Op.load 78 (Go.Operand.tmp 1), type := 78, pos := "l13_save.go:82", after := #[], guard := none }
abbrev oC31 : Oper := { dst := some 14, op := Go.Op.load 78 (Go.Operand.tmp 1), type := 78, pos := "l13_save.go:82", after := #[], guard := none }
abbrev oC32 : Oper := { dst := some 15, op := Go.Op.nilCheck (Go.Operand.tmp 14), type := 0, pos := "l13_save.go:82", after := #[{ on := 1, ground := Go.Ground.data }], guard := none }
abbrev oC33 : Oper := { dst := some 16, op := Go.Op.fieldAddr 29 (Go.Operand.tmp 15) 3, type := 0, pos := "l13_save.go:82", after := #[{ on := 2, ground := Go.Ground.data }], guard := none }
abbrev oC34 : Oper := { dst := some 17, op := Go.Op.load 26 (Go.Operand.tmp 16), type := 26, pos := "l13_save.go:82", after := #[{ on := 3, ground := Go.Ground.data }], guard := none }
abbrev oC35 : Oper := { dst := some 18, op := Go.Op.load 48 (Go.Operand.tmp 3), type := 48, pos := "l13_save.go:82", after := #[], guard := none }
abbrev oC36 : Oper := { dst := some 19, op := Go.Op.buildSlice 26 1 #[(0, Go.Operand.tmp 18)], type := 26, pos := "l13_save.go:82", after := #[{ on := 5, ground := Go.Ground.data }], guard := none }
abbrev oC37 : Oper := { dst := some 20, op := Go.Op.call { callee := Go.Callee.builtin Go.Builtin.append, args := #[Go.Operand.tmp 17, Go.Operand.tmp 19], argTypes := #[26, 26] }, type := 26, pos := "l13_save.go:82", after := #[{ on := 4, ground := Go.Ground.data }, { on := 6, ground := Go.Ground.data }], guard := none }
abbrev oC38 : Oper := { dst := some 21, op := Go.Op.nilCheck (Go.Operand.tmp 13), type := 0, pos := "l13_save.go:82", after := #[{ on := 0, ground := Go.Ground.data }, { on := 0, ground := Go.Ground.phase }, { on := 1, ground := Go.Ground.phase }, { on := 2, ground := Go.Ground.phase }, { on := 3, ground := Go.Ground.phase }, { on := 4, ground := Go.Ground.phase }, { on := 5, ground := Go.Ground.phase }, { on := 6, ground := Go.Ground.phase }, { on := 7, ground := Go.Ground.phase }], guard := none }
abbrev oC39 : Oper := { dst := some 22, op := Go.Op.fieldAddr 29 (Go.Operand.tmp 21) 3, type := 0, pos := "l13_save.go:82", after := #[{ on := 8, ground := Go.Ground.data }, { on := 0, ground := Go.Ground.phase }, { on := 1, ground := Go.Ground.phase }, { on := 2, ground := Go.Ground.phase }, { on := 3, ground := Go.Ground.phase }, { on := 4, ground := Go.Ground.phase }, { on := 5, ground := Go.Ground.phase }, { on := 6, ground := Go.Ground.phase }, { on := 7, ground := Go.Ground.phase }], guard := none }
abbrev oC310 : Oper := { dst := none, op := Go.Op.store 26 (Go.Operand.tmp 22) (Go.Operand.tmp 20), type := 0, pos := "l13_save.go:82", after := #[{ on := 9, ground := Go.Ground.data }, { on := 7, ground := Go.Ground.data }, { on := 7, ground := Go.Ground.chain }, { on := 0, ground := Go.Ground.phase }, { on := 1, ground := Go.Ground.phase }, { on := 2, ground := Go.Ground.phase }, { on := 3, ground := Go.Ground.phase }, { on := 4, ground := Go.Ground.phase }, { on := 5, ground := Go.Ground.phase }, { on := 6, ground := Go.Ground.phase }, { on := 7, ground := Go.Ground.phase }], guard := none }
abbrev oC40 : Oper := { dst := some 16, op := Go.Op.load 78 (Go.Operand.tmp 1), type := 78, pos := "l13_save.go:87", after := #[], guard := none }
abbrev oC41 : Oper := { dst := some 17, op := Go.Op.load 78 (Go.Operand.tmp 1), type := 78, pos := "l13_save.go:87", after := #[], guard := none }
abbrev oC42 : Oper := { dst := some 18, op := Go.Op.nilCheck (Go.Operand.tmp 17), type := 0, pos := "l13_save.go:87", after := #[{ on := 1, ground := Go.Ground.data }], guard := none }
abbrev oC43 : Oper := { dst := some 19, op := Go.Op.fieldAddr 29 (Go.Operand.tmp 18) 4, type := 0, pos := "l13_save.go:87", after := #[{ on := 2, ground := Go.Ground.data }], guard := none }
abbrev oC44 : Oper := { dst := some 20, op := Go.Op.load 27 (Go.Operand.tmp 19), type := 27, pos := "l13_save.go:87", after := #[{ on := 3, ground := Go.Ground.data }], guard := none }
abbrev oC45 : Oper := { dst := some 21, op := Go.Op.load 50 (Go.Operand.tmp 3), type := 50, pos := "l13_save.go:87", after := #[], guard := none }
abbrev oC46 : Oper := { dst := some 22, op := Go.Op.buildSlice 27 1 #[(0, Go.Operand.tmp 21)], type := 27, pos := "l13_save.go:87", after := #[{ on := 5, ground := Go.Ground.data }], guard := none }
abbrev oC47 : Oper := { dst := some 23, op := Go.Op.call { callee := Go.Callee.builtin Go.Builtin.append, args := #[Go.Operand.tmp 20, Go.Operand.tmp 22], argTypes := #[27, 27] }, type := 27, pos := "l13_save.go:87", after := #[{ on := 4, ground := Go.Ground.data }, { on := 6, ground := Go.Ground.data }], guard := none }
abbrev oC48 : Oper := { dst := some 24, op := Go.Op.nilCheck (Go.Operand.tmp 16), type := 0, pos := "l13_save.go:87", after := #[{ on := 0, ground := Go.Ground.data }, { on := 0, ground := Go.Ground.phase }, { on := 1, ground := Go.Ground.phase }, { on := 2, ground := Go.Ground.phase }, { on := 3, ground := Go.Ground.phase }, { on := 4, ground := Go.Ground.phase }, { on := 5, ground := Go.Ground.phase }, { on := 6, ground := Go.Ground.phase }, { on := 7, ground := Go.Ground.phase }], guard := none }
abbrev oC49 : Oper := { dst := some 25, op := Go.Op.fieldAddr 29 (Go.Operand.tmp 24) 4, type := 0, pos := "l13_save.go:87", after := #[{ on := 8, ground := Go.Ground.data }, { on := 0, ground := Go.Ground.phase }, { on := 1, ground := Go.Ground.phase }, { on := 2, ground := Go.Ground.phase }, { on := 3, ground := Go.Ground.phase }, { on := 4, ground := Go.Ground.phase }, { on := 5, ground := Go.Ground.phase }, { on := 6, ground := Go.Ground.phase }, { on := 7, ground := Go.Ground.phase }], guard := none }
abbrev oC410 : Oper := { dst := none, op := Go.Op.store 27 (Go.Operand.tmp 25) (Go.Operand.tmp 23), type := 0, pos := "l13_save.go:87", after := #[{ on := 9, ground := Go.Ground.data }, { on := 7, ground := Go.Ground.data }, { on := 7, ground := Go.Ground.chain }, { on := 0, ground := Go.Ground.phase }, { on := 1, ground := Go.Ground.phase }, { on := 2, ground := Go.Ground.phase }, { on := 3, ground := Go.Ground.phase }, { on := 4, ground := Go.Ground.phase }, { on := 5, ground := Go.Ground.phase }, { on := 6, ground := Go.Ground.phase }, { on := 7, ground := Go.Ground.phase }], guard := none }
set_option maxRecDepth 100000 in
set_option maxHeartbeats 4000000 in
theorem cl0 (w0 W : World) (gl cl p D B N : Nat) (xs : List Int) (et : TypeId) (ev : Value) (s : Int) (x : Ix) (G : Pg w0 gl cl p D B N xs et ev) (R : Rs w0 W p D B N s x) (hs : s ≤ 9223372036854775807) (hl : x.b.ac.length ≤ 1000) :
    Calls Tryz.prog 62 #[.agg #[.slice (some ⟨gl, 0, none⟩) xs.length cl, .pointer (some ⟨p, 0, none⟩)], .pointer (some ⟨B, 0, none⟩)] W (ClS 0 (gets xs 2 s []) w0 W p D B N x) := by
  obtain ⟨l0, l1, g, a, e, z, p0, p1, d0, d1, q0, q1, pd, pq, dq⟩ := G
  have nn := R.n
  have BU := hide (show Below W.heap.size W (((W.alloc (.cells #[.slice (some ⟨gl, 0, none⟩) xs.length cl, .pointer (some ⟨p, 0, none⟩)] 75)).alloc (.cells #[.int .i64 0, .int .i64 0] 43)).alloc (.cells #[.pointer (some ⟨W.heap.size + 1, 0, none⟩), .pointer (some ⟨W.heap.size + 1, 1, none⟩)] 73)) from (((Below.refl _ _).alloc (Nat.le_refl _) _).alloc (by simp) _).alloc (by simp; omega) _)
  have RU := hide (R.step (unhide BU))
  have TU := hide (show Tg (((W.alloc (.cells #[.slice (some ⟨gl, 0, none⟩) xs.length cl, .pointer (some ⟨p, 0, none⟩)] 75)).alloc (.cells #[.int .i64 0, .int .i64 0] 43)).alloc (.cells #[.pointer (some ⟨W.heap.size + 1, 0, none⟩), .pointer (some ⟨W.heap.size + 1, 1, none⟩)] 73)) w0.heap.size 43 2 (W.heap.size + 1) [.int .i64 0, .int .i64 0] from by
    have := World.ownsRow.alloc (World.ownsRow_lit (base := w0.heap.size) (size := 2) (e := 43) (W.alloc (.cells #[.slice (some ⟨gl, 0, none⟩) xs.length cl, .pointer (some ⟨p, 0, none⟩)] 75)) #[.int .i64 0, .int .i64 0] 1 (by have := R.b.size; simp; omega) (by decide) rfl) (.cells #[.pointer (some ⟨W.heap.size + 1, 0, none⟩), .pointer (some ⟨W.heap.size + 1, 1, none⟩)] 73)
    simpa [Tg] using this)
  have PU := hide (show Ptr (((W.alloc (.cells #[.slice (some ⟨gl, 0, none⟩) xs.length cl, .pointer (some ⟨p, 0, none⟩)] 75)).alloc (.cells #[.int .i64 0, .int .i64 0] 43)).alloc (.cells #[.pointer (some ⟨W.heap.size + 1, 0, none⟩), .pointer (some ⟨W.heap.size + 1, 1, none⟩)] 73)) (W.heap.size + 2) (W.heap.size + 1) 2 from fun i hi => by
    have : i = 0 ∨ i = 1 := by omega
    have q := litm ((W.alloc (.cells #[.slice (some ⟨gl, 0, none⟩) xs.length cl, .pointer (some ⟨p, 0, none⟩)] 75)).alloc (.cells #[.int .i64 0, .int .i64 0] 43)) [.pointer (some ⟨W.heap.size + 1, 0, none⟩), .pointer (some ⟨W.heap.size + 1, 1, none⟩)] 73 #[.pointer (some ⟨W.heap.size + 1, 0, none⟩), .pointer (some ⟨W.heap.size + 1, 1, none⟩)] rfl i
    rw [show ((W.alloc (.cells #[.slice (some ⟨gl, 0, none⟩) xs.length cl, .pointer (some ⟨p, 0, none⟩)] 75)).alloc (.cells #[.int .i64 0, .int .i64 0] 43)).heap.size = W.heap.size + 2 by simp] at q
    rcases this with rfl | rfl <;> exact q _ rfl)
  have us : ((((W.alloc (.cells #[.slice (some ⟨gl, 0, none⟩) xs.length cl, .pointer (some ⟨p, 0, none⟩)] 75)).alloc (.cells #[.int .i64 0, .int .i64 0] 43)).alloc (.cells #[.pointer (some ⟨W.heap.size + 1, 0, none⟩), .pointer (some ⟨W.heap.size + 1, 1, none⟩)] 73))).heap.size = W.heap.size + 3 := by simp
  have MU := hide (iMust (((W.alloc (.cells #[.slice (some ⟨gl, 0, none⟩) xs.length cl, .pointer (some ⟨p, 0, none⟩)] 75)).alloc (.cells #[.int .i64 0, .int .i64 0] 43)).alloc (.cells #[.pointer (some ⟨W.heap.size + 1, 0, none⟩), .pointer (some ⟨W.heap.size + 1, 1, none⟩)] 73)) gl cl p w0.heap.size 43 2 (W.heap.size + 1) (W.heap.size + 2) 2 2 xs s [.int .i64 0, .int .i64 0] ev et hs l0 l1 g (a.below (unhide RU).b g) (unhide RU).pl (unhide TU) (fun i hi => by
    have : i = 0 ∨ i = 1 := by omega
    rcases this with rfl | rfl <;> exact ⟨0, rfl⟩) (unhide PU) (by omega) (by omega) (by omega) (by omega) (by omega) (((unhide RU).b.cell (p := ⟨0, 0, none⟩) z).trans e) z)
  have GL := hide (gets_len xs 2 s [])
  have GA := hide (gets_all xs 2 s [] (by simp))
  have RW := hide R
  clear a e R TU PU us
  generalize gets xs 2 s [] = r at *
  obtain ⟨l, s', ok⟩ := r
  go_enter Tryz.func62, Tryz.ntmps62
  go_wp2_with fail
  refine (unhide MU).mono ?_
  rintro e u (⟨h1, ⟨eu, ee, rfl⟩, h3⟩ | ⟨h1, rfl, h3, h4, h5⟩)
  · have b1 := (unhide BU)
    have g3 := h3.to (B := w0.heap.size) (by have := (unhide RW).b.size; have := b1.size; omega) p0 (by have := (unhide RW).b.size; omega)
    exact ⟨rfl, .inl ⟨h1, ⟨eu, ee, rfl⟩, (unhide RU).b.trans g3⟩⟩
  simp only at h1
  subst h1
  have ll := (unhide GL) rfl
  obtain ⟨r0, r1, rfl⟩ := list2 (show l.length = 2 from by simpa using ll)
  have GW := hide (show W.grownBy u (some p) from Gr2.grown (((Gr2.refl W p (W.heap.size + 1)).step (unhide BU)).trans h3) (by omega))
  have RV := hide ((unhide RW).moved (unhide GW) p0 p1 pd pq h4)
  have TV := hide (show Tg u w0.heap.size 43 2 (W.heap.size + 1) [.int .i64 r0, .int .i64 r1] from h5)
  have FA := hide ((unhide GA) rfl)
  have KV := hide (Kp.grown (unhide GW) (fun j hj => by injection hj with hj; subst hj; exact (unhide RW).typP))
  clear ll h3 h4 h5 GL GA MU RU BU GW
  have dl := (unhide TV).lt
  go_wp2_with fail
  have RX := RV
  have KX := KV
  have TX := TV
  clear RV KV TV
  have dl := (unhide TX).lt
  have rl := (unhide RX).ltB
  have rn := (unhide RX).n
  have dD := (unhide RX).bx.lt.2
  have ro := (unhide RX).o.oa
  have e0 : u.cell? ⟨W.heap.size + 1, 0, none⟩ = some (.int .i64 r0) := (unhide TX).at rfl
  have e1 : u.cell? ⟨W.heap.size + 1, 1, none⟩ = some (.int .i64 r1) := (unhide TX).at rfl
  have eB := (unhide RX).cellB
  have bc := (unhide RX).bx.c0
  have NW : some (W.heap.size + 1) ≠ (.slice x.aa x.b.ac.length x.ca : Value).ownBlock := fun e => by
    have := (World.ownsRow.lt (unhide RW).o.oa _ e.symm).2
    omega
  have K0 : u.cell? ⟨B, 0, none⟩ = some (.pointer (some ⟨D, 0, none⟩)) ∧ u.cell? ⟨W.heap.size + 1, 0, none⟩ = some (.int .i64 r0) ∧ u.cell? ⟨W.heap.size + 1, 1, none⟩ = some (.int .i64 r1) := ⟨eB, e0, e1⟩
  have KB : (u.drew.alloc (.cells #[.int .i64 r0, .int .i64 r1] 43)).cell? ⟨B, 0, none⟩ = some (.pointer (some ⟨D, 0, none⟩)) ∧ (u.drew.alloc (.cells #[.int .i64 r0, .int .i64 r1] 43)).cell? ⟨W.heap.size + 1, 0, none⟩ = some (.int .i64 r0) ∧ (u.drew.alloc (.cells #[.int .i64 r0, .int .i64 r1] 43)).cell? ⟨W.heap.size + 1, 1, none⟩ = some (.int .i64 r1) := ⟨((one_more u.drew (.cells #[.int .i64 r0, .int .i64 r1] 43)).cell (p := ⟨B, 0, none⟩) rl).trans eB, ((one_more u.drew (.cells #[.int .i64 r0, .int .i64 r1] 43)).cell (p := ⟨W.heap.size + 1, 0, none⟩) dl.2).trans e0, ((one_more u.drew (.cells #[.int .i64 r0, .int .i64 r1] 43)).cell (p := ⟨W.heap.size + 1, 1, none⟩) dl.2).trans e1⟩
  have bcD : u.drew.cell? ⟨D, 0, none⟩ = some (.slice x.aa x.b.ac.length x.ca) := bc
  have bcA : (u.alloc (.cells #[.int .i64 r0, .int .i64 r1] 43)).cell? ⟨D, 0, none⟩ = some (.slice x.aa x.b.ac.length x.ca) := ((one_more u.drew (.cells #[.int .i64 r0, .int .i64 r1] 43)).cell (p := ⟨D, 0, none⟩) dD).trans bc
  refine wp_region_held_drew (S := (fun w' => w'.cell? ⟨B, 0, none⟩ = some (.pointer (some ⟨D, 0, none⟩)) ∧ w'.cell? ⟨W.heap.size + 1, 0, none⟩ = some (.int .i64 r0) ∧ w'.cell? ⟨W.heap.size + 1, 1, none⟩ = some (.int .i64 r1))) (by kernel_rfl) K0 (fun hHeld => ?_)
  refine wpAnyH_take (i := 0) (oi := oC00) (v := .pointer (some ⟨D, 0, none⟩)) rfl (by kernel_rfl) (by kernel_rfl) (by kernel_rfl) (fun _ _ _ h => h) (Or.inl ⟨by rfl, fun w hSw => ?_⟩) hHeld ?_
  · (try dsimp only at hSw)
    unfold oC00
    go_simp
  try simp only [oC00, Act.put, List.setIfInBounds_toArray, List.set_cons_zero, List.set_cons_succ]
  refine wpAnyH_take (i := 1) (oi := oC01) (v := .pointer (some ⟨D, 0, none⟩)) rfl (by kernel_rfl) (by kernel_rfl) (by kernel_rfl) (fun _ _ _ h => h) (Or.inl ⟨by rfl, fun w hSw => ?_⟩) hHeld ?_
  · (try dsimp only at hSw)
    unfold oC01
    go_simp
  try simp only [oC01, Act.put, List.setIfInBounds_toArray, List.set_cons_zero, List.set_cons_succ]
  refine wpAnyH_take (i := 2) (oi := oC02) (v := .pointer (some ⟨D, 0, none⟩)) rfl (by kernel_rfl) (by kernel_rfl) (by kernel_rfl) (fun _ _ _ h => h) (Or.inl ⟨by rfl, fun w hSw => ?_⟩) hHeld ?_
  · (try dsimp only at hSw)
    unfold oC02
    go_simp
  try simp only [oC02, Act.put, List.setIfInBounds_toArray, List.set_cons_zero, List.set_cons_succ]
  refine wpAnyH_take (i := 3) (oi := oC03) (v := .pointer (some ⟨D, 0, none⟩)) rfl (by kernel_rfl) (by kernel_rfl) (by kernel_rfl) (fun _ _ _ h => h) (Or.inl ⟨by rfl, fun w hSw => ?_⟩) hHeld ?_
  · (try dsimp only at hSw)
    unfold oC03
    go_simp
  try simp only [oC03, Act.put, List.setIfInBounds_toArray, List.set_cons_zero, List.set_cons_succ]
  refine wpAnyH_take (i := 5) (oi := oC05) (v := .agg #[.int .i64 r0, .int .i64 r1]) rfl (by kernel_rfl) (by kernel_rfl) (by kernel_rfl) (fun _ _ _ h => h) (Or.inl ⟨by rfl, fun w hSw => ?_⟩) hHeld ?_
  · (try dsimp only at hSw)
    unfold oC05
    go_simp
  try simp only [oC05, Act.put, List.setIfInBounds_toArray, List.set_cons_zero, List.set_cons_succ]
  refine wpAnyH_ready (rs := [4, 6]) (by kernel_rfl) (by simp) ?_
  refine AllReadyH.cons (o := oC04) rfl (fun K hK => ?_) (AllReadyH.cons (o := oC06) rfl (fun K hK => ?_) AllReadyH.nil)
  · unfold oC04
    go_simp
    refine hK.out _ _ K0 (fun hHeld => ?_)
    clear hK K
    try simp only [oC04, Act.put, List.setIfInBounds_toArray, List.set_cons_zero, List.set_cons_succ]
    refine wpAnyH_ready (rs := [6]) (by kernel_rfl) (by simp) ?_
    refine AllReadyH.cons (o := oC06) rfl (fun K hK => ?_) AllReadyH.nil
    unfold oC06
    go_simp
    refine hK.out _ _ KB (fun hHeld => ?_)
    clear hK K
    try simp only [oC06, Act.put, List.setIfInBounds_toArray, List.set_cons_zero, List.set_cons_succ]
    refine wpAnyH_ready (rs := [7]) (by kernel_rfl) (by simp) ?_
    refine AllReadyH.cons (o := oC07) rfl (fun K hK => ?_) AllReadyH.nil
    refine step_app (u.drew.alloc (.cells #[.int .i64 r0, .int .i64 r1] 43)) (by rfl) _ _ 23 43 (by rfl) (.agg #[.int .i64 0, .int .i64 0]) 2 16 Tryz.underlying23 info_ac rfl (by decide) (by decide) N (.slice x.aa x.b.ac.length x.ca) x.b.ac.length (Pairs.flat x.b.ac) u.drew.heap.size [.int .i64 r0, .int .i64 r1] (by rfl) (by rfl) (row_step (W := u.drew) ro (one_more u.drew (.cells #[.int .i64 r0, .int .i64 r1] 43))) rfl (litm u.drew _ _ _ (by rfl)) (by simp [Value.oneCell']) (by omega) (Nat.le_trans (show N ≤ u.drew.heap.size from rn) (by simp)) ?_
    intro g9 c9 u9 o9 gr9
    have BL : ∀ j, (.slice x.aa x.b.ac.length x.ca : Value).ownBlock = some j → N ≤ j := fun j hj => (World.ownsRow.lt ro j hj).1
    have BM : ∀ j, (.slice x.aa x.b.ac.length x.ca : Value).ownBlock = some j → j < u.heap.size := fun j hj => (World.ownsRow.lt ro j hj).2
    have NE := NW
    have RA := hide ((show Rs w0 u.drew p D B N s' x from rs_drew (unhide RX)).step (one_more u.drew (.cells #[.int .i64 r0, .int .i64 r1] 43)))
    have R9 := hide (show Pl u9 w0.heap.size p s' ∧ Box u9 w0.heap.size D (.slice x.aa x.b.ac.length x.ca) (.slice x.ai x.b.ic.length x.ci) (.slice x.ab x.b.bs.length x.cb) (.slice x.al x.b.ls.length x.cl) (.slice x.ats x.b.ts.length x.ct) (.int .i64 x.b.lot) from ⟨Ints.Own.kept (unhide RA).pl gr9 (fun e => by have := BL _ e.symm; omega), (unhide RA).bx.kept gr9 (fun e => by have := BL _ e.symm; omega)⟩)
    have O9 := hide o9
    have OO := hide (show u9.ownsRow N 44 2 (.slice x.ai x.b.ic.length x.ci) x.b.ic.length (Pairs.flat x.b.ic) ∧ u9.ownsRow N 46 3 (.slice x.ab x.b.bs.length x.cb) x.b.bs.length (Triples.flat3 x.b.bs) ∧ u9.ownsRow N 48 5 (.slice x.al x.b.ls.length x.cl) x.b.ls.length (Tup5.flat5 x.b.ls) ∧ u9.ownsRow N 50 8 (.slice x.ats x.b.ts.length x.ct) x.b.ts.length (Tup8.flat8 x.b.ts) from ⟨World.ownsRow.kept (unhide RA).o.oi gr9 (row_ne (unhide RA).o.oi (unhide RA).o.oa (by decide)), World.ownsRow.kept (unhide RA).o.ob gr9 (row_ne (unhide RA).o.ob (unhide RA).o.oa (by decide)), World.ownsRow.kept (unhide RA).o.ol gr9 (row_ne (unhide RA).o.ol (unhide RA).o.oa (by decide)), World.ownsRow.kept (unhide RA).o.ot gr9 (row_ne (unhide RA).o.ot (unhide RA).o.oa (by decide))⟩)
    have RR := hide (show u9.heap[B]? = some (.cells #[.pointer (some ⟨D, 0, none⟩)] 78 (0, 0)) ∧ Below w0.heap.size w0 u9 ∧ N ≤ u9.heap.size from ⟨(gr9.block B (by have := (unhide RA).ltB; exact this) (fun e => by have := BL _ e.symm; omega)).trans (unhide RA).q, (unhide RA).b.grown gr9 (unhide RA).b.size (fun j hj => by have := BL _ hj; omega), Nat.le_trans (unhide RA).n gr9.size⟩)
    have KA := hide (show Kp W u9 from ((unhide KX).trans (Kp.drew (Kp.below (one_more u.drew (.cells #[.int .i64 r0, .int .i64 r1] 43))))).trans (Kp.grown gr9 (fun j hj => by obtain ⟨c, hc⟩ := row_typ (unhide RA).o.oa j hj; exact ⟨_, hc, rfl⟩)))
    have fr9 : u9.frozen? ⟨D, 0, none⟩ = false := (unhide R9).2.free 0
    have bc9 := (unhide R9).2.c0
    have SB := hide ((unhide R9).2.set0 (.slice (some ⟨g9, 0, none⟩) (x.b.ac.length + 1) c9))
    have KC : u9.cell? ⟨B, 0, none⟩ = some (.pointer (some ⟨D, 0, none⟩)) ∧ u9.cell? ⟨W.heap.size + 1, 0, none⟩ = some (.int .i64 r0) ∧ u9.cell? ⟨W.heap.size + 1, 1, none⟩ = some (.int .i64 r1) := ⟨gr9.cell KB.1 (fun e => by have := BL _ e.symm; simp only at this; omega), gr9.cell KB.2.1 (fun e => by exact NE e), gr9.cell KB.2.2 (fun e => by exact NE e)⟩
    have KD : (u9.setCell ⟨D, 0, none⟩ (.slice (some ⟨g9, 0, none⟩) (x.b.ac.length + 1) c9)).cell? ⟨B, 0, none⟩ = some (.pointer (some ⟨D, 0, none⟩)) ∧ (u9.setCell ⟨D, 0, none⟩ (.slice (some ⟨g9, 0, none⟩) (x.b.ac.length + 1) c9)).cell? ⟨W.heap.size + 1, 0, none⟩ = some (.int .i64 r0) ∧ (u9.setCell ⟨D, 0, none⟩ (.slice (some ⟨g9, 0, none⟩) (x.b.ac.length + 1) c9)).cell? ⟨W.heap.size + 1, 1, none⟩ = some (.int .i64 r1) := ⟨(cell_grown (unhide SB).2 0 (g := B) (by have := (unhide RA).ltB; have := gr9.size; omega) (fun e => dq e.symm)).trans KC.1, (cell_grown (unhide SB).2 0 (g := W.heap.size + 1) (by have := gr9.size; simp at this; omega) (by omega)).trans KC.2.1, (cell_grown (unhide SB).2 1 (g := W.heap.size + 1) (by have := gr9.size; simp at this; omega) (by omega)).trans KC.2.2⟩
    clear o9
    refine hK.out _ _ KC (fun hHeld => ?_)
    clear hK K
    try simp only [oC07, Act.put, List.setIfInBounds_toArray, List.set_cons_zero, List.set_cons_succ]
    refine wpAnyH_take (i := 8) (oi := oC08) (v := .pointer (some ⟨D, 0, none⟩)) rfl (by kernel_rfl) (by kernel_rfl) (by kernel_rfl) (fun _ _ _ h => h) (Or.inl ⟨by rfl, fun w hSw => ?_⟩) hHeld ?_
    · (try dsimp only at hSw)
      unfold oC08
      go_simp
    try simp only [oC08, Act.put, List.setIfInBounds_toArray, List.set_cons_zero, List.set_cons_succ]
    refine wpAnyH_take (i := 9) (oi := oC09) (v := .pointer (some ⟨D, 0, none⟩)) rfl (by kernel_rfl) (by kernel_rfl) (by kernel_rfl) (fun _ _ _ h => h) (Or.inl ⟨by rfl, fun w hSw => ?_⟩) hHeld ?_
    · (try dsimp only at hSw)
      unfold oC09
      go_simp
    try simp only [oC09, Act.put, List.setIfInBounds_toArray, List.set_cons_zero, List.set_cons_succ]
    refine wpAnyH_ready (rs := [10]) (by kernel_rfl) (by simp) ?_
    refine AllReadyH.cons (o := oC010) rfl (fun K hK => ?_) AllReadyH.nil
    unfold oC010
    go_simp
    refine hK.out _ _ KD (fun hHeld => ?_)
    clear hK K
    try simp only [oC010, Act.put, List.setIfInBounds_toArray, List.set_cons_zero, List.set_cons_succ]
    refine wpAnyH_done (by kernel_rfl) ?_ _
    clear K0 KB KC KD bc bcD bcA bc9 fr9 eB e0 e1
    go_wp2
    go_end0
    obtain ⟨sb, sg⟩ := unhide SB
    obtain ⟨h1, h2, h3, h4⟩ := unhide OO
    obtain ⟨q9, b9, n9⟩ := unhide RR
    have ln : (x.b.ac ++ [r2 [r0, r1]]).length = x.b.ac.length + 1 := by simp
    refine .inr ⟨rfl, rfl, (unhide KA).trans (Kp.grown sg (fun j hj => by injection hj with hj; subst hj; obtain ⟨c, hc⟩ := row_typ (unhide R9).2 _ rfl; exact ⟨_, hc, rfl⟩)), (⟨some ⟨g9, 0, none⟩, c9, x.ai, x.ci, x.ab, x.cb, x.al, x.cl, x.ats, x.ct, ⟨x.b.ac ++ [r2 [r0, r1]], x.b.ic, x.b.bs, x.b.ls, x.b.ts, x.b.lot⟩⟩ : Ix), rfl, ⟨Ints.Own.kept (unhide R9).1 sg (by simpa using pd), ?_, ⟨?_, row_kept h1 sg d1, row_kept h2 sg d1, row_kept h3 sg d1, row_kept h4 sg d1⟩, (sg.block B (by have := Array.getElem?_eq_some_iff.1 q9; exact this.1) (fun e => dq (by injection e with e; exact e.symm))).trans q9, b9.grown sg b9.size (fun j hj => by injection hj with hj; omega), Nat.le_trans n9 sg.size⟩⟩
    · show Box _ _ _ (.slice (some ⟨g9, 0, none⟩) (x.b.ac ++ [r2 [r0, r1]]).length c9) (.slice x.ai x.b.ic.length x.ci) (.slice x.ab x.b.bs.length x.cb) (.slice x.al x.b.ls.length x.cl) (.slice x.ats x.b.ts.length x.ct) (.int .i64 x.b.lot)
      rw [ln]
      exact sb
    · show World.ownsRow _ _ _ _ _ _ _
      have o := row_kept (unhide O9) sg d1
      simp only [ln]
      rw [show Pairs.flat (x.b.ac ++ [r2 [r0, r1]]) = Pairs.flat x.b.ac ++ [.int .i64 r0, .int .i64 r1] from flat_p _ _ _]
      exact o
  · unfold oC06
    go_simp
    refine hK.out _ _ KB (fun hHeld => ?_)
    clear hK K
    try simp only [oC06, Act.put, List.setIfInBounds_toArray, List.set_cons_zero, List.set_cons_succ]
    refine wpAnyH_ready (rs := [4]) (by kernel_rfl) (by simp) ?_
    refine AllReadyH.cons (o := oC04) rfl (fun K hK => ?_) AllReadyH.nil
    unfold oC04
    go_simp
    refine hK.out _ _ KB (fun hHeld => ?_)
    clear hK K
    try simp only [oC04, Act.put, List.setIfInBounds_toArray, List.set_cons_zero, List.set_cons_succ]
    refine wpAnyH_ready (rs := [7]) (by kernel_rfl) (by simp) ?_
    refine AllReadyH.cons (o := oC07) rfl (fun K hK => ?_) AllReadyH.nil
    refine step_app (u.drew.alloc (.cells #[.int .i64 r0, .int .i64 r1] 43)) (by rfl) _ _ 23 43 (by rfl) (.agg #[.int .i64 0, .int .i64 0]) 2 16 Tryz.underlying23 info_ac rfl (by decide) (by decide) N (.slice x.aa x.b.ac.length x.ca) x.b.ac.length (Pairs.flat x.b.ac) u.drew.heap.size [.int .i64 r0, .int .i64 r1] (by rfl) (by rfl) (row_step (W := u.drew) ro (one_more u.drew (.cells #[.int .i64 r0, .int .i64 r1] 43))) rfl (litm u.drew _ _ _ (by rfl)) (by simp [Value.oneCell']) (by omega) (Nat.le_trans (show N ≤ u.drew.heap.size from rn) (by simp)) ?_
    intro g9 c9 u9 o9 gr9
    have BL : ∀ j, (.slice x.aa x.b.ac.length x.ca : Value).ownBlock = some j → N ≤ j := fun j hj => (World.ownsRow.lt ro j hj).1
    have BM : ∀ j, (.slice x.aa x.b.ac.length x.ca : Value).ownBlock = some j → j < u.heap.size := fun j hj => (World.ownsRow.lt ro j hj).2
    have NE := NW
    have RA := hide ((show Rs w0 u.drew p D B N s' x from rs_drew (unhide RX)).step (one_more u.drew (.cells #[.int .i64 r0, .int .i64 r1] 43)))
    have R9 := hide (show Pl u9 w0.heap.size p s' ∧ Box u9 w0.heap.size D (.slice x.aa x.b.ac.length x.ca) (.slice x.ai x.b.ic.length x.ci) (.slice x.ab x.b.bs.length x.cb) (.slice x.al x.b.ls.length x.cl) (.slice x.ats x.b.ts.length x.ct) (.int .i64 x.b.lot) from ⟨Ints.Own.kept (unhide RA).pl gr9 (fun e => by have := BL _ e.symm; omega), (unhide RA).bx.kept gr9 (fun e => by have := BL _ e.symm; omega)⟩)
    have O9 := hide o9
    have OO := hide (show u9.ownsRow N 44 2 (.slice x.ai x.b.ic.length x.ci) x.b.ic.length (Pairs.flat x.b.ic) ∧ u9.ownsRow N 46 3 (.slice x.ab x.b.bs.length x.cb) x.b.bs.length (Triples.flat3 x.b.bs) ∧ u9.ownsRow N 48 5 (.slice x.al x.b.ls.length x.cl) x.b.ls.length (Tup5.flat5 x.b.ls) ∧ u9.ownsRow N 50 8 (.slice x.ats x.b.ts.length x.ct) x.b.ts.length (Tup8.flat8 x.b.ts) from ⟨World.ownsRow.kept (unhide RA).o.oi gr9 (row_ne (unhide RA).o.oi (unhide RA).o.oa (by decide)), World.ownsRow.kept (unhide RA).o.ob gr9 (row_ne (unhide RA).o.ob (unhide RA).o.oa (by decide)), World.ownsRow.kept (unhide RA).o.ol gr9 (row_ne (unhide RA).o.ol (unhide RA).o.oa (by decide)), World.ownsRow.kept (unhide RA).o.ot gr9 (row_ne (unhide RA).o.ot (unhide RA).o.oa (by decide))⟩)
    have RR := hide (show u9.heap[B]? = some (.cells #[.pointer (some ⟨D, 0, none⟩)] 78 (0, 0)) ∧ Below w0.heap.size w0 u9 ∧ N ≤ u9.heap.size from ⟨(gr9.block B (by have := (unhide RA).ltB; exact this) (fun e => by have := BL _ e.symm; omega)).trans (unhide RA).q, (unhide RA).b.grown gr9 (unhide RA).b.size (fun j hj => by have := BL _ hj; omega), Nat.le_trans (unhide RA).n gr9.size⟩)
    have KA := hide (show Kp W u9 from ((unhide KX).trans (Kp.drew (Kp.below (one_more u.drew (.cells #[.int .i64 r0, .int .i64 r1] 43))))).trans (Kp.grown gr9 (fun j hj => by obtain ⟨c, hc⟩ := row_typ (unhide RA).o.oa j hj; exact ⟨_, hc, rfl⟩)))
    have fr9 : u9.frozen? ⟨D, 0, none⟩ = false := (unhide R9).2.free 0
    have bc9 := (unhide R9).2.c0
    have SB := hide ((unhide R9).2.set0 (.slice (some ⟨g9, 0, none⟩) (x.b.ac.length + 1) c9))
    have KC : u9.cell? ⟨B, 0, none⟩ = some (.pointer (some ⟨D, 0, none⟩)) ∧ u9.cell? ⟨W.heap.size + 1, 0, none⟩ = some (.int .i64 r0) ∧ u9.cell? ⟨W.heap.size + 1, 1, none⟩ = some (.int .i64 r1) := ⟨gr9.cell KB.1 (fun e => by have := BL _ e.symm; simp only at this; omega), gr9.cell KB.2.1 (fun e => by exact NE e), gr9.cell KB.2.2 (fun e => by exact NE e)⟩
    have KD : (u9.setCell ⟨D, 0, none⟩ (.slice (some ⟨g9, 0, none⟩) (x.b.ac.length + 1) c9)).cell? ⟨B, 0, none⟩ = some (.pointer (some ⟨D, 0, none⟩)) ∧ (u9.setCell ⟨D, 0, none⟩ (.slice (some ⟨g9, 0, none⟩) (x.b.ac.length + 1) c9)).cell? ⟨W.heap.size + 1, 0, none⟩ = some (.int .i64 r0) ∧ (u9.setCell ⟨D, 0, none⟩ (.slice (some ⟨g9, 0, none⟩) (x.b.ac.length + 1) c9)).cell? ⟨W.heap.size + 1, 1, none⟩ = some (.int .i64 r1) := ⟨(cell_grown (unhide SB).2 0 (g := B) (by have := (unhide RA).ltB; have := gr9.size; omega) (fun e => dq e.symm)).trans KC.1, (cell_grown (unhide SB).2 0 (g := W.heap.size + 1) (by have := gr9.size; simp at this; omega) (by omega)).trans KC.2.1, (cell_grown (unhide SB).2 1 (g := W.heap.size + 1) (by have := gr9.size; simp at this; omega) (by omega)).trans KC.2.2⟩
    clear o9
    refine hK.out _ _ KC (fun hHeld => ?_)
    clear hK K
    try simp only [oC07, Act.put, List.setIfInBounds_toArray, List.set_cons_zero, List.set_cons_succ]
    refine wpAnyH_take (i := 8) (oi := oC08) (v := .pointer (some ⟨D, 0, none⟩)) rfl (by kernel_rfl) (by kernel_rfl) (by kernel_rfl) (fun _ _ _ h => h) (Or.inl ⟨by rfl, fun w hSw => ?_⟩) hHeld ?_
    · (try dsimp only at hSw)
      unfold oC08
      go_simp
    try simp only [oC08, Act.put, List.setIfInBounds_toArray, List.set_cons_zero, List.set_cons_succ]
    refine wpAnyH_take (i := 9) (oi := oC09) (v := .pointer (some ⟨D, 0, none⟩)) rfl (by kernel_rfl) (by kernel_rfl) (by kernel_rfl) (fun _ _ _ h => h) (Or.inl ⟨by rfl, fun w hSw => ?_⟩) hHeld ?_
    · (try dsimp only at hSw)
      unfold oC09
      go_simp
    try simp only [oC09, Act.put, List.setIfInBounds_toArray, List.set_cons_zero, List.set_cons_succ]
    refine wpAnyH_ready (rs := [10]) (by kernel_rfl) (by simp) ?_
    refine AllReadyH.cons (o := oC010) rfl (fun K hK => ?_) AllReadyH.nil
    unfold oC010
    go_simp
    refine hK.out _ _ KD (fun hHeld => ?_)
    clear hK K
    try simp only [oC010, Act.put, List.setIfInBounds_toArray, List.set_cons_zero, List.set_cons_succ]
    refine wpAnyH_done (by kernel_rfl) ?_ _
    clear K0 KB KC KD bc bcD bcA bc9 fr9 eB e0 e1
    go_wp2
    go_end0
    obtain ⟨sb, sg⟩ := unhide SB
    obtain ⟨h1, h2, h3, h4⟩ := unhide OO
    obtain ⟨q9, b9, n9⟩ := unhide RR
    have ln : (x.b.ac ++ [r2 [r0, r1]]).length = x.b.ac.length + 1 := by simp
    refine .inr ⟨rfl, rfl, (unhide KA).trans (Kp.grown sg (fun j hj => by injection hj with hj; subst hj; obtain ⟨c, hc⟩ := row_typ (unhide R9).2 _ rfl; exact ⟨_, hc, rfl⟩)), (⟨some ⟨g9, 0, none⟩, c9, x.ai, x.ci, x.ab, x.cb, x.al, x.cl, x.ats, x.ct, ⟨x.b.ac ++ [r2 [r0, r1]], x.b.ic, x.b.bs, x.b.ls, x.b.ts, x.b.lot⟩⟩ : Ix), rfl, ⟨Ints.Own.kept (unhide R9).1 sg (by simpa using pd), ?_, ⟨?_, row_kept h1 sg d1, row_kept h2 sg d1, row_kept h3 sg d1, row_kept h4 sg d1⟩, (sg.block B (by have := Array.getElem?_eq_some_iff.1 q9; exact this.1) (fun e => dq (by injection e with e; exact e.symm))).trans q9, b9.grown sg b9.size (fun j hj => by injection hj with hj; omega), Nat.le_trans n9 sg.size⟩⟩
    · show Box _ _ _ (.slice (some ⟨g9, 0, none⟩) (x.b.ac ++ [r2 [r0, r1]]).length c9) (.slice x.ai x.b.ic.length x.ci) (.slice x.ab x.b.bs.length x.cb) (.slice x.al x.b.ls.length x.cl) (.slice x.ats x.b.ts.length x.ct) (.int .i64 x.b.lot)
      rw [ln]
      exact sb
    · show World.ownsRow _ _ _ _ _ _ _
      have o := row_kept (unhide O9) sg d1
      simp only [ln]
      rw [show Pairs.flat (x.b.ac ++ [r2 [r0, r1]]) = Pairs.flat x.b.ac ++ [.int .i64 r0, .int .i64 r1] from flat_p _ _ _]
      exact o
set_option maxRecDepth 100000 in
set_option maxHeartbeats 4000000 in
theorem cl1 (w0 W : World) (gl cl p D B N : Nat) (xs : List Int) (et : TypeId) (ev : Value) (s : Int) (x : Ix) (G : Pg w0 gl cl p D B N xs et ev) (R : Rs w0 W p D B N s x) (hs : s ≤ 9223372036854775807) (hl : x.b.ic.length ≤ 1000) :
    Calls Tryz.prog 63 #[.agg #[.slice (some ⟨gl, 0, none⟩) xs.length cl, .pointer (some ⟨p, 0, none⟩)], .pointer (some ⟨B, 0, none⟩)] W (ClS 1 (gets xs 2 s []) w0 W p D B N x) := by
  obtain ⟨l0, l1, g, a, e, z, p0, p1, d0, d1, q0, q1, pd, pq, dq⟩ := G
  have nn := R.n
  have BU := hide (show Below W.heap.size W (((W.alloc (.cells #[.slice (some ⟨gl, 0, none⟩) xs.length cl, .pointer (some ⟨p, 0, none⟩)] 75)).alloc (.cells #[.int .i64 0, .int .i64 0] 44)).alloc (.cells #[.pointer (some ⟨W.heap.size + 1, 0, none⟩), .pointer (some ⟨W.heap.size + 1, 1, none⟩)] 73)) from (((Below.refl _ _).alloc (Nat.le_refl _) _).alloc (by simp) _).alloc (by simp; omega) _)
  have RU := hide (R.step (unhide BU))
  have TU := hide (show Tg (((W.alloc (.cells #[.slice (some ⟨gl, 0, none⟩) xs.length cl, .pointer (some ⟨p, 0, none⟩)] 75)).alloc (.cells #[.int .i64 0, .int .i64 0] 44)).alloc (.cells #[.pointer (some ⟨W.heap.size + 1, 0, none⟩), .pointer (some ⟨W.heap.size + 1, 1, none⟩)] 73)) w0.heap.size 44 2 (W.heap.size + 1) [.int .i64 0, .int .i64 0] from by
    have := World.ownsRow.alloc (World.ownsRow_lit (base := w0.heap.size) (size := 2) (e := 44) (W.alloc (.cells #[.slice (some ⟨gl, 0, none⟩) xs.length cl, .pointer (some ⟨p, 0, none⟩)] 75)) #[.int .i64 0, .int .i64 0] 1 (by have := R.b.size; simp; omega) (by decide) rfl) (.cells #[.pointer (some ⟨W.heap.size + 1, 0, none⟩), .pointer (some ⟨W.heap.size + 1, 1, none⟩)] 73)
    simpa [Tg] using this)
  have PU := hide (show Ptr (((W.alloc (.cells #[.slice (some ⟨gl, 0, none⟩) xs.length cl, .pointer (some ⟨p, 0, none⟩)] 75)).alloc (.cells #[.int .i64 0, .int .i64 0] 44)).alloc (.cells #[.pointer (some ⟨W.heap.size + 1, 0, none⟩), .pointer (some ⟨W.heap.size + 1, 1, none⟩)] 73)) (W.heap.size + 2) (W.heap.size + 1) 2 from fun i hi => by
    have : i = 0 ∨ i = 1 := by omega
    have q := litm ((W.alloc (.cells #[.slice (some ⟨gl, 0, none⟩) xs.length cl, .pointer (some ⟨p, 0, none⟩)] 75)).alloc (.cells #[.int .i64 0, .int .i64 0] 44)) [.pointer (some ⟨W.heap.size + 1, 0, none⟩), .pointer (some ⟨W.heap.size + 1, 1, none⟩)] 73 #[.pointer (some ⟨W.heap.size + 1, 0, none⟩), .pointer (some ⟨W.heap.size + 1, 1, none⟩)] rfl i
    rw [show ((W.alloc (.cells #[.slice (some ⟨gl, 0, none⟩) xs.length cl, .pointer (some ⟨p, 0, none⟩)] 75)).alloc (.cells #[.int .i64 0, .int .i64 0] 44)).heap.size = W.heap.size + 2 by simp] at q
    rcases this with rfl | rfl <;> exact q _ rfl)
  have us : ((((W.alloc (.cells #[.slice (some ⟨gl, 0, none⟩) xs.length cl, .pointer (some ⟨p, 0, none⟩)] 75)).alloc (.cells #[.int .i64 0, .int .i64 0] 44)).alloc (.cells #[.pointer (some ⟨W.heap.size + 1, 0, none⟩), .pointer (some ⟨W.heap.size + 1, 1, none⟩)] 73))).heap.size = W.heap.size + 3 := by simp
  have MU := hide (iMust (((W.alloc (.cells #[.slice (some ⟨gl, 0, none⟩) xs.length cl, .pointer (some ⟨p, 0, none⟩)] 75)).alloc (.cells #[.int .i64 0, .int .i64 0] 44)).alloc (.cells #[.pointer (some ⟨W.heap.size + 1, 0, none⟩), .pointer (some ⟨W.heap.size + 1, 1, none⟩)] 73)) gl cl p w0.heap.size 44 2 (W.heap.size + 1) (W.heap.size + 2) 2 2 xs s [.int .i64 0, .int .i64 0] ev et hs l0 l1 g (a.below (unhide RU).b g) (unhide RU).pl (unhide TU) (fun i hi => by
    have : i = 0 ∨ i = 1 := by omega
    rcases this with rfl | rfl <;> exact ⟨0, rfl⟩) (unhide PU) (by omega) (by omega) (by omega) (by omega) (by omega) (((unhide RU).b.cell (p := ⟨0, 0, none⟩) z).trans e) z)
  have GL := hide (gets_len xs 2 s [])
  have GA := hide (gets_all xs 2 s [] (by simp))
  have RW := hide R
  clear a e R TU PU us
  generalize gets xs 2 s [] = r at *
  obtain ⟨l, s', ok⟩ := r
  go_enter Tryz.func63, Tryz.ntmps63
  go_wp2_with fail
  refine (unhide MU).mono ?_
  rintro e u (⟨h1, ⟨eu, ee, rfl⟩, h3⟩ | ⟨h1, rfl, h3, h4, h5⟩)
  · have b1 := (unhide BU)
    have g3 := h3.to (B := w0.heap.size) (by have := (unhide RW).b.size; have := b1.size; omega) p0 (by have := (unhide RW).b.size; omega)
    exact ⟨rfl, .inl ⟨h1, ⟨eu, ee, rfl⟩, (unhide RU).b.trans g3⟩⟩
  simp only at h1
  subst h1
  have ll := (unhide GL) rfl
  obtain ⟨r0, r1, rfl⟩ := list2 (show l.length = 2 from by simpa using ll)
  have GW := hide (show W.grownBy u (some p) from Gr2.grown (((Gr2.refl W p (W.heap.size + 1)).step (unhide BU)).trans h3) (by omega))
  have RV := hide ((unhide RW).moved (unhide GW) p0 p1 pd pq h4)
  have TV := hide (show Tg u w0.heap.size 44 2 (W.heap.size + 1) [.int .i64 r0, .int .i64 r1] from h5)
  have FA := hide ((unhide GA) rfl)
  have KV := hide (Kp.grown (unhide GW) (fun j hj => by injection hj with hj; subst hj; exact (unhide RW).typP))
  clear ll h3 h4 h5 GL GA MU RU BU GW
  have dl := (unhide TV).lt
  go_wp2_with fail
  have RX := RV
  have KX := KV
  have TX := TV
  clear RV KV TV
  have dl := (unhide TX).lt
  have rl := (unhide RX).ltB
  have rn := (unhide RX).n
  have dD := (unhide RX).bx.lt.2
  have ro := (unhide RX).o.oi
  have e0 : u.cell? ⟨W.heap.size + 1, 0, none⟩ = some (.int .i64 r0) := (unhide TX).at rfl
  have e1 : u.cell? ⟨W.heap.size + 1, 1, none⟩ = some (.int .i64 r1) := (unhide TX).at rfl
  have eB := (unhide RX).cellB
  have bc := (unhide RX).bx.c1
  have NW : some (W.heap.size + 1) ≠ (.slice x.ai x.b.ic.length x.ci : Value).ownBlock := fun e => by
    have := (World.ownsRow.lt (unhide RW).o.oi _ e.symm).2
    omega
  have K0 : u.cell? ⟨B, 0, none⟩ = some (.pointer (some ⟨D, 0, none⟩)) ∧ u.cell? ⟨W.heap.size + 1, 0, none⟩ = some (.int .i64 r0) ∧ u.cell? ⟨W.heap.size + 1, 1, none⟩ = some (.int .i64 r1) := ⟨eB, e0, e1⟩
  have KB : (u.drew.alloc (.cells #[.int .i64 r0, .int .i64 r1] 44)).cell? ⟨B, 0, none⟩ = some (.pointer (some ⟨D, 0, none⟩)) ∧ (u.drew.alloc (.cells #[.int .i64 r0, .int .i64 r1] 44)).cell? ⟨W.heap.size + 1, 0, none⟩ = some (.int .i64 r0) ∧ (u.drew.alloc (.cells #[.int .i64 r0, .int .i64 r1] 44)).cell? ⟨W.heap.size + 1, 1, none⟩ = some (.int .i64 r1) := ⟨((one_more u.drew (.cells #[.int .i64 r0, .int .i64 r1] 44)).cell (p := ⟨B, 0, none⟩) rl).trans eB, ((one_more u.drew (.cells #[.int .i64 r0, .int .i64 r1] 44)).cell (p := ⟨W.heap.size + 1, 0, none⟩) dl.2).trans e0, ((one_more u.drew (.cells #[.int .i64 r0, .int .i64 r1] 44)).cell (p := ⟨W.heap.size + 1, 1, none⟩) dl.2).trans e1⟩
  have bcD : u.drew.cell? ⟨D, 1, none⟩ = some (.slice x.ai x.b.ic.length x.ci) := bc
  have bcA : (u.alloc (.cells #[.int .i64 r0, .int .i64 r1] 44)).cell? ⟨D, 1, none⟩ = some (.slice x.ai x.b.ic.length x.ci) := ((one_more u.drew (.cells #[.int .i64 r0, .int .i64 r1] 44)).cell (p := ⟨D, 1, none⟩) dD).trans bc
  refine wp_region_held_drew (S := (fun w' => w'.cell? ⟨B, 0, none⟩ = some (.pointer (some ⟨D, 0, none⟩)) ∧ w'.cell? ⟨W.heap.size + 1, 0, none⟩ = some (.int .i64 r0) ∧ w'.cell? ⟨W.heap.size + 1, 1, none⟩ = some (.int .i64 r1))) (by kernel_rfl) K0 (fun hHeld => ?_)
  refine wpAnyH_take (i := 0) (oi := oC10) (v := .pointer (some ⟨D, 0, none⟩)) rfl (by kernel_rfl) (by kernel_rfl) (by kernel_rfl) (fun _ _ _ h => h) (Or.inl ⟨by rfl, fun w hSw => ?_⟩) hHeld ?_
  · (try dsimp only at hSw)
    unfold oC10
    go_simp
  try simp only [oC10, Act.put, List.setIfInBounds_toArray, List.set_cons_zero, List.set_cons_succ]
  refine wpAnyH_take (i := 1) (oi := oC11) (v := .pointer (some ⟨D, 0, none⟩)) rfl (by kernel_rfl) (by kernel_rfl) (by kernel_rfl) (fun _ _ _ h => h) (Or.inl ⟨by rfl, fun w hSw => ?_⟩) hHeld ?_
  · (try dsimp only at hSw)
    unfold oC11
    go_simp
  try simp only [oC11, Act.put, List.setIfInBounds_toArray, List.set_cons_zero, List.set_cons_succ]
  refine wpAnyH_take (i := 2) (oi := oC12) (v := .pointer (some ⟨D, 0, none⟩)) rfl (by kernel_rfl) (by kernel_rfl) (by kernel_rfl) (fun _ _ _ h => h) (Or.inl ⟨by rfl, fun w hSw => ?_⟩) hHeld ?_
  · (try dsimp only at hSw)
    unfold oC12
    go_simp
  try simp only [oC12, Act.put, List.setIfInBounds_toArray, List.set_cons_zero, List.set_cons_succ]
  refine wpAnyH_take (i := 3) (oi := oC13) (v := .pointer (some ⟨D, 1, none⟩)) rfl (by kernel_rfl) (by kernel_rfl) (by kernel_rfl) (fun _ _ _ h => h) (Or.inl ⟨by rfl, fun w hSw => ?_⟩) hHeld ?_
  · (try dsimp only at hSw)
    unfold oC13
    go_simp
  try simp only [oC13, Act.put, List.setIfInBounds_toArray, List.set_cons_zero, List.set_cons_succ]
  refine wpAnyH_take (i := 5) (oi := oC15) (v := .agg #[.int .i64 r0, .int .i64 r1]) rfl (by kernel_rfl) (by kernel_rfl) (by kernel_rfl) (fun _ _ _ h => h) (Or.inl ⟨by rfl, fun w hSw => ?_⟩) hHeld ?_
  · (try dsimp only at hSw)
    unfold oC15
    go_simp
  try simp only [oC15, Act.put, List.setIfInBounds_toArray, List.set_cons_zero, List.set_cons_succ]
  refine wpAnyH_ready (rs := [4, 6]) (by kernel_rfl) (by simp) ?_
  refine AllReadyH.cons (o := oC14) rfl (fun K hK => ?_) (AllReadyH.cons (o := oC16) rfl (fun K hK => ?_) AllReadyH.nil)
  · unfold oC14
    go_simp
    refine hK.out _ _ K0 (fun hHeld => ?_)
    clear hK K
    try simp only [oC14, Act.put, List.setIfInBounds_toArray, List.set_cons_zero, List.set_cons_succ]
    refine wpAnyH_ready (rs := [6]) (by kernel_rfl) (by simp) ?_
    refine AllReadyH.cons (o := oC16) rfl (fun K hK => ?_) AllReadyH.nil
    unfold oC16
    go_simp
    refine hK.out _ _ KB (fun hHeld => ?_)
    clear hK K
    try simp only [oC16, Act.put, List.setIfInBounds_toArray, List.set_cons_zero, List.set_cons_succ]
    refine wpAnyH_ready (rs := [7]) (by kernel_rfl) (by simp) ?_
    refine AllReadyH.cons (o := oC17) rfl (fun K hK => ?_) AllReadyH.nil
    refine step_app (u.drew.alloc (.cells #[.int .i64 r0, .int .i64 r1] 44)) (by rfl) _ _ 24 44 (by rfl) (.agg #[.int .i64 0, .int .i64 0]) 2 16 Tryz.underlying24 info_ic rfl (by decide) (by decide) N (.slice x.ai x.b.ic.length x.ci) x.b.ic.length (Pairs.flat x.b.ic) u.drew.heap.size [.int .i64 r0, .int .i64 r1] (by rfl) (by rfl) (row_step (W := u.drew) ro (one_more u.drew (.cells #[.int .i64 r0, .int .i64 r1] 44))) rfl (litm u.drew _ _ _ (by rfl)) (by simp [Value.oneCell']) (by omega) (Nat.le_trans (show N ≤ u.drew.heap.size from rn) (by simp)) ?_
    intro g9 c9 u9 o9 gr9
    have BL : ∀ j, (.slice x.ai x.b.ic.length x.ci : Value).ownBlock = some j → N ≤ j := fun j hj => (World.ownsRow.lt ro j hj).1
    have BM : ∀ j, (.slice x.ai x.b.ic.length x.ci : Value).ownBlock = some j → j < u.heap.size := fun j hj => (World.ownsRow.lt ro j hj).2
    have NE := NW
    have RA := hide ((show Rs w0 u.drew p D B N s' x from rs_drew (unhide RX)).step (one_more u.drew (.cells #[.int .i64 r0, .int .i64 r1] 44)))
    have R9 := hide (show Pl u9 w0.heap.size p s' ∧ Box u9 w0.heap.size D (.slice x.aa x.b.ac.length x.ca) (.slice x.ai x.b.ic.length x.ci) (.slice x.ab x.b.bs.length x.cb) (.slice x.al x.b.ls.length x.cl) (.slice x.ats x.b.ts.length x.ct) (.int .i64 x.b.lot) from ⟨Ints.Own.kept (unhide RA).pl gr9 (fun e => by have := BL _ e.symm; omega), (unhide RA).bx.kept gr9 (fun e => by have := BL _ e.symm; omega)⟩)
    have O9 := hide o9
    have OO := hide (show u9.ownsRow N 43 2 (.slice x.aa x.b.ac.length x.ca) x.b.ac.length (Pairs.flat x.b.ac) ∧ u9.ownsRow N 46 3 (.slice x.ab x.b.bs.length x.cb) x.b.bs.length (Triples.flat3 x.b.bs) ∧ u9.ownsRow N 48 5 (.slice x.al x.b.ls.length x.cl) x.b.ls.length (Tup5.flat5 x.b.ls) ∧ u9.ownsRow N 50 8 (.slice x.ats x.b.ts.length x.ct) x.b.ts.length (Tup8.flat8 x.b.ts) from ⟨World.ownsRow.kept (unhide RA).o.oa gr9 (row_ne (unhide RA).o.oa (unhide RA).o.oi (by decide)), World.ownsRow.kept (unhide RA).o.ob gr9 (row_ne (unhide RA).o.ob (unhide RA).o.oi (by decide)), World.ownsRow.kept (unhide RA).o.ol gr9 (row_ne (unhide RA).o.ol (unhide RA).o.oi (by decide)), World.ownsRow.kept (unhide RA).o.ot gr9 (row_ne (unhide RA).o.ot (unhide RA).o.oi (by decide))⟩)
    have RR := hide (show u9.heap[B]? = some (.cells #[.pointer (some ⟨D, 0, none⟩)] 78 (0, 0)) ∧ Below w0.heap.size w0 u9 ∧ N ≤ u9.heap.size from ⟨(gr9.block B (by have := (unhide RA).ltB; exact this) (fun e => by have := BL _ e.symm; omega)).trans (unhide RA).q, (unhide RA).b.grown gr9 (unhide RA).b.size (fun j hj => by have := BL _ hj; omega), Nat.le_trans (unhide RA).n gr9.size⟩)
    have KA := hide (show Kp W u9 from ((unhide KX).trans (Kp.drew (Kp.below (one_more u.drew (.cells #[.int .i64 r0, .int .i64 r1] 44))))).trans (Kp.grown gr9 (fun j hj => by obtain ⟨c, hc⟩ := row_typ (unhide RA).o.oi j hj; exact ⟨_, hc, rfl⟩)))
    have fr9 : u9.frozen? ⟨D, 1, none⟩ = false := (unhide R9).2.free 1
    have bc9 := (unhide R9).2.c1
    have SB := hide ((unhide R9).2.set1 (.slice (some ⟨g9, 0, none⟩) (x.b.ic.length + 1) c9))
    have KC : u9.cell? ⟨B, 0, none⟩ = some (.pointer (some ⟨D, 0, none⟩)) ∧ u9.cell? ⟨W.heap.size + 1, 0, none⟩ = some (.int .i64 r0) ∧ u9.cell? ⟨W.heap.size + 1, 1, none⟩ = some (.int .i64 r1) := ⟨gr9.cell KB.1 (fun e => by have := BL _ e.symm; simp only at this; omega), gr9.cell KB.2.1 (fun e => by exact NE e), gr9.cell KB.2.2 (fun e => by exact NE e)⟩
    have KD : (u9.setCell ⟨D, 1, none⟩ (.slice (some ⟨g9, 0, none⟩) (x.b.ic.length + 1) c9)).cell? ⟨B, 0, none⟩ = some (.pointer (some ⟨D, 0, none⟩)) ∧ (u9.setCell ⟨D, 1, none⟩ (.slice (some ⟨g9, 0, none⟩) (x.b.ic.length + 1) c9)).cell? ⟨W.heap.size + 1, 0, none⟩ = some (.int .i64 r0) ∧ (u9.setCell ⟨D, 1, none⟩ (.slice (some ⟨g9, 0, none⟩) (x.b.ic.length + 1) c9)).cell? ⟨W.heap.size + 1, 1, none⟩ = some (.int .i64 r1) := ⟨(cell_grown (unhide SB).2 0 (g := B) (by have := (unhide RA).ltB; have := gr9.size; omega) (fun e => dq e.symm)).trans KC.1, (cell_grown (unhide SB).2 0 (g := W.heap.size + 1) (by have := gr9.size; simp at this; omega) (by omega)).trans KC.2.1, (cell_grown (unhide SB).2 1 (g := W.heap.size + 1) (by have := gr9.size; simp at this; omega) (by omega)).trans KC.2.2⟩
    clear o9
    refine hK.out _ _ KC (fun hHeld => ?_)
    clear hK K
    try simp only [oC17, Act.put, List.setIfInBounds_toArray, List.set_cons_zero, List.set_cons_succ]
    refine wpAnyH_take (i := 8) (oi := oC18) (v := .pointer (some ⟨D, 0, none⟩)) rfl (by kernel_rfl) (by kernel_rfl) (by kernel_rfl) (fun _ _ _ h => h) (Or.inl ⟨by rfl, fun w hSw => ?_⟩) hHeld ?_
    · (try dsimp only at hSw)
      unfold oC18
      go_simp
    try simp only [oC18, Act.put, List.setIfInBounds_toArray, List.set_cons_zero, List.set_cons_succ]
    refine wpAnyH_take (i := 9) (oi := oC19) (v := .pointer (some ⟨D, 1, none⟩)) rfl (by kernel_rfl) (by kernel_rfl) (by kernel_rfl) (fun _ _ _ h => h) (Or.inl ⟨by rfl, fun w hSw => ?_⟩) hHeld ?_
    · (try dsimp only at hSw)
      unfold oC19
      go_simp
    try simp only [oC19, Act.put, List.setIfInBounds_toArray, List.set_cons_zero, List.set_cons_succ]
    refine wpAnyH_ready (rs := [10]) (by kernel_rfl) (by simp) ?_
    refine AllReadyH.cons (o := oC110) rfl (fun K hK => ?_) AllReadyH.nil
    unfold oC110
    go_simp
    refine hK.out _ _ KD (fun hHeld => ?_)
    clear hK K
    try simp only [oC110, Act.put, List.setIfInBounds_toArray, List.set_cons_zero, List.set_cons_succ]
    refine wpAnyH_done (by kernel_rfl) ?_ _
    clear K0 KB KC KD bc bcD bcA bc9 fr9 eB e0 e1
    go_wp2
    go_end0
    obtain ⟨sb, sg⟩ := unhide SB
    obtain ⟨h0, h2, h3, h4⟩ := unhide OO
    obtain ⟨q9, b9, n9⟩ := unhide RR
    have ln : (x.b.ic ++ [r2 [r0, r1]]).length = x.b.ic.length + 1 := by simp
    refine .inr ⟨rfl, rfl, (unhide KA).trans (Kp.grown sg (fun j hj => by injection hj with hj; subst hj; obtain ⟨c, hc⟩ := row_typ (unhide R9).2 _ rfl; exact ⟨_, hc, rfl⟩)), (⟨x.aa, x.ca, some ⟨g9, 0, none⟩, c9, x.ab, x.cb, x.al, x.cl, x.ats, x.ct, ⟨x.b.ac, x.b.ic ++ [r2 [r0, r1]], x.b.bs, x.b.ls, x.b.ts, x.b.lot⟩⟩ : Ix), rfl, ⟨Ints.Own.kept (unhide R9).1 sg (by simpa using pd), ?_, ⟨row_kept h0 sg d1, ?_, row_kept h2 sg d1, row_kept h3 sg d1, row_kept h4 sg d1⟩, (sg.block B (by have := Array.getElem?_eq_some_iff.1 q9; exact this.1) (fun e => dq (by injection e with e; exact e.symm))).trans q9, b9.grown sg b9.size (fun j hj => by injection hj with hj; omega), Nat.le_trans n9 sg.size⟩⟩
    · show Box _ _ _ (.slice x.aa x.b.ac.length x.ca) (.slice (some ⟨g9, 0, none⟩) (x.b.ic ++ [r2 [r0, r1]]).length c9) (.slice x.ab x.b.bs.length x.cb) (.slice x.al x.b.ls.length x.cl) (.slice x.ats x.b.ts.length x.ct) (.int .i64 x.b.lot)
      rw [ln]
      exact sb
    · show World.ownsRow _ _ _ _ _ _ _
      have o := row_kept (unhide O9) sg d1
      simp only [ln]
      rw [show Pairs.flat (x.b.ic ++ [r2 [r0, r1]]) = Pairs.flat x.b.ic ++ [.int .i64 r0, .int .i64 r1] from flat_p _ _ _]
      exact o
  · unfold oC16
    go_simp
    refine hK.out _ _ KB (fun hHeld => ?_)
    clear hK K
    try simp only [oC16, Act.put, List.setIfInBounds_toArray, List.set_cons_zero, List.set_cons_succ]
    refine wpAnyH_ready (rs := [4]) (by kernel_rfl) (by simp) ?_
    refine AllReadyH.cons (o := oC14) rfl (fun K hK => ?_) AllReadyH.nil
    unfold oC14
    go_simp
    refine hK.out _ _ KB (fun hHeld => ?_)
    clear hK K
    try simp only [oC14, Act.put, List.setIfInBounds_toArray, List.set_cons_zero, List.set_cons_succ]
    refine wpAnyH_ready (rs := [7]) (by kernel_rfl) (by simp) ?_
    refine AllReadyH.cons (o := oC17) rfl (fun K hK => ?_) AllReadyH.nil
    refine step_app (u.drew.alloc (.cells #[.int .i64 r0, .int .i64 r1] 44)) (by rfl) _ _ 24 44 (by rfl) (.agg #[.int .i64 0, .int .i64 0]) 2 16 Tryz.underlying24 info_ic rfl (by decide) (by decide) N (.slice x.ai x.b.ic.length x.ci) x.b.ic.length (Pairs.flat x.b.ic) u.drew.heap.size [.int .i64 r0, .int .i64 r1] (by rfl) (by rfl) (row_step (W := u.drew) ro (one_more u.drew (.cells #[.int .i64 r0, .int .i64 r1] 44))) rfl (litm u.drew _ _ _ (by rfl)) (by simp [Value.oneCell']) (by omega) (Nat.le_trans (show N ≤ u.drew.heap.size from rn) (by simp)) ?_
    intro g9 c9 u9 o9 gr9
    have BL : ∀ j, (.slice x.ai x.b.ic.length x.ci : Value).ownBlock = some j → N ≤ j := fun j hj => (World.ownsRow.lt ro j hj).1
    have BM : ∀ j, (.slice x.ai x.b.ic.length x.ci : Value).ownBlock = some j → j < u.heap.size := fun j hj => (World.ownsRow.lt ro j hj).2
    have NE := NW
    have RA := hide ((show Rs w0 u.drew p D B N s' x from rs_drew (unhide RX)).step (one_more u.drew (.cells #[.int .i64 r0, .int .i64 r1] 44)))
    have R9 := hide (show Pl u9 w0.heap.size p s' ∧ Box u9 w0.heap.size D (.slice x.aa x.b.ac.length x.ca) (.slice x.ai x.b.ic.length x.ci) (.slice x.ab x.b.bs.length x.cb) (.slice x.al x.b.ls.length x.cl) (.slice x.ats x.b.ts.length x.ct) (.int .i64 x.b.lot) from ⟨Ints.Own.kept (unhide RA).pl gr9 (fun e => by have := BL _ e.symm; omega), (unhide RA).bx.kept gr9 (fun e => by have := BL _ e.symm; omega)⟩)
    have O9 := hide o9
    have OO := hide (show u9.ownsRow N 43 2 (.slice x.aa x.b.ac.length x.ca) x.b.ac.length (Pairs.flat x.b.ac) ∧ u9.ownsRow N 46 3 (.slice x.ab x.b.bs.length x.cb) x.b.bs.length (Triples.flat3 x.b.bs) ∧ u9.ownsRow N 48 5 (.slice x.al x.b.ls.length x.cl) x.b.ls.length (Tup5.flat5 x.b.ls) ∧ u9.ownsRow N 50 8 (.slice x.ats x.b.ts.length x.ct) x.b.ts.length (Tup8.flat8 x.b.ts) from ⟨World.ownsRow.kept (unhide RA).o.oa gr9 (row_ne (unhide RA).o.oa (unhide RA).o.oi (by decide)), World.ownsRow.kept (unhide RA).o.ob gr9 (row_ne (unhide RA).o.ob (unhide RA).o.oi (by decide)), World.ownsRow.kept (unhide RA).o.ol gr9 (row_ne (unhide RA).o.ol (unhide RA).o.oi (by decide)), World.ownsRow.kept (unhide RA).o.ot gr9 (row_ne (unhide RA).o.ot (unhide RA).o.oi (by decide))⟩)
    have RR := hide (show u9.heap[B]? = some (.cells #[.pointer (some ⟨D, 0, none⟩)] 78 (0, 0)) ∧ Below w0.heap.size w0 u9 ∧ N ≤ u9.heap.size from ⟨(gr9.block B (by have := (unhide RA).ltB; exact this) (fun e => by have := BL _ e.symm; omega)).trans (unhide RA).q, (unhide RA).b.grown gr9 (unhide RA).b.size (fun j hj => by have := BL _ hj; omega), Nat.le_trans (unhide RA).n gr9.size⟩)
    have KA := hide (show Kp W u9 from ((unhide KX).trans (Kp.drew (Kp.below (one_more u.drew (.cells #[.int .i64 r0, .int .i64 r1] 44))))).trans (Kp.grown gr9 (fun j hj => by obtain ⟨c, hc⟩ := row_typ (unhide RA).o.oi j hj; exact ⟨_, hc, rfl⟩)))
    have fr9 : u9.frozen? ⟨D, 1, none⟩ = false := (unhide R9).2.free 1
    have bc9 := (unhide R9).2.c1
    have SB := hide ((unhide R9).2.set1 (.slice (some ⟨g9, 0, none⟩) (x.b.ic.length + 1) c9))
    have KC : u9.cell? ⟨B, 0, none⟩ = some (.pointer (some ⟨D, 0, none⟩)) ∧ u9.cell? ⟨W.heap.size + 1, 0, none⟩ = some (.int .i64 r0) ∧ u9.cell? ⟨W.heap.size + 1, 1, none⟩ = some (.int .i64 r1) := ⟨gr9.cell KB.1 (fun e => by have := BL _ e.symm; simp only at this; omega), gr9.cell KB.2.1 (fun e => by exact NE e), gr9.cell KB.2.2 (fun e => by exact NE e)⟩
    have KD : (u9.setCell ⟨D, 1, none⟩ (.slice (some ⟨g9, 0, none⟩) (x.b.ic.length + 1) c9)).cell? ⟨B, 0, none⟩ = some (.pointer (some ⟨D, 0, none⟩)) ∧ (u9.setCell ⟨D, 1, none⟩ (.slice (some ⟨g9, 0, none⟩) (x.b.ic.length + 1) c9)).cell? ⟨W.heap.size + 1, 0, none⟩ = some (.int .i64 r0) ∧ (u9.setCell ⟨D, 1, none⟩ (.slice (some ⟨g9, 0, none⟩) (x.b.ic.length + 1) c9)).cell? ⟨W.heap.size + 1, 1, none⟩ = some (.int .i64 r1) := ⟨(cell_grown (unhide SB).2 0 (g := B) (by have := (unhide RA).ltB; have := gr9.size; omega) (fun e => dq e.symm)).trans KC.1, (cell_grown (unhide SB).2 0 (g := W.heap.size + 1) (by have := gr9.size; simp at this; omega) (by omega)).trans KC.2.1, (cell_grown (unhide SB).2 1 (g := W.heap.size + 1) (by have := gr9.size; simp at this; omega) (by omega)).trans KC.2.2⟩
    clear o9
    refine hK.out _ _ KC (fun hHeld => ?_)
    clear hK K
    try simp only [oC17, Act.put, List.setIfInBounds_toArray, List.set_cons_zero, List.set_cons_succ]
    refine wpAnyH_take (i := 8) (oi := oC18) (v := .pointer (some ⟨D, 0, none⟩)) rfl (by kernel_rfl) (by kernel_rfl) (by kernel_rfl) (fun _ _ _ h => h) (Or.inl ⟨by rfl, fun w hSw => ?_⟩) hHeld ?_
    · (try dsimp only at hSw)
      unfold oC18
      go_simp
    try simp only [oC18, Act.put, List.setIfInBounds_toArray, List.set_cons_zero, List.set_cons_succ]
    refine wpAnyH_take (i := 9) (oi := oC19) (v := .pointer (some ⟨D, 1, none⟩)) rfl (by kernel_rfl) (by kernel_rfl) (by kernel_rfl) (fun _ _ _ h => h) (Or.inl ⟨by rfl, fun w hSw => ?_⟩) hHeld ?_
    · (try dsimp only at hSw)
      unfold oC19
      go_simp
    try simp only [oC19, Act.put, List.setIfInBounds_toArray, List.set_cons_zero, List.set_cons_succ]
    refine wpAnyH_ready (rs := [10]) (by kernel_rfl) (by simp) ?_
    refine AllReadyH.cons (o := oC110) rfl (fun K hK => ?_) AllReadyH.nil
    unfold oC110
    go_simp
    refine hK.out _ _ KD (fun hHeld => ?_)
    clear hK K
    try simp only [oC110, Act.put, List.setIfInBounds_toArray, List.set_cons_zero, List.set_cons_succ]
    refine wpAnyH_done (by kernel_rfl) ?_ _
    clear K0 KB KC KD bc bcD bcA bc9 fr9 eB e0 e1
    go_wp2
    go_end0
    obtain ⟨sb, sg⟩ := unhide SB
    obtain ⟨h0, h2, h3, h4⟩ := unhide OO
    obtain ⟨q9, b9, n9⟩ := unhide RR
    have ln : (x.b.ic ++ [r2 [r0, r1]]).length = x.b.ic.length + 1 := by simp
    refine .inr ⟨rfl, rfl, (unhide KA).trans (Kp.grown sg (fun j hj => by injection hj with hj; subst hj; obtain ⟨c, hc⟩ := row_typ (unhide R9).2 _ rfl; exact ⟨_, hc, rfl⟩)), (⟨x.aa, x.ca, some ⟨g9, 0, none⟩, c9, x.ab, x.cb, x.al, x.cl, x.ats, x.ct, ⟨x.b.ac, x.b.ic ++ [r2 [r0, r1]], x.b.bs, x.b.ls, x.b.ts, x.b.lot⟩⟩ : Ix), rfl, ⟨Ints.Own.kept (unhide R9).1 sg (by simpa using pd), ?_, ⟨row_kept h0 sg d1, ?_, row_kept h2 sg d1, row_kept h3 sg d1, row_kept h4 sg d1⟩, (sg.block B (by have := Array.getElem?_eq_some_iff.1 q9; exact this.1) (fun e => dq (by injection e with e; exact e.symm))).trans q9, b9.grown sg b9.size (fun j hj => by injection hj with hj; omega), Nat.le_trans n9 sg.size⟩⟩
    · show Box _ _ _ (.slice x.aa x.b.ac.length x.ca) (.slice (some ⟨g9, 0, none⟩) (x.b.ic ++ [r2 [r0, r1]]).length c9) (.slice x.ab x.b.bs.length x.cb) (.slice x.al x.b.ls.length x.cl) (.slice x.ats x.b.ts.length x.ct) (.int .i64 x.b.lot)
      rw [ln]
      exact sb
    · show World.ownsRow _ _ _ _ _ _ _
      have o := row_kept (unhide O9) sg d1
      simp only [ln]
      rw [show Pairs.flat (x.b.ic ++ [r2 [r0, r1]]) = Pairs.flat x.b.ic ++ [.int .i64 r0, .int .i64 r1] from flat_p _ _ _]
      exact o
set_option maxRecDepth 100000 in
set_option maxHeartbeats 4000000 in
theorem cl2 (w0 W : World) (gl cl p D B N : Nat) (xs : List Int) (et : TypeId) (ev : Value) (s : Int) (x : Ix) (G : Pg w0 gl cl p D B N xs et ev) (R : Rs w0 W p D B N s x) (hs : s ≤ 9223372036854775807) (hl : x.b.bs.length ≤ 1000) :
    Calls Tryz.prog 64 #[.agg #[.slice (some ⟨gl, 0, none⟩) xs.length cl, .pointer (some ⟨p, 0, none⟩)], .pointer (some ⟨B, 0, none⟩)] W (ClS 2 (gets xs 3 s []) w0 W p D B N x) := by
  obtain ⟨l0, l1, g, a, e, z, p0, p1, d0, d1, q0, q1, pd, pq, dq⟩ := G
  have nn := R.n
  have BU := hide (show Below W.heap.size W (((W.alloc (.cells #[.slice (some ⟨gl, 0, none⟩) xs.length cl, .pointer (some ⟨p, 0, none⟩)] 75)).alloc (.cells #[.int .i64 0, .int .i64 0, .int .i64 0] 46)).alloc (.cells #[.pointer (some ⟨W.heap.size + 1, 0, none⟩), .pointer (some ⟨W.heap.size + 1, 1, none⟩), .pointer (some ⟨W.heap.size + 1, 2, none⟩)] 73)) from (((Below.refl _ _).alloc (Nat.le_refl _) _).alloc (by simp) _).alloc (by simp; omega) _)
  have RU := hide (R.step (unhide BU))
  have TU := hide (show Tg (((W.alloc (.cells #[.slice (some ⟨gl, 0, none⟩) xs.length cl, .pointer (some ⟨p, 0, none⟩)] 75)).alloc (.cells #[.int .i64 0, .int .i64 0, .int .i64 0] 46)).alloc (.cells #[.pointer (some ⟨W.heap.size + 1, 0, none⟩), .pointer (some ⟨W.heap.size + 1, 1, none⟩), .pointer (some ⟨W.heap.size + 1, 2, none⟩)] 73)) w0.heap.size 46 3 (W.heap.size + 1) [.int .i64 0, .int .i64 0, .int .i64 0] from by
    have := World.ownsRow.alloc (World.ownsRow_lit (base := w0.heap.size) (size := 3) (e := 46) (W.alloc (.cells #[.slice (some ⟨gl, 0, none⟩) xs.length cl, .pointer (some ⟨p, 0, none⟩)] 75)) #[.int .i64 0, .int .i64 0, .int .i64 0] 1 (by have := R.b.size; simp; omega) (by decide) rfl) (.cells #[.pointer (some ⟨W.heap.size + 1, 0, none⟩), .pointer (some ⟨W.heap.size + 1, 1, none⟩), .pointer (some ⟨W.heap.size + 1, 2, none⟩)] 73)
    simpa [Tg] using this)
  have PU := hide (show Ptr (((W.alloc (.cells #[.slice (some ⟨gl, 0, none⟩) xs.length cl, .pointer (some ⟨p, 0, none⟩)] 75)).alloc (.cells #[.int .i64 0, .int .i64 0, .int .i64 0] 46)).alloc (.cells #[.pointer (some ⟨W.heap.size + 1, 0, none⟩), .pointer (some ⟨W.heap.size + 1, 1, none⟩), .pointer (some ⟨W.heap.size + 1, 2, none⟩)] 73)) (W.heap.size + 2) (W.heap.size + 1) 3 from fun i hi => by
    have : i = 0 ∨ i = 1 ∨ i = 2 := by omega
    have q := litm ((W.alloc (.cells #[.slice (some ⟨gl, 0, none⟩) xs.length cl, .pointer (some ⟨p, 0, none⟩)] 75)).alloc (.cells #[.int .i64 0, .int .i64 0, .int .i64 0] 46)) [.pointer (some ⟨W.heap.size + 1, 0, none⟩), .pointer (some ⟨W.heap.size + 1, 1, none⟩), .pointer (some ⟨W.heap.size + 1, 2, none⟩)] 73 #[.pointer (some ⟨W.heap.size + 1, 0, none⟩), .pointer (some ⟨W.heap.size + 1, 1, none⟩), .pointer (some ⟨W.heap.size + 1, 2, none⟩)] rfl i
    rw [show ((W.alloc (.cells #[.slice (some ⟨gl, 0, none⟩) xs.length cl, .pointer (some ⟨p, 0, none⟩)] 75)).alloc (.cells #[.int .i64 0, .int .i64 0, .int .i64 0] 46)).heap.size = W.heap.size + 2 by simp] at q
    rcases this with rfl | rfl | rfl <;> exact q _ rfl)
  have us : ((((W.alloc (.cells #[.slice (some ⟨gl, 0, none⟩) xs.length cl, .pointer (some ⟨p, 0, none⟩)] 75)).alloc (.cells #[.int .i64 0, .int .i64 0, .int .i64 0] 46)).alloc (.cells #[.pointer (some ⟨W.heap.size + 1, 0, none⟩), .pointer (some ⟨W.heap.size + 1, 1, none⟩), .pointer (some ⟨W.heap.size + 1, 2, none⟩)] 73))).heap.size = W.heap.size + 3 := by simp
  have MU := hide (iMust (((W.alloc (.cells #[.slice (some ⟨gl, 0, none⟩) xs.length cl, .pointer (some ⟨p, 0, none⟩)] 75)).alloc (.cells #[.int .i64 0, .int .i64 0, .int .i64 0] 46)).alloc (.cells #[.pointer (some ⟨W.heap.size + 1, 0, none⟩), .pointer (some ⟨W.heap.size + 1, 1, none⟩), .pointer (some ⟨W.heap.size + 1, 2, none⟩)] 73)) gl cl p w0.heap.size 46 3 (W.heap.size + 1) (W.heap.size + 2) 3 3 xs s [.int .i64 0, .int .i64 0, .int .i64 0] ev et hs l0 l1 g (a.below (unhide RU).b g) (unhide RU).pl (unhide TU) (fun i hi => by
    have : i = 0 ∨ i = 1 ∨ i = 2 := by omega
    rcases this with rfl | rfl | rfl <;> exact ⟨0, rfl⟩) (unhide PU) (by omega) (by omega) (by omega) (by omega) (by omega) (((unhide RU).b.cell (p := ⟨0, 0, none⟩) z).trans e) z)
  have GL := hide (gets_len xs 3 s [])
  have GA := hide (gets_all xs 3 s [] (by simp))
  have RW := hide R
  clear a e R TU PU us
  generalize gets xs 3 s [] = r at *
  obtain ⟨l, s', ok⟩ := r
  go_enter Tryz.func64, Tryz.ntmps64
  go_wp2_with fail
  refine (unhide MU).mono ?_
  rintro e u (⟨h1, ⟨eu, ee, rfl⟩, h3⟩ | ⟨h1, rfl, h3, h4, h5⟩)
  · have b1 := (unhide BU)
    have g3 := h3.to (B := w0.heap.size) (by have := (unhide RW).b.size; have := b1.size; omega) p0 (by have := (unhide RW).b.size; omega)
    exact ⟨rfl, .inl ⟨h1, ⟨eu, ee, rfl⟩, (unhide RU).b.trans g3⟩⟩
  simp only at h1
  subst h1
  have ll := (unhide GL) rfl
  obtain ⟨r0, r1, r2, rfl⟩ := list3 (show l.length = 3 from by simpa using ll)
  have GW := hide (show W.grownBy u (some p) from Gr2.grown (((Gr2.refl W p (W.heap.size + 1)).step (unhide BU)).trans h3) (by omega))
  have RV := hide ((unhide RW).moved (unhide GW) p0 p1 pd pq h4)
  have TV := hide (show Tg u w0.heap.size 46 3 (W.heap.size + 1) [.int .i64 r0, .int .i64 r1, .int .i64 r2] from h5)
  have FA := hide ((unhide GA) rfl)
  have KV := hide (Kp.grown (unhide GW) (fun j hj => by injection hj with hj; subst hj; exact (unhide RW).typP))
  clear ll h3 h4 h5 GL GA MU RU BU GW
  have dl := (unhide TV).lt
  have fm := (unhide FA) r2 (by simp)
  have am1 : wrap64 (r2 - 1000000000000000) = r2 - 1000000000000000 := by rw [wrap64]; unfold Fm at fm; omega
  have am2 : IntKind.i64.wrap (r2 - 1000000000000000) = r2 - 1000000000000000 := by rw [IntKind.wrap_i64]; unfold Fm at fm; omega
  clear fm
  have y2 : u.cell? ⟨W.heap.size + 1, 2, none⟩ = some (.int .i64 r2) := (unhide TV).at rfl
  have yf : u.frozen? ⟨W.heap.size + 1, 2, none⟩ = false := (unhide TV).free 2
  obtain ⟨tv, gv⟩ := (unhide TV).set 2 (.int .i64 (r2 - 1000000000000000))
  have TV2 := hide (show Tg (u.setCell ⟨W.heap.size + 1, 2, none⟩ (.int .i64 (r2 - 1000000000000000))) w0.heap.size 46 3 (W.heap.size + 1) [.int .i64 r0, .int .i64 r1, .int .i64 (r2 - 1000000000000000)] from tv)
  have BV := hide (show Rs w0 (u.setCell ⟨W.heap.size + 1, 2, none⟩ (.int .i64 (r2 - 1000000000000000))) p D B N s' x ∧ Kp W (u.setCell ⟨W.heap.size + 1, 2, none⟩ (.int .i64 (r2 - 1000000000000000))) from by
    have R := unhide RV
    have hw : W.heap.size ≤ W.heap.size + 1 := by omega
    have ro := (unhide RW).o
    refine ⟨⟨Ints.Own.kept R.pl gv (by simp; omega), R.bx.kept gv (fun e => by injection e with e; omega), ⟨?_, ?_, ?_, ?_, ?_⟩, (gv.block B R.ltB (fun e => by injection e with e; omega)).trans R.q, R.b.grown gv R.b.size (fun j hj => by injection hj with hj; omega), Nat.le_trans R.n gv.size⟩, (unhide KV).trans (Kp.grown gv (fun j hj => by injection hj with hj; subst hj; obtain ⟨c, hc⟩ := row_typ (unhide TV) _ rfl; exact ⟨_, hc, rfl⟩))⟩
    all_goals first
      | exact World.ownsRow.kept R.o.oa gv (row_out ro.oa hw)
      | exact World.ownsRow.kept R.o.oi gv (row_out ro.oi hw)
      | exact World.ownsRow.kept R.o.ob gv (row_out ro.ob hw)
      | exact World.ownsRow.kept R.o.ol gv (row_out ro.ol hw)
      | exact World.ownsRow.kept R.o.ot gv (row_out ro.ot hw))
  clear tv
  have gvs := gv.size
  clear gv
  go_wp2_with fail
  clear y2 yf
  generalize u.setCell ⟨W.heap.size + 1, 2, none⟩ (.int .i64 (r2 - 1000000000000000)) = v at *
  have RX := hide (unhide BV).1
  have KX := hide (unhide BV).2
  have TX := TV2
  clear BV TV2 TV RV KV gvs
  have dl := (unhide TX).lt
  have rl := (unhide RX).ltB
  have rn := (unhide RX).n
  have dD := (unhide RX).bx.lt.2
  have ro := (unhide RX).o.ob
  have e0 : v.cell? ⟨W.heap.size + 1, 0, none⟩ = some (.int .i64 r0) := (unhide TX).at rfl
  have e1 : v.cell? ⟨W.heap.size + 1, 1, none⟩ = some (.int .i64 r1) := (unhide TX).at rfl
  have e2 : v.cell? ⟨W.heap.size + 1, 2, none⟩ = some (.int .i64 (r2 - 1000000000000000)) := (unhide TX).at rfl
  have eB := (unhide RX).cellB
  have bc := (unhide RX).bx.c2
  have NW : some (W.heap.size + 1) ≠ (.slice x.ab x.b.bs.length x.cb : Value).ownBlock := fun e => by
    have := (World.ownsRow.lt (unhide RW).o.ob _ e.symm).2
    omega
  have K0 : v.cell? ⟨B, 0, none⟩ = some (.pointer (some ⟨D, 0, none⟩)) ∧ v.cell? ⟨W.heap.size + 1, 0, none⟩ = some (.int .i64 r0) ∧ v.cell? ⟨W.heap.size + 1, 1, none⟩ = some (.int .i64 r1) ∧ v.cell? ⟨W.heap.size + 1, 2, none⟩ = some (.int .i64 (r2 - 1000000000000000)) := ⟨eB, e0, e1, e2⟩
  have KB : (v.drew.alloc (.cells #[.int .i64 r0, .int .i64 r1, .int .i64 (r2 - 1000000000000000)] 46)).cell? ⟨B, 0, none⟩ = some (.pointer (some ⟨D, 0, none⟩)) ∧ (v.drew.alloc (.cells #[.int .i64 r0, .int .i64 r1, .int .i64 (r2 - 1000000000000000)] 46)).cell? ⟨W.heap.size + 1, 0, none⟩ = some (.int .i64 r0) ∧ (v.drew.alloc (.cells #[.int .i64 r0, .int .i64 r1, .int .i64 (r2 - 1000000000000000)] 46)).cell? ⟨W.heap.size + 1, 1, none⟩ = some (.int .i64 r1) ∧ (v.drew.alloc (.cells #[.int .i64 r0, .int .i64 r1, .int .i64 (r2 - 1000000000000000)] 46)).cell? ⟨W.heap.size + 1, 2, none⟩ = some (.int .i64 (r2 - 1000000000000000)) := ⟨((one_more v.drew (.cells #[.int .i64 r0, .int .i64 r1, .int .i64 (r2 - 1000000000000000)] 46)).cell (p := ⟨B, 0, none⟩) rl).trans eB, ((one_more v.drew (.cells #[.int .i64 r0, .int .i64 r1, .int .i64 (r2 - 1000000000000000)] 46)).cell (p := ⟨W.heap.size + 1, 0, none⟩) dl.2).trans e0, ((one_more v.drew (.cells #[.int .i64 r0, .int .i64 r1, .int .i64 (r2 - 1000000000000000)] 46)).cell (p := ⟨W.heap.size + 1, 1, none⟩) dl.2).trans e1, ((one_more v.drew (.cells #[.int .i64 r0, .int .i64 r1, .int .i64 (r2 - 1000000000000000)] 46)).cell (p := ⟨W.heap.size + 1, 2, none⟩) dl.2).trans e2⟩
  have bcD : v.drew.cell? ⟨D, 2, none⟩ = some (.slice x.ab x.b.bs.length x.cb) := bc
  have bcA : (v.alloc (.cells #[.int .i64 r0, .int .i64 r1, .int .i64 (r2 - 1000000000000000)] 46)).cell? ⟨D, 2, none⟩ = some (.slice x.ab x.b.bs.length x.cb) := ((one_more v.drew (.cells #[.int .i64 r0, .int .i64 r1, .int .i64 (r2 - 1000000000000000)] 46)).cell (p := ⟨D, 2, none⟩) dD).trans bc
  refine wp_region_held_drew (S := (fun w' => w'.cell? ⟨B, 0, none⟩ = some (.pointer (some ⟨D, 0, none⟩)) ∧ w'.cell? ⟨W.heap.size + 1, 0, none⟩ = some (.int .i64 r0) ∧ w'.cell? ⟨W.heap.size + 1, 1, none⟩ = some (.int .i64 r1) ∧ w'.cell? ⟨W.heap.size + 1, 2, none⟩ = some (.int .i64 (r2 - 1000000000000000)))) (by kernel_rfl) K0 (fun hHeld => ?_)
  refine wpAnyH_take (i := 0) (oi := oC20) (v := .pointer (some ⟨D, 0, none⟩)) rfl (by kernel_rfl) (by kernel_rfl) (by kernel_rfl) (fun _ _ _ h => h) (Or.inl ⟨by rfl, fun w hSw => ?_⟩) hHeld ?_
  · (try dsimp only at hSw)
    unfold oC20
    go_simp
  try simp only [oC20, Act.put, List.setIfInBounds_toArray, List.set_cons_zero, List.set_cons_succ]
  refine wpAnyH_take (i := 1) (oi := oC21) (v := .pointer (some ⟨D, 0, none⟩)) rfl (by kernel_rfl) (by kernel_rfl) (by kernel_rfl) (fun _ _ _ h => h) (Or.inl ⟨by rfl, fun w hSw => ?_⟩) hHeld ?_
  · (try dsimp only at hSw)
    unfold oC21
    go_simp
  try simp only [oC21, Act.put, List.setIfInBounds_toArray, List.set_cons_zero, List.set_cons_succ]
  refine wpAnyH_take (i := 2) (oi := oC22) (v := .pointer (some ⟨D, 0, none⟩)) rfl (by kernel_rfl) (by kernel_rfl) (by kernel_rfl) (fun _ _ _ h => h) (Or.inl ⟨by rfl, fun w hSw => ?_⟩) hHeld ?_
  · (try dsimp only at hSw)
    unfold oC22
    go_simp
  try simp only [oC22, Act.put, List.setIfInBounds_toArray, List.set_cons_zero, List.set_cons_succ]
  refine wpAnyH_take (i := 3) (oi := oC23) (v := .pointer (some ⟨D, 2, none⟩)) rfl (by kernel_rfl) (by kernel_rfl) (by kernel_rfl) (fun _ _ _ h => h) (Or.inl ⟨by rfl, fun w hSw => ?_⟩) hHeld ?_
  · (try dsimp only at hSw)
    unfold oC23
    go_simp
  try simp only [oC23, Act.put, List.setIfInBounds_toArray, List.set_cons_zero, List.set_cons_succ]
  refine wpAnyH_take (i := 5) (oi := oC25) (v := .agg #[.int .i64 r0, .int .i64 r1, .int .i64 (r2 - 1000000000000000)]) rfl (by kernel_rfl) (by kernel_rfl) (by kernel_rfl) (fun _ _ _ h => h) (Or.inl ⟨by rfl, fun w hSw => ?_⟩) hHeld ?_
  · (try dsimp only at hSw)
    unfold oC25
    go_simp
  try simp only [oC25, Act.put, List.setIfInBounds_toArray, List.set_cons_zero, List.set_cons_succ]
  refine wpAnyH_ready (rs := [4, 6]) (by kernel_rfl) (by simp) ?_
  refine AllReadyH.cons (o := oC24) rfl (fun K hK => ?_) (AllReadyH.cons (o := oC26) rfl (fun K hK => ?_) AllReadyH.nil)
  · unfold oC24
    go_simp
    refine hK.out _ _ K0 (fun hHeld => ?_)
    clear hK K
    try simp only [oC24, Act.put, List.setIfInBounds_toArray, List.set_cons_zero, List.set_cons_succ]
    refine wpAnyH_ready (rs := [6]) (by kernel_rfl) (by simp) ?_
    refine AllReadyH.cons (o := oC26) rfl (fun K hK => ?_) AllReadyH.nil
    unfold oC26
    go_simp
    refine hK.out _ _ KB (fun hHeld => ?_)
    clear hK K
    try simp only [oC26, Act.put, List.setIfInBounds_toArray, List.set_cons_zero, List.set_cons_succ]
    refine wpAnyH_ready (rs := [7]) (by kernel_rfl) (by simp) ?_
    refine AllReadyH.cons (o := oC27) rfl (fun K hK => ?_) AllReadyH.nil
    refine step_app (v.drew.alloc (.cells #[.int .i64 r0, .int .i64 r1, .int .i64 (r2 - 1000000000000000)] 46)) (by rfl) _ _ 25 46 (by rfl) (.agg #[.int .i64 0, .int .i64 0, .int .i64 0]) 3 24 Tryz.underlying25 info_bs rfl (by decide) (by decide) N (.slice x.ab x.b.bs.length x.cb) x.b.bs.length (Triples.flat3 x.b.bs) v.drew.heap.size [.int .i64 r0, .int .i64 r1, .int .i64 (r2 - 1000000000000000)] (by rfl) (by rfl) (row_step (W := v.drew) ro (one_more v.drew (.cells #[.int .i64 r0, .int .i64 r1, .int .i64 (r2 - 1000000000000000)] 46))) rfl (litm v.drew _ _ _ (by rfl)) (by simp [Value.oneCell']) (by omega) (Nat.le_trans (show N ≤ v.drew.heap.size from rn) (by simp)) ?_
    intro g9 c9 u9 o9 gr9
    have BL : ∀ j, (.slice x.ab x.b.bs.length x.cb : Value).ownBlock = some j → N ≤ j := fun j hj => (World.ownsRow.lt ro j hj).1
    have BM : ∀ j, (.slice x.ab x.b.bs.length x.cb : Value).ownBlock = some j → j < v.heap.size := fun j hj => (World.ownsRow.lt ro j hj).2
    have NE := NW
    have RA := hide ((show Rs w0 v.drew p D B N s' x from rs_drew (unhide RX)).step (one_more v.drew (.cells #[.int .i64 r0, .int .i64 r1, .int .i64 (r2 - 1000000000000000)] 46)))
    have R9 := hide (show Pl u9 w0.heap.size p s' ∧ Box u9 w0.heap.size D (.slice x.aa x.b.ac.length x.ca) (.slice x.ai x.b.ic.length x.ci) (.slice x.ab x.b.bs.length x.cb) (.slice x.al x.b.ls.length x.cl) (.slice x.ats x.b.ts.length x.ct) (.int .i64 x.b.lot) from ⟨Ints.Own.kept (unhide RA).pl gr9 (fun e => by have := BL _ e.symm; omega), (unhide RA).bx.kept gr9 (fun e => by have := BL _ e.symm; omega)⟩)
    have O9 := hide o9
    have OO := hide (show u9.ownsRow N 43 2 (.slice x.aa x.b.ac.length x.ca) x.b.ac.length (Pairs.flat x.b.ac) ∧ u9.ownsRow N 44 2 (.slice x.ai x.b.ic.length x.ci) x.b.ic.length (Pairs.flat x.b.ic) ∧ u9.ownsRow N 48 5 (.slice x.al x.b.ls.length x.cl) x.b.ls.length (Tup5.flat5 x.b.ls) ∧ u9.ownsRow N 50 8 (.slice x.ats x.b.ts.length x.ct) x.b.ts.length (Tup8.flat8 x.b.ts) from ⟨World.ownsRow.kept (unhide RA).o.oa gr9 (row_ne (unhide RA).o.oa (unhide RA).o.ob (by decide)), World.ownsRow.kept (unhide RA).o.oi gr9 (row_ne (unhide RA).o.oi (unhide RA).o.ob (by decide)), World.ownsRow.kept (unhide RA).o.ol gr9 (row_ne (unhide RA).o.ol (unhide RA).o.ob (by decide)), World.ownsRow.kept (unhide RA).o.ot gr9 (row_ne (unhide RA).o.ot (unhide RA).o.ob (by decide))⟩)
    have RR := hide (show u9.heap[B]? = some (.cells #[.pointer (some ⟨D, 0, none⟩)] 78 (0, 0)) ∧ Below w0.heap.size w0 u9 ∧ N ≤ u9.heap.size from ⟨(gr9.block B (by have := (unhide RA).ltB; exact this) (fun e => by have := BL _ e.symm; omega)).trans (unhide RA).q, (unhide RA).b.grown gr9 (unhide RA).b.size (fun j hj => by have := BL _ hj; omega), Nat.le_trans (unhide RA).n gr9.size⟩)
    have KA := hide (show Kp W u9 from ((unhide KX).trans (Kp.drew (Kp.below (one_more v.drew (.cells #[.int .i64 r0, .int .i64 r1, .int .i64 (r2 - 1000000000000000)] 46))))).trans (Kp.grown gr9 (fun j hj => by obtain ⟨c, hc⟩ := row_typ (unhide RA).o.ob j hj; exact ⟨_, hc, rfl⟩)))
    have fr9 : u9.frozen? ⟨D, 2, none⟩ = false := (unhide R9).2.free 2
    have bc9 := (unhide R9).2.c2
    have SB := hide ((unhide R9).2.set2 (.slice (some ⟨g9, 0, none⟩) (x.b.bs.length + 1) c9))
    have KC : u9.cell? ⟨B, 0, none⟩ = some (.pointer (some ⟨D, 0, none⟩)) ∧ u9.cell? ⟨W.heap.size + 1, 0, none⟩ = some (.int .i64 r0) ∧ u9.cell? ⟨W.heap.size + 1, 1, none⟩ = some (.int .i64 r1) ∧ u9.cell? ⟨W.heap.size + 1, 2, none⟩ = some (.int .i64 (r2 - 1000000000000000)) := ⟨gr9.cell KB.1 (fun e => by have := BL _ e.symm; simp only at this; omega), gr9.cell KB.2.1 (fun e => by exact NE e), gr9.cell KB.2.2.1 (fun e => by exact NE e), gr9.cell KB.2.2.2 (fun e => by exact NE e)⟩
    have KD : (u9.setCell ⟨D, 2, none⟩ (.slice (some ⟨g9, 0, none⟩) (x.b.bs.length + 1) c9)).cell? ⟨B, 0, none⟩ = some (.pointer (some ⟨D, 0, none⟩)) ∧ (u9.setCell ⟨D, 2, none⟩ (.slice (some ⟨g9, 0, none⟩) (x.b.bs.length + 1) c9)).cell? ⟨W.heap.size + 1, 0, none⟩ = some (.int .i64 r0) ∧ (u9.setCell ⟨D, 2, none⟩ (.slice (some ⟨g9, 0, none⟩) (x.b.bs.length + 1) c9)).cell? ⟨W.heap.size + 1, 1, none⟩ = some (.int .i64 r1) ∧ (u9.setCell ⟨D, 2, none⟩ (.slice (some ⟨g9, 0, none⟩) (x.b.bs.length + 1) c9)).cell? ⟨W.heap.size + 1, 2, none⟩ = some (.int .i64 (r2 - 1000000000000000)) := ⟨(cell_grown (unhide SB).2 0 (g := B) (by have := (unhide RA).ltB; have := gr9.size; omega) (fun e => dq e.symm)).trans KC.1, (cell_grown (unhide SB).2 0 (g := W.heap.size + 1) (by have := gr9.size; simp at this; omega) (by omega)).trans KC.2.1, (cell_grown (unhide SB).2 1 (g := W.heap.size + 1) (by have := gr9.size; simp at this; omega) (by omega)).trans KC.2.2.1, (cell_grown (unhide SB).2 2 (g := W.heap.size + 1) (by have := gr9.size; simp at this; omega) (by omega)).trans KC.2.2.2⟩
    clear o9
    refine hK.out _ _ KC (fun hHeld => ?_)
    clear hK K
    try simp only [oC27, Act.put, List.setIfInBounds_toArray, List.set_cons_zero, List.set_cons_succ]
    refine wpAnyH_take (i := 8) (oi := oC28) (v := .pointer (some ⟨D, 0, none⟩)) rfl (by kernel_rfl) (by kernel_rfl) (by kernel_rfl) (fun _ _ _ h => h) (Or.inl ⟨by rfl, fun w hSw => ?_⟩) hHeld ?_
    · (try dsimp only at hSw)
      unfold oC28
      go_simp
    try simp only [oC28, Act.put, List.setIfInBounds_toArray, List.set_cons_zero, List.set_cons_succ]
    refine wpAnyH_take (i := 9) (oi := oC29) (v := .pointer (some ⟨D, 2, none⟩)) rfl (by kernel_rfl) (by kernel_rfl) (by kernel_rfl) (fun _ _ _ h => h) (Or.inl ⟨by rfl, fun w hSw => ?_⟩) hHeld ?_
    · (try dsimp only at hSw)
      unfold oC29
      go_simp
    try simp only [oC29, Act.put, List.setIfInBounds_toArray, List.set_cons_zero, List.set_cons_succ]
    refine wpAnyH_ready (rs := [10]) (by kernel_rfl) (by simp) ?_
    refine AllReadyH.cons (o := oC210) rfl (fun K hK => ?_) AllReadyH.nil
    unfold oC210
    go_simp
    refine hK.out _ _ KD (fun hHeld => ?_)
    clear hK K
    try simp only [oC210, Act.put, List.setIfInBounds_toArray, List.set_cons_zero, List.set_cons_succ]
    refine wpAnyH_done (by kernel_rfl) ?_ _
    clear K0 KB KC KD bc bcD bcA bc9 fr9 eB e0 e1 e2
    go_wp2
    go_end0
    obtain ⟨sb, sg⟩ := unhide SB
    obtain ⟨h0, h1, h3, h4⟩ := unhide OO
    obtain ⟨q9, b9, n9⟩ := unhide RR
    have ln : (x.b.bs ++ [r3 [r0, r1, r2]]).length = x.b.bs.length + 1 := by simp
    refine .inr ⟨rfl, rfl, (unhide KA).trans (Kp.grown sg (fun j hj => by injection hj with hj; subst hj; obtain ⟨c, hc⟩ := row_typ (unhide R9).2 _ rfl; exact ⟨_, hc, rfl⟩)), (⟨x.aa, x.ca, x.ai, x.ci, some ⟨g9, 0, none⟩, c9, x.al, x.cl, x.ats, x.ct, ⟨x.b.ac, x.b.ic, x.b.bs ++ [r3 [r0, r1, r2]], x.b.ls, x.b.ts, x.b.lot⟩⟩ : Ix), rfl, ⟨Ints.Own.kept (unhide R9).1 sg (by simpa using pd), ?_, ⟨row_kept h0 sg d1, row_kept h1 sg d1, ?_, row_kept h3 sg d1, row_kept h4 sg d1⟩, (sg.block B (by have := Array.getElem?_eq_some_iff.1 q9; exact this.1) (fun e => dq (by injection e with e; exact e.symm))).trans q9, b9.grown sg b9.size (fun j hj => by injection hj with hj; omega), Nat.le_trans n9 sg.size⟩⟩
    · show Box _ _ _ (.slice x.aa x.b.ac.length x.ca) (.slice x.ai x.b.ic.length x.ci) (.slice (some ⟨g9, 0, none⟩) (x.b.bs ++ [r3 [r0, r1, r2]]).length c9) (.slice x.al x.b.ls.length x.cl) (.slice x.ats x.b.ts.length x.ct) (.int .i64 x.b.lot)
      rw [ln]
      exact sb
    · show World.ownsRow _ _ _ _ _ _ _
      have o := row_kept (unhide O9) sg d1
      simp only [ln]
      rw [show Triples.flat3 (x.b.bs ++ [r3 [r0, r1, r2]]) = Triples.flat3 x.b.bs ++ [.int .i64 r0, .int .i64 r1, .int .i64 (r2 - 1000000000000000)] from flat_t _ _ _ _]
      exact o
  · unfold oC26
    go_simp
    refine hK.out _ _ KB (fun hHeld => ?_)
    clear hK K
    try simp only [oC26, Act.put, List.setIfInBounds_toArray, List.set_cons_zero, List.set_cons_succ]
    refine wpAnyH_ready (rs := [4]) (by kernel_rfl) (by simp) ?_
    refine AllReadyH.cons (o := oC24) rfl (fun K hK => ?_) AllReadyH.nil
    unfold oC24
    go_simp
    refine hK.out _ _ KB (fun hHeld => ?_)
    clear hK K
    try simp only [oC24, Act.put, List.setIfInBounds_toArray, List.set_cons_zero, List.set_cons_succ]
    refine wpAnyH_ready (rs := [7]) (by kernel_rfl) (by simp) ?_
    refine AllReadyH.cons (o := oC27) rfl (fun K hK => ?_) AllReadyH.nil
    refine step_app (v.drew.alloc (.cells #[.int .i64 r0, .int .i64 r1, .int .i64 (r2 - 1000000000000000)] 46)) (by rfl) _ _ 25 46 (by rfl) (.agg #[.int .i64 0, .int .i64 0, .int .i64 0]) 3 24 Tryz.underlying25 info_bs rfl (by decide) (by decide) N (.slice x.ab x.b.bs.length x.cb) x.b.bs.length (Triples.flat3 x.b.bs) v.drew.heap.size [.int .i64 r0, .int .i64 r1, .int .i64 (r2 - 1000000000000000)] (by rfl) (by rfl) (row_step (W := v.drew) ro (one_more v.drew (.cells #[.int .i64 r0, .int .i64 r1, .int .i64 (r2 - 1000000000000000)] 46))) rfl (litm v.drew _ _ _ (by rfl)) (by simp [Value.oneCell']) (by omega) (Nat.le_trans (show N ≤ v.drew.heap.size from rn) (by simp)) ?_
    intro g9 c9 u9 o9 gr9
    have BL : ∀ j, (.slice x.ab x.b.bs.length x.cb : Value).ownBlock = some j → N ≤ j := fun j hj => (World.ownsRow.lt ro j hj).1
    have BM : ∀ j, (.slice x.ab x.b.bs.length x.cb : Value).ownBlock = some j → j < v.heap.size := fun j hj => (World.ownsRow.lt ro j hj).2
    have NE := NW
    have RA := hide ((show Rs w0 v.drew p D B N s' x from rs_drew (unhide RX)).step (one_more v.drew (.cells #[.int .i64 r0, .int .i64 r1, .int .i64 (r2 - 1000000000000000)] 46)))
    have R9 := hide (show Pl u9 w0.heap.size p s' ∧ Box u9 w0.heap.size D (.slice x.aa x.b.ac.length x.ca) (.slice x.ai x.b.ic.length x.ci) (.slice x.ab x.b.bs.length x.cb) (.slice x.al x.b.ls.length x.cl) (.slice x.ats x.b.ts.length x.ct) (.int .i64 x.b.lot) from ⟨Ints.Own.kept (unhide RA).pl gr9 (fun e => by have := BL _ e.symm; omega), (unhide RA).bx.kept gr9 (fun e => by have := BL _ e.symm; omega)⟩)
    have O9 := hide o9
    have OO := hide (show u9.ownsRow N 43 2 (.slice x.aa x.b.ac.length x.ca) x.b.ac.length (Pairs.flat x.b.ac) ∧ u9.ownsRow N 44 2 (.slice x.ai x.b.ic.length x.ci) x.b.ic.length (Pairs.flat x.b.ic) ∧ u9.ownsRow N 48 5 (.slice x.al x.b.ls.length x.cl) x.b.ls.length (Tup5.flat5 x.b.ls) ∧ u9.ownsRow N 50 8 (.slice x.ats x.b.ts.length x.ct) x.b.ts.length (Tup8.flat8 x.b.ts) from ⟨World.ownsRow.kept (unhide RA).o.oa gr9 (row_ne (unhide RA).o.oa (unhide RA).o.ob (by decide)), World.ownsRow.kept (unhide RA).o.oi gr9 (row_ne (unhide RA).o.oi (unhide RA).o.ob (by decide)), World.ownsRow.kept (unhide RA).o.ol gr9 (row_ne (unhide RA).o.ol (unhide RA).o.ob (by decide)), World.ownsRow.kept (unhide RA).o.ot gr9 (row_ne (unhide RA).o.ot (unhide RA).o.ob (by decide))⟩)
    have RR := hide (show u9.heap[B]? = some (.cells #[.pointer (some ⟨D, 0, none⟩)] 78 (0, 0)) ∧ Below w0.heap.size w0 u9 ∧ N ≤ u9.heap.size from ⟨(gr9.block B (by have := (unhide RA).ltB; exact this) (fun e => by have := BL _ e.symm; omega)).trans (unhide RA).q, (unhide RA).b.grown gr9 (unhide RA).b.size (fun j hj => by have := BL _ hj; omega), Nat.le_trans (unhide RA).n gr9.size⟩)
    have KA := hide (show Kp W u9 from ((unhide KX).trans (Kp.drew (Kp.below (one_more v.drew (.cells #[.int .i64 r0, .int .i64 r1, .int .i64 (r2 - 1000000000000000)] 46))))).trans (Kp.grown gr9 (fun j hj => by obtain ⟨c, hc⟩ := row_typ (unhide RA).o.ob j hj; exact ⟨_, hc, rfl⟩)))
    have fr9 : u9.frozen? ⟨D, 2, none⟩ = false := (unhide R9).2.free 2
    have bc9 := (unhide R9).2.c2
    have SB := hide ((unhide R9).2.set2 (.slice (some ⟨g9, 0, none⟩) (x.b.bs.length + 1) c9))
    have KC : u9.cell? ⟨B, 0, none⟩ = some (.pointer (some ⟨D, 0, none⟩)) ∧ u9.cell? ⟨W.heap.size + 1, 0, none⟩ = some (.int .i64 r0) ∧ u9.cell? ⟨W.heap.size + 1, 1, none⟩ = some (.int .i64 r1) ∧ u9.cell? ⟨W.heap.size + 1, 2, none⟩ = some (.int .i64 (r2 - 1000000000000000)) := ⟨gr9.cell KB.1 (fun e => by have := BL _ e.symm; simp only at this; omega), gr9.cell KB.2.1 (fun e => by exact NE e), gr9.cell KB.2.2.1 (fun e => by exact NE e), gr9.cell KB.2.2.2 (fun e => by exact NE e)⟩
    have KD : (u9.setCell ⟨D, 2, none⟩ (.slice (some ⟨g9, 0, none⟩) (x.b.bs.length + 1) c9)).cell? ⟨B, 0, none⟩ = some (.pointer (some ⟨D, 0, none⟩)) ∧ (u9.setCell ⟨D, 2, none⟩ (.slice (some ⟨g9, 0, none⟩) (x.b.bs.length + 1) c9)).cell? ⟨W.heap.size + 1, 0, none⟩ = some (.int .i64 r0) ∧ (u9.setCell ⟨D, 2, none⟩ (.slice (some ⟨g9, 0, none⟩) (x.b.bs.length + 1) c9)).cell? ⟨W.heap.size + 1, 1, none⟩ = some (.int .i64 r1) ∧ (u9.setCell ⟨D, 2, none⟩ (.slice (some ⟨g9, 0, none⟩) (x.b.bs.length + 1) c9)).cell? ⟨W.heap.size + 1, 2, none⟩ = some (.int .i64 (r2 - 1000000000000000)) := ⟨(cell_grown (unhide SB).2 0 (g := B) (by have := (unhide RA).ltB; have := gr9.size; omega) (fun e => dq e.symm)).trans KC.1, (cell_grown (unhide SB).2 0 (g := W.heap.size + 1) (by have := gr9.size; simp at this; omega) (by omega)).trans KC.2.1, (cell_grown (unhide SB).2 1 (g := W.heap.size + 1) (by have := gr9.size; simp at this; omega) (by omega)).trans KC.2.2.1, (cell_grown (unhide SB).2 2 (g := W.heap.size + 1) (by have := gr9.size; simp at this; omega) (by omega)).trans KC.2.2.2⟩
    clear o9
    refine hK.out _ _ KC (fun hHeld => ?_)
    clear hK K
    try simp only [oC27, Act.put, List.setIfInBounds_toArray, List.set_cons_zero, List.set_cons_succ]
    refine wpAnyH_take (i := 8) (oi := oC28) (v := .pointer (some ⟨D, 0, none⟩)) rfl (by kernel_rfl) (by kernel_rfl) (by kernel_rfl) (fun _ _ _ h => h) (Or.inl ⟨by rfl, fun w hSw => ?_⟩) hHeld ?_
    · (try dsimp only at hSw)
      unfold oC28
      go_simp
    try simp only [oC28, Act.put, List.setIfInBounds_toArray, List.set_cons_zero, List.set_cons_succ]
    refine wpAnyH_take (i := 9) (oi := oC29) (v := .pointer (some ⟨D, 2, none⟩)) rfl (by kernel_rfl) (by kernel_rfl) (by kernel_rfl) (fun _ _ _ h => h) (Or.inl ⟨by rfl, fun w hSw => ?_⟩) hHeld ?_
    · (try dsimp only at hSw)
      unfold oC29
      go_simp
    try simp only [oC29, Act.put, List.setIfInBounds_toArray, List.set_cons_zero, List.set_cons_succ]
    refine wpAnyH_ready (rs := [10]) (by kernel_rfl) (by simp) ?_
    refine AllReadyH.cons (o := oC210) rfl (fun K hK => ?_) AllReadyH.nil
    unfold oC210
    go_simp
    refine hK.out _ _ KD (fun hHeld => ?_)
    clear hK K
    try simp only [oC210, Act.put, List.setIfInBounds_toArray, List.set_cons_zero, List.set_cons_succ]
    refine wpAnyH_done (by kernel_rfl) ?_ _
    clear K0 KB KC KD bc bcD bcA bc9 fr9 eB e0 e1 e2
    go_wp2
    go_end0
    obtain ⟨sb, sg⟩ := unhide SB
    obtain ⟨h0, h1, h3, h4⟩ := unhide OO
    obtain ⟨q9, b9, n9⟩ := unhide RR
    have ln : (x.b.bs ++ [r3 [r0, r1, r2]]).length = x.b.bs.length + 1 := by simp
    refine .inr ⟨rfl, rfl, (unhide KA).trans (Kp.grown sg (fun j hj => by injection hj with hj; subst hj; obtain ⟨c, hc⟩ := row_typ (unhide R9).2 _ rfl; exact ⟨_, hc, rfl⟩)), (⟨x.aa, x.ca, x.ai, x.ci, some ⟨g9, 0, none⟩, c9, x.al, x.cl, x.ats, x.ct, ⟨x.b.ac, x.b.ic, x.b.bs ++ [r3 [r0, r1, r2]], x.b.ls, x.b.ts, x.b.lot⟩⟩ : Ix), rfl, ⟨Ints.Own.kept (unhide R9).1 sg (by simpa using pd), ?_, ⟨row_kept h0 sg d1, row_kept h1 sg d1, ?_, row_kept h3 sg d1, row_kept h4 sg d1⟩, (sg.block B (by have := Array.getElem?_eq_some_iff.1 q9; exact this.1) (fun e => dq (by injection e with e; exact e.symm))).trans q9, b9.grown sg b9.size (fun j hj => by injection hj with hj; omega), Nat.le_trans n9 sg.size⟩⟩
    · show Box _ _ _ (.slice x.aa x.b.ac.length x.ca) (.slice x.ai x.b.ic.length x.ci) (.slice (some ⟨g9, 0, none⟩) (x.b.bs ++ [r3 [r0, r1, r2]]).length c9) (.slice x.al x.b.ls.length x.cl) (.slice x.ats x.b.ts.length x.ct) (.int .i64 x.b.lot)
      rw [ln]
      exact sb
    · show World.ownsRow _ _ _ _ _ _ _
      have o := row_kept (unhide O9) sg d1
      simp only [ln]
      rw [show Triples.flat3 (x.b.bs ++ [r3 [r0, r1, r2]]) = Triples.flat3 x.b.bs ++ [.int .i64 r0, .int .i64 r1, .int .i64 (r2 - 1000000000000000)] from flat_t _ _ _ _]
      exact o
set_option maxRecDepth 100000 in
set_option maxHeartbeats 4000000 in
theorem cl3 (w0 W : World) (gl cl p D B N : Nat) (xs : List Int) (et : TypeId) (ev : Value) (s : Int) (x : Ix) (G : Pg w0 gl cl p D B N xs et ev) (R : Rs w0 W p D B N s x) (hs : s ≤ 9223372036854775807) (hl : x.b.ls.length ≤ 1000) :
    Calls Tryz.prog 65 #[.agg #[.slice (some ⟨gl, 0, none⟩) xs.length cl, .pointer (some ⟨p, 0, none⟩)], .pointer (some ⟨B, 0, none⟩)] W (ClS 3 (gets xs 5 s []) w0 W p D B N x) := by
  obtain ⟨l0, l1, g, a, e, z, p0, p1, d0, d1, q0, q1, pd, pq, dq⟩ := G
  have nn := R.n
  have BU := hide (show Below W.heap.size W (((W.alloc (.cells #[.slice (some ⟨gl, 0, none⟩) xs.length cl, .pointer (some ⟨p, 0, none⟩)] 75)).alloc (.cells #[.int .i64 0, .int .i64 0, .int .i64 0, .int .i64 0, .int .i64 0] 48)).alloc (.cells #[.pointer (some ⟨W.heap.size + 1, 0, none⟩), .pointer (some ⟨W.heap.size + 1, 1, none⟩), .pointer (some ⟨W.heap.size + 1, 2, none⟩), .pointer (some ⟨W.heap.size + 1, 3, none⟩), .pointer (some ⟨W.heap.size + 1, 4, none⟩)] 73)) from (((Below.refl _ _).alloc (Nat.le_refl _) _).alloc (by simp) _).alloc (by simp; omega) _)
  have RU := hide (R.step (unhide BU))
  have TU := hide (show Tg (((W.alloc (.cells #[.slice (some ⟨gl, 0, none⟩) xs.length cl, .pointer (some ⟨p, 0, none⟩)] 75)).alloc (.cells #[.int .i64 0, .int .i64 0, .int .i64 0, .int .i64 0, .int .i64 0] 48)).alloc (.cells #[.pointer (some ⟨W.heap.size + 1, 0, none⟩), .pointer (some ⟨W.heap.size + 1, 1, none⟩), .pointer (some ⟨W.heap.size + 1, 2, none⟩), .pointer (some ⟨W.heap.size + 1, 3, none⟩), .pointer (some ⟨W.heap.size + 1, 4, none⟩)] 73)) w0.heap.size 48 5 (W.heap.size + 1) [.int .i64 0, .int .i64 0, .int .i64 0, .int .i64 0, .int .i64 0] from by
    have := World.ownsRow.alloc (World.ownsRow_lit (base := w0.heap.size) (size := 5) (e := 48) (W.alloc (.cells #[.slice (some ⟨gl, 0, none⟩) xs.length cl, .pointer (some ⟨p, 0, none⟩)] 75)) #[.int .i64 0, .int .i64 0, .int .i64 0, .int .i64 0, .int .i64 0] 1 (by have := R.b.size; simp; omega) (by decide) rfl) (.cells #[.pointer (some ⟨W.heap.size + 1, 0, none⟩), .pointer (some ⟨W.heap.size + 1, 1, none⟩), .pointer (some ⟨W.heap.size + 1, 2, none⟩), .pointer (some ⟨W.heap.size + 1, 3, none⟩), .pointer (some ⟨W.heap.size + 1, 4, none⟩)] 73)
    simpa [Tg] using this)
  have PU := hide (show Ptr (((W.alloc (.cells #[.slice (some ⟨gl, 0, none⟩) xs.length cl, .pointer (some ⟨p, 0, none⟩)] 75)).alloc (.cells #[.int .i64 0, .int .i64 0, .int .i64 0, .int .i64 0, .int .i64 0] 48)).alloc (.cells #[.pointer (some ⟨W.heap.size + 1, 0, none⟩), .pointer (some ⟨W.heap.size + 1, 1, none⟩), .pointer (some ⟨W.heap.size + 1, 2, none⟩), .pointer (some ⟨W.heap.size + 1, 3, none⟩), .pointer (some ⟨W.heap.size + 1, 4, none⟩)] 73)) (W.heap.size + 2) (W.heap.size + 1) 5 from fun i hi => by
    have : i = 0 ∨ i = 1 ∨ i = 2 ∨ i = 3 ∨ i = 4 := by omega
    have q := litm ((W.alloc (.cells #[.slice (some ⟨gl, 0, none⟩) xs.length cl, .pointer (some ⟨p, 0, none⟩)] 75)).alloc (.cells #[.int .i64 0, .int .i64 0, .int .i64 0, .int .i64 0, .int .i64 0] 48)) [.pointer (some ⟨W.heap.size + 1, 0, none⟩), .pointer (some ⟨W.heap.size + 1, 1, none⟩), .pointer (some ⟨W.heap.size + 1, 2, none⟩), .pointer (some ⟨W.heap.size + 1, 3, none⟩), .pointer (some ⟨W.heap.size + 1, 4, none⟩)] 73 #[.pointer (some ⟨W.heap.size + 1, 0, none⟩), .pointer (some ⟨W.heap.size + 1, 1, none⟩), .pointer (some ⟨W.heap.size + 1, 2, none⟩), .pointer (some ⟨W.heap.size + 1, 3, none⟩), .pointer (some ⟨W.heap.size + 1, 4, none⟩)] rfl i
    rw [show ((W.alloc (.cells #[.slice (some ⟨gl, 0, none⟩) xs.length cl, .pointer (some ⟨p, 0, none⟩)] 75)).alloc (.cells #[.int .i64 0, .int .i64 0, .int .i64 0, .int .i64 0, .int .i64 0] 48)).heap.size = W.heap.size + 2 by simp] at q
    rcases this with rfl | rfl | rfl | rfl | rfl <;> exact q _ rfl)
  have us : ((((W.alloc (.cells #[.slice (some ⟨gl, 0, none⟩) xs.length cl, .pointer (some ⟨p, 0, none⟩)] 75)).alloc (.cells #[.int .i64 0, .int .i64 0, .int .i64 0, .int .i64 0, .int .i64 0] 48)).alloc (.cells #[.pointer (some ⟨W.heap.size + 1, 0, none⟩), .pointer (some ⟨W.heap.size + 1, 1, none⟩), .pointer (some ⟨W.heap.size + 1, 2, none⟩), .pointer (some ⟨W.heap.size + 1, 3, none⟩), .pointer (some ⟨W.heap.size + 1, 4, none⟩)] 73))).heap.size = W.heap.size + 3 := by simp
  have MU := hide (iMust (((W.alloc (.cells #[.slice (some ⟨gl, 0, none⟩) xs.length cl, .pointer (some ⟨p, 0, none⟩)] 75)).alloc (.cells #[.int .i64 0, .int .i64 0, .int .i64 0, .int .i64 0, .int .i64 0] 48)).alloc (.cells #[.pointer (some ⟨W.heap.size + 1, 0, none⟩), .pointer (some ⟨W.heap.size + 1, 1, none⟩), .pointer (some ⟨W.heap.size + 1, 2, none⟩), .pointer (some ⟨W.heap.size + 1, 3, none⟩), .pointer (some ⟨W.heap.size + 1, 4, none⟩)] 73)) gl cl p w0.heap.size 48 5 (W.heap.size + 1) (W.heap.size + 2) 5 5 xs s [.int .i64 0, .int .i64 0, .int .i64 0, .int .i64 0, .int .i64 0] ev et hs l0 l1 g (a.below (unhide RU).b g) (unhide RU).pl (unhide TU) (fun i hi => by
    have : i = 0 ∨ i = 1 ∨ i = 2 ∨ i = 3 ∨ i = 4 := by omega
    rcases this with rfl | rfl | rfl | rfl | rfl <;> exact ⟨0, rfl⟩) (unhide PU) (by omega) (by omega) (by omega) (by omega) (by omega) (((unhide RU).b.cell (p := ⟨0, 0, none⟩) z).trans e) z)
  have GL := hide (gets_len xs 5 s [])
  have GA := hide (gets_all xs 5 s [] (by simp))
  have RW := hide R
  clear a e R TU PU us
  generalize gets xs 5 s [] = r at *
  obtain ⟨l, s', ok⟩ := r
  go_enter Tryz.func65, Tryz.ntmps65
  go_wp2_with fail
  refine (unhide MU).mono ?_
  rintro e u (⟨h1, ⟨eu, ee, rfl⟩, h3⟩ | ⟨h1, rfl, h3, h4, h5⟩)
  · have b1 := (unhide BU)
    have g3 := h3.to (B := w0.heap.size) (by have := (unhide RW).b.size; have := b1.size; omega) p0 (by have := (unhide RW).b.size; omega)
    exact ⟨rfl, .inl ⟨h1, ⟨eu, ee, rfl⟩, (unhide RU).b.trans g3⟩⟩
  simp only at h1
  subst h1
  have ll := (unhide GL) rfl
  obtain ⟨r0, r1, r2, r3, r4, rfl⟩ := list5 (show l.length = 5 from by simpa using ll)
  have GW := hide (show W.grownBy u (some p) from Gr2.grown (((Gr2.refl W p (W.heap.size + 1)).step (unhide BU)).trans h3) (by omega))
  have RV := hide ((unhide RW).moved (unhide GW) p0 p1 pd pq h4)
  have TV := hide (show Tg u w0.heap.size 48 5 (W.heap.size + 1) [.int .i64 r0, .int .i64 r1, .int .i64 r2, .int .i64 r3, .int .i64 r4] from h5)
  have FA := hide ((unhide GA) rfl)
  have KV := hide (Kp.grown (unhide GW) (fun j hj => by injection hj with hj; subst hj; exact (unhide RW).typP))
  clear ll h3 h4 h5 GL GA MU RU BU GW
  have dl := (unhide TV).lt
  go_wp2_with fail
  have RX := RV
  have KX := KV
  have TX := TV
  clear RV KV TV
  have dl := (unhide TX).lt
  have rl := (unhide RX).ltB
  have rn := (unhide RX).n
  have dD := (unhide RX).bx.lt.2
  have ro := (unhide RX).o.ol
  have e0 : u.cell? ⟨W.heap.size + 1, 0, none⟩ = some (.int .i64 r0) := (unhide TX).at rfl
  have e1 : u.cell? ⟨W.heap.size + 1, 1, none⟩ = some (.int .i64 r1) := (unhide TX).at rfl
  have e2 : u.cell? ⟨W.heap.size + 1, 2, none⟩ = some (.int .i64 r2) := (unhide TX).at rfl
  have e3 : u.cell? ⟨W.heap.size + 1, 3, none⟩ = some (.int .i64 r3) := (unhide TX).at rfl
  have e4 : u.cell? ⟨W.heap.size + 1, 4, none⟩ = some (.int .i64 r4) := (unhide TX).at rfl
  have eB := (unhide RX).cellB
  have bc := (unhide RX).bx.c3
  have NW : some (W.heap.size + 1) ≠ (.slice x.al x.b.ls.length x.cl : Value).ownBlock := fun e => by
    have := (World.ownsRow.lt (unhide RW).o.ol _ e.symm).2
    omega
  have K0 : u.cell? ⟨B, 0, none⟩ = some (.pointer (some ⟨D, 0, none⟩)) ∧ u.cell? ⟨W.heap.size + 1, 0, none⟩ = some (.int .i64 r0) ∧ u.cell? ⟨W.heap.size + 1, 1, none⟩ = some (.int .i64 r1) ∧ u.cell? ⟨W.heap.size + 1, 2, none⟩ = some (.int .i64 r2) ∧ u.cell? ⟨W.heap.size + 1, 3, none⟩ = some (.int .i64 r3) ∧ u.cell? ⟨W.heap.size + 1, 4, none⟩ = some (.int .i64 r4) := ⟨eB, e0, e1, e2, e3, e4⟩
  have KB : (u.drew.alloc (.cells #[.int .i64 r0, .int .i64 r1, .int .i64 r2, .int .i64 r3, .int .i64 r4] 48)).cell? ⟨B, 0, none⟩ = some (.pointer (some ⟨D, 0, none⟩)) ∧ (u.drew.alloc (.cells #[.int .i64 r0, .int .i64 r1, .int .i64 r2, .int .i64 r3, .int .i64 r4] 48)).cell? ⟨W.heap.size + 1, 0, none⟩ = some (.int .i64 r0) ∧ (u.drew.alloc (.cells #[.int .i64 r0, .int .i64 r1, .int .i64 r2, .int .i64 r3, .int .i64 r4] 48)).cell? ⟨W.heap.size + 1, 1, none⟩ = some (.int .i64 r1) ∧ (u.drew.alloc (.cells #[.int .i64 r0, .int .i64 r1, .int .i64 r2, .int .i64 r3, .int .i64 r4] 48)).cell? ⟨W.heap.size + 1, 2, none⟩ = some (.int .i64 r2) ∧ (u.drew.alloc (.cells #[.int .i64 r0, .int .i64 r1, .int .i64 r2, .int .i64 r3, .int .i64 r4] 48)).cell? ⟨W.heap.size + 1, 3, none⟩ = some (.int .i64 r3) ∧ (u.drew.alloc (.cells #[.int .i64 r0, .int .i64 r1, .int .i64 r2, .int .i64 r3, .int .i64 r4] 48)).cell? ⟨W.heap.size + 1, 4, none⟩ = some (.int .i64 r4) := ⟨((one_more u.drew (.cells #[.int .i64 r0, .int .i64 r1, .int .i64 r2, .int .i64 r3, .int .i64 r4] 48)).cell (p := ⟨B, 0, none⟩) rl).trans eB, ((one_more u.drew (.cells #[.int .i64 r0, .int .i64 r1, .int .i64 r2, .int .i64 r3, .int .i64 r4] 48)).cell (p := ⟨W.heap.size + 1, 0, none⟩) dl.2).trans e0, ((one_more u.drew (.cells #[.int .i64 r0, .int .i64 r1, .int .i64 r2, .int .i64 r3, .int .i64 r4] 48)).cell (p := ⟨W.heap.size + 1, 1, none⟩) dl.2).trans e1, ((one_more u.drew (.cells #[.int .i64 r0, .int .i64 r1, .int .i64 r2, .int .i64 r3, .int .i64 r4] 48)).cell (p := ⟨W.heap.size + 1, 2, none⟩) dl.2).trans e2, ((one_more u.drew (.cells #[.int .i64 r0, .int .i64 r1, .int .i64 r2, .int .i64 r3, .int .i64 r4] 48)).cell (p := ⟨W.heap.size + 1, 3, none⟩) dl.2).trans e3, ((one_more u.drew (.cells #[.int .i64 r0, .int .i64 r1, .int .i64 r2, .int .i64 r3, .int .i64 r4] 48)).cell (p := ⟨W.heap.size + 1, 4, none⟩) dl.2).trans e4⟩
  have bcD : u.drew.cell? ⟨D, 3, none⟩ = some (.slice x.al x.b.ls.length x.cl) := bc
  have bcA : (u.alloc (.cells #[.int .i64 r0, .int .i64 r1, .int .i64 r2, .int .i64 r3, .int .i64 r4] 48)).cell? ⟨D, 3, none⟩ = some (.slice x.al x.b.ls.length x.cl) := ((one_more u.drew (.cells #[.int .i64 r0, .int .i64 r1, .int .i64 r2, .int .i64 r3, .int .i64 r4] 48)).cell (p := ⟨D, 3, none⟩) dD).trans bc
  refine wp_region_held_drew (S := (fun w' => w'.cell? ⟨B, 0, none⟩ = some (.pointer (some ⟨D, 0, none⟩)) ∧ w'.cell? ⟨W.heap.size + 1, 0, none⟩ = some (.int .i64 r0) ∧ w'.cell? ⟨W.heap.size + 1, 1, none⟩ = some (.int .i64 r1) ∧ w'.cell? ⟨W.heap.size + 1, 2, none⟩ = some (.int .i64 r2) ∧ w'.cell? ⟨W.heap.size + 1, 3, none⟩ = some (.int .i64 r3) ∧ w'.cell? ⟨W.heap.size + 1, 4, none⟩ = some (.int .i64 r4))) (by kernel_rfl) K0 (fun hHeld => ?_)
  refine wpAnyH_take (i := 0) (oi := oC30) (v := .pointer (some ⟨D, 0, none⟩)) rfl (by kernel_rfl) (by kernel_rfl) (by kernel_rfl) (fun _ _ _ h => h) (Or.inl ⟨by rfl, fun w hSw => ?_⟩) hHeld ?_
  · (try dsimp only at hSw)
    unfold oC30
    go_simp
  try simp only [oC30, Act.put, List.setIfInBounds_toArray, List.set_cons_zero, List.set_cons_succ]
  refine wpAnyH_take (i := 1) (oi := oC31) (v := .pointer (some ⟨D, 0, none⟩)) rfl (by kernel_rfl) (by kernel_rfl) (by kernel_rfl) (fun _ _ _ h => h) (Or.inl ⟨by rfl, fun w hSw => ?_⟩) hHeld ?_
  · (try dsimp only at hSw)
    unfold oC31
    go_simp
  try simp only [oC31, Act.put, List.setIfInBounds_toArray, List.set_cons_zero, List.set_cons_succ]
  refine wpAnyH_take (i := 2) (oi := oC32) (v := .pointer (some ⟨D, 0, none⟩)) rfl (by kernel_rfl) (by kernel_rfl) (by kernel_rfl) (fun _ _ _ h => h) (Or.inl ⟨by rfl, fun w hSw => ?_⟩) hHeld ?_
  · (try dsimp only at hSw)
    unfold oC32
    go_simp
  try simp only [oC32, Act.put, List.setIfInBounds_toArray, List.set_cons_zero, List.set_cons_succ]
  refine wpAnyH_take (i := 3) (oi := oC33) (v := .pointer (some ⟨D, 3, none⟩)) rfl (by kernel_rfl) (by kernel_rfl) (by kernel_rfl) (fun _ _ _ h => h) (Or.inl ⟨by rfl, fun w hSw => ?_⟩) hHeld ?_
  · (try dsimp only at hSw)
    unfold oC33
    go_simp
  try simp only [oC33, Act.put, List.setIfInBounds_toArray, List.set_cons_zero, List.set_cons_succ]
  refine wpAnyH_take (i := 5) (oi := oC35) (v := .agg #[.int .i64 r0, .int .i64 r1, .int .i64 r2, .int .i64 r3, .int .i64 r4]) rfl (by kernel_rfl) (by kernel_rfl) (by kernel_rfl) (fun _ _ _ h => h) (Or.inl ⟨by rfl, fun w hSw => ?_⟩) hHeld ?_
  · (try dsimp only at hSw)
    unfold oC35
    go_simp
  try simp only [oC35, Act.put, List.setIfInBounds_toArray, List.set_cons_zero, List.set_cons_succ]
  refine wpAnyH_ready (rs := [4, 6]) (by kernel_rfl) (by simp) ?_
  refine AllReadyH.cons (o := oC34) rfl (fun K hK => ?_) (AllReadyH.cons (o := oC36) rfl (fun K hK => ?_) AllReadyH.nil)
  · unfold oC34
    go_simp
    refine hK.out _ _ K0 (fun hHeld => ?_)
    clear hK K
    try simp only [oC34, Act.put, List.setIfInBounds_toArray, List.set_cons_zero, List.set_cons_succ]
    refine wpAnyH_ready (rs := [6]) (by kernel_rfl) (by simp) ?_
    refine AllReadyH.cons (o := oC36) rfl (fun K hK => ?_) AllReadyH.nil
    unfold oC36
    go_simp
    refine hK.out _ _ KB (fun hHeld => ?_)
    clear hK K
    try simp only [oC36, Act.put, List.setIfInBounds_toArray, List.set_cons_zero, List.set_cons_succ]
    refine wpAnyH_ready (rs := [7]) (by kernel_rfl) (by simp) ?_
    refine AllReadyH.cons (o := oC37) rfl (fun K hK => ?_) AllReadyH.nil
    refine step_app (u.drew.alloc (.cells #[.int .i64 r0, .int .i64 r1, .int .i64 r2, .int .i64 r3, .int .i64 r4] 48)) (by rfl) _ _ 26 48 (by rfl) (.agg #[.int .i64 0, .int .i64 0, .int .i64 0, .int .i64 0, .int .i64 0]) 5 40 Tryz.underlying26 info_ls rfl (by decide) (by decide) N (.slice x.al x.b.ls.length x.cl) x.b.ls.length (Tup5.flat5 x.b.ls) u.drew.heap.size [.int .i64 r0, .int .i64 r1, .int .i64 r2, .int .i64 r3, .int .i64 r4] (by rfl) (by rfl) (row_step (W := u.drew) ro (one_more u.drew (.cells #[.int .i64 r0, .int .i64 r1, .int .i64 r2, .int .i64 r3, .int .i64 r4] 48))) rfl (litm u.drew _ _ _ (by rfl)) (by simp [Value.oneCell']) (by omega) (Nat.le_trans (show N ≤ u.drew.heap.size from rn) (by simp)) ?_
    intro g9 c9 u9 o9 gr9
    have BL : ∀ j, (.slice x.al x.b.ls.length x.cl : Value).ownBlock = some j → N ≤ j := fun j hj => (World.ownsRow.lt ro j hj).1
    have BM : ∀ j, (.slice x.al x.b.ls.length x.cl : Value).ownBlock = some j → j < u.heap.size := fun j hj => (World.ownsRow.lt ro j hj).2
    have NE := NW
    have RA := hide ((show Rs w0 u.drew p D B N s' x from rs_drew (unhide RX)).step (one_more u.drew (.cells #[.int .i64 r0, .int .i64 r1, .int .i64 r2, .int .i64 r3, .int .i64 r4] 48)))
    have R9 := hide (show Pl u9 w0.heap.size p s' ∧ Box u9 w0.heap.size D (.slice x.aa x.b.ac.length x.ca) (.slice x.ai x.b.ic.length x.ci) (.slice x.ab x.b.bs.length x.cb) (.slice x.al x.b.ls.length x.cl) (.slice x.ats x.b.ts.length x.ct) (.int .i64 x.b.lot) from ⟨Ints.Own.kept (unhide RA).pl gr9 (fun e => by have := BL _ e.symm; omega), (unhide RA).bx.kept gr9 (fun e => by have := BL _ e.symm; omega)⟩)
    have O9 := hide o9
    have OO := hide (show u9.ownsRow N 43 2 (.slice x.aa x.b.ac.length x.ca) x.b.ac.length (Pairs.flat x.b.ac) ∧ u9.ownsRow N 44 2 (.slice x.ai x.b.ic.length x.ci) x.b.ic.length (Pairs.flat x.b.ic) ∧ u9.ownsRow N 46 3 (.slice x.ab x.b.bs.length x.cb) x.b.bs.length (Triples.flat3 x.b.bs) ∧ u9.ownsRow N 50 8 (.slice x.ats x.b.ts.length x.ct) x.b.ts.length (Tup8.flat8 x.b.ts) from ⟨World.ownsRow.kept (unhide RA).o.oa gr9 (row_ne (unhide RA).o.oa (unhide RA).o.ol (by decide)), World.ownsRow.kept (unhide RA).o.oi gr9 (row_ne (unhide RA).o.oi (unhide RA).o.ol (by decide)), World.ownsRow.kept (unhide RA).o.ob gr9 (row_ne (unhide RA).o.ob (unhide RA).o.ol (by decide)), World.ownsRow.kept (unhide RA).o.ot gr9 (row_ne (unhide RA).o.ot (unhide RA).o.ol (by decide))⟩)
    have RR := hide (show u9.heap[B]? = some (.cells #[.pointer (some ⟨D, 0, none⟩)] 78 (0, 0)) ∧ Below w0.heap.size w0 u9 ∧ N ≤ u9.heap.size from ⟨(gr9.block B (by have := (unhide RA).ltB; exact this) (fun e => by have := BL _ e.symm; omega)).trans (unhide RA).q, (unhide RA).b.grown gr9 (unhide RA).b.size (fun j hj => by have := BL _ hj; omega), Nat.le_trans (unhide RA).n gr9.size⟩)
    have KA := hide (show Kp W u9 from ((unhide KX).trans (Kp.drew (Kp.below (one_more u.drew (.cells #[.int .i64 r0, .int .i64 r1, .int .i64 r2, .int .i64 r3, .int .i64 r4] 48))))).trans (Kp.grown gr9 (fun j hj => by obtain ⟨c, hc⟩ := row_typ (unhide RA).o.ol j hj; exact ⟨_, hc, rfl⟩)))
    have fr9 : u9.frozen? ⟨D, 3, none⟩ = false := (unhide R9).2.free 3
    have bc9 := (unhide R9).2.c3
    have SB := hide ((unhide R9).2.set3 (.slice (some ⟨g9, 0, none⟩) (x.b.ls.length + 1) c9))
    have KC : u9.cell? ⟨B, 0, none⟩ = some (.pointer (some ⟨D, 0, none⟩)) ∧ u9.cell? ⟨W.heap.size + 1, 0, none⟩ = some (.int .i64 r0) ∧ u9.cell? ⟨W.heap.size + 1, 1, none⟩ = some (.int .i64 r1) ∧ u9.cell? ⟨W.heap.size + 1, 2, none⟩ = some (.int .i64 r2) ∧ u9.cell? ⟨W.heap.size + 1, 3, none⟩ = some (.int .i64 r3) ∧ u9.cell? ⟨W.heap.size + 1, 4, none⟩ = some (.int .i64 r4) := ⟨gr9.cell KB.1 (fun e => by have := BL _ e.symm; simp only at this; omega), gr9.cell KB.2.1 (fun e => by exact NE e), gr9.cell KB.2.2.1 (fun e => by exact NE e), gr9.cell KB.2.2.2.1 (fun e => by exact NE e), gr9.cell KB.2.2.2.2.1 (fun e => by exact NE e), gr9.cell KB.2.2.2.2.2 (fun e => by exact NE e)⟩
    have KD : (u9.setCell ⟨D, 3, none⟩ (.slice (some ⟨g9, 0, none⟩) (x.b.ls.length + 1) c9)).cell? ⟨B, 0, none⟩ = some (.pointer (some ⟨D, 0, none⟩)) ∧ (u9.setCell ⟨D, 3, none⟩ (.slice (some ⟨g9, 0, none⟩) (x.b.ls.length + 1) c9)).cell? ⟨W.heap.size + 1, 0, none⟩ = some (.int .i64 r0) ∧ (u9.setCell ⟨D, 3, none⟩ (.slice (some ⟨g9, 0, none⟩) (x.b.ls.length + 1) c9)).cell? ⟨W.heap.size + 1, 1, none⟩ = some (.int .i64 r1) ∧ (u9.setCell ⟨D, 3, none⟩ (.slice (some ⟨g9, 0, none⟩) (x.b.ls.length + 1) c9)).cell? ⟨W.heap.size + 1, 2, none⟩ = some (.int .i64 r2) ∧ (u9.setCell ⟨D, 3, none⟩ (.slice (some ⟨g9, 0, none⟩) (x.b.ls.length + 1) c9)).cell? ⟨W.heap.size + 1, 3, none⟩ = some (.int .i64 r3) ∧ (u9.setCell ⟨D, 3, none⟩ (.slice (some ⟨g9, 0, none⟩) (x.b.ls.length + 1) c9)).cell? ⟨W.heap.size + 1, 4, none⟩ = some (.int .i64 r4) := ⟨(cell_grown (unhide SB).2 0 (g := B) (by have := (unhide RA).ltB; have := gr9.size; omega) (fun e => dq e.symm)).trans KC.1, (cell_grown (unhide SB).2 0 (g := W.heap.size + 1) (by have := gr9.size; simp at this; omega) (by omega)).trans KC.2.1, (cell_grown (unhide SB).2 1 (g := W.heap.size + 1) (by have := gr9.size; simp at this; omega) (by omega)).trans KC.2.2.1, (cell_grown (unhide SB).2 2 (g := W.heap.size + 1) (by have := gr9.size; simp at this; omega) (by omega)).trans KC.2.2.2.1, (cell_grown (unhide SB).2 3 (g := W.heap.size + 1) (by have := gr9.size; simp at this; omega) (by omega)).trans KC.2.2.2.2.1, (cell_grown (unhide SB).2 4 (g := W.heap.size + 1) (by have := gr9.size; simp at this; omega) (by omega)).trans KC.2.2.2.2.2⟩
    clear o9
    refine hK.out _ _ KC (fun hHeld => ?_)
    clear hK K
    try simp only [oC37, Act.put, List.setIfInBounds_toArray, List.set_cons_zero, List.set_cons_succ]
    refine wpAnyH_take (i := 8) (oi := oC38) (v := .pointer (some ⟨D, 0, none⟩)) rfl (by kernel_rfl) (by kernel_rfl) (by kernel_rfl) (fun _ _ _ h => h) (Or.inl ⟨by rfl, fun w hSw => ?_⟩) hHeld ?_
    · (try dsimp only at hSw)
      unfold oC38
      go_simp
    try simp only [oC38, Act.put, List.setIfInBounds_toArray, List.set_cons_zero, List.set_cons_succ]
    refine wpAnyH_take (i := 9) (oi := oC39) (v := .pointer (some ⟨D, 3, none⟩)) rfl (by kernel_rfl) (by kernel_rfl) (by kernel_rfl) (fun _ _ _ h => h) (Or.inl ⟨by rfl, fun w hSw => ?_⟩) hHeld ?_
    · (try dsimp only at hSw)
      unfold oC39
      go_simp
    try simp only [oC39, Act.put, List.setIfInBounds_toArray, List.set_cons_zero, List.set_cons_succ]
    refine wpAnyH_ready (rs := [10]) (by kernel_rfl) (by simp) ?_
    refine AllReadyH.cons (o := oC310) rfl (fun K hK => ?_) AllReadyH.nil
    unfold oC310
    go_simp
    refine hK.out _ _ KD (fun hHeld => ?_)
    clear hK K
    try simp only [oC310, Act.put, List.setIfInBounds_toArray, List.set_cons_zero, List.set_cons_succ]
    refine wpAnyH_done (by kernel_rfl) ?_ _
    clear K0 KB KC KD bc bcD bcA bc9 fr9 eB e0 e1 e2 e3 e4
    go_wp2
    go_end0
    obtain ⟨sb, sg⟩ := unhide SB
    obtain ⟨h0, h1, h2, h4⟩ := unhide OO
    obtain ⟨q9, b9, n9⟩ := unhide RR
    have ln : (x.b.ls ++ [r5 [r0, r1, r2, r3, r4]]).length = x.b.ls.length + 1 := by simp
    refine .inr ⟨rfl, rfl, (unhide KA).trans (Kp.grown sg (fun j hj => by injection hj with hj; subst hj; obtain ⟨c, hc⟩ := row_typ (unhide R9).2 _ rfl; exact ⟨_, hc, rfl⟩)), (⟨x.aa, x.ca, x.ai, x.ci, x.ab, x.cb, some ⟨g9, 0, none⟩, c9, x.ats, x.ct, ⟨x.b.ac, x.b.ic, x.b.bs, x.b.ls ++ [r5 [r0, r1, r2, r3, r4]], x.b.ts, x.b.lot⟩⟩ : Ix), rfl, ⟨Ints.Own.kept (unhide R9).1 sg (by simpa using pd), ?_, ⟨row_kept h0 sg d1, row_kept h1 sg d1, row_kept h2 sg d1, ?_, row_kept h4 sg d1⟩, (sg.block B (by have := Array.getElem?_eq_some_iff.1 q9; exact this.1) (fun e => dq (by injection e with e; exact e.symm))).trans q9, b9.grown sg b9.size (fun j hj => by injection hj with hj; omega), Nat.le_trans n9 sg.size⟩⟩
    · show Box _ _ _ (.slice x.aa x.b.ac.length x.ca) (.slice x.ai x.b.ic.length x.ci) (.slice x.ab x.b.bs.length x.cb) (.slice (some ⟨g9, 0, none⟩) (x.b.ls ++ [r5 [r0, r1, r2, r3, r4]]).length c9) (.slice x.ats x.b.ts.length x.ct) (.int .i64 x.b.lot)
      rw [ln]
      exact sb
    · show World.ownsRow _ _ _ _ _ _ _
      have o := row_kept (unhide O9) sg d1
      simp only [ln]
      rw [show Tup5.flat5 (x.b.ls ++ [r5 [r0, r1, r2, r3, r4]]) = Tup5.flat5 x.b.ls ++ [.int .i64 r0, .int .i64 r1, .int .i64 r2, .int .i64 r3, .int .i64 r4] from flat_f _ _ _ _ _ _]
      exact o
  · unfold oC36
    go_simp
    refine hK.out _ _ KB (fun hHeld => ?_)
    clear hK K
    try simp only [oC36, Act.put, List.setIfInBounds_toArray, List.set_cons_zero, List.set_cons_succ]
    refine wpAnyH_ready (rs := [4]) (by kernel_rfl) (by simp) ?_
    refine AllReadyH.cons (o := oC34) rfl (fun K hK => ?_) AllReadyH.nil
    unfold oC34
    go_simp
    refine hK.out _ _ KB (fun hHeld => ?_)
    clear hK K
    try simp only [oC34, Act.put, List.setIfInBounds_toArray, List.set_cons_zero, List.set_cons_succ]
    refine wpAnyH_ready (rs := [7]) (by kernel_rfl) (by simp) ?_
    refine AllReadyH.cons (o := oC37) rfl (fun K hK => ?_) AllReadyH.nil
    refine step_app (u.drew.alloc (.cells #[.int .i64 r0, .int .i64 r1, .int .i64 r2, .int .i64 r3, .int .i64 r4] 48)) (by rfl) _ _ 26 48 (by rfl) (.agg #[.int .i64 0, .int .i64 0, .int .i64 0, .int .i64 0, .int .i64 0]) 5 40 Tryz.underlying26 info_ls rfl (by decide) (by decide) N (.slice x.al x.b.ls.length x.cl) x.b.ls.length (Tup5.flat5 x.b.ls) u.drew.heap.size [.int .i64 r0, .int .i64 r1, .int .i64 r2, .int .i64 r3, .int .i64 r4] (by rfl) (by rfl) (row_step (W := u.drew) ro (one_more u.drew (.cells #[.int .i64 r0, .int .i64 r1, .int .i64 r2, .int .i64 r3, .int .i64 r4] 48))) rfl (litm u.drew _ _ _ (by rfl)) (by simp [Value.oneCell']) (by omega) (Nat.le_trans (show N ≤ u.drew.heap.size from rn) (by simp)) ?_
    intro g9 c9 u9 o9 gr9
    have BL : ∀ j, (.slice x.al x.b.ls.length x.cl : Value).ownBlock = some j → N ≤ j := fun j hj => (World.ownsRow.lt ro j hj).1
    have BM : ∀ j, (.slice x.al x.b.ls.length x.cl : Value).ownBlock = some j → j < u.heap.size := fun j hj => (World.ownsRow.lt ro j hj).2
    have NE := NW
    have RA := hide ((show Rs w0 u.drew p D B N s' x from rs_drew (unhide RX)).step (one_more u.drew (.cells #[.int .i64 r0, .int .i64 r1, .int .i64 r2, .int .i64 r3, .int .i64 r4] 48)))
    have R9 := hide (show Pl u9 w0.heap.size p s' ∧ Box u9 w0.heap.size D (.slice x.aa x.b.ac.length x.ca) (.slice x.ai x.b.ic.length x.ci) (.slice x.ab x.b.bs.length x.cb) (.slice x.al x.b.ls.length x.cl) (.slice x.ats x.b.ts.length x.ct) (.int .i64 x.b.lot) from ⟨Ints.Own.kept (unhide RA).pl gr9 (fun e => by have := BL _ e.symm; omega), (unhide RA).bx.kept gr9 (fun e => by have := BL _ e.symm; omega)⟩)
    have O9 := hide o9
    have OO := hide (show u9.ownsRow N 43 2 (.slice x.aa x.b.ac.length x.ca) x.b.ac.length (Pairs.flat x.b.ac) ∧ u9.ownsRow N 44 2 (.slice x.ai x.b.ic.length x.ci) x.b.ic.length (Pairs.flat x.b.ic) ∧ u9.ownsRow N 46 3 (.slice x.ab x.b.bs.length x.cb) x.b.bs.length (Triples.flat3 x.b.bs) ∧ u9.ownsRow N 50 8 (.slice x.ats x.b.ts.length x.ct) x.b.ts.length (Tup8.flat8 x.b.ts) from ⟨World.ownsRow.kept (unhide RA).o.oa gr9 (row_ne (unhide RA).o.oa (unhide RA).o.ol (by decide)), World.ownsRow.kept (unhide RA).o.oi gr9 (row_ne (unhide RA).o.oi (unhide RA).o.ol (by decide)), World.ownsRow.kept (unhide RA).o.ob gr9 (row_ne (unhide RA).o.ob (unhide RA).o.ol (by decide)), World.ownsRow.kept (unhide RA).o.ot gr9 (row_ne (unhide RA).o.ot (unhide RA).o.ol (by decide))⟩)
    have RR := hide (show u9.heap[B]? = some (.cells #[.pointer (some ⟨D, 0, none⟩)] 78 (0, 0)) ∧ Below w0.heap.size w0 u9 ∧ N ≤ u9.heap.size from ⟨(gr9.block B (by have := (unhide RA).ltB; exact this) (fun e => by have := BL _ e.symm; omega)).trans (unhide RA).q, (unhide RA).b.grown gr9 (unhide RA).b.size (fun j hj => by have := BL _ hj; omega), Nat.le_trans (unhide RA).n gr9.size⟩)
    have KA := hide (show Kp W u9 from ((unhide KX).trans (Kp.drew (Kp.below (one_more u.drew (.cells #[.int .i64 r0, .int .i64 r1, .int .i64 r2, .int .i64 r3, .int .i64 r4] 48))))).trans (Kp.grown gr9 (fun j hj => by obtain ⟨c, hc⟩ := row_typ (unhide RA).o.ol j hj; exact ⟨_, hc, rfl⟩)))
    have fr9 : u9.frozen? ⟨D, 3, none⟩ = false := (unhide R9).2.free 3
    have bc9 := (unhide R9).2.c3
    have SB := hide ((unhide R9).2.set3 (.slice (some ⟨g9, 0, none⟩) (x.b.ls.length + 1) c9))
    have KC : u9.cell? ⟨B, 0, none⟩ = some (.pointer (some ⟨D, 0, none⟩)) ∧ u9.cell? ⟨W.heap.size + 1, 0, none⟩ = some (.int .i64 r0) ∧ u9.cell? ⟨W.heap.size + 1, 1, none⟩ = some (.int .i64 r1) ∧ u9.cell? ⟨W.heap.size + 1, 2, none⟩ = some (.int .i64 r2) ∧ u9.cell? ⟨W.heap.size + 1, 3, none⟩ = some (.int .i64 r3) ∧ u9.cell? ⟨W.heap.size + 1, 4, none⟩ = some (.int .i64 r4) := ⟨gr9.cell KB.1 (fun e => by have := BL _ e.symm; simp only at this; omega), gr9.cell KB.2.1 (fun e => by exact NE e), gr9.cell KB.2.2.1 (fun e => by exact NE e), gr9.cell KB.2.2.2.1 (fun e => by exact NE e), gr9.cell KB.2.2.2.2.1 (fun e => by exact NE e), gr9.cell KB.2.2.2.2.2 (fun e => by exact NE e)⟩
    have KD : (u9.setCell ⟨D, 3, none⟩ (.slice (some ⟨g9, 0, none⟩) (x.b.ls.length + 1) c9)).cell? ⟨B, 0, none⟩ = some (.pointer (some ⟨D, 0, none⟩)) ∧ (u9.setCell ⟨D, 3, none⟩ (.slice (some ⟨g9, 0, none⟩) (x.b.ls.length + 1) c9)).cell? ⟨W.heap.size + 1, 0, none⟩ = some (.int .i64 r0) ∧ (u9.setCell ⟨D, 3, none⟩ (.slice (some ⟨g9, 0, none⟩) (x.b.ls.length + 1) c9)).cell? ⟨W.heap.size + 1, 1, none⟩ = some (.int .i64 r1) ∧ (u9.setCell ⟨D, 3, none⟩ (.slice (some ⟨g9, 0, none⟩) (x.b.ls.length + 1) c9)).cell? ⟨W.heap.size + 1, 2, none⟩ = some (.int .i64 r2) ∧ (u9.setCell ⟨D, 3, none⟩ (.slice (some ⟨g9, 0, none⟩) (x.b.ls.length + 1) c9)).cell? ⟨W.heap.size + 1, 3, none⟩ = some (.int .i64 r3) ∧ (u9.setCell ⟨D, 3, none⟩ (.slice (some ⟨g9, 0, none⟩) (x.b.ls.length + 1) c9)).cell? ⟨W.heap.size + 1, 4, none⟩ = some (.int .i64 r4) := ⟨(cell_grown (unhide SB).2 0 (g := B) (by have := (unhide RA).ltB; have := gr9.size; omega) (fun e => dq e.symm)).trans KC.1, (cell_grown (unhide SB).2 0 (g := W.heap.size + 1) (by have := gr9.size; simp at this; omega) (by omega)).trans KC.2.1, (cell_grown (unhide SB).2 1 (g := W.heap.size + 1) (by have := gr9.size; simp at this; omega) (by omega)).trans KC.2.2.1, (cell_grown (unhide SB).2 2 (g := W.heap.size + 1) (by have := gr9.size; simp at this; omega) (by omega)).trans KC.2.2.2.1, (cell_grown (unhide SB).2 3 (g := W.heap.size + 1) (by have := gr9.size; simp at this; omega) (by omega)).trans KC.2.2.2.2.1, (cell_grown (unhide SB).2 4 (g := W.heap.size + 1) (by have := gr9.size; simp at this; omega) (by omega)).trans KC.2.2.2.2.2⟩
    clear o9
    refine hK.out _ _ KC (fun hHeld => ?_)
    clear hK K
    try simp only [oC37, Act.put, List.setIfInBounds_toArray, List.set_cons_zero, List.set_cons_succ]
    refine wpAnyH_take (i := 8) (oi := oC38) (v := .pointer (some ⟨D, 0, none⟩)) rfl (by kernel_rfl) (by kernel_rfl) (by kernel_rfl) (fun _ _ _ h => h) (Or.inl ⟨by rfl, fun w hSw => ?_⟩) hHeld ?_
    · (try dsimp only at hSw)
      unfold oC38
      go_simp
    try simp only [oC38, Act.put, List.setIfInBounds_toArray, List.set_cons_zero, List.set_cons_succ]
    refine wpAnyH_take (i := 9) (oi := oC39) (v := .pointer (some ⟨D, 3, none⟩)) rfl (by kernel_rfl) (by kernel_rfl) (by kernel_rfl) (fun _ _ _ h => h) (Or.inl ⟨by rfl, fun w hSw => ?_⟩) hHeld ?_
    · (try dsimp only at hSw)
      unfold oC39
      go_simp
    try simp only [oC39, Act.put, List.setIfInBounds_toArray, List.set_cons_zero, List.set_cons_succ]
    refine wpAnyH_ready (rs := [10]) (by kernel_rfl) (by simp) ?_
    refine AllReadyH.cons (o := oC310) rfl (fun K hK => ?_) AllReadyH.nil
    unfold oC310
    go_simp
    refine hK.out _ _ KD (fun hHeld => ?_)
    clear hK K
    try simp only [oC310, Act.put, List.setIfInBounds_toArray, List.set_cons_zero, List.set_cons_succ]
    refine wpAnyH_done (by kernel_rfl) ?_ _
    clear K0 KB KC KD bc bcD bcA bc9 fr9 eB e0 e1 e2 e3 e4
    go_wp2
    go_end0
    obtain ⟨sb, sg⟩ := unhide SB
    obtain ⟨h0, h1, h2, h4⟩ := unhide OO
    obtain ⟨q9, b9, n9⟩ := unhide RR
    have ln : (x.b.ls ++ [r5 [r0, r1, r2, r3, r4]]).length = x.b.ls.length + 1 := by simp
    refine .inr ⟨rfl, rfl, (unhide KA).trans (Kp.grown sg (fun j hj => by injection hj with hj; subst hj; obtain ⟨c, hc⟩ := row_typ (unhide R9).2 _ rfl; exact ⟨_, hc, rfl⟩)), (⟨x.aa, x.ca, x.ai, x.ci, x.ab, x.cb, some ⟨g9, 0, none⟩, c9, x.ats, x.ct, ⟨x.b.ac, x.b.ic, x.b.bs, x.b.ls ++ [r5 [r0, r1, r2, r3, r4]], x.b.ts, x.b.lot⟩⟩ : Ix), rfl, ⟨Ints.Own.kept (unhide R9).1 sg (by simpa using pd), ?_, ⟨row_kept h0 sg d1, row_kept h1 sg d1, row_kept h2 sg d1, ?_, row_kept h4 sg d1⟩, (sg.block B (by have := Array.getElem?_eq_some_iff.1 q9; exact this.1) (fun e => dq (by injection e with e; exact e.symm))).trans q9, b9.grown sg b9.size (fun j hj => by injection hj with hj; omega), Nat.le_trans n9 sg.size⟩⟩
    · show Box _ _ _ (.slice x.aa x.b.ac.length x.ca) (.slice x.ai x.b.ic.length x.ci) (.slice x.ab x.b.bs.length x.cb) (.slice (some ⟨g9, 0, none⟩) (x.b.ls ++ [r5 [r0, r1, r2, r3, r4]]).length c9) (.slice x.ats x.b.ts.length x.ct) (.int .i64 x.b.lot)
      rw [ln]
      exact sb
    · show World.ownsRow _ _ _ _ _ _ _
      have o := row_kept (unhide O9) sg d1
      simp only [ln]
      rw [show Tup5.flat5 (x.b.ls ++ [r5 [r0, r1, r2, r3, r4]]) = Tup5.flat5 x.b.ls ++ [.int .i64 r0, .int .i64 r1, .int .i64 r2, .int .i64 r3, .int .i64 r4] from flat_f _ _ _ _ _ _]
      exact o
set_option maxRecDepth 100000 in
set_option maxHeartbeats 4000000 in
theorem cl4 (w0 W : World) (gl cl p D B N : Nat) (xs : List Int) (et : TypeId) (ev : Value) (s : Int) (x : Ix) (G : Pg w0 gl cl p D B N xs et ev) (R : Rs w0 W p D B N s x) (hs : s ≤ 9223372036854775807) (hl : x.b.ts.length ≤ 1000) :
    Calls Tryz.prog 66 #[.agg #[.slice (some ⟨gl, 0, none⟩) xs.length cl, .pointer (some ⟨p, 0, none⟩)], .pointer (some ⟨B, 0, none⟩)] W (ClS 4 (gets xs 8 s []) w0 W p D B N x) := by
  obtain ⟨l0, l1, g, a, e, z, p0, p1, d0, d1, q0, q1, pd, pq, dq⟩ := G
  have nn := R.n
  have BU := hide (show Below W.heap.size W (((W.alloc (.cells #[.slice (some ⟨gl, 0, none⟩) xs.length cl, .pointer (some ⟨p, 0, none⟩)] 75)).alloc (.cells #[.int .i64 0, .int .i64 0, .int .i64 0, .int .i64 0, .int .i64 0, .int .i64 0, .int .i64 0, .int .i64 0] 50)).alloc (.cells #[.pointer (some ⟨W.heap.size + 1, 0, none⟩), .pointer (some ⟨W.heap.size + 1, 1, none⟩), .pointer (some ⟨W.heap.size + 1, 2, none⟩), .pointer (some ⟨W.heap.size + 1, 3, none⟩), .pointer (some ⟨W.heap.size + 1, 4, none⟩), .pointer (some ⟨W.heap.size + 1, 5, none⟩), .pointer (some ⟨W.heap.size + 1, 6, none⟩), .pointer (some ⟨W.heap.size + 1, 7, none⟩)] 73)) from (((Below.refl _ _).alloc (Nat.le_refl _) _).alloc (by simp) _).alloc (by simp; omega) _)
  have RU := hide (R.step (unhide BU))
  have TU := hide (show Tg (((W.alloc (.cells #[.slice (some ⟨gl, 0, none⟩) xs.length cl, .pointer (some ⟨p, 0, none⟩)] 75)).alloc (.cells #[.int .i64 0, .int .i64 0, .int .i64 0, .int .i64 0, .int .i64 0, .int .i64 0, .int .i64 0, .int .i64 0] 50)).alloc (.cells #[.pointer (some ⟨W.heap.size + 1, 0, none⟩), .pointer (some ⟨W.heap.size + 1, 1, none⟩), .pointer (some ⟨W.heap.size + 1, 2, none⟩), .pointer (some ⟨W.heap.size + 1, 3, none⟩), .pointer (some ⟨W.heap.size + 1, 4, none⟩), .pointer (some ⟨W.heap.size + 1, 5, none⟩), .pointer (some ⟨W.heap.size + 1, 6, none⟩), .pointer (some ⟨W.heap.size + 1, 7, none⟩)] 73)) w0.heap.size 50 8 (W.heap.size + 1) [.int .i64 0, .int .i64 0, .int .i64 0, .int .i64 0, .int .i64 0, .int .i64 0, .int .i64 0, .int .i64 0] from by
    have := World.ownsRow.alloc (World.ownsRow_lit (base := w0.heap.size) (size := 8) (e := 50) (W.alloc (.cells #[.slice (some ⟨gl, 0, none⟩) xs.length cl, .pointer (some ⟨p, 0, none⟩)] 75)) #[.int .i64 0, .int .i64 0, .int .i64 0, .int .i64 0, .int .i64 0, .int .i64 0, .int .i64 0, .int .i64 0] 1 (by have := R.b.size; simp; omega) (by decide) rfl) (.cells #[.pointer (some ⟨W.heap.size + 1, 0, none⟩), .pointer (some ⟨W.heap.size + 1, 1, none⟩), .pointer (some ⟨W.heap.size + 1, 2, none⟩), .pointer (some ⟨W.heap.size + 1, 3, none⟩), .pointer (some ⟨W.heap.size + 1, 4, none⟩), .pointer (some ⟨W.heap.size + 1, 5, none⟩), .pointer (some ⟨W.heap.size + 1, 6, none⟩), .pointer (some ⟨W.heap.size + 1, 7, none⟩)] 73)
    simpa [Tg] using this)
  have PU := hide (show Ptr (((W.alloc (.cells #[.slice (some ⟨gl, 0, none⟩) xs.length cl, .pointer (some ⟨p, 0, none⟩)] 75)).alloc (.cells #[.int .i64 0, .int .i64 0, .int .i64 0, .int .i64 0, .int .i64 0, .int .i64 0, .int .i64 0, .int .i64 0] 50)).alloc (.cells #[.pointer (some ⟨W.heap.size + 1, 0, none⟩), .pointer (some ⟨W.heap.size + 1, 1, none⟩), .pointer (some ⟨W.heap.size + 1, 2, none⟩), .pointer (some ⟨W.heap.size + 1, 3, none⟩), .pointer (some ⟨W.heap.size + 1, 4, none⟩), .pointer (some ⟨W.heap.size + 1, 5, none⟩), .pointer (some ⟨W.heap.size + 1, 6, none⟩), .pointer (some ⟨W.heap.size + 1, 7, none⟩)] 73)) (W.heap.size + 2) (W.heap.size + 1) 8 from fun i hi => by
    have : i = 0 ∨ i = 1 ∨ i = 2 ∨ i = 3 ∨ i = 4 ∨ i = 5 ∨ i = 6 ∨ i = 7 := by omega
    have q := litm ((W.alloc (.cells #[.slice (some ⟨gl, 0, none⟩) xs.length cl, .pointer (some ⟨p, 0, none⟩)] 75)).alloc (.cells #[.int .i64 0, .int .i64 0, .int .i64 0, .int .i64 0, .int .i64 0, .int .i64 0, .int .i64 0, .int .i64 0] 50)) [.pointer (some ⟨W.heap.size + 1, 0, none⟩), .pointer (some ⟨W.heap.size + 1, 1, none⟩), .pointer (some ⟨W.heap.size + 1, 2, none⟩), .pointer (some ⟨W.heap.size + 1, 3, none⟩), .pointer (some ⟨W.heap.size + 1, 4, none⟩), .pointer (some ⟨W.heap.size + 1, 5, none⟩), .pointer (some ⟨W.heap.size + 1, 6, none⟩), .pointer (some ⟨W.heap.size + 1, 7, none⟩)] 73 #[.pointer (some ⟨W.heap.size + 1, 0, none⟩), .pointer (some ⟨W.heap.size + 1, 1, none⟩), .pointer (some ⟨W.heap.size + 1, 2, none⟩), .pointer (some ⟨W.heap.size + 1, 3, none⟩), .pointer (some ⟨W.heap.size + 1, 4, none⟩), .pointer (some ⟨W.heap.size + 1, 5, none⟩), .pointer (some ⟨W.heap.size + 1, 6, none⟩), .pointer (some ⟨W.heap.size + 1, 7, none⟩)] rfl i
    rw [show ((W.alloc (.cells #[.slice (some ⟨gl, 0, none⟩) xs.length cl, .pointer (some ⟨p, 0, none⟩)] 75)).alloc (.cells #[.int .i64 0, .int .i64 0, .int .i64 0, .int .i64 0, .int .i64 0, .int .i64 0, .int .i64 0, .int .i64 0] 50)).heap.size = W.heap.size + 2 by simp] at q
    rcases this with rfl | rfl | rfl | rfl | rfl | rfl | rfl | rfl <;> exact q _ rfl)
  have us : ((((W.alloc (.cells #[.slice (some ⟨gl, 0, none⟩) xs.length cl, .pointer (some ⟨p, 0, none⟩)] 75)).alloc (.cells #[.int .i64 0, .int .i64 0, .int .i64 0, .int .i64 0, .int .i64 0, .int .i64 0, .int .i64 0, .int .i64 0] 50)).alloc (.cells #[.pointer (some ⟨W.heap.size + 1, 0, none⟩), .pointer (some ⟨W.heap.size + 1, 1, none⟩), .pointer (some ⟨W.heap.size + 1, 2, none⟩), .pointer (some ⟨W.heap.size + 1, 3, none⟩), .pointer (some ⟨W.heap.size + 1, 4, none⟩), .pointer (some ⟨W.heap.size + 1, 5, none⟩), .pointer (some ⟨W.heap.size + 1, 6, none⟩), .pointer (some ⟨W.heap.size + 1, 7, none⟩)] 73))).heap.size = W.heap.size + 3 := by simp
  have MU := hide (iMust (((W.alloc (.cells #[.slice (some ⟨gl, 0, none⟩) xs.length cl, .pointer (some ⟨p, 0, none⟩)] 75)).alloc (.cells #[.int .i64 0, .int .i64 0, .int .i64 0, .int .i64 0, .int .i64 0, .int .i64 0, .int .i64 0, .int .i64 0] 50)).alloc (.cells #[.pointer (some ⟨W.heap.size + 1, 0, none⟩), .pointer (some ⟨W.heap.size + 1, 1, none⟩), .pointer (some ⟨W.heap.size + 1, 2, none⟩), .pointer (some ⟨W.heap.size + 1, 3, none⟩), .pointer (some ⟨W.heap.size + 1, 4, none⟩), .pointer (some ⟨W.heap.size + 1, 5, none⟩), .pointer (some ⟨W.heap.size + 1, 6, none⟩), .pointer (some ⟨W.heap.size + 1, 7, none⟩)] 73)) gl cl p w0.heap.size 50 8 (W.heap.size + 1) (W.heap.size + 2) 8 8 xs s [.int .i64 0, .int .i64 0, .int .i64 0, .int .i64 0, .int .i64 0, .int .i64 0, .int .i64 0, .int .i64 0] ev et hs l0 l1 g (a.below (unhide RU).b g) (unhide RU).pl (unhide TU) (fun i hi => by
    have : i = 0 ∨ i = 1 ∨ i = 2 ∨ i = 3 ∨ i = 4 ∨ i = 5 ∨ i = 6 ∨ i = 7 := by omega
    rcases this with rfl | rfl | rfl | rfl | rfl | rfl | rfl | rfl <;> exact ⟨0, rfl⟩) (unhide PU) (by omega) (by omega) (by omega) (by omega) (by omega) (((unhide RU).b.cell (p := ⟨0, 0, none⟩) z).trans e) z)
  have GL := hide (gets_len xs 8 s [])
  have GA := hide (gets_all xs 8 s [] (by simp))
  have RW := hide R
  clear a e R TU PU us
  generalize gets xs 8 s [] = r at *
  obtain ⟨l, s', ok⟩ := r
  go_enter Tryz.func66, Tryz.ntmps66
  go_wp2_with fail
  refine (unhide MU).mono ?_
  rintro e u (⟨h1, ⟨eu, ee, rfl⟩, h3⟩ | ⟨h1, rfl, h3, h4, h5⟩)
  · have b1 := (unhide BU)
    have g3 := h3.to (B := w0.heap.size) (by have := (unhide RW).b.size; have := b1.size; omega) p0 (by have := (unhide RW).b.size; omega)
    exact ⟨rfl, .inl ⟨h1, ⟨eu, ee, rfl⟩, (unhide RU).b.trans g3⟩⟩
  simp only at h1
  subst h1
  have ll := (unhide GL) rfl
  obtain ⟨r0, r1, r2, r3, r4, r5, r6, r7, rfl⟩ := list8 (show l.length = 8 from by simpa using ll)
  have GW := hide (show W.grownBy u (some p) from Gr2.grown (((Gr2.refl W p (W.heap.size + 1)).step (unhide BU)).trans h3) (by omega))
  have RV := hide ((unhide RW).moved (unhide GW) p0 p1 pd pq h4)
  have TV := hide (show Tg u w0.heap.size 50 8 (W.heap.size + 1) [.int .i64 r0, .int .i64 r1, .int .i64 r2, .int .i64 r3, .int .i64 r4, .int .i64 r5, .int .i64 r6, .int .i64 r7] from h5)
  have FA := hide ((unhide GA) rfl)
  have KV := hide (Kp.grown (unhide GW) (fun j hj => by injection hj with hj; subst hj; exact (unhide RW).typP))
  clear ll h3 h4 h5 GL GA MU RU BU GW
  have dl := (unhide TV).lt
  go_wp2_with fail
  have RX := RV
  have KX := KV
  have TX := TV
  clear RV KV TV
  have dl := (unhide TX).lt
  have rl := (unhide RX).ltB
  have rn := (unhide RX).n
  have dD := (unhide RX).bx.lt.2
  have ro := (unhide RX).o.ot
  have e0 : u.cell? ⟨W.heap.size + 1, 0, none⟩ = some (.int .i64 r0) := (unhide TX).at rfl
  have e1 : u.cell? ⟨W.heap.size + 1, 1, none⟩ = some (.int .i64 r1) := (unhide TX).at rfl
  have e2 : u.cell? ⟨W.heap.size + 1, 2, none⟩ = some (.int .i64 r2) := (unhide TX).at rfl
  have e3 : u.cell? ⟨W.heap.size + 1, 3, none⟩ = some (.int .i64 r3) := (unhide TX).at rfl
  have e4 : u.cell? ⟨W.heap.size + 1, 4, none⟩ = some (.int .i64 r4) := (unhide TX).at rfl
  have e5 : u.cell? ⟨W.heap.size + 1, 5, none⟩ = some (.int .i64 r5) := (unhide TX).at rfl
  have e6 : u.cell? ⟨W.heap.size + 1, 6, none⟩ = some (.int .i64 r6) := (unhide TX).at rfl
  have e7 : u.cell? ⟨W.heap.size + 1, 7, none⟩ = some (.int .i64 r7) := (unhide TX).at rfl
  have eB := (unhide RX).cellB
  have bc := (unhide RX).bx.c4
  have NW : some (W.heap.size + 1) ≠ (.slice x.ats x.b.ts.length x.ct : Value).ownBlock := fun e => by
    have := (World.ownsRow.lt (unhide RW).o.ot _ e.symm).2
    omega
  have K0 : u.cell? ⟨B, 0, none⟩ = some (.pointer (some ⟨D, 0, none⟩)) ∧ u.cell? ⟨W.heap.size + 1, 0, none⟩ = some (.int .i64 r0) ∧ u.cell? ⟨W.heap.size + 1, 1, none⟩ = some (.int .i64 r1) ∧ u.cell? ⟨W.heap.size + 1, 2, none⟩ = some (.int .i64 r2) ∧ u.cell? ⟨W.heap.size + 1, 3, none⟩ = some (.int .i64 r3) ∧ u.cell? ⟨W.heap.size + 1, 4, none⟩ = some (.int .i64 r4) ∧ u.cell? ⟨W.heap.size + 1, 5, none⟩ = some (.int .i64 r5) ∧ u.cell? ⟨W.heap.size + 1, 6, none⟩ = some (.int .i64 r6) ∧ u.cell? ⟨W.heap.size + 1, 7, none⟩ = some (.int .i64 r7) := ⟨eB, e0, e1, e2, e3, e4, e5, e6, e7⟩
  have KB : (u.drew.alloc (.cells #[.int .i64 r0, .int .i64 r1, .int .i64 r2, .int .i64 r3, .int .i64 r4, .int .i64 r5, .int .i64 r6, .int .i64 r7] 50)).cell? ⟨B, 0, none⟩ = some (.pointer (some ⟨D, 0, none⟩)) ∧ (u.drew.alloc (.cells #[.int .i64 r0, .int .i64 r1, .int .i64 r2, .int .i64 r3, .int .i64 r4, .int .i64 r5, .int .i64 r6, .int .i64 r7] 50)).cell? ⟨W.heap.size + 1, 0, none⟩ = some (.int .i64 r0) ∧ (u.drew.alloc (.cells #[.int .i64 r0, .int .i64 r1, .int .i64 r2, .int .i64 r3, .int .i64 r4, .int .i64 r5, .int .i64 r6, .int .i64 r7] 50)).cell? ⟨W.heap.size + 1, 1, none⟩ = some (.int .i64 r1) ∧ (u.drew.alloc (.cells #[.int .i64 r0, .int .i64 r1, .int .i64 r2, .int .i64 r3, .int .i64 r4, .int .i64 r5, .int .i64 r6, .int .i64 r7] 50)).cell? ⟨W.heap.size + 1, 2, none⟩ = some (.int .i64 r2) ∧ (u.drew.alloc (.cells #[.int .i64 r0, .int .i64 r1, .int .i64 r2, .int .i64 r3, .int .i64 r4, .int .i64 r5, .int .i64 r6, .int .i64 r7] 50)).cell? ⟨W.heap.size + 1, 3, none⟩ = some (.int .i64 r3) ∧ (u.drew.alloc (.cells #[.int .i64 r0, .int .i64 r1, .int .i64 r2, .int .i64 r3, .int .i64 r4, .int .i64 r5, .int .i64 r6, .int .i64 r7] 50)).cell? ⟨W.heap.size + 1, 4, none⟩ = some (.int .i64 r4) ∧ (u.drew.alloc (.cells #[.int .i64 r0, .int .i64 r1, .int .i64 r2, .int .i64 r3, .int .i64 r4, .int .i64 r5, .int .i64 r6, .int .i64 r7] 50)).cell? ⟨W.heap.size + 1, 5, none⟩ = some (.int .i64 r5) ∧ (u.drew.alloc (.cells #[.int .i64 r0, .int .i64 r1, .int .i64 r2, .int .i64 r3, .int .i64 r4, .int .i64 r5, .int .i64 r6, .int .i64 r7] 50)).cell? ⟨W.heap.size + 1, 6, none⟩ = some (.int .i64 r6) ∧ (u.drew.alloc (.cells #[.int .i64 r0, .int .i64 r1, .int .i64 r2, .int .i64 r3, .int .i64 r4, .int .i64 r5, .int .i64 r6, .int .i64 r7] 50)).cell? ⟨W.heap.size + 1, 7, none⟩ = some (.int .i64 r7) := ⟨((one_more u.drew (.cells #[.int .i64 r0, .int .i64 r1, .int .i64 r2, .int .i64 r3, .int .i64 r4, .int .i64 r5, .int .i64 r6, .int .i64 r7] 50)).cell (p := ⟨B, 0, none⟩) rl).trans eB, ((one_more u.drew (.cells #[.int .i64 r0, .int .i64 r1, .int .i64 r2, .int .i64 r3, .int .i64 r4, .int .i64 r5, .int .i64 r6, .int .i64 r7] 50)).cell (p := ⟨W.heap.size + 1, 0, none⟩) dl.2).trans e0, ((one_more u.drew (.cells #[.int .i64 r0, .int .i64 r1, .int .i64 r2, .int .i64 r3, .int .i64 r4, .int .i64 r5, .int .i64 r6, .int .i64 r7] 50)).cell (p := ⟨W.heap.size + 1, 1, none⟩) dl.2).trans e1, ((one_more u.drew (.cells #[.int .i64 r0, .int .i64 r1, .int .i64 r2, .int .i64 r3, .int .i64 r4, .int .i64 r5, .int .i64 r6, .int .i64 r7] 50)).cell (p := ⟨W.heap.size + 1, 2, none⟩) dl.2).trans e2, ((one_more u.drew (.cells #[.int .i64 r0, .int .i64 r1, .int .i64 r2, .int .i64 r3, .int .i64 r4, .int .i64 r5, .int .i64 r6, .int .i64 r7] 50)).cell (p := ⟨W.heap.size + 1, 3, none⟩) dl.2).trans e3, ((one_more u.drew (.cells #[.int .i64 r0, .int .i64 r1, .int .i64 r2, .int .i64 r3, .int .i64 r4, .int .i64 r5, .int .i64 r6, .int .i64 r7] 50)).cell (p := ⟨W.heap.size + 1, 4, none⟩) dl.2).trans e4, ((one_more u.drew (.cells #[.int .i64 r0, .int .i64 r1, .int .i64 r2, .int .i64 r3, .int .i64 r4, .int .i64 r5, .int .i64 r6, .int .i64 r7] 50)).cell (p := ⟨W.heap.size + 1, 5, none⟩) dl.2).trans e5, ((one_more u.drew (.cells #[.int .i64 r0, .int .i64 r1, .int .i64 r2, .int .i64 r3, .int .i64 r4, .int .i64 r5, .int .i64 r6, .int .i64 r7] 50)).cell (p := ⟨W.heap.size + 1, 6, none⟩) dl.2).trans e6, ((one_more u.drew (.cells #[.int .i64 r0, .int .i64 r1, .int .i64 r2, .int .i64 r3, .int .i64 r4, .int .i64 r5, .int .i64 r6, .int .i64 r7] 50)).cell (p := ⟨W.heap.size + 1, 7, none⟩) dl.2).trans e7⟩
  have bcD : u.drew.cell? ⟨D, 4, none⟩ = some (.slice x.ats x.b.ts.length x.ct) := bc
  have bcA : (u.alloc (.cells #[.int .i64 r0, .int .i64 r1, .int .i64 r2, .int .i64 r3, .int .i64 r4, .int .i64 r5, .int .i64 r6, .int .i64 r7] 50)).cell? ⟨D, 4, none⟩ = some (.slice x.ats x.b.ts.length x.ct) := ((one_more u.drew (.cells #[.int .i64 r0, .int .i64 r1, .int .i64 r2, .int .i64 r3, .int .i64 r4, .int .i64 r5, .int .i64 r6, .int .i64 r7] 50)).cell (p := ⟨D, 4, none⟩) dD).trans bc
  refine wp_region_held_drew (S := (fun w' => w'.cell? ⟨B, 0, none⟩ = some (.pointer (some ⟨D, 0, none⟩)) ∧ w'.cell? ⟨W.heap.size + 1, 0, none⟩ = some (.int .i64 r0) ∧ w'.cell? ⟨W.heap.size + 1, 1, none⟩ = some (.int .i64 r1) ∧ w'.cell? ⟨W.heap.size + 1, 2, none⟩ = some (.int .i64 r2) ∧ w'.cell? ⟨W.heap.size + 1, 3, none⟩ = some (.int .i64 r3) ∧ w'.cell? ⟨W.heap.size + 1, 4, none⟩ = some (.int .i64 r4) ∧ w'.cell? ⟨W.heap.size + 1, 5, none⟩ = some (.int .i64 r5) ∧ w'.cell? ⟨W.heap.size + 1, 6, none⟩ = some (.int .i64 r6) ∧ w'.cell? ⟨W.heap.size + 1, 7, none⟩ = some (.int .i64 r7))) (by kernel_rfl) K0 (fun hHeld => ?_)
  refine wpAnyH_take (i := 0) (oi := oC40) (v := .pointer (some ⟨D, 0, none⟩)) rfl (by kernel_rfl) (by kernel_rfl) (by kernel_rfl) (fun _ _ _ h => h) (Or.inl ⟨by rfl, fun w hSw => ?_⟩) hHeld ?_
  · (try dsimp only at hSw)
    unfold oC40
    go_simp
  try simp only [oC40, Act.put, List.setIfInBounds_toArray, List.set_cons_zero, List.set_cons_succ]
  refine wpAnyH_take (i := 1) (oi := oC41) (v := .pointer (some ⟨D, 0, none⟩)) rfl (by kernel_rfl) (by kernel_rfl) (by kernel_rfl) (fun _ _ _ h => h) (Or.inl ⟨by rfl, fun w hSw => ?_⟩) hHeld ?_
  · (try dsimp only at hSw)
    unfold oC41
    go_simp
  try simp only [oC41, Act.put, List.setIfInBounds_toArray, List.set_cons_zero, List.set_cons_succ]
  refine wpAnyH_take (i := 2) (oi := oC42) (v := .pointer (some ⟨D, 0, none⟩)) rfl (by kernel_rfl) (by kernel_rfl) (by kernel_rfl) (fun _ _ _ h => h) (Or.inl ⟨by rfl, fun w hSw => ?_⟩) hHeld ?_
  · (try dsimp only at hSw)
    unfold oC42
    go_simp
  try simp only [oC42, Act.put, List.setIfInBounds_toArray, List.set_cons_zero, List.set_cons_succ]
  refine wpAnyH_take (i := 3) (oi := oC43) (v := .pointer (some ⟨D, 4, none⟩)) rfl (by kernel_rfl) (by kernel_rfl) (by kernel_rfl) (fun _ _ _ h => h) (Or.inl ⟨by rfl, fun w hSw => ?_⟩) hHeld ?_
  · (try dsimp only at hSw)
    unfold oC43
    go_simp
  try simp only [oC43, Act.put, List.setIfInBounds_toArray, List.set_cons_zero, List.set_cons_succ]
  refine wpAnyH_take (i := 5) (oi := oC45) (v := .agg #[.int .i64 r0, .int .i64 r1, .int .i64 r2, .int .i64 r3, .int .i64 r4, .int .i64 r5, .int .i64 r6, .int .i64 r7]) rfl (by kernel_rfl) (by kernel_rfl) (by kernel_rfl) (fun _ _ _ h => h) (Or.inl ⟨by rfl, fun w hSw => ?_⟩) hHeld ?_
  · (try dsimp only at hSw)
    unfold oC45
    go_simp
  try simp only [oC45, Act.put, List.setIfInBounds_toArray, List.set_cons_zero, List.set_cons_succ]
  refine wpAnyH_ready (rs := [4, 6]) (by kernel_rfl) (by simp) ?_
  refine AllReadyH.cons (o := oC44) rfl (fun K hK => ?_) (AllReadyH.cons (o := oC46) rfl (fun K hK => ?_) AllReadyH.nil)
  · unfold oC44
    go_simp
    refine hK.out _ _ K0 (fun hHeld => ?_)
    clear hK K
    try simp only [oC44, Act.put, List.setIfInBounds_toArray, List.set_cons_zero, List.set_cons_succ]
    refine wpAnyH_ready (rs := [6]) (by kernel_rfl) (by simp) ?_
    refine AllReadyH.cons (o := oC46) rfl (fun K hK => ?_) AllReadyH.nil
    unfold oC46
    go_simp
    refine hK.out _ _ KB (fun hHeld => ?_)
    clear hK K
    try simp only [oC46, Act.put, List.setIfInBounds_toArray, List.set_cons_zero, List.set_cons_succ]
    refine wpAnyH_ready (rs := [7]) (by kernel_rfl) (by simp) ?_
    refine AllReadyH.cons (o := oC47) rfl (fun K hK => ?_) AllReadyH.nil
    refine step_app (u.drew.alloc (.cells #[.int .i64 r0, .int .i64 r1, .int .i64 r2, .int .i64 r3, .int .i64 r4, .int .i64 r5, .int .i64 r6, .int .i64 r7] 50)) (by rfl) _ _ 27 50 (by rfl) (.agg #[.int .i64 0, .int .i64 0, .int .i64 0, .int .i64 0, .int .i64 0, .int .i64 0, .int .i64 0, .int .i64 0]) 8 64 Tryz.underlying27 info_ts rfl (by decide) (by decide) N (.slice x.ats x.b.ts.length x.ct) x.b.ts.length (Tup8.flat8 x.b.ts) u.drew.heap.size [.int .i64 r0, .int .i64 r1, .int .i64 r2, .int .i64 r3, .int .i64 r4, .int .i64 r5, .int .i64 r6, .int .i64 r7] (by rfl) (by rfl) (row_step (W := u.drew) ro (one_more u.drew (.cells #[.int .i64 r0, .int .i64 r1, .int .i64 r2, .int .i64 r3, .int .i64 r4, .int .i64 r5, .int .i64 r6, .int .i64 r7] 50))) rfl (litm u.drew _ _ _ (by rfl)) (by simp [Value.oneCell']) (by omega) (Nat.le_trans (show N ≤ u.drew.heap.size from rn) (by simp)) ?_
    intro g9 c9 u9 o9 gr9
    have BL : ∀ j, (.slice x.ats x.b.ts.length x.ct : Value).ownBlock = some j → N ≤ j := fun j hj => (World.ownsRow.lt ro j hj).1
    have BM : ∀ j, (.slice x.ats x.b.ts.length x.ct : Value).ownBlock = some j → j < u.heap.size := fun j hj => (World.ownsRow.lt ro j hj).2
    have NE := NW
    have RA := hide ((show Rs w0 u.drew p D B N s' x from rs_drew (unhide RX)).step (one_more u.drew (.cells #[.int .i64 r0, .int .i64 r1, .int .i64 r2, .int .i64 r3, .int .i64 r4, .int .i64 r5, .int .i64 r6, .int .i64 r7] 50)))
    have R9 := hide (show Pl u9 w0.heap.size p s' ∧ Box u9 w0.heap.size D (.slice x.aa x.b.ac.length x.ca) (.slice x.ai x.b.ic.length x.ci) (.slice x.ab x.b.bs.length x.cb) (.slice x.al x.b.ls.length x.cl) (.slice x.ats x.b.ts.length x.ct) (.int .i64 x.b.lot) from ⟨Ints.Own.kept (unhide RA).pl gr9 (fun e => by have := BL _ e.symm; omega), (unhide RA).bx.kept gr9 (fun e => by have := BL _ e.symm; omega)⟩)
    have O9 := hide o9
    have OO := hide (show u9.ownsRow N 43 2 (.slice x.aa x.b.ac.length x.ca) x.b.ac.length (Pairs.flat x.b.ac) ∧ u9.ownsRow N 44 2 (.slice x.ai x.b.ic.length x.ci) x.b.ic.length (Pairs.flat x.b.ic) ∧ u9.ownsRow N 46 3 (.slice x.ab x.b.bs.length x.cb) x.b.bs.length (Triples.flat3 x.b.bs) ∧ u9.ownsRow N 48 5 (.slice x.al x.b.ls.length x.cl) x.b.ls.length (Tup5.flat5 x.b.ls) from ⟨World.ownsRow.kept (unhide RA).o.oa gr9 (row_ne (unhide RA).o.oa (unhide RA).o.ot (by decide)), World.ownsRow.kept (unhide RA).o.oi gr9 (row_ne (unhide RA).o.oi (unhide RA).o.ot (by decide)), World.ownsRow.kept (unhide RA).o.ob gr9 (row_ne (unhide RA).o.ob (unhide RA).o.ot (by decide)), World.ownsRow.kept (unhide RA).o.ol gr9 (row_ne (unhide RA).o.ol (unhide RA).o.ot (by decide))⟩)
    have RR := hide (show u9.heap[B]? = some (.cells #[.pointer (some ⟨D, 0, none⟩)] 78 (0, 0)) ∧ Below w0.heap.size w0 u9 ∧ N ≤ u9.heap.size from ⟨(gr9.block B (by have := (unhide RA).ltB; exact this) (fun e => by have := BL _ e.symm; omega)).trans (unhide RA).q, (unhide RA).b.grown gr9 (unhide RA).b.size (fun j hj => by have := BL _ hj; omega), Nat.le_trans (unhide RA).n gr9.size⟩)
    have KA := hide (show Kp W u9 from ((unhide KX).trans (Kp.drew (Kp.below (one_more u.drew (.cells #[.int .i64 r0, .int .i64 r1, .int .i64 r2, .int .i64 r3, .int .i64 r4, .int .i64 r5, .int .i64 r6, .int .i64 r7] 50))))).trans (Kp.grown gr9 (fun j hj => by obtain ⟨c, hc⟩ := row_typ (unhide RA).o.ot j hj; exact ⟨_, hc, rfl⟩)))
    have fr9 : u9.frozen? ⟨D, 4, none⟩ = false := (unhide R9).2.free 4
    have bc9 := (unhide R9).2.c4
    have SB := hide ((unhide R9).2.set4 (.slice (some ⟨g9, 0, none⟩) (x.b.ts.length + 1) c9))
    have KC : u9.cell? ⟨B, 0, none⟩ = some (.pointer (some ⟨D, 0, none⟩)) ∧ u9.cell? ⟨W.heap.size + 1, 0, none⟩ = some (.int .i64 r0) ∧ u9.cell? ⟨W.heap.size + 1, 1, none⟩ = some (.int .i64 r1) ∧ u9.cell? ⟨W.heap.size + 1, 2, none⟩ = some (.int .i64 r2) ∧ u9.cell? ⟨W.heap.size + 1, 3, none⟩ = some (.int .i64 r3) ∧ u9.cell? ⟨W.heap.size + 1, 4, none⟩ = some (.int .i64 r4) ∧ u9.cell? ⟨W.heap.size + 1, 5, none⟩ = some (.int .i64 r5) ∧ u9.cell? ⟨W.heap.size + 1, 6, none⟩ = some (.int .i64 r6) ∧ u9.cell? ⟨W.heap.size + 1, 7, none⟩ = some (.int .i64 r7) := ⟨gr9.cell KB.1 (fun e => by have := BL _ e.symm; simp only at this; omega), gr9.cell KB.2.1 (fun e => by exact NE e), gr9.cell KB.2.2.1 (fun e => by exact NE e), gr9.cell KB.2.2.2.1 (fun e => by exact NE e), gr9.cell KB.2.2.2.2.1 (fun e => by exact NE e), gr9.cell KB.2.2.2.2.2.1 (fun e => by exact NE e), gr9.cell KB.2.2.2.2.2.2.1 (fun e => by exact NE e), gr9.cell KB.2.2.2.2.2.2.2.1 (fun e => by exact NE e), gr9.cell KB.2.2.2.2.2.2.2.2 (fun e => by exact NE e)⟩
    have KD : (u9.setCell ⟨D, 4, none⟩ (.slice (some ⟨g9, 0, none⟩) (x.b.ts.length + 1) c9)).cell? ⟨B, 0, none⟩ = some (.pointer (some ⟨D, 0, none⟩)) ∧ (u9.setCell ⟨D, 4, none⟩ (.slice (some ⟨g9, 0, none⟩) (x.b.ts.length + 1) c9)).cell? ⟨W.heap.size + 1, 0, none⟩ = some (.int .i64 r0) ∧ (u9.setCell ⟨D, 4, none⟩ (.slice (some ⟨g9, 0, none⟩) (x.b.ts.length + 1) c9)).cell? ⟨W.heap.size + 1, 1, none⟩ = some (.int .i64 r1) ∧ (u9.setCell ⟨D, 4, none⟩ (.slice (some ⟨g9, 0, none⟩) (x.b.ts.length + 1) c9)).cell? ⟨W.heap.size + 1, 2, none⟩ = some (.int .i64 r2) ∧ (u9.setCell ⟨D, 4, none⟩ (.slice (some ⟨g9, 0, none⟩) (x.b.ts.length + 1) c9)).cell? ⟨W.heap.size + 1, 3, none⟩ = some (.int .i64 r3) ∧ (u9.setCell ⟨D, 4, none⟩ (.slice (some ⟨g9, 0, none⟩) (x.b.ts.length + 1) c9)).cell? ⟨W.heap.size + 1, 4, none⟩ = some (.int .i64 r4) ∧ (u9.setCell ⟨D, 4, none⟩ (.slice (some ⟨g9, 0, none⟩) (x.b.ts.length + 1) c9)).cell? ⟨W.heap.size + 1, 5, none⟩ = some (.int .i64 r5) ∧ (u9.setCell ⟨D, 4, none⟩ (.slice (some ⟨g9, 0, none⟩) (x.b.ts.length + 1) c9)).cell? ⟨W.heap.size + 1, 6, none⟩ = some (.int .i64 r6) ∧ (u9.setCell ⟨D, 4, none⟩ (.slice (some ⟨g9, 0, none⟩) (x.b.ts.length + 1) c9)).cell? ⟨W.heap.size + 1, 7, none⟩ = some (.int .i64 r7) := ⟨(cell_grown (unhide SB).2 0 (g := B) (by have := (unhide RA).ltB; have := gr9.size; omega) (fun e => dq e.symm)).trans KC.1, (cell_grown (unhide SB).2 0 (g := W.heap.size + 1) (by have := gr9.size; simp at this; omega) (by omega)).trans KC.2.1, (cell_grown (unhide SB).2 1 (g := W.heap.size + 1) (by have := gr9.size; simp at this; omega) (by omega)).trans KC.2.2.1, (cell_grown (unhide SB).2 2 (g := W.heap.size + 1) (by have := gr9.size; simp at this; omega) (by omega)).trans KC.2.2.2.1, (cell_grown (unhide SB).2 3 (g := W.heap.size + 1) (by have := gr9.size; simp at this; omega) (by omega)).trans KC.2.2.2.2.1, (cell_grown (unhide SB).2 4 (g := W.heap.size + 1) (by have := gr9.size; simp at this; omega) (by omega)).trans KC.2.2.2.2.2.1, (cell_grown (unhide SB).2 5 (g := W.heap.size + 1) (by have := gr9.size; simp at this; omega) (by omega)).trans KC.2.2.2.2.2.2.1, (cell_grown (unhide SB).2 6 (g := W.heap.size + 1) (by have := gr9.size; simp at this; omega) (by omega)).trans KC.2.2.2.2.2.2.2.1, (cell_grown (unhide SB).2 7 (g := W.heap.size + 1) (by have := gr9.size; simp at this; omega) (by omega)).trans KC.2.2.2.2.2.2.2.2⟩
    clear o9
    refine hK.out _ _ KC (fun hHeld => ?_)
    clear hK K
    try simp only [oC47, Act.put, List.setIfInBounds_toArray, List.set_cons_zero, List.set_cons_succ]
    refine wpAnyH_take (i := 8) (oi := oC48) (v := .pointer (some ⟨D, 0, none⟩)) rfl (by kernel_rfl) (by kernel_rfl) (by kernel_rfl) (fun _ _ _ h => h) (Or.inl ⟨by rfl, fun w hSw => ?_⟩) hHeld ?_
    · (try dsimp only at hSw)
      unfold oC48
      go_simp
    try simp only [oC48, Act.put, List.setIfInBounds_toArray, List.set_cons_zero, List.set_cons_succ]
    refine wpAnyH_take (i := 9) (oi := oC49) (v := .pointer (some ⟨D, 4, none⟩)) rfl (by kernel_rfl) (by kernel_rfl) (by kernel_rfl) (fun _ _ _ h => h) (Or.inl ⟨by rfl, fun w hSw => ?_⟩) hHeld ?_
    · (try dsimp only at hSw)
      unfold oC49
      go_simp
    try simp only [oC49, Act.put, List.setIfInBounds_toArray, List.set_cons_zero, List.set_cons_succ]
    refine wpAnyH_ready (rs := [10]) (by kernel_rfl) (by simp) ?_
    refine AllReadyH.cons (o := oC410) rfl (fun K hK => ?_) AllReadyH.nil
    unfold oC410
    go_simp
    refine hK.out _ _ KD (fun hHeld => ?_)
    clear hK K
    try simp only [oC410, Act.put, List.setIfInBounds_toArray, List.set_cons_zero, List.set_cons_succ]
    refine wpAnyH_done (by kernel_rfl) ?_ _
    clear K0 KB KC KD bc bcD bcA bc9 fr9 eB e0 e1 e2 e3 e4 e5 e6 e7
    go_wp2
    go_end0
    obtain ⟨sb, sg⟩ := unhide SB
    obtain ⟨h0, h1, h2, h3⟩ := unhide OO
    obtain ⟨q9, b9, n9⟩ := unhide RR
    have ln : (x.b.ts ++ [r8 [r0, r1, r2, r3, r4, r5, r6, r7]]).length = x.b.ts.length + 1 := by simp
    refine .inr ⟨rfl, rfl, (unhide KA).trans (Kp.grown sg (fun j hj => by injection hj with hj; subst hj; obtain ⟨c, hc⟩ := row_typ (unhide R9).2 _ rfl; exact ⟨_, hc, rfl⟩)), (⟨x.aa, x.ca, x.ai, x.ci, x.ab, x.cb, x.al, x.cl, some ⟨g9, 0, none⟩, c9, ⟨x.b.ac, x.b.ic, x.b.bs, x.b.ls, x.b.ts ++ [r8 [r0, r1, r2, r3, r4, r5, r6, r7]], x.b.lot⟩⟩ : Ix), rfl, ⟨Ints.Own.kept (unhide R9).1 sg (by simpa using pd), ?_, ⟨row_kept h0 sg d1, row_kept h1 sg d1, row_kept h2 sg d1, row_kept h3 sg d1, ?_⟩, (sg.block B (by have := Array.getElem?_eq_some_iff.1 q9; exact this.1) (fun e => dq (by injection e with e; exact e.symm))).trans q9, b9.grown sg b9.size (fun j hj => by injection hj with hj; omega), Nat.le_trans n9 sg.size⟩⟩
    · show Box _ _ _ (.slice x.aa x.b.ac.length x.ca) (.slice x.ai x.b.ic.length x.ci) (.slice x.ab x.b.bs.length x.cb) (.slice x.al x.b.ls.length x.cl) (.slice (some ⟨g9, 0, none⟩) (x.b.ts ++ [r8 [r0, r1, r2, r3, r4, r5, r6, r7]]).length c9) (.int .i64 x.b.lot)
      rw [ln]
      exact sb
    · show World.ownsRow _ _ _ _ _ _ _
      have o := row_kept (unhide O9) sg d1
      simp only [ln]
      rw [show Tup8.flat8 (x.b.ts ++ [r8 [r0, r1, r2, r3, r4, r5, r6, r7]]) = Tup8.flat8 x.b.ts ++ [.int .i64 r0, .int .i64 r1, .int .i64 r2, .int .i64 r3, .int .i64 r4, .int .i64 r5, .int .i64 r6, .int .i64 r7] from flat_e _ _ _ _ _ _ _ _ _]
      exact o
  · unfold oC46
    go_simp
    refine hK.out _ _ KB (fun hHeld => ?_)
    clear hK K
    try simp only [oC46, Act.put, List.setIfInBounds_toArray, List.set_cons_zero, List.set_cons_succ]
    refine wpAnyH_ready (rs := [4]) (by kernel_rfl) (by simp) ?_
    refine AllReadyH.cons (o := oC44) rfl (fun K hK => ?_) AllReadyH.nil
    unfold oC44
    go_simp
    refine hK.out _ _ KB (fun hHeld => ?_)
    clear hK K
    try simp only [oC44, Act.put, List.setIfInBounds_toArray, List.set_cons_zero, List.set_cons_succ]
    refine wpAnyH_ready (rs := [7]) (by kernel_rfl) (by simp) ?_
    refine AllReadyH.cons (o := oC47) rfl (fun K hK => ?_) AllReadyH.nil
    refine step_app (u.drew.alloc (.cells #[.int .i64 r0, .int .i64 r1, .int .i64 r2, .int .i64 r3, .int .i64 r4, .int .i64 r5, .int .i64 r6, .int .i64 r7] 50)) (by rfl) _ _ 27 50 (by rfl) (.agg #[.int .i64 0, .int .i64 0, .int .i64 0, .int .i64 0, .int .i64 0, .int .i64 0, .int .i64 0, .int .i64 0]) 8 64 Tryz.underlying27 info_ts rfl (by decide) (by decide) N (.slice x.ats x.b.ts.length x.ct) x.b.ts.length (Tup8.flat8 x.b.ts) u.drew.heap.size [.int .i64 r0, .int .i64 r1, .int .i64 r2, .int .i64 r3, .int .i64 r4, .int .i64 r5, .int .i64 r6, .int .i64 r7] (by rfl) (by rfl) (row_step (W := u.drew) ro (one_more u.drew (.cells #[.int .i64 r0, .int .i64 r1, .int .i64 r2, .int .i64 r3, .int .i64 r4, .int .i64 r5, .int .i64 r6, .int .i64 r7] 50))) rfl (litm u.drew _ _ _ (by rfl)) (by simp [Value.oneCell']) (by omega) (Nat.le_trans (show N ≤ u.drew.heap.size from rn) (by simp)) ?_
    intro g9 c9 u9 o9 gr9
    have BL : ∀ j, (.slice x.ats x.b.ts.length x.ct : Value).ownBlock = some j → N ≤ j := fun j hj => (World.ownsRow.lt ro j hj).1
    have BM : ∀ j, (.slice x.ats x.b.ts.length x.ct : Value).ownBlock = some j → j < u.heap.size := fun j hj => (World.ownsRow.lt ro j hj).2
    have NE := NW
    have RA := hide ((show Rs w0 u.drew p D B N s' x from rs_drew (unhide RX)).step (one_more u.drew (.cells #[.int .i64 r0, .int .i64 r1, .int .i64 r2, .int .i64 r3, .int .i64 r4, .int .i64 r5, .int .i64 r6, .int .i64 r7] 50)))
    have R9 := hide (show Pl u9 w0.heap.size p s' ∧ Box u9 w0.heap.size D (.slice x.aa x.b.ac.length x.ca) (.slice x.ai x.b.ic.length x.ci) (.slice x.ab x.b.bs.length x.cb) (.slice x.al x.b.ls.length x.cl) (.slice x.ats x.b.ts.length x.ct) (.int .i64 x.b.lot) from ⟨Ints.Own.kept (unhide RA).pl gr9 (fun e => by have := BL _ e.symm; omega), (unhide RA).bx.kept gr9 (fun e => by have := BL _ e.symm; omega)⟩)
    have O9 := hide o9
    have OO := hide (show u9.ownsRow N 43 2 (.slice x.aa x.b.ac.length x.ca) x.b.ac.length (Pairs.flat x.b.ac) ∧ u9.ownsRow N 44 2 (.slice x.ai x.b.ic.length x.ci) x.b.ic.length (Pairs.flat x.b.ic) ∧ u9.ownsRow N 46 3 (.slice x.ab x.b.bs.length x.cb) x.b.bs.length (Triples.flat3 x.b.bs) ∧ u9.ownsRow N 48 5 (.slice x.al x.b.ls.length x.cl) x.b.ls.length (Tup5.flat5 x.b.ls) from ⟨World.ownsRow.kept (unhide RA).o.oa gr9 (row_ne (unhide RA).o.oa (unhide RA).o.ot (by decide)), World.ownsRow.kept (unhide RA).o.oi gr9 (row_ne (unhide RA).o.oi (unhide RA).o.ot (by decide)), World.ownsRow.kept (unhide RA).o.ob gr9 (row_ne (unhide RA).o.ob (unhide RA).o.ot (by decide)), World.ownsRow.kept (unhide RA).o.ol gr9 (row_ne (unhide RA).o.ol (unhide RA).o.ot (by decide))⟩)
    have RR := hide (show u9.heap[B]? = some (.cells #[.pointer (some ⟨D, 0, none⟩)] 78 (0, 0)) ∧ Below w0.heap.size w0 u9 ∧ N ≤ u9.heap.size from ⟨(gr9.block B (by have := (unhide RA).ltB; exact this) (fun e => by have := BL _ e.symm; omega)).trans (unhide RA).q, (unhide RA).b.grown gr9 (unhide RA).b.size (fun j hj => by have := BL _ hj; omega), Nat.le_trans (unhide RA).n gr9.size⟩)
    have KA := hide (show Kp W u9 from ((unhide KX).trans (Kp.drew (Kp.below (one_more u.drew (.cells #[.int .i64 r0, .int .i64 r1, .int .i64 r2, .int .i64 r3, .int .i64 r4, .int .i64 r5, .int .i64 r6, .int .i64 r7] 50))))).trans (Kp.grown gr9 (fun j hj => by obtain ⟨c, hc⟩ := row_typ (unhide RA).o.ot j hj; exact ⟨_, hc, rfl⟩)))
    have fr9 : u9.frozen? ⟨D, 4, none⟩ = false := (unhide R9).2.free 4
    have bc9 := (unhide R9).2.c4
    have SB := hide ((unhide R9).2.set4 (.slice (some ⟨g9, 0, none⟩) (x.b.ts.length + 1) c9))
    have KC : u9.cell? ⟨B, 0, none⟩ = some (.pointer (some ⟨D, 0, none⟩)) ∧ u9.cell? ⟨W.heap.size + 1, 0, none⟩ = some (.int .i64 r0) ∧ u9.cell? ⟨W.heap.size + 1, 1, none⟩ = some (.int .i64 r1) ∧ u9.cell? ⟨W.heap.size + 1, 2, none⟩ = some (.int .i64 r2) ∧ u9.cell? ⟨W.heap.size + 1, 3, none⟩ = some (.int .i64 r3) ∧ u9.cell? ⟨W.heap.size + 1, 4, none⟩ = some (.int .i64 r4) ∧ u9.cell? ⟨W.heap.size + 1, 5, none⟩ = some (.int .i64 r5) ∧ u9.cell? ⟨W.heap.size + 1, 6, none⟩ = some (.int .i64 r6) ∧ u9.cell? ⟨W.heap.size + 1, 7, none⟩ = some (.int .i64 r7) := ⟨gr9.cell KB.1 (fun e => by have := BL _ e.symm; simp only at this; omega), gr9.cell KB.2.1 (fun e => by exact NE e), gr9.cell KB.2.2.1 (fun e => by exact NE e), gr9.cell KB.2.2.2.1 (fun e => by exact NE e), gr9.cell KB.2.2.2.2.1 (fun e => by exact NE e), gr9.cell KB.2.2.2.2.2.1 (fun e => by exact NE e), gr9.cell KB.2.2.2.2.2.2.1 (fun e => by exact NE e), gr9.cell KB.2.2.2.2.2.2.2.1 (fun e => by exact NE e), gr9.cell KB.2.2.2.2.2.2.2.2 (fun e => by exact NE e)⟩
    have KD : (u9.setCell ⟨D, 4, none⟩ (.slice (some ⟨g9, 0, none⟩) (x.b.ts.length + 1) c9)).cell? ⟨B, 0, none⟩ = some (.pointer (some ⟨D, 0, none⟩)) ∧ (u9.setCell ⟨D, 4, none⟩ (.slice (some ⟨g9, 0, none⟩) (x.b.ts.length + 1) c9)).cell? ⟨W.heap.size + 1, 0, none⟩ = some (.int .i64 r0) ∧ (u9.setCell ⟨D, 4, none⟩ (.slice (some ⟨g9, 0, none⟩) (x.b.ts.length + 1) c9)).cell? ⟨W.heap.size + 1, 1, none⟩ = some (.int .i64 r1) ∧ (u9.setCell ⟨D, 4, none⟩ (.slice (some ⟨g9, 0, none⟩) (x.b.ts.length + 1) c9)).cell? ⟨W.heap.size + 1, 2, none⟩ = some (.int .i64 r2) ∧ (u9.setCell ⟨D, 4, none⟩ (.slice (some ⟨g9, 0, none⟩) (x.b.ts.length + 1) c9)).cell? ⟨W.heap.size + 1, 3, none⟩ = some (.int .i64 r3) ∧ (u9.setCell ⟨D, 4, none⟩ (.slice (some ⟨g9, 0, none⟩) (x.b.ts.length + 1) c9)).cell? ⟨W.heap.size + 1, 4, none⟩ = some (.int .i64 r4) ∧ (u9.setCell ⟨D, 4, none⟩ (.slice (some ⟨g9, 0, none⟩) (x.b.ts.length + 1) c9)).cell? ⟨W.heap.size + 1, 5, none⟩ = some (.int .i64 r5) ∧ (u9.setCell ⟨D, 4, none⟩ (.slice (some ⟨g9, 0, none⟩) (x.b.ts.length + 1) c9)).cell? ⟨W.heap.size + 1, 6, none⟩ = some (.int .i64 r6) ∧ (u9.setCell ⟨D, 4, none⟩ (.slice (some ⟨g9, 0, none⟩) (x.b.ts.length + 1) c9)).cell? ⟨W.heap.size + 1, 7, none⟩ = some (.int .i64 r7) := ⟨(cell_grown (unhide SB).2 0 (g := B) (by have := (unhide RA).ltB; have := gr9.size; omega) (fun e => dq e.symm)).trans KC.1, (cell_grown (unhide SB).2 0 (g := W.heap.size + 1) (by have := gr9.size; simp at this; omega) (by omega)).trans KC.2.1, (cell_grown (unhide SB).2 1 (g := W.heap.size + 1) (by have := gr9.size; simp at this; omega) (by omega)).trans KC.2.2.1, (cell_grown (unhide SB).2 2 (g := W.heap.size + 1) (by have := gr9.size; simp at this; omega) (by omega)).trans KC.2.2.2.1, (cell_grown (unhide SB).2 3 (g := W.heap.size + 1) (by have := gr9.size; simp at this; omega) (by omega)).trans KC.2.2.2.2.1, (cell_grown (unhide SB).2 4 (g := W.heap.size + 1) (by have := gr9.size; simp at this; omega) (by omega)).trans KC.2.2.2.2.2.1, (cell_grown (unhide SB).2 5 (g := W.heap.size + 1) (by have := gr9.size; simp at this; omega) (by omega)).trans KC.2.2.2.2.2.2.1, (cell_grown (unhide SB).2 6 (g := W.heap.size + 1) (by have := gr9.size; simp at this; omega) (by omega)).trans KC.2.2.2.2.2.2.2.1, (cell_grown (unhide SB).2 7 (g := W.heap.size + 1) (by have := gr9.size; simp at this; omega) (by omega)).trans KC.2.2.2.2.2.2.2.2⟩
    clear o9
    refine hK.out _ _ KC (fun hHeld => ?_)
    clear hK K
    try simp only [oC47, Act.put, List.setIfInBounds_toArray, List.set_cons_zero, List.set_cons_succ]
    refine wpAnyH_take (i := 8) (oi := oC48) (v := .pointer (some ⟨D, 0, none⟩)) rfl (by kernel_rfl) (by kernel_rfl) (by kernel_rfl) (fun _ _ _ h => h) (Or.inl ⟨by rfl, fun w hSw => ?_⟩) hHeld ?_
    · (try dsimp only at hSw)
      unfold oC48
      go_simp
    try simp only [oC48, Act.put, List.setIfInBounds_toArray, List.set_cons_zero, List.set_cons_succ]
    refine wpAnyH_take (i := 9) (oi := oC49) (v := .pointer (some ⟨D, 4, none⟩)) rfl (by kernel_rfl) (by kernel_rfl) (by kernel_rfl) (fun _ _ _ h => h) (Or.inl ⟨by rfl, fun w hSw => ?_⟩) hHeld ?_
    · (try dsimp only at hSw)
      unfold oC49
      go_simp
    try simp only [oC49, Act.put, List.setIfInBounds_toArray, List.set_cons_zero, List.set_cons_succ]
    refine wpAnyH_ready (rs := [10]) (by kernel_rfl) (by simp) ?_
    refine AllReadyH.cons (o := oC410) rfl (fun K hK => ?_) AllReadyH.nil
    unfold oC410
    go_simp
    refine hK.out _ _ KD (fun hHeld => ?_)
    clear hK K
    try simp only [oC410, Act.put, List.setIfInBounds_toArray, List.set_cons_zero, List.set_cons_succ]
    refine wpAnyH_done (by kernel_rfl) ?_ _
    clear K0 KB KC KD bc bcD bcA bc9 fr9 eB e0 e1 e2 e3 e4 e5 e6 e7
    go_wp2
    go_end0
    obtain ⟨sb, sg⟩ := unhide SB
    obtain ⟨h0, h1, h2, h3⟩ := unhide OO
    obtain ⟨q9, b9, n9⟩ := unhide RR
    have ln : (x.b.ts ++ [r8 [r0, r1, r2, r3, r4, r5, r6, r7]]).length = x.b.ts.length + 1 := by simp
    refine .inr ⟨rfl, rfl, (unhide KA).trans (Kp.grown sg (fun j hj => by injection hj with hj; subst hj; obtain ⟨c, hc⟩ := row_typ (unhide R9).2 _ rfl; exact ⟨_, hc, rfl⟩)), (⟨x.aa, x.ca, x.ai, x.ci, x.ab, x.cb, x.al, x.cl, some ⟨g9, 0, none⟩, c9, ⟨x.b.ac, x.b.ic, x.b.bs, x.b.ls, x.b.ts ++ [r8 [r0, r1, r2, r3, r4, r5, r6, r7]], x.b.lot⟩⟩ : Ix), rfl, ⟨Ints.Own.kept (unhide R9).1 sg (by simpa using pd), ?_, ⟨row_kept h0 sg d1, row_kept h1 sg d1, row_kept h2 sg d1, row_kept h3 sg d1, ?_⟩, (sg.block B (by have := Array.getElem?_eq_some_iff.1 q9; exact this.1) (fun e => dq (by injection e with e; exact e.symm))).trans q9, b9.grown sg b9.size (fun j hj => by injection hj with hj; omega), Nat.le_trans n9 sg.size⟩⟩
    · show Box _ _ _ (.slice x.aa x.b.ac.length x.ca) (.slice x.ai x.b.ic.length x.ci) (.slice x.ab x.b.bs.length x.cb) (.slice x.al x.b.ls.length x.cl) (.slice (some ⟨g9, 0, none⟩) (x.b.ts ++ [r8 [r0, r1, r2, r3, r4, r5, r6, r7]]).length c9) (.int .i64 x.b.lot)
      rw [ln]
      exact sb
    · show World.ownsRow _ _ _ _ _ _ _
      have o := row_kept (unhide O9) sg d1
      simp only [ln]
      rw [show Tup8.flat8 (x.b.ts ++ [r8 [r0, r1, r2, r3, r4, r5, r6, r7]]) = Tup8.flat8 x.b.ts ++ [.int .i64 r0, .int .i64 r1, .int .i64 r2, .int .i64 r3, .int .i64 r4, .int .i64 r5, .int .i64 r6, .int .i64 r7] from flat_e _ _ _ _ _ _ _ _ _]
      exact o
end Go.Proofs.YtefcigaalgfmiaaGreatDoor.ICl13
namespace Go.Proofs.YtefcigaalgfmiaaGreatDoor.IRows13
open Go.ChangeShapes Go.WideShapes Go.ChangeAt Go.RowKit BMem Bks BHelp SRead13 VB13 ICl13
open SBytes (AtB getN getF)
open SPuts11 (gets getsN)
open SRows13 (rowsL rowsN)
open IRd11 (Pl cell_grown grow_below grow_grow)
open IInto13
open IBalsFit (one_more)
open SRead13 (row_kept)
theorem getF_in (xs : List Int) (q : Nat) : ∀ f k, (getF xs q f k).2.2 = true → 0 ≤ (getF xs q f k).2.1 ∧ (getF xs q f k).2.1 ≤ xs.length
  | 0, k => by simp [getF]
  | f + 1, k => by
    intro h
    simp only [getF] at h ⊢
    by_cases a : q + k < xs.length
    · rw [if_pos a] at h ⊢
      by_cases b : xs.getD (q + k) 0 < 128
      · rw [if_pos b] at h ⊢
        by_cases c : xs.getD (q + k) 0 = 0 ∧ 0 < k
        · rw [if_pos c] at h; simp at h
        · rw [if_neg c]; simp; omega
      · rw [if_neg b] at h ⊢
        exact getF_in xs q f (k + 1) h
    · rw [if_neg a] at h; simp at h
theorem getN_in {xs : List Int} {p : Int} (h : (getN xs p).2.2 = true) : 0 ≤ (getN xs p).2.1 ∧ (getN xs p).2.1 ≤ xs.length := by
  unfold getN at h ⊢
  by_cases a : p < 0 ∨ (xs.length : Int) ≤ p
  · rw [if_pos a] at h; simp at h
  · rw [if_neg a] at h ⊢
    exact getF_in xs _ 9 0 h
theorem gets_in (xs : List Int) : ∀ (m : Nat) (p : Int) (l : List Int), 0 ≤ p ∧ p ≤ xs.length → (gets xs m p l).2.2 = true → 0 ≤ (gets xs m p l).2.1 ∧ (gets xs m p l).2.1 ≤ xs.length
  | 0, p, l => fun h _ => h
  | m + 1, p, l => by
    intro h k
    simp only [gets] at k ⊢
    by_cases a : (getN xs p).2.2 = true
    · rw [if_pos a] at k ⊢
      exact gets_in xs m _ _ (getN_in a) k
    · rw [if_neg a] at k; simp at k
def lenk (k : Nat) (b : Bk) : Nat := match k with | 0 => b.ac.length | 1 => b.ic.length | 2 => b.bs.length | 3 => b.ls.length | _ => b.ts.length
theorem len_put (k : Nat) (rs : List (List Int)) (b : Bk) : lenk k (putRows k rs b) = rs.length := by
  unfold lenk putRows
  split <;> simp
theorem put_put : ∀ (k : Nat) (rs : List (List Int)) (b : Bk), putRows k rs (putRows k [] b) = putRows k rs b
  | 0, _, _ => rfl
  | 1, _, _ => rfl
  | 2, _, _ => rfl
  | 3, _, _ => rfl
  | _ + 4, _, _ => rfl
/-- What reading all rows of a list comes to. -/
def RowS (k : Nat) (r : List (List Int) × Int × Bool) (w0 W : World) (p D B N : Nat) (x : Ix) (e : Ending) (W' : World) : Prop :=
  (r.2.2 = false ∧ Pan e ∧ Below w0.heap.size w0 W') ∨ (r.2.2 = true ∧ e = .returned (.tuple #[]) ∧ Kp W W' ∧ ∃ x', x'.b = putRows k r.1 x.b ∧ Rs w0 W' p D B N r.2.1 x')
theorem Rs.aside {w0 V V' V0 : World} {p D B N d : Nat} {s s0 : Int} {x : Ix} (h : Rs w0 V p D B N s x) (h0 : Rs w0 V0 p D B N s0 x) (k : V.grownBy V' (some d)) (hd : V0.heap.size ≤ d) (p1 : p < N) (d1 : D < N) (q1 : B < N) : Rs w0 V' p D B N s x := by
  have n0 := h0.n
  have z := h0.b.size
  exact ⟨Ints.Own.kept h.pl k (by simp; omega), h.bx.kept k (fun e => by injection e with e; omega), ⟨World.ownsRow.kept h.o.oa k (row_out h0.o.oa hd), World.ownsRow.kept h.o.oi k (row_out h0.o.oi hd), World.ownsRow.kept h.o.ob k (row_out h0.o.ob hd), World.ownsRow.kept h.o.ol k (row_out h0.o.ol hd), World.ownsRow.kept h.o.ot k (row_out h0.o.ot hd)⟩, (k.block B h.ltB (fun e => by injection e with e; omega)).trans h.q, h.b.grown k h.b.size (fun j hj => by injection hj with hj; omega), Nat.le_trans h.n k.size⟩
theorem cell_heap {W : World} {g i : Nat} {c : Array Value} {t : TypeId} {v : Value} (h : W.heap[g]? = some (.cells c t (0, 0))) (hv : c[i]? = some v) : W.cell? ⟨g, i, none⟩ = some v := by
  simp [World.cell?, h, hv]
theorem set_grown (W : World) (b : Nat) (v : Value) : W.grownBy (W.setCell ⟨b, 0, none⟩ v) (some b) :=
  ⟨rfl, rfl, rfl, by simp [World.setCell], fun k _ hk => Below.heap_setCell _ _ _ k (fun e => hk (by rw [e]))⟩
theorem four (W : World) (o1 o2 o3 o4 : Obj) : (((((W.alloc o1).alloc o2).alloc o3).alloc o4).heap[W.heap.size]? = some o1 ∧ ((((W.alloc o1).alloc o2).alloc o3).alloc o4).heap[W.heap.size + 1]? = some o2) ∧ ((((W.alloc o1).alloc o2).alloc o3).alloc o4).heap[W.heap.size + 2]? = some o3 ∧ ((((W.alloc o1).alloc o2).alloc o3).alloc o4).heap[W.heap.size + 3]? = some o4 := by
  refine ⟨⟨?_, ?_⟩, ?_, ?_⟩
  · exact ((one_more _ o4).block _ (by simp; omega)).trans (((one_more _ o3).block _ (by simp; omega)).trans (((one_more _ o2).block _ (by simp)).trans (heap_alloc_new W o1)))
  · have h := heap_alloc_new (W.alloc o1) o2
    rw [World.size_alloc] at h
    exact ((one_more _ o4).block _ (by simp)).trans (((one_more _ o3).block _ (by simp)).trans h)
  · have h := heap_alloc_new ((W.alloc o1).alloc o2) o3
    rw [World.size_alloc, World.size_alloc] at h
    exact ((one_more _ o4).block _ (by simp)).trans h
  · have h := heap_alloc_new (((W.alloc o1).alloc o2).alloc o3) o4
    rw [World.size_alloc, World.size_alloc, World.size_alloc] at h
    exact h
set_option maxRecDepth 100000 in
set_option maxHeartbeats 4000000 in
theorem iRows (k m K : Nat) (most : Int) (hm : most ≤ 1000) (hm1 : m ≤ 2000) (w0 W : World) (gl cl p D B N : Nat) (xs : List Int) (et : TypeId) (ev : Value) (s : Int) (x : Ix) (b0 : Bk) (G : Pg w0 gl cl p D B N xs et ev) (R : Rs w0 W p D B N s x) (hs : 0 ≤ s ∧ s ≤ xs.length) (hx : x.b = putRows k [] b0)
    (hK : ∀ (args : Array Value) (u : World), (callFunc K args).run Tryz.prog u = .ok (.enter K args) u)
    (HC : ∀ (V : World) (s' : Int) (y : Ix), Rs w0 V p D B N s' y → s' ≤ 9223372036854775807 → lenk k y.b ≤ 1000 → Calls Tryz.prog K #[.agg #[.slice (some ⟨gl, 0, none⟩) xs.length cl, .pointer (some ⟨p, 0, none⟩)], .pointer (some ⟨B, 0, none⟩)] V (ClS k (gets xs m s' []) w0 V p D B N y)) :
    Calls Tryz.prog 44 #[.agg #[.slice (some ⟨gl, 0, none⟩) xs.length cl, .pointer (some ⟨p, 0, none⟩)], .agg #[.int .i64 most, .func (.func K) #[] #[.pointer (some ⟨B, 0, none⟩)]]] W (RowS k (rowsN xs s m most) w0 W p D B N x) := by
  have GG := hide G
  obtain ⟨l0, l1, g, a, e, z, p0, p1, d0, d1, q0, q1, pd, pq, dq⟩ := G
  have nn := R.n
  obtain ⟨U, hU⟩ : ∃ U, Hid (U = (((W.alloc (.cells #[.slice (some ⟨gl, 0, none⟩) xs.length cl, .pointer (some ⟨p, 0, none⟩)] 75)).alloc (.cells #[.int .i64 most, .func (.func K) #[] #[.pointer (some ⟨B, 0, none⟩)]] 81)).alloc (.cells #[.int .i64 0] 3)).alloc (.cells #[.pointer (some ⟨W.heap.size + 2, 0, none⟩)] 73)) := ⟨_, rfl⟩
  have BU := hide (show Below W.heap.size W U from by
    rw [unhide hU]
    exact ((((Below.refl _ _).alloc (Nat.le_refl _) _).alloc (by simp) _).alloc (by simp; omega) _).alloc (by simp; omega) _)
  have H1 := hide (show U.heap[W.heap.size]? = some (.cells #[.slice (some ⟨gl, 0, none⟩) xs.length cl, .pointer (some ⟨p, 0, none⟩)] 75 (0, 0)) from by rw [unhide hU]; exact (four W _ _ _ _).1.1)
  have H2 := hide (show U.heap[W.heap.size + 1]? = some (.cells #[.int .i64 most, .func (.func K) #[] #[.pointer (some ⟨B, 0, none⟩)]] 81 (0, 0)) from by rw [unhide hU]; exact (four W _ _ _ _).1.2)
  have H3 := hide (show U.heap[W.heap.size + 2]? = some (.cells #[.int .i64 0] 3 (0, 0)) from by rw [unhide hU]; exact (four W _ _ _ _).2.1)
  have H4 := hide (show U.heap[W.heap.size + 3]? = some (.cells #[.pointer (some ⟨W.heap.size + 2, 0, none⟩)] 73 (0, 0)) from by rw [unhide hU]; exact (four W _ _ _ _).2.2)
  have us : U.heap.size = W.heap.size + 4 := by rw [unhide hU]; simp
  have RU := hide (R.step (unhide BU))
  have MU := hide (iMust1 U gl cl p w0.heap.size (W.heap.size + 2) 0 (W.heap.size + 3) 1 xs s 0 ev et (by omega) l0 l1 g (a.below (unhide RU).b g) (unhide RU).pl (by omega) (cell_heap (unhide H3) rfl) (by simp [World.frozen?, unhide H3]) (cell_heap (unhide H4) rfl) (by omega) (by omega) (by omega) (((unhide RU).b.cell (p := ⟨0, 0, none⟩) z).trans e) z)
  have RW := hide R
  have FIN := hide (show rowsN xs s m most = if (getN xs s).2.2 = true ∧ (getN xs s).1 ≤ most then rowsL xs m (getN xs s).1.toNat (getN xs s).2.1 [] else ([], 0, false) from rfl)
  have NI := hide (@getN_in xs s)
  have NL := hide (@getN_lt xs s)
  have HH := hide HC
  have HX := hide hx
  clear a e R HC hx
  generalize rowsN xs s m most = fin at *
  generalize getN xs s = r at *
  obtain ⟨v, s', ok⟩ := r
  obtain ⟨f0, f1, f2⟩ := fin
  go_enter Tryz.func44, Tryz.ntmps44
  go_wp2_with fail
  rw [← unhide hU]
  refine (unhide MU).mono ?_
  rintro e u (⟨h1, ⟨eu, ee, rfl⟩, h3⟩ | ⟨h1, rfl, u1, h3, h4, rfl⟩)
  · have F := unhide FIN
    rw [if_neg (fun q => by simp only at h1; rw [h1] at q; simp at q)] at F
    injection F with F0 F
    injection F with F1 F2
    subst F0 F1 F2
    exact ⟨rfl, .inl ⟨rfl, ⟨eu, ee, rfl⟩, (unhide RU).b.grown h3 (unhide RU).b.size (fun j hj => by injection hj with hj; omega)⟩⟩
  simp only at h1
  subst h1
  have GV := set_grown u1 (W.heap.size + 2) (.int .i64 v)
  have R1 := hide ((unhide RU).moved h3 p0 p1 pd pq h4)
  have T3 : ∃ c, u1.heap[W.heap.size + 2]? = some (.cells c 3 (0, 0)) := ⟨_, (h3.block (W.heap.size + 2) (by omega) (by simp; omega)).trans (unhide H3)⟩
  have KV := hide (show Kp U (u1.setCell ⟨W.heap.size + 2, 0, none⟩ (.int .i64 v)) from (Kp.grown h3 (fun j hj => by injection hj with hj; subst hj; exact (unhide RU).typP)).trans (Kp.grown GV (fun j hj => by injection hj with hj; subst hj; obtain ⟨c, hc⟩ := T3; exact ⟨_, hc, rfl⟩)))
  have R2 := hide (Rs.aside (unhide R1) (unhide RW) GV (by omega) p1 d1 q1)
  have c3 : (u1.setCell ⟨W.heap.size + 2, 0, none⟩ (.int .i64 v)).cell? ⟨W.heap.size + 2, 0, none⟩ = some (.int .i64 v) := by
    have q := (h3.block (W.heap.size + 2) (by omega) (by simp; omega)).trans (unhide H3)
    have : u1.cell? ⟨W.heap.size + 2, 0, none⟩ = some (.int .i64 0) := cell_heap q rfl
    simp [go_sem, this]
  generalize u1.setCell ⟨W.heap.size + 2, 0, none⟩ (.int .i64 v) = V at *
  clear GV T3 h3 h4 R1 MU RU H3 H4
  have hv0 := (unhide NL) rfl
  have hs' := (unhide NI) rfl
  clear NL NI
  have HV1 := hide ((unhide KV) _ _ (unhide H1) rfl)
  have HV2 := hide ((unhide KV) _ _ (unhide H2) rfl)
  have c10 : V.cell? ⟨W.heap.size, 0, none⟩ = some (.slice (some ⟨gl, 0, none⟩) xs.length cl) := cell_heap (unhide HV1) rfl
  have c11 : V.cell? ⟨W.heap.size, 1, none⟩ = some (.pointer (some ⟨p, 0, none⟩)) := cell_heap (unhide HV1) rfl
  have c20 : V.cell? ⟨W.heap.size + 1, 0, none⟩ = some (.int .i64 most) := cell_heap (unhide HV2) rfl
  have c21 : V.cell? ⟨W.heap.size + 1, 1, none⟩ = some (.func (.func K) #[] #[.pointer (some ⟨B, 0, none⟩)]) := cell_heap (unhide HV2) rfl
  have e0 : V.cell? ⟨0, 0, none⟩ = some (.iface et ev) := ((unhide R2).b.cell (p := ⟨0, 0, none⟩) z).trans (unhide GG).e
  unfold Fm at hv0
  by_cases hq : v ≤ most
  case neg =>
    have hq' : v > most := by omega
    have F := unhide FIN
    rw [if_neg (fun q => hq q.2)] at F
    injection F with F0 F
    injection F with F1 F2
    subst F0 F1 F2
    clear FIN hq
    go_wp2
    exact ⟨rfl, .inl ⟨rfl, ⟨_, _, rfl⟩, (unhide R2).b⟩⟩
  have F := unhide FIN
  rw [if_pos ⟨rfl, hq⟩] at F
  obtain ⟨n, rfl⟩ : ∃ n : Nat, v = n := ⟨v.toNat, by omega⟩
  have FN := hide (show (f0, f1, f2) = rowsL xs m (n - 0) s' [] from by rw [F]; simp)
  clear F FIN
  have hq1 : ¬ (n : Int) > most := by omega
  have KW := hide ((Kp.below (unhide BU)).trans (unhide KV))
  have hn : n ≤ 1000 := by omega
  go_wp2
  clear c10 c11 c20 c21 e0 c3
  go_loopw [14] (fun i wr => ∃ (j : Nat) (t : Int) (rows : List (List Int)) (y : Ix), i = .int .i64 j ∧ j ≤ n ∧ Hid ((f0, f1, f2) = rowsL xs m (n - j) t rows) ∧ Hid (rows.length = j) ∧ Hid (y.b = putRows k rows b0) ∧ Hid (Rs w0 wr p D B N t y) ∧ Hid (Kp W wr) ∧ Hid (Kp U wr) ∧ 0 ≤ t ∧ t ≤ xs.length) (fun i _ => n - (intOf i).toNat)
  case atStart => exact ⟨0, s', [], x, rfl, by omega, FN, hide rfl, HX, R2, KW, KV, hs'.1, hs'.2⟩
  case round =>
    clear FN KW KV R2
    obtain ⟨j, t, rows, y, rfl, hj, FJ, RL, YB, RJ, KJ, KU, t0, t1⟩ := hrel
    have HV1 := hide ((unhide KU) _ _ (unhide H1) rfl)
    have HV2 := hide ((unhide KU) _ _ (unhide H2) rfl)
    have c10 : wr.cell? ⟨W.heap.size, 0, none⟩ = some (.slice (some ⟨gl, 0, none⟩) xs.length cl) := cell_heap (unhide HV1) rfl
    have c11 : wr.cell? ⟨W.heap.size, 1, none⟩ = some (.pointer (some ⟨p, 0, none⟩)) := cell_heap (unhide HV1) rfl
    have c21 : wr.cell? ⟨W.heap.size + 1, 1, none⟩ = some (.func (.func K) #[] #[.pointer (some ⟨B, 0, none⟩)]) := cell_heap (unhide HV2) rfl
    by_cases h : j < n
    case neg =>
      have ej : j = n := by omega
      subst ej
      have F := unhide FJ
      rw [Nat.sub_self] at F
      simp only [rowsL] at F
      injection F with F0 F
      injection F with F1 F2
      subst F0 F1 F2
      clear FJ
      go_wp2
      go_end0
      exact .inr ⟨rfl, rfl, unhide KJ, y, (unhide YB).trans (by rw [unhide HX, put_put]), unhide RJ⟩
    have jn : (j : Int) < n := by omega
    have NX := hide (show (f0, f1, f2) = if (gets xs m t []).2.2 = true then rowsL xs m (n - (j + 1)) (gets xs m t []).2.1 (rows ++ [(gets xs m t []).1]) else (rows, 0, false) from by
      have q : getsN xs t m = gets xs m t [] := by unfold getsN; rw [if_pos ⟨by omega, t0, t1⟩]; simp
      rw [unhide FJ, show n - j = (n - (j + 1)) + 1 by omega]
      simp only [rowsL, q])
    have CL := hide ((unhide HH) wr t y (unhide RJ) (by omega) (by rw [unhide YB, len_put, unhide RL]; omega))
    have GI := hide (gets_in xs m t [] ⟨t0, t1⟩)
    clear FJ
    generalize gets xs m t [] = r at *
    obtain ⟨l, t', ok⟩ := r
    go_wp2_with fail
    refine (unhide CL).mono ?_
    rintro e u (⟨h1, ⟨eu, ee, rfl⟩, h3⟩ | ⟨h1, rfl, h3, y', h4, h5⟩)
    · have F := unhide NX
      rw [if_neg (fun q => by simp only at h1; rw [h1] at q; simp at q)] at F
      injection F with F0 F
      injection F with F1 F2
      subst F0 F1 F2
      exact ⟨rfl, .inl ⟨rfl, ⟨eu, ee, rfl⟩, h3⟩⟩
    simp only at h1
    subst h1
    have F := unhide NX
    rw [if_pos rfl] at F
    have FJ := hide F
    have ti := (unhide GI) rfl
    have RJ' := hide h5
    have KJ' := hide ((unhide KJ).trans h3)
    have KU' := hide ((unhide KU).trans h3)
    have YB' := hide (show y'.b = putRows k (rows ++ [l]) b0 from by rw [h4, unhide YB, add_put])
    clear F h3 h4 h5 NX GI CL c10 c11 c21
    go_wp2
    go_roundw
    case rel => exact ⟨j + 1, t', rows ++ [l], y', by go_num, by omega, FJ, hide (by simp [unhide RL]), YB', RJ', KJ', KU', ti.1, ti.2⟩
    case measure => simp [intOf]; omega
end Go.Proofs.YtefcigaalgfmiaaGreatDoor.IRows13
namespace Go.Proofs.YtefcigaalgfmiaaGreatDoor.Legs
open Go.ChangeShapes Go.WideShapes Go.ChangeAt Go.RowKit Bals Triples Cmp SOk3 IOk3 Tab Look
/-- Block B is a table by number that tells g. -/
def STab (w : World) (B n : Nat) (g : Int → Int) : Prop := ∃ D : D0, w.ownsMap Tryz.prog 3 (plainElem Tryz.prog 3) B n D ∧ ∀ i, (Lit.int .i64 i).wf = true → D.atKey (.int .i64 i) (.lit (.int .i64 0)) = .lit (.int .i64 (g i))
theorem STab.kept {w w' : World} {B n : Nat} {f : Int → Int} {row : Option Nat} (h : STab w B n f) (hg : w.grownBy w' row) (hne : some B ≠ row) : STab w' B n f := by
  obtain ⟨D, h1, h2⟩ := h
  exact ⟨D, h1.kept hg hne, h2⟩
theorem STab.lt {w : World} {B n : Nat} {f : Int → Int} (h : STab w B n f) : B < w.heap.size := by
  obtain ⟨D, h1, _⟩ := h
  exact h1.lt
/-- Block B is a table that tells g, block r goes over it; left: the numbers still to come. -/
def RSTab (w : World) (B r n : Nat) (g : Int → Int) (left : Int → Bool) (cnt : Nat) : Prop :=
  ∃ (D : D0) (lf : Lit → Bool), w.ranges Tryz.prog 3 (plainElem Tryz.prog 3) B r n D lf cnt ∧ (∀ i, (Lit.int .i64 i).wf = true → D.atKey (.int .i64 i) (.lit (.int .i64 0)) = .lit (.int .i64 (g i))) ∧ ∀ i, left i = lf (.int .i64 i)
theorem RSTab.left_eq {w : World} {B r n : Nat} {f : Int → Int} {left : Int → Bool} {cnt : Nat} (h : RSTab w B r n f left cnt) : w.rangeLeft B r = cnt := by
  obtain ⟨D, lf, h1, _⟩ := h
  exact h1.left_eq
end Go.Proofs.YtefcigaalgfmiaaGreatDoor.Legs
namespace Go.Proofs.YtefcigaalgfmiaaGreatDoor.BalApp
open Go.ChangeShapes Go.WideShapes Go.ChangeAt Go.RowKit Bals Triples
theorem info2 : (Tryz.prog.info? 46).map (fun i => (i.zero, i.size, i.bytes)) = some (some (.agg #[.int .i64 0, .int .i64 0, .int .i64 0]), 3, 24) := by kernel_rfl
theorem wp_app (u : World) {ops : Array Oper} {rest : List Oper} {o : Oper} {a : Act} {Q : Exit → Act → World → Prop} (hgd : o.guard = none) (s x : Operand)
    (ho : o.op = .call { callee := .builtin .append, args := #[s, x], argTypes := #[25, 25] }) (base g n cap : Nat) (ps : List T3) (vb : Nat) (p q r : Int)
    (hs : a.eval s = .slice (some ⟨g, 0, none⟩) n cap) (hx : a.eval x = .slice (some ⟨vb, 0, none⟩) 1 1) (hown : Own3 46 u base g n cap ps) (hv : Holds3 u vb 0 (p, q, r)) (hn : n ≤ 1048576) (hb : base ≤ u.heap.size)
    (h : ∀ g' c' w', Own3 46 w' base g' (n + 1) c' (ps ++ [(p, q, r)]) → u.grownBy w' (some g) → (g' = g ∨ g' = u.heap.size) → wpList Tryz.prog ops Q rest (a.put o.dst (.slice (some ⟨g', 0, none⟩) (n + 1) c')) w') : wpList Tryz.prog ops Q (o :: rest) a u := by
  obtain ⟨i0, hi, hz0, hz1, hz2⟩ := info_parts info2
  have hat : At3 u vb [(p, q, r)] := by
    intro i hi
    obtain rfl : i = 0 := by simpa using hi
    exact hv
  refine wpList_append_own_at u hgd s x 25 ho base 46 i0 (.agg #[.int .i64 0, .int .i64 0, .int .i64 0]) 3 24 Tryz.underlying25 hi hz0 hz1 hz2 rfl (by decide) _ n _ hs hown ⟨vb, 0, none⟩ 1 1 (flat3 [(p, q, r)]) hx rfl hat.cells (fun u hu => flat3_one u _ hu) (by unfold maxLen; omega) (by omega) hb ?_
  intro v' w' own' gr' nil' loc'
  obtain ⟨g', c', rfl, o'⟩ := own3_of_row (n' := n + 1) (ps := ps ++ [(p, q, r)]) own' rfl (by rw [flat3_append]) (by rw [nil']; simp)
  exact h g' c' w' o' gr' (by simpa [Value.ownBlock] using loc')
end Go.Proofs.YtefcigaalgfmiaaGreatDoor.BalApp
namespace Go.Proofs.YtefcigaalgfmiaaGreatDoor.IIndex8
open Go.ChangeShapes Go.WideShapes Go.ChangeAt Go.RowKit BMem Bks IRead
open Lots (Says says_of NoOk)
open Tup8 (T8 el8 At8 Holds8)
/-- Where the first one stands for which p says yes, or -1. -/
def FirstAt8 (xs : List T8) (p : T8 → Bool) (r : Int) : Prop := (r = -1 ∧ ∀ x ∈ xs, p x = false) ∨ (0 ≤ r ∧ ∃ x ∈ xs, p x = true)
set_option maxRecDepth 100000 in
set_option maxHeartbeats 1000000 in
theorem iIndexF8 (w : World) (g n cap K : Nat) (caps : Array Value) (xs : List T8) (p : T8 → Bool) (hl : xs.length = n) (h20 : n ≤ 1048576) (hg : g < w.heap.size) (h : At8 w g xs)
    (hK : ∀ (args : Array Value) (u : World), (callFunc K args).run Tryz.prog u = .ok (.enter K args) u) (hf : ∀ (u : World) (y : T8), Below w.heap.size w u → Calls Tryz.prog K (#[.agg #[.int .i64 y.1, .int .i64 y.2.1, .int .i64 y.2.2.1, .int .i64 y.2.2.2.1, .int .i64 y.2.2.2.2.1, .int .i64 y.2.2.2.2.2.1, .int .i64 y.2.2.2.2.2.2.1, .int .i64 y.2.2.2.2.2.2.2]] ++ caps) u fun e u' => e = .returned (.bool (p y)) ∧ Below u.heap.size u u') :
    Calls Tryz.prog 108 #[.slice (some ⟨g, 0, none⟩) n cap, .func (.func K) #[] caps] w fun e w' => ∃ r, FirstAt8 xs p r ∧ e = .returned (.int .i64 r) ∧ Below w.heap.size w w' := by
  have H := hide h
  have HF := hide hf
  have HL := hide hl
  clear h hf hl
  go_enter Tryz.func108, Tryz.ntmps108
  go_wp2_with fail
  go_loopw [8] (fun i wr => ∃ (k : Nat), k ≤ n ∧ i = .int .i64 k ∧ (∀ j, j < k → p (el8 xs j) = false) ∧ Below w.heap.size w wr) (fun i _ => n - (intOf i).toNat)
  case atStart => exact ⟨0, by omega, rfl, fun j hj => by omega, Below.refl _ _⟩
  case round =>
    obtain ⟨k, hk, rfl, hn, hb⟩ := hrel
    have HB := hide hb
    have HN := hide hn
    by_cases t : k < n
    · obtain ⟨c0, c1, c2, c3, c4, c5, c6, c7⟩ := ((unhide H).below hb hg) k (by rw [unhide HL]; exact t)
      have hM : el8 xs k ∈ xs := by
        simp [el8, List.getD, unhide HL, t]
      have HM := hide hM
      clear hb hn hM
      generalize hy : el8 xs k = y at *
      have HY := hide hy
      clear hy
      go_wp2_with fail
      refine ((unhide HF) _ y (unhide HB)).mono ?_
      rintro e w1 ⟨rfl, b1⟩
      have B1 := hide (next (unhide HB) b1)
      clear b1 c0 c1 c2 c3 c4 c5 c6 c7
      cases hp : p y
      · go_wp2
        go_roundw
        case rel => exact ⟨k + 1, by omega, by go_num, fun j hj => by
          by_cases e : j = k
          · subst e; rw [unhide HY]; exact hp
          · exact (unhide HN) j (by omega), unhide B1⟩
        case measure => simp [intOf]; omega
      · go_wp2
        go_ret
        exact ⟨k, .inr ⟨by omega, y, unhide HM, hp⟩, rfl, unhide B1⟩
    · clear hb hn
      have hkn : k = n := by omega
      have E0 := hide (show ∀ x ∈ xs, p x = false from fun x hx => by
        obtain ⟨j, hj, rfl⟩ := List.getElem_of_mem hx
        have := (unhide HN) j (by rw [unhide HL] at hj; omega)
        simpa [el8, List.getD, hj] using this)
      clear hkn
      go_wp2
      go_ret
      exact ⟨-1, .inl ⟨rfl, unhide E0⟩, rfl, unhide HB⟩
set_option maxRecDepth 100000 in
theorem iContainsF8 (w : World) (g n cap K : Nat) (caps : Array Value) (xs : List T8) (p : T8 → Bool) (b : Bool) (hl : xs.length = n) (h20 : n ≤ 1048576) (hg : g < w.heap.size) (h : At8 w g xs)
    (hK : ∀ (args : Array Value) (u : World), (callFunc K args).run Tryz.prog u = .ok (.enter K args) u) (hf : ∀ (u : World) (y : T8), Below w.heap.size w u → Calls Tryz.prog K (#[.agg #[.int .i64 y.1, .int .i64 y.2.1, .int .i64 y.2.2.1, .int .i64 y.2.2.2.1, .int .i64 y.2.2.2.2.1, .int .i64 y.2.2.2.2.2.1, .int .i64 y.2.2.2.2.2.2.1, .int .i64 y.2.2.2.2.2.2.2]] ++ caps) u fun e u' => e = .returned (.bool (p y)) ∧ Below u.heap.size u u') (hb : Says b (∃ x ∈ xs, p x = true)) :
    Calls Tryz.prog 86 #[.slice (some ⟨g, 0, none⟩) n cap, .func (.func K) #[] caps] w fun e w' => e = .returned (.bool b) ∧ Below w.heap.size w w' := by
  have H := hide h
  have HF := hide hf
  have HL := hide hl
  have T := hide hb
  clear h hf hl hb
  go_enter Tryz.func86, Tryz.ntmps86
  go_wp2_with fail
  refine (iIndexF8 _ g n cap K caps xs p (unhide HL) h20 hg (unhide H) hK (unhide HF)).mono ?_
  rintro e w1 ⟨r, hr, rfl, b1⟩
  have B1 := hide b1
  have hd : decide (0 ≤ r) = b := by
    rcases hr with ⟨rfl, hr⟩ | ⟨h0, hr⟩
    · rw [(unhide T).not (fun ⟨x, hx, e⟩ => by rw [hr x hx] at e; cases e)]; rfl
    · rw [(unhide T).of hr]; exact decide_eq_true h0
  clear b1 hr
  go_wp2
  go_ret
  exact ⟨rfl, unhide B1⟩
end Go.Proofs.YtefcigaalgfmiaaGreatDoor.IIndex8
namespace Go.Proofs.YtefcigaalgfmiaaGreatDoor.ITradesFit
open Go.ChangeShapes Go.WideShapes Go.ChangeAt Go.RowKit BMem Bks IRead IHave ITrade ILists IBalsFit IIndex8
open Lots (Says says_of NoOk)
open Tup8 (T8 el8 At8 Holds8)
/-- A trade that does not fit. -/
noncomputable def unfitB (b : Bk) (t : T8) : Bool := @decide (¬ TradeFit b t) (Classical.propDecidable _)
theorem unfit_says (b : Bk) (t : T8) : Says (!(unfitB b t)) (TradeFit b t) := by
  unfold unfitB
  by_cases h : TradeFit b t
  · rw [@decide_eq_false _ (Classical.propDecidable _) (fun n : ¬ TradeFit b t => n h)]
    exact ⟨fun _ => h, fun _ => rfl⟩
  · rw [@decide_eq_true _ (Classical.propDecidable _) h]
    exact ⟨fun e => Bool.noConfusion e, fun e => absurd e h⟩
end Go.Proofs.YtefcigaalgfmiaaGreatDoor.ITradesFit
namespace Go.Proofs.YtefcigaalgfmiaaGreatDoor.LaidE
open Go.ChangeShapes Go.WideShapes Go.ChangeAt Go.RowKit Errs
theorem star : "*" ++ "errors.errorString" = "*errors.errorString" := by decide
set_option maxRecDepth 100000 in
theorem rowE (u : TypeId) (h : Tryz.prog.typeName? 3 u = some "*errors.errorString") : u = 161 :=
  typeName_ptr_named (nm := "errors.errorString") (by rw [star]; kernel_rfl) (by kernel_rfl) (by decide) u (by rw [star]; exact h)
/-- Each name holds an error of errors.New's make. -/
def Fits (W : World) : List (String × DataW Unit) → List Addr → Prop
  | [], [] => True
  | x :: l, a :: al => (W.var? Tryz.prog x.1 = some #[.iface 161 (.pointer (some a))] ∧ ∃ c t, W.heap[a.block]? = some (.cells c t (0, 0))) ∧ Fits W l al
  | _, _ => False
def Named (l : List (String × DataW Unit)) : Prop := ∀ x ∈ l, (∃ g, Tryz.prog.globalNamed x.1 = some g ∧ (Tryz.prog.globals[g]?).map (·.type) = some 85) ∧ ∃ t, x.2 = .iface "*errors.errorString" (.ptr (.agg [.lit (.string t)]))
set_option maxRecDepth 100000 in
theorem fits_of {W : World} : ∀ (l : List (String × DataW Unit)) (ps : List MemPlace), Named l → DataW.LaidVars Tryz.prog W l ps → (∀ b off, MemPlace.cell b off ∈ ps → (∃ c t, W.heap[b]? = some (.cells c t (0, 0))) ∧ ∀ u v, W.cell? ⟨b, off, none⟩ = some (.iface u v) → Value.okWide Tryz.prog W .any 0 u v) → ∃ al, Fits W l al ∧ (∀ a ∈ al, MemPlace.cell a.block a.off ∈ ps) ∧ (ps.Nodup → al.Nodup)
  | [], ps, _, h, _ => ⟨[], trivial, fun a ha => by simp at ha, fun _ => by simp⟩
  | (n, d) :: l, ps, hn, h, hr => by
    obtain ⟨⟨g', hg', ht'⟩, t', hd'⟩ := hn (n, d) (by simp)
    obtain ⟨g, t, cs, fuel, p, q, hg, ht, hv, hd, hq, rfl⟩ := h
    obtain rfl := Option.some.inj (hg.symm.trans hg')
    obtain rfl := Option.some.inj (ht.symm.trans ht')
    simp only at hd'
    subst hd'
    obtain ⟨cs⟩ := cs
    have ok : ∀ u v, cs = [.iface u v] → Value.okWide Tryz.prog W .any 0 u v := fun u v e => by
      subst e
      exact (hr g 0 (by simp [MemPlace.row])).2 u v (by simpa using World.var?_cell hg hv 0)
    obtain ⟨a, s, rfl, hc, _, _, rfl⟩ := errorString_of_trod Tryz.underlying85 rowE Tryz.underlying161 Tryz.underlying178 rfl rfl Tryz.underlying9 (by kernel_rfl) (by kernel_rfl) hd ok
    obtain ⟨al, h1, h2, h3⟩ := fits_of l q (fun x hx => hn x (by simp [hx])) hq (fun b off hm => hr b off (List.mem_append_right _ hm))
    have ma : MemPlace.cell a.block a.off ∈ MemPlace.row a 1 := by simp [MemPlace.row]
    refine ⟨a :: al, ⟨⟨hv, (hr a.block a.off (List.mem_append_left _ (List.mem_append_right _ ma))).1⟩, h1⟩, fun b hb => ?_, fun nd => ?_⟩
    · rcases List.mem_cons.1 hb with rfl | hb
      · exact List.mem_append_left _ (List.mem_append_right _ ma)
      · exact List.mem_append_right _ (h2 b hb)
    · obtain ⟨_, n2, n3⟩ := List.nodup_append.1 nd
      exact List.nodup_cons.2 ⟨fun m => n3 _ (List.mem_append_right _ ma) _ (h2 a m) rfl, h3 n2⟩
theorem fits_laid {W : World} {l : List (String × DataW Unit)} (hn : Named l) (h : laidMet Tryz.prog l W) : ∃ al, Fits W l al ∧ al.Nodup := by
  obtain ⟨ps, h1, h2, h3⟩ := h
  obtain ⟨al, k1, _, k3⟩ := fits_of l ps hn h1 h3
  exact ⟨al, k1, k3 h2⟩
theorem var_lt {W : World} {n : String} {g : Nat} {cs : Array Value} (hg : Tryz.prog.globalNamed n = some g) (h : W.var? Tryz.prog n = some cs) : g < W.heap.size := by
  unfold World.var? at h
  simp only [hg, Option.bind_some] at h
  rcases Nat.lt_or_ge g W.heap.size with q | q
  · exact q
  · simp [Array.getElem?_eq_none q] at h
theorem var_below {W W' : World} {n : String} {cs : Array Value} (h : W.var? Tryz.prog n = some cs) (b : Below W.heap.size W W') : W'.var? Tryz.prog n = some cs := by
  cases hg : Tryz.prog.globalNamed n with
  | none => unfold World.var? at h; simp [hg] at h
  | some g =>
    have lt := var_lt hg h
    unfold World.var? at h ⊢
    simp only [hg, Option.bind_some] at h ⊢
    rw [b.block g lt]
    exact h
/-- Variables that hold these values. -/
def Holds (W : World) : List String → List Nat → List Value → Prop
  | [], [], [] => True
  | n :: ns, g :: gs, x :: xs => (Tryz.prog.globalNamed n = some g ∧ (Tryz.prog.globals[g]?).map (·.type) = some 85 ∧ W.var? Tryz.prog n = some #[x] ∧ IsIface x) ∧ Holds W ns gs xs
  | _, _, _ => False
theorem Holds.below {W W' : World} (b : Below W.heap.size W W') : ∀ {ns : List String} {gs : List Nat} {xs : List Value}, Holds W ns gs xs → Holds W' ns gs xs
  | [], [], [], _ => trivial
  | _ :: _, _ :: _, _ :: _, ⟨⟨h1, h2, h3, h4⟩, h5⟩ => ⟨⟨h1, h2, var_below h3 b, h4⟩, h5.below b⟩
  | [], [], _ :: _, h => h.elim
  | [], _ :: _, _, h => h.elim
  | _ :: _, [], _, h => h.elim
  | _ :: _, _ :: _, [], h => h.elim
theorem Holds.read {H : Type} (enc : TypeId × Value → H) {W : World} (sp : Nat → Bool) : ∀ {ns : List String} {gs : List Nat} {xs : List Value}, Holds W ns gs xs → DataW.TrodVars enc Tryz.prog W sp ns (xs.map (tok enc)) (gs.map (MemPlace.cell · 0))
  | [], [], [], _ => rfl
  | _ :: _, g :: _, x :: _, ⟨⟨h1, h2, h3, h4⟩, h5⟩ => ⟨g, 85, #[x], 1, [], _, h1, h2, h3, trod_held Tryz.underlying85 h4 0, h5.read enc sp, rfl⟩
  | [], [], _ :: _, h => h.elim
  | [], _ :: _, _, h => h.elim
  | _ :: _, [], _, h => h.elim
  | _ :: _, _ :: _, [], h => h.elim
/-- Five addresses, by their numbers. -/
def at5 (a0 a1 a2 a3 a4 : Addr) (k : Nat) : Addr := if k = 0 then a0 else if k = 1 then a1 else if k = 2 then a2 else if k = 3 then a3 else a4
theorem cell_of {W : World} {n : String} {g : Nat} {x : Value} (hg : Tryz.prog.globalNamed n = some g) (h : W.var? Tryz.prog n = some #[x]) : W.cell? ⟨g, 0, none⟩ = some x := by simpa using World.var?_cell hg h 0
theorem row_lt {W : World} {b : Nat} (h : ∃ c t, W.heap[b]? = some (.cells c t (0, 0))) : b < W.heap.size := by
  obtain ⟨c, t, e⟩ := h
  exact (Array.getElem?_eq_some_iff.1 e).1
end Go.Proofs.YtefcigaalgfmiaaGreatDoor.LaidE
