/- Texts of one proof, one behind the other: SNums13, AccountSOk, InstrSOk, SBals, Legs, BalApp, LotApp, SSplit, INums13, IIndex8, ITradesFit, IPuts11. -/
import Derived.Test.YtefcigaalgfmiaaGreatRows
import Derived.Test.YtefcigaalgfmiaaGreatPG1
import Derived.Test.YtefcigaalgfmiaaGreatPG2
import Derived.Deep.RegionHeld3
import Derived.Maps.AppendAt
set_option linter.unusedVariables false
set_option linter.unusedSimpArgs false
namespace Go.Proofs.YtefcigaalgfmiaaGreat.SNums13
open Go.ChangeShapes Go.WideShapes Go.ChangeAt Go.RowKit BMem Bks SPuts11
open IBalsFit (St one_more)
open Bals (T3 el3)
open Tup5 (T5 el5)
open Tup8 (T8 el8)
/-- Numbers that lie from the head of a block on. -/
def AtI (w : World) (g : Nat) (xs : List Int) : Prop := ∀ i, i < xs.length → w.cell? ⟨g, i, none⟩ = some (.int .i64 (xs.getD i 0))
/-- Numbers appended to numbers of the call's own. -/
theorem wp_catI (u : World) {ops : Array Oper} {rest : List Oper} {o : Oper} {a : Act} {Q : Exit → Act → World → Prop} (hgd : o.guard = none) (s x : Operand)
    (ho : o.op = .call { callee := .builtin .append, args := #[s, x], argTypes := #[54, 54] }) (base g n cap m : Nat) (xs ys : List Int) (vb c : Nat)
    (hs : a.eval s = .slice (some ⟨g, 0, none⟩) n cap) (hx : a.eval x = .slice (some ⟨vb, 0, none⟩) m c) (hown : Ints.Own u base g n cap xs) (hl : ys.length = m) (hv : AtI u vb ys) (hn : n + m ≤ 100000000) (hb : base ≤ u.heap.size)
    (h : ∀ g' c' w', Ints.Own w' base g' (n + m) c' (xs ++ ys) → u.grownBy w' (some g) → (g' = g ∨ g' = u.heap.size) → wpList Tryz.prog ops Q rest (a.put o.dst (.slice (some ⟨g', 0, none⟩) (n + m) c')) w') : wpList Tryz.prog ops Q (o :: rest) a u := by
  obtain ⟨i0, hi, hz0, hz1, hz2⟩ := info_parts Ints.info3
  refine wpList_append_own_at u hgd s x 54 ho base 3 i0 (.int .i64 0) 1 8 Tryz.underlying54 hi hz0 hz1 hz2 rfl (by decide) _ n _ hs hown ⟨vb, 0, none⟩ m c (ys.map (Value.int .i64)) hx (by simp [hl]) (fun j v hj => by
    have hj' : j < ys.length := by
      have := (List.getElem?_eq_some_iff.1 hj).1
      simpa using this
    have := hv j hj'
    rw [Addr.add_lit, Nat.zero_add, this]
    rw [← hj]
    simp [List.getD, hj']) (by intro u hu; obtain ⟨y, _, rfl⟩ := List.mem_map.1 hu; simp [Value.oneCell']) (by unfold maxLen; omega) (by omega) hb ?_
  intro v' w' own' gr' nil' loc'
  obtain ⟨g', c', rfl, o'⟩ := own_of_rowI (n' := n + m) (xs := xs ++ ys) own' rfl (by simp) (by rw [nil']; simp)
  exact h g' c' w' o' gr' (by simpa [Value.ownBlock] using loc')
/-- The same at a step of a region that draws its order. -/
theorem step_catI (u : World) {ops : Array Oper} {o : Oper} {a : Act} {K : Act → World → Prop} {Q : Exit → Act → World → Prop} {E : Prop} (hgd : o.guard = none) (s x : Operand)
    (ho : o.op = .call { callee := .builtin .append, args := #[s, x], argTypes := #[54, 54] }) (base g n cap m : Nat) (xs ys : List Int) (vb c : Nat)
    (hs : a.eval s = .slice (some ⟨g, 0, none⟩) n cap) (hx : a.eval x = .slice (some ⟨vb, 0, none⟩) m c) (hown : Ints.Own u base g n cap xs) (hl : ys.length = m) (hv : AtI u vb ys) (hn : n + m ≤ 100000000) (hb : base ≤ u.heap.size)
    (h : ∀ g' c' w', Ints.Own w' base g' (n + m) c' (xs ++ ys) → u.grownBy w' (some g) → (g' = g ∨ g' = u.heap.size) → K (a.put o.dst (.slice (some ⟨g', 0, none⟩) (n + m) c')) w') : if Region.wanted o (yielded ops a.tmps) = true then Oper.wp Tryz.prog o a u K Q else E := by
  obtain ⟨i0, hi, hz0, hz1, hz2⟩ := info_parts Ints.info3
  have hw : Region.wanted o (yielded ops a.tmps) = true := by simp [Region.wanted, hgd]
  rw [if_pos hw]
  obtain ⟨v', w', hr, own', gr', nil', loc'⟩ := run_append_own_at (P := Tryz.prog) u base 54 o.type 3 i0 (.int .i64 0) 1 8 Tryz.underlying54 hi hz0 hz1 hz2 rfl (by decide) (.slice (some ⟨g, 0, none⟩) n cap) n (xs.map (Value.int .i64)) hown ⟨vb, 0, none⟩ m c (ys.map (Value.int .i64)) (by simp [hl]) (fun j v hj => by
    have hj' : j < ys.length := by
      have := (List.getElem?_eq_some_iff.1 hj).1
      simpa using this
    have := hv j hj'
    rw [Addr.add_lit, Nat.zero_add, this]
    rw [← hj]
    simp [List.getD, hj']) (by intro u hu; obtain ⟨y, _, rfl⟩ := List.mem_map.1 hu; simp [Value.oneCell']) (by unfold maxLen; omega) (by omega) hb
  unfold Oper.wp execOp
  simp only [ho, resolve, invoke, builtin, Sem.run_bind, Sem.run_pure, Result.andThen_ok, List.map_toArray, List.map_cons, List.map_nil, hs, hx, hr]
  obtain ⟨g', c', rfl, o'⟩ := own_of_rowI (n' := n + m) (xs := xs ++ ys) own' rfl (by simp) (by rw [nil']; simp)
  exact h g' c' w' o' gr' (by simpa [Value.ownBlock] using loc')
theorem lit1 (w : World) (a : Int) : AtI (w.alloc (.cells #[.int .i64 a] 3)) w.heap.size [a] := by
  intro i hi
  have : i = 0 := by simpa using hi
  subst this
  simp
theorem lit2 (w : World) (a b : Int) : AtI (w.alloc (.cells #[.int .i64 a, .int .i64 b] 3)) w.heap.size [a, b] := by
  intro i hi
  have : i = 0 ∨ i = 1 := by simp at hi; omega
  rcases this with rfl | rfl <;> simp
theorem lit3 (w : World) (a b c : Int) : AtI (w.alloc (.cells #[.int .i64 a, .int .i64 b, .int .i64 c] 3)) w.heap.size [a, b, c] := by
  intro i hi
  have : i = 0 ∨ i = 1 ∨ i = 2 := by simp at hi; omega
  rcases this with rfl | rfl | rfl <;> simp
theorem lit5 (w : World) (a b c d e : Int) : AtI (w.alloc (.cells #[.int .i64 a, .int .i64 b, .int .i64 c, .int .i64 d, .int .i64 e] 3)) w.heap.size [a, b, c, d, e] := by
  intro i hi
  have : i = 0 ∨ i = 1 ∨ i = 2 ∨ i = 3 ∨ i = 4 := by simp at hi; omega
  rcases this with rfl | rfl | rfl | rfl | rfl <;> simp
theorem lit8 (w : World) (a b c d e f g h : Int) : AtI (w.alloc (.cells #[.int .i64 a, .int .i64 b, .int .i64 c, .int .i64 d, .int .i64 e, .int .i64 f, .int .i64 g, .int .i64 h] 3)) w.heap.size [a, b, c, d, e, f, g, h] := by
  intro i hi
  have : i = 0 ∨ i = 1 ∨ i = 2 ∨ i = 3 ∨ i = 4 ∨ i = 5 ∨ i = 6 ∨ i = 7 := by simp at hi; omega
  rcases this with rfl | rfl | rfl | rfl | rfl | rfl | rfl | rfl <;> simp
/-- The numbers of a row. -/
def row2 (p : Int × Int) : List Int := [p.1, p.2]
def row3 (p : T3) : List Int := [p.1, p.2.1, p.2.2 + 1000000000000000]
def row5 (p : T5) : List Int := [p.1, p.2.1, p.2.2.1, p.2.2.2.1, p.2.2.2.2]
def row8 (p : T8) : List Int := [p.1, p.2.1, p.2.2.1, p.2.2.2.1, p.2.2.2.2.1, p.2.2.2.2.2.1, p.2.2.2.2.2.2.1, p.2.2.2.2.2.2.2]
/-- The numbers of books, in the order of their bytes. -/
def nums (b : Bk) : List Int := [(b.ac.length : Int)] ++ b.ac.flatMap row2 ++ [(b.ic.length : Int)] ++ b.ic.flatMap row2 ++ [(b.bs.length : Int)] ++ b.bs.flatMap row3 ++ [(b.ls.length : Int)] ++ b.ls.flatMap row5 ++ [(b.ts.length : Int)] ++ b.ts.flatMap row8 ++ [b.lot]
theorem flat_more {α : Type} {ps : List α} {f : α → List Int} {k : Nat} (d : α) (h : k < ps.length) : (ps.take (k + 1)).flatMap f = (ps.take k).flatMap f ++ f (ps.getD k d) := by
  rw [List.take_succ_eq_append_getElem h, List.flatMap_append]
  simp [List.getD, h]
abbrev oN00 : Oper := { dst := some 22, op := Go.Op.move (Go.Operand.tmp 3), type := 54, pos := "l13_save.go:9", after := #[], guard := none }
abbrev oN01 : Oper := { dst := some 23, op := Go.Op.fieldAddr 39 (Go.Operand.tmp 1) 0, type := 0, pos := "l13_save.go:9", after := #[], guard := none }
abbrev oN02 : Oper := { dst := some 24, op := Go.Op.load 33 (Go.Operand.tmp 23), type := 33, pos := "l13_save.go:9", after := #[{ on := 1, ground := Go.Ground.data }], guard := none }
abbrev oN03 : Oper := { dst := some 25, op := Go.Op.move (Go.Operand.tmp 4), type := 3, pos := "l13_save.go:9", after := #[], guard := none }
abbrev oN04 : Oper := { dst := some 26, op := Go.Op.indexAddr 33 (Go.Operand.tmp 24) (Go.Operand.tmp 25), type := 0, pos := "l13_save.go:9", after := #[{ on := 2, ground := Go.Ground.data }, { on := 3, ground := Go.Ground.data }], guard := none }
abbrev oN05 : Oper := { dst := some 27, op := Go.Op.fieldAddr 82 (Go.Operand.tmp 26) 0, type := 0, pos := "l13_save.go:9", after := #[{ on := 4, ground := Go.Ground.data }], guard := none }
abbrev oN06 : Oper := { dst := some 28, op := Go.Op.load 3 (Go.Operand.tmp 27), type := 3, pos := "l13_save.go:9", after := #[{ on := 5, ground := Go.Ground.data }], guard := none }
abbrev oN07 : Oper := { dst := some 29, op := Go.Op.fieldAddr 39 (Go.Operand.tmp 1) 0, type := 0, pos := "l13_save.go:9", after := #[], guard := none }
abbrev oN08 : Oper := { dst := some 30, op := Go.Op.load 33 (Go.Operand.tmp 29), type := 33, pos := "l13_save.go:9", after := #[{ on := 7, ground := Go.Ground.data }], guard := none }
abbrev oN09 : Oper := { dst := some 31, op := Go.Op.move (Go.Operand.tmp 4), type := 3, pos := "l13_save.go:9", after := #[], guard := none }
abbrev oN010 : Oper := { dst := some 32, op := Go.Op.indexAddr 33 (Go.Operand.tmp 30) (Go.Operand.tmp 31), type := 0, pos := "l13_save.go:9", after := #[{ on := 8, ground := Go.Ground.data }, { on := 9, ground := Go.Ground.data }], guard := none }
abbrev oN011 : Oper := { dst := some 33, op := Go.Op.fieldAddr 82 (Go.Operand.tmp 32) 1, type := 0, pos := "l13_save.go:9", after := #[{ on := 10, ground := Go.Ground.data }], guard := none }
abbrev oN012 : Oper := { dst := some 34, op := Go.Op.load 3 (Go.Operand.tmp 33), type := 3, pos := "l13_save.go:9", after := #[{ on := 11, ground := Go.Ground.data }], guard := none }
abbrev oN013 : Oper := { dst := some 35, op := Go.Op.buildSlice 54 2 #[(0, Go.Operand.tmp 28), (1, Go.Operand.tmp 34)], type := 54, pos := "l13_save.go:9", after := #[{ on := 6, ground := Go.Ground.data }, { on := 12, ground := Go.Ground.data }], guard := none }
abbrev oN014 : Oper := { dst := some 36, op := Go.Op.call { callee := Go.Callee.builtin Go.Builtin.append, args := #[Go.Operand.tmp 22, Go.Operand.tmp 35], argTypes := #[54, 54] }, type := 54, pos := "l13_save.go:9", after := #[{ on := 0, ground := Go.Ground.data }, { on := 13, ground := Go.Ground.data }], guard := none }
abbrev oN015 : Oper := { dst := some 3, op := Go.Op.assign (Go.Operand.tmp 36), type := 54, pos := "l13_save.go:9", after := #[{ on := 14, ground := Go.Ground.data }, { on := 14, ground := Go.Ground.chain }, { on := 0, ground := Go.Ground.phase }, { on := 1, ground := Go.Ground.phase }, { on := 2, ground := Go.Ground.phase }, { on := 3, ground := Go.Ground.phase }, { on := 4, ground := Go.Ground.phase }, { on := 5, ground := Go.Ground.phase }, { on := 6, ground := Go.Ground.phase }, { on := 7, ground := Go.Ground.phase }, { on := 8, ground := Go.Ground.phase }, { on := 9, ground := Go.Ground.phase }, { on := 10, ground := Go.Ground.phase }, { on := 11, ground := Go.Ground.phase }, { on := 12, ground := Go.Ground.phase }, { on := 13, ground := Go.Ground.phase }, { on := 14, ground := Go.Ground.phase }], guard := none }
abbrev oN10 : Oper := { dst := some 50, op := Go.Op.move (Go.Operand.tmp 3), type := 54, pos := "l13_save.go:13", after := #[], guard := none }
abbrev oN11 : Oper := { dst := some 51, op := Go.Op.fieldAddr 39 (Go.Operand.tmp 1) 1, type := 0, pos := "l13_save.go:13", after := #[], guard := none }
abbrev oN12 : Oper := { dst := some 52, op := Go.Op.load 34 (Go.Operand.tmp 51), type := 34, pos := "l13_save.go:13", after := #[{ on := 1, ground := Go.Ground.data }], guard := none }
abbrev oN13 : Oper := { dst := some 53, op := Go.Op.move (Go.Operand.tmp 5), type := 3, pos := "l13_save.go:13", after := #[], guard := none }
abbrev oN14 : Oper := { dst := some 54, op := Go.Op.indexAddr 34 (Go.Operand.tmp 52) (Go.Operand.tmp 53), type := 0, pos := "l13_save.go:13", after := #[{ on := 2, ground := Go.Ground.data }, { on := 3, ground := Go.Ground.data }], guard := none }
abbrev oN15 : Oper := { dst := some 55, op := Go.Op.fieldAddr 83 (Go.Operand.tmp 54) 0, type := 0, pos := "l13_save.go:13", after := #[{ on := 4, ground := Go.Ground.data }], guard := none }
abbrev oN16 : Oper := { dst := some 56, op := Go.Op.load 3 (Go.Operand.tmp 55), type := 3, pos := "l13_save.go:13", after := #[{ on := 5, ground := Go.Ground.data }], guard := none }
abbrev oN17 : Oper := { dst := some 57, op := Go.Op.fieldAddr 39 (Go.Operand.tmp 1) 1, type := 0, pos := "l13_save.go:13", after := #[], guard := none }
abbrev oN18 : Oper := { dst := some 58, op := Go.Op.load 34 (Go.Operand.tmp 57), type := 34, pos := "l13_save.go:13", after := #[{ on := 7, ground := Go.Ground.data }], guard := none }
abbrev oN19 : Oper := { dst := some 59, op := Go.Op.move (Go.Operand.tmp 5), type := 3, pos := "l13_save.go:13", after := #[], guard := none }
abbrev oN110 : Oper := { dst := some 60, op := Go.Op.indexAddr 34 (Go.Operand.tmp 58) (Go.Operand.tmp 59), type := 0, pos := "l13_save.go:13", after := #[{ on := 8, ground := Go.Ground.data }, { on := 9, ground := Go.Ground.data }], guard := none }
abbrev oN111 : Oper := { dst := some 61, op := Go.Op.fieldAddr 83 (Go.Operand.tmp 60) 1, type := 0, pos := "l13_save.go:13", after := #[{ on := 10, ground := Go.Ground.data }], guard := none }
abbrev oN112 : Oper := { dst := some 62, op := Go.Op.load 3 (Go.Operand.tmp 61), type := 3, pos := "l13_save.go:13", after := #[{ on := 11, ground := Go.Ground.data }], guard := none }
abbrev oN113 : Oper := { dst := some 63, op := Go.Op.buildSlice 54 2 #[(0, Go.Operand.tmp 56), (1, Go.Operand.tmp 62)], type := 54, pos := "l13_save.go:13", after := #[{ on := 6, ground := Go.Ground.data }, { on := 12, ground := Go.Ground.data }], guard := none }
abbrev oN114 : Oper := { dst := some 64, op := Go.Op.call { callee := Go.Callee.builtin Go.Builtin.append, args := #[Go.Operand.tmp 50, Go.Operand.tmp 63], argTypes := #[54, 54] }, type := 54, pos := "l13_save.go:13", after := #[{ on := 0, ground := Go.Ground.data }, { on := 13, ground := Go.Ground.data }], guard := none }
abbrev oN115 : Oper := { dst := some 3, op := Go.Op.assign (Go.Operand.tmp 64), type := 54, pos := "l13_save.go:13", after := #[{ on := 14, ground := Go.Ground.data }, { on := 14, ground := Go.Ground.chain }, { on := 0, ground := Go.Ground.phase }, { on := 1, ground := Go.Ground.phase }, { on := 2, ground := Go.Ground.phase }, { on := 3, ground := Go.Ground.phase }, { on := 4, ground := Go.Ground.phase }, { on := 5, ground := Go.Ground.phase }, { on := 6, ground := Go.Ground.phase }, { on := 7, ground := Go.Ground.phase }, { on := 8, ground := Go.Ground.phase }, { on := 9, ground := Go.Ground.phase }, { on := 10, ground := Go.Ground.phase }, { on := 11, ground := Go.Ground.phase }, { on := 12, ground := Go.Ground.phase }, { on := 13, ground := Go.Ground.phase }, { on := 14, ground := Go.Ground.phase }], guard := none }
abbrev oN20 : Oper := { dst := some 78, op := Go.Op.move (Go.Operand.tmp 3), type := 54, pos := "l13_save.go:17", after := #[], guard := none }
abbrev oN21 : Oper := { dst := some 79, op := Go.Op.fieldAddr 39 (Go.Operand.tmp 1) 2, type := 0, pos := "l13_save.go:17", after := #[], guard := none }
abbrev oN22 : Oper := { dst := some 80, op := Go.Op.load 35 (Go.Operand.tmp 79), type := 35, pos := "l13_save.go:17", after := #[{ on := 1, ground := Go.Ground.data }], guard := none }
abbrev oN23 : Oper := { dst := some 81, op := Go.Op.move (Go.Operand.tmp 6), type := 3, pos := "l13_save.go:17", after := #[], guard := none }
abbrev oN24 : Oper := { dst := some 82, op := Go.Op.indexAddr 35 (Go.Operand.tmp 80) (Go.Operand.tmp 81), type := 0, pos := "l13_save.go:17", after := #[{ on := 2, ground := Go.Ground.data }, { on := 3, ground := Go.Ground.data }], guard := none }
abbrev oN25 : Oper := { dst := some 83, op := Go.Op.fieldAddr 85 (Go.Operand.tmp 82) 0, type := 0, pos := "l13_save.go:17", after := #[{ on := 4, ground := Go.Ground.data }], guard := none }
abbrev oN26 : Oper := { dst := some 84, op := Go.Op.load 3 (Go.Operand.tmp 83), type := 3, pos := "l13_save.go:17", after := #[{ on := 5, ground := Go.Ground.data }], guard := none }
abbrev oN27 : Oper := { dst := some 85, op := Go.Op.fieldAddr 39 (Go.Operand.tmp 1) 2, type := 0, pos := "l13_save.go:17", after := #[], guard := none }
abbrev oN28 : Oper := { dst := some 86, op := Go.Op.load 35 (Go.Operand.tmp 85), type := 35, pos := "l13_save.go:17", after := #[{ on := 7, ground := Go.Ground.data }], guard := none }
abbrev oN29 : Oper := { dst := some 87, op := Go.Op.move (Go.Operand.tmp 6), type := 3, pos := "l13_save.go:17", after := #[], guard := none }
abbrev oN210 : Oper := { dst := some 88, op := Go.Op.indexAddr 35 (Go.Operand.tmp 86) (Go.Operand.tmp 87), type := 0, pos := "l13_save.go:17", after := #[{ on := 8, ground := Go.Ground.data }, { on := 9, ground := Go.Ground.data }], guard := none }
abbrev oN211 : Oper := { dst := some 89, op := Go.Op.fieldAddr 85 (Go.Operand.tmp 88) 1, type := 0, pos := "l13_save.go:17", after := #[{ on := 10, ground := Go.Ground.data }], guard := none }
abbrev oN212 : Oper := { dst := some 90, op := Go.Op.load 3 (Go.Operand.tmp 89), type := 3, pos := "l13_save.go:17", after := #[{ on := 11, ground := Go.Ground.data }], guard := none }
abbrev oN213 : Oper := { dst := some 91, op := Go.Op.fieldAddr 39 (Go.Operand.tmp 1) 2, type := 0, pos := "l13_save.go:17", after := #[], guard := none }
abbrev oN214 : Oper := { dst := some 92, op := Go.Op.load 35 (Go.Operand.tmp 91), type := 35, pos := "l13_save.go:17", after := #[{ on := 13, ground := Go.Ground.data }], guard := none }
abbrev oN215 : Oper := { dst := some 93, op := Go.Op.move (Go.Operand.tmp 6), type := 3, pos := "l13_save.go:17", after := #[], guard := none }
abbrev oN216 : Oper := { dst := some 94, op := Go.Op.indexAddr 35 (Go.Operand.tmp 92) (Go.Operand.tmp 93), type := 0, pos := "l13_save.go:17", after := #[{ on := 14, ground := Go.Ground.data }, { on := 15, ground := Go.Ground.data }], guard := none }
abbrev oN217 : Oper := { dst := some 95, op := Go.Op.fieldAddr 85 (Go.Operand.tmp 94) 2, type := 0, pos := "l13_save.go:17", after := #[{ on := 16, ground := Go.Ground.data }], guard := none }
abbrev oN218 : Oper := { dst := some 96, op := Go.Op.load 3 (Go.Operand.tmp 95), type := 3, pos := "l13_save.go:17", after := #[{ on := 17, ground := Go.Ground.data }], guard := none }
abbrev oN219 : Oper := { dst := some 97, op := Go.Op.binOp Go.BinOp.add 3 (Go.Operand.tmp 96) (Go.Operand.const (Go.Value.int Go.IntKind.i64 1000000000000000)) 3, type := 3, pos := "l13_save.go:17", after := #[{ on := 18, ground := Go.Ground.data }], guard := none }
abbrev oN220 : Oper := { dst := some 98, op := Go.Op.buildSlice 54 3 #[(0, Go.Operand.tmp 84), (1, Go.Operand.tmp 90), (2, Go.Operand.tmp 97)], type := 54, pos := "l13_save.go:17", after := #[{ on := 6, ground := Go.Ground.data }, { on := 12, ground := Go.Ground.data }, { on := 19, ground := Go.Ground.data }], guard := none }
abbrev oN221 : Oper := { dst := some 99, op := Go.Op.call { callee := Go.Callee.builtin Go.Builtin.append, args := #[Go.Operand.tmp 78, Go.Operand.tmp 98], argTypes := #[54, 54] }, type := 54, pos := "l13_save.go:17", after := #[{ on := 0, ground := Go.Ground.data }, { on := 20, ground := Go.Ground.data }], guard := none }
abbrev oN222 : Oper := { dst := some 3, op := Go.Op.assign (Go.Operand.tmp 99), type := 54, pos := "l13_save.go:17", after := #[{ on := 21, ground := Go.Ground.data }, { on := 21, ground := Go.Ground.chain }, { on := 0, ground := Go.Ground.phase }, { on := 1, ground := Go.Ground.phase }, { on := 2, ground := Go.Ground.phase }, { on := 3, ground := Go.Ground.phase }, { on := 4, ground := Go.Ground.phase }, { on := 5, ground := Go.Ground.phase }, { on := 6, ground := Go.Ground.phase }, { on := 7, ground := Go.Ground.phase }, { on := 8, ground := Go.Ground.phase }, { on := 9, ground := Go.Ground.phase }, { on := 10, ground := Go.Ground.phase }, { on := 11, ground := Go.Ground.phase }, { on := 12, ground := Go.Ground.phase }, { on := 13, ground := Go.Ground.phase }, { on := 14, ground := Go.Ground.phase }, { on := 15, ground := Go.Ground.phase }, { on := 16, ground := Go.Ground.phase }, { on := 17, ground := Go.Ground.phase }, { on := 18, ground := Go.Ground.phase }, { on := 19, ground := Go.Ground.phase }, { on := 20, ground := Go.Ground.phase }, { on := 21, ground := Go.Ground.phase }], guard := none }
set_option maxRecDepth 100000 in
set_option maxHeartbeats 8000000 in
theorem sNums (w : World) (x : Bx) (h : Rd w x) (ha : ∀ i, i < x.b.bs.length → -1000000000000000 ≤ (el3 x.b.bs i).2.2 ∧ (el3 x.b.bs i).2.2 ≤ 1000000000000000) :
    Calls Tryz.prog 23 #[.agg #[.slice (some ⟨x.ga, 0, none⟩) x.b.ac.length x.ca, .slice (some ⟨x.gi, 0, none⟩) x.b.ic.length x.ci, .slice (some ⟨x.gb, 0, none⟩) x.b.bs.length x.cb, .slice (some ⟨x.gl, 0, none⟩) x.b.ls.length x.cl, .slice (some ⟨x.gt, 0, none⟩) x.b.ts.length x.ct, .int .i64 x.b.lot]] w fun e w' => ∃ g c, e = .returned (.slice (some ⟨g, 0, none⟩) (nums x.b).length c) ∧ Ints.Own w' w.heap.size g (nums x.b).length c (nums x.b) ∧ Below w.heap.size w w' := by
  have S0 := hide (St.start h 39)
  have XB := hide (show ((x.ga < w.heap.size ∧ x.gi < w.heap.size) ∧ x.gb < w.heap.size) from ⟨⟨h.la, h.li⟩, h.lb⟩)
  have na := h.na
  have ni := h.ni
  have nb := h.nb
  have nl := h.nl
  have nt := h.nt
  have HA := hide ha
  clear h ha
  go_enter Tryz.func23, Tryz.ntmps23
  have s0 := (unhide S0).c.c0
  go_wp2
  clear s0
  generalize hW : (w.alloc (.cells #[.slice (some ⟨x.ga, 0, none⟩) x.b.ac.length x.ca, .slice (some ⟨x.gi, 0, none⟩) x.b.ic.length x.ci, .slice (some ⟨x.gb, 0, none⟩) x.b.bs.length x.cb, .slice (some ⟨x.gl, 0, none⟩) x.b.ls.length x.cl, .slice (some ⟨x.gt, 0, none⟩) x.b.ts.length x.ct, .int .i64 x.b.lot] 39)) = W0 at *
  have ws : W0.heap.size = w.heap.size + 1 := by rw [← hW]; simp
  have O0 := hide (show Ints.Own (W0.alloc (.cells #[.int .i64 x.b.ac.length] 3)) W0.heap.size (w.heap.size + 1) 1 1 [(x.b.ac.length : Int)] from by rw [← ws]; exact World.ownsRow_lit W0 #[.int .i64 x.b.ac.length] 1 (Nat.le_refl _) (by decide) rfl)
  have B0 := hide (one_more W0 (.cells #[.int .i64 x.b.ac.length] 3))
  clear hW
  generalize hA : [(x.b.ac.length : Int)] = A0 at *
  have HA0 := hide hA
  clear hA
  go_loopw [3, 4] (fun l i wr => ∃ (k g c n : Nat), i = .int .i64 k ∧ k ≤ x.b.ac.length ∧ l = .slice (some ⟨g, 0, none⟩) n c ∧ n ≤ 1 + 2 * k ∧ Hid (Ints.Own wr W0.heap.size g n c (A0 ++ (x.b.ac.take k).flatMap row2)) ∧ Hid (Below W0.heap.size W0 wr)) (fun _ i _ => x.b.ac.length - (intOf i).toNat)
  case atStart => exact ⟨0, _, _, _, rfl, by omega, rfl, by omega, hide (by simpa using unhide O0), B0⟩
  case round =>
    clear O0 B0
    obtain ⟨k, g, c, n, rfl, hk, rfl, nk, HO, HB⟩ := hrel
    have bs := (unhide HB).size
    have og := (unhide HO).lt
    have S1 := hide ((unhide S0).step (unhide HB))
    have cf := (unhide S1).c.c0
    by_cases t : k < x.b.ac.length
    · have kt : (k : Int) < x.b.ac.length := by omega
      have d := (unhide S1).r.ra k t
      have lg := (unhide S1).r.la
      have NX := hide (flat_more (f := row2) ((0, 0) : Int × Int) t)
      change Hid (_ = _ ++ row2 (Chart.el x.b.ac k)) at NX
      change wr.cell? ⟨x.ga, k * 2, none⟩ = some (.int .i64 (Chart.el x.b.ac k).1) ∧ wr.cell? ⟨x.ga, k * 2 + 1, none⟩ = some (.int .i64 (Chart.el x.b.ac k).2) at d
      generalize Chart.el x.b.ac k = p at *
      obtain ⟨p0, p1⟩ := p
      obtain ⟨d0, d1⟩ := d
      have K0 : wr.cell? ⟨w.heap.size, 0, none⟩ = some (.slice (some ⟨x.ga, 0, none⟩) x.b.ac.length x.ca) ∧ wr.cell? ⟨x.ga, k * 2, none⟩ = some (.int .i64 p0) ∧ wr.cell? ⟨x.ga, k * 2 + 1, none⟩ = some (.int .i64 p1) := ⟨cf, d0, d1⟩
      go_wp2_with fail
      refine wp_region_held_drew (S := (fun w' => w'.cell? ⟨w.heap.size, 0, none⟩ = some (.slice (some ⟨x.ga, 0, none⟩) x.b.ac.length x.ca) ∧ w'.cell? ⟨x.ga, k * 2, none⟩ = some (.int .i64 p0) ∧ w'.cell? ⟨x.ga, k * 2 + 1, none⟩ = some (.int .i64 p1))) (by kernel_rfl) K0 (fun hHeld => ?_)
      refine wpAnyH_take (i := 0) (oi := oN00) (v := .slice (some ⟨g, 0, none⟩) n c) rfl (by kernel_rfl) (by kernel_rfl) (by kernel_rfl) (fun _ _ _ h => h) (Or.inl ⟨by rfl, fun w hSw => ?_⟩) hHeld ?_
      · (try dsimp only at hSw)
        unfold oN00
        go_simp
      try simp only [oN00, Act.put, List.setIfInBounds_toArray, List.set_cons_zero, List.set_cons_succ]
      refine wpAnyH_take (i := 1) (oi := oN01) (v := .pointer (some ⟨w.heap.size, 0, none⟩)) rfl (by kernel_rfl) (by kernel_rfl) (by kernel_rfl) (fun _ _ _ h => h) (Or.inl ⟨by rfl, fun w hSw => ?_⟩) hHeld ?_
      · (try dsimp only at hSw)
        unfold oN01
        go_simp
      try simp only [oN01, Act.put, List.setIfInBounds_toArray, List.set_cons_zero, List.set_cons_succ]
      refine wpAnyH_take (i := 2) (oi := oN02) (v := .slice (some ⟨x.ga, 0, none⟩) x.b.ac.length x.ca) rfl (by kernel_rfl) (by kernel_rfl) (by kernel_rfl) (fun _ _ _ h => h) (Or.inl ⟨by rfl, fun w hSw => ?_⟩) hHeld ?_
      · (try dsimp only at hSw)
        unfold oN02
        go_simp
      try simp only [oN02, Act.put, List.setIfInBounds_toArray, List.set_cons_zero, List.set_cons_succ]
      refine wpAnyH_take (i := 3) (oi := oN03) (v := .int .i64 k) rfl (by kernel_rfl) (by kernel_rfl) (by kernel_rfl) (fun _ _ _ h => h) (Or.inl ⟨by rfl, fun w hSw => ?_⟩) hHeld ?_
      · (try dsimp only at hSw)
        unfold oN03
        go_simp
      try simp only [oN03, Act.put, List.setIfInBounds_toArray, List.set_cons_zero, List.set_cons_succ]
      refine wpAnyH_take (i := 4) (oi := oN04) (v := .pointer (some ⟨x.ga, k * 2, none⟩)) rfl (by kernel_rfl) (by kernel_rfl) (by kernel_rfl) (fun _ _ _ h => h) (Or.inl ⟨by rfl, fun w hSw => ?_⟩) hHeld ?_
      · (try dsimp only at hSw)
        unfold oN04
        go_simp
      try simp only [oN04, Act.put, List.setIfInBounds_toArray, List.set_cons_zero, List.set_cons_succ]
      refine wpAnyH_take (i := 5) (oi := oN05) (v := .pointer (some ⟨x.ga, k * 2, none⟩)) rfl (by kernel_rfl) (by kernel_rfl) (by kernel_rfl) (fun _ _ _ h => h) (Or.inl ⟨by rfl, fun w hSw => ?_⟩) hHeld ?_
      · (try dsimp only at hSw)
        unfold oN05
        go_simp
      try simp only [oN05, Act.put, List.setIfInBounds_toArray, List.set_cons_zero, List.set_cons_succ]
      refine wpAnyH_take (i := 6) (oi := oN06) (v := .int .i64 p0) rfl (by kernel_rfl) (by kernel_rfl) (by kernel_rfl) (fun _ _ _ h => h) (Or.inl ⟨by rfl, fun w hSw => ?_⟩) hHeld ?_
      · (try dsimp only at hSw)
        unfold oN06
        go_simp
      try simp only [oN06, Act.put, List.setIfInBounds_toArray, List.set_cons_zero, List.set_cons_succ]
      refine wpAnyH_take (i := 7) (oi := oN07) (v := .pointer (some ⟨w.heap.size, 0, none⟩)) rfl (by kernel_rfl) (by kernel_rfl) (by kernel_rfl) (fun _ _ _ h => h) (Or.inl ⟨by rfl, fun w hSw => ?_⟩) hHeld ?_
      · (try dsimp only at hSw)
        unfold oN07
        go_simp
      try simp only [oN07, Act.put, List.setIfInBounds_toArray, List.set_cons_zero, List.set_cons_succ]
      refine wpAnyH_take (i := 8) (oi := oN08) (v := .slice (some ⟨x.ga, 0, none⟩) x.b.ac.length x.ca) rfl (by kernel_rfl) (by kernel_rfl) (by kernel_rfl) (fun _ _ _ h => h) (Or.inl ⟨by rfl, fun w hSw => ?_⟩) hHeld ?_
      · (try dsimp only at hSw)
        unfold oN08
        go_simp
      try simp only [oN08, Act.put, List.setIfInBounds_toArray, List.set_cons_zero, List.set_cons_succ]
      refine wpAnyH_take (i := 9) (oi := oN09) (v := .int .i64 k) rfl (by kernel_rfl) (by kernel_rfl) (by kernel_rfl) (fun _ _ _ h => h) (Or.inl ⟨by rfl, fun w hSw => ?_⟩) hHeld ?_
      · (try dsimp only at hSw)
        unfold oN09
        go_simp
      try simp only [oN09, Act.put, List.setIfInBounds_toArray, List.set_cons_zero, List.set_cons_succ]
      refine wpAnyH_take (i := 10) (oi := oN010) (v := .pointer (some ⟨x.ga, k * 2, none⟩)) rfl (by kernel_rfl) (by kernel_rfl) (by kernel_rfl) (fun _ _ _ h => h) (Or.inl ⟨by rfl, fun w hSw => ?_⟩) hHeld ?_
      · (try dsimp only at hSw)
        unfold oN010
        go_simp
      try simp only [oN010, Act.put, List.setIfInBounds_toArray, List.set_cons_zero, List.set_cons_succ]
      refine wpAnyH_take (i := 11) (oi := oN011) (v := .pointer (some ⟨x.ga, k * 2 + 1, none⟩)) rfl (by kernel_rfl) (by kernel_rfl) (by kernel_rfl) (fun _ _ _ h => h) (Or.inl ⟨by rfl, fun w hSw => ?_⟩) hHeld ?_
      · (try dsimp only at hSw)
        unfold oN011
        go_simp
      try simp only [oN011, Act.put, List.setIfInBounds_toArray, List.set_cons_zero, List.set_cons_succ]
      refine wpAnyH_take (i := 12) (oi := oN012) (v := .int .i64 p1) rfl (by kernel_rfl) (by kernel_rfl) (by kernel_rfl) (fun _ _ _ h => h) (Or.inl ⟨by rfl, fun w hSw => ?_⟩) hHeld ?_
      · (try dsimp only at hSw)
        unfold oN012
        go_simp
      try simp only [oN012, Act.put, List.setIfInBounds_toArray, List.set_cons_zero, List.set_cons_succ]
      have KB : (wr.drew.alloc (.cells #[.int .i64 p0, .int .i64 p1] 3)).cell? ⟨w.heap.size, 0, none⟩ = some (.slice (some ⟨x.ga, 0, none⟩) x.b.ac.length x.ca) ∧ (wr.drew.alloc (.cells #[.int .i64 p0, .int .i64 p1] 3)).cell? ⟨x.ga, k * 2, none⟩ = some (.int .i64 p0) ∧ (wr.drew.alloc (.cells #[.int .i64 p0, .int .i64 p1] 3)).cell? ⟨x.ga, k * 2 + 1, none⟩ = some (.int .i64 p1) := ⟨((one_more wr.drew (.cells #[.int .i64 p0, .int .i64 p1] 3)).cell (p := ⟨w.heap.size, 0, none⟩) (show w.heap.size < wr.heap.size from (unhide S1).s)).trans cf, ((one_more wr.drew (.cells #[.int .i64 p0, .int .i64 p1] 3)).cell (p := ⟨x.ga, k * 2, none⟩) (show x.ga < wr.heap.size from lg)).trans d0, ((one_more wr.drew (.cells #[.int .i64 p0, .int .i64 p1] 3)).cell (p := ⟨x.ga, k * 2 + 1, none⟩) (show x.ga < wr.heap.size from lg)).trans d1⟩
      refine wpAnyH_ready (rs := [13]) (by kernel_rfl) (by simp) ?_
      refine AllReadyH.cons (o := oN013) rfl (fun K hK => ?_) AllReadyH.nil
      unfold oN013
      go_simp
      refine hK.out _ _ KB (fun hHeld => ?_)
      clear hK K
      try simp only [oN013, Act.put, List.setIfInBounds_toArray, List.set_cons_zero, List.set_cons_succ]
      refine wpAnyH_ready (rs := [14]) (by kernel_rfl) (by simp) ?_
      refine AllReadyH.cons (o := oN014) rfl (fun K hK => ?_) AllReadyH.nil
      refine step_catI _ (by rfl) _ _ (by rfl) W0.heap.size g n c 2 _ [p0, p1] wr.drew.heap.size 2 (by rfl) (by rfl) (by exact own_allocI (unhide HO) _) (by rfl) (by exact lit2 wr.drew p0 p1) (by omega) (Nat.le_trans (show W0.heap.size ≤ wr.drew.heap.size from bs) (by simp)) ?_
      intro g9 c9 u9 o9 gr9 loc9
      have K9 : u9.cell? ⟨w.heap.size, 0, none⟩ = some (.slice (some ⟨x.ga, 0, none⟩) x.b.ac.length x.ca) ∧ u9.cell? ⟨x.ga, k * 2, none⟩ = some (.int .i64 p0) ∧ u9.cell? ⟨x.ga, k * 2 + 1, none⟩ = some (.int .i64 p1) := ⟨gr9.cell KB.1 (fun e => by injection e with e; simp at e; have := (unhide S0).s; omega), gr9.cell KB.2.1 (fun e => by injection e with e; simp at e; have := (unhide XB).1.1; omega), gr9.cell KB.2.2 (fun e => by injection e with e; simp at e; have := (unhide XB).1.1; omega)⟩
      have O9 := hide o9
      have B9 := hide (((unhide HB).drew.alloc (show W0.heap.size ≤ wr.heap.size from bs) (.cells #[.int .i64 p0, .int .i64 p1] 3)).grown gr9 (Nat.le_trans (show W0.heap.size ≤ wr.drew.heap.size from bs) (by simp)) (fun j hj => by cases hj; exact og.1))
      clear o9 gr9 loc9
      refine hK.out _ _ K9 (fun hHeld => ?_)
      clear hK K
      try simp only [oN014, Act.put, List.setIfInBounds_toArray, List.set_cons_zero, List.set_cons_succ]
      refine wpAnyH_take (i := 15) (oi := oN015) (v := .slice (some ⟨g9, 0, none⟩) (n + 2) c9) rfl (by kernel_rfl) (by kernel_rfl) (by kernel_rfl) (fun _ _ _ h => h) (Or.inl ⟨by rfl, fun w hSw => ?_⟩) hHeld ?_
      · (try dsimp only at hSw)
        unfold oN015
        go_simp
      try simp only [oN015, Act.put, List.setIfInBounds_toArray, List.set_cons_zero, List.set_cons_succ]
      refine wpAnyH_done (by kernel_rfl) ?_ _
      go_wp2
      go_roundw
      case rel => exact ⟨k + 1, g9, c9, n + 2, by go_num, by omega, rfl, by omega, hide (by rw [unhide NX]; first | exact unhide O9 | (rw [ws]; exact unhide O9) | (rw [← List.append_assoc]; exact unhide O9) | (rw [← List.append_assoc, ws]; exact unhide O9)), B9⟩
      case measure => simp [intOf]; omega
    · have e : k = x.b.ac.length := by omega
      subst e
      have O := unhide HO
      rw [List.take_length] at O
      have HO := hide O
      clear O hk t
      have cg := (unhide S1).c.c1
      go_wp2_with (first | (at_builtin; refine wp_catI _ rfl _ _ rfl W0.heap.size g n c 1 _ [(x.b.ic.length : Int)] _ 1 rfl rfl (own_allocI (unhide HO) _) rfl (lit1 _ _) (by omega) (by simp; omega) ?_) | go_in)
      intro g9 c9 u9 o9 gr9 loc9
      have O1 := hide (show Ints.Own u9 W0.heap.size g9 (n + 1) c9 (A0 ++ x.b.ac.flatMap row2 ++ [(x.b.ic.length : Int)]) from by first | exact o9 | (rw [List.append_assoc]; exact o9) | (rw [ws]; exact o9) | (rw [ws, List.append_assoc]; exact o9))
      have B1 := hide (((unhide HB).alloc bs (.cells #[.int .i64 (x.b.ic.length : Int)] 3)).grown gr9 (by simp; omega) (fun j hj => by cases hj; exact og.1))
      have n9 : n + 1 ≤ 1 + 2 * 1048576 + 1 := by omega
      clear o9 gr9 loc9 HO HB S1 cf cg bs og
      generalize hA : A0 ++ x.b.ac.flatMap row2 ++ [(x.b.ic.length : Int)] = A1 at *
      have HA1 := hide hA
      clear hA
      go_wp2
      go_loopw [3, 5] (fun l i wr => ∃ (k g c n : Nat), i = .int .i64 k ∧ k ≤ x.b.ic.length ∧ l = .slice (some ⟨g, 0, none⟩) n c ∧ n ≤ 1 + 2 * 1048576 + 1 + 2 * k ∧ Hid (Ints.Own wr W0.heap.size g n c (A1 ++ (x.b.ic.take k).flatMap row2)) ∧ Hid (Below W0.heap.size W0 wr)) (fun _ i _ => x.b.ic.length - (intOf i).toNat)
      case atStart => exact ⟨0, _, _, _, rfl, by omega, rfl, by omega, hide (by simpa using unhide O1), B1⟩
      case round =>
        clear O1 B1
        obtain ⟨k, g, c, n, rfl, hk, rfl, nk, HO, HB⟩ := hrel
        have bs := (unhide HB).size
        have og := (unhide HO).lt
        have S1 := hide ((unhide S0).step (unhide HB))
        have cf := (unhide S1).c.c1
        by_cases t : k < x.b.ic.length
        · have kt : (k : Int) < x.b.ic.length := by omega
          have d := (unhide S1).r.ri k t
          have lg := (unhide S1).r.li
          have NX := hide (flat_more (f := row2) ((0, 0) : Int × Int) t)
          change Hid (_ = _ ++ row2 (Chart.el x.b.ic k)) at NX
          change wr.cell? ⟨x.gi, k * 2, none⟩ = some (.int .i64 (Chart.el x.b.ic k).1) ∧ wr.cell? ⟨x.gi, k * 2 + 1, none⟩ = some (.int .i64 (Chart.el x.b.ic k).2) at d
          generalize Chart.el x.b.ic k = p at *
          obtain ⟨p0, p1⟩ := p
          obtain ⟨d0, d1⟩ := d
          have K0 : wr.cell? ⟨w.heap.size, 1, none⟩ = some (.slice (some ⟨x.gi, 0, none⟩) x.b.ic.length x.ci) ∧ wr.cell? ⟨x.gi, k * 2, none⟩ = some (.int .i64 p0) ∧ wr.cell? ⟨x.gi, k * 2 + 1, none⟩ = some (.int .i64 p1) := ⟨cf, d0, d1⟩
          go_wp2_with fail
          refine wp_region_held_drew (S := (fun w' => w'.cell? ⟨w.heap.size, 1, none⟩ = some (.slice (some ⟨x.gi, 0, none⟩) x.b.ic.length x.ci) ∧ w'.cell? ⟨x.gi, k * 2, none⟩ = some (.int .i64 p0) ∧ w'.cell? ⟨x.gi, k * 2 + 1, none⟩ = some (.int .i64 p1))) (by kernel_rfl) K0 (fun hHeld => ?_)
          refine wpAnyH_take (i := 0) (oi := oN10) (v := .slice (some ⟨g, 0, none⟩) n c) rfl (by kernel_rfl) (by kernel_rfl) (by kernel_rfl) (fun _ _ _ h => h) (Or.inl ⟨by rfl, fun w hSw => ?_⟩) hHeld ?_
          · (try dsimp only at hSw)
            unfold oN10
            go_simp
          try simp only [oN10, Act.put, List.setIfInBounds_toArray, List.set_cons_zero, List.set_cons_succ]
          refine wpAnyH_take (i := 1) (oi := oN11) (v := .pointer (some ⟨w.heap.size, 1, none⟩)) rfl (by kernel_rfl) (by kernel_rfl) (by kernel_rfl) (fun _ _ _ h => h) (Or.inl ⟨by rfl, fun w hSw => ?_⟩) hHeld ?_
          · (try dsimp only at hSw)
            unfold oN11
            go_simp
          try simp only [oN11, Act.put, List.setIfInBounds_toArray, List.set_cons_zero, List.set_cons_succ]
          refine wpAnyH_take (i := 2) (oi := oN12) (v := .slice (some ⟨x.gi, 0, none⟩) x.b.ic.length x.ci) rfl (by kernel_rfl) (by kernel_rfl) (by kernel_rfl) (fun _ _ _ h => h) (Or.inl ⟨by rfl, fun w hSw => ?_⟩) hHeld ?_
          · (try dsimp only at hSw)
            unfold oN12
            go_simp
          try simp only [oN12, Act.put, List.setIfInBounds_toArray, List.set_cons_zero, List.set_cons_succ]
          refine wpAnyH_take (i := 3) (oi := oN13) (v := .int .i64 k) rfl (by kernel_rfl) (by kernel_rfl) (by kernel_rfl) (fun _ _ _ h => h) (Or.inl ⟨by rfl, fun w hSw => ?_⟩) hHeld ?_
          · (try dsimp only at hSw)
            unfold oN13
            go_simp
          try simp only [oN13, Act.put, List.setIfInBounds_toArray, List.set_cons_zero, List.set_cons_succ]
          refine wpAnyH_take (i := 4) (oi := oN14) (v := .pointer (some ⟨x.gi, k * 2, none⟩)) rfl (by kernel_rfl) (by kernel_rfl) (by kernel_rfl) (fun _ _ _ h => h) (Or.inl ⟨by rfl, fun w hSw => ?_⟩) hHeld ?_
          · (try dsimp only at hSw)
            unfold oN14
            go_simp
          try simp only [oN14, Act.put, List.setIfInBounds_toArray, List.set_cons_zero, List.set_cons_succ]
          refine wpAnyH_take (i := 5) (oi := oN15) (v := .pointer (some ⟨x.gi, k * 2, none⟩)) rfl (by kernel_rfl) (by kernel_rfl) (by kernel_rfl) (fun _ _ _ h => h) (Or.inl ⟨by rfl, fun w hSw => ?_⟩) hHeld ?_
          · (try dsimp only at hSw)
            unfold oN15
            go_simp
          try simp only [oN15, Act.put, List.setIfInBounds_toArray, List.set_cons_zero, List.set_cons_succ]
          refine wpAnyH_take (i := 6) (oi := oN16) (v := .int .i64 p0) rfl (by kernel_rfl) (by kernel_rfl) (by kernel_rfl) (fun _ _ _ h => h) (Or.inl ⟨by rfl, fun w hSw => ?_⟩) hHeld ?_
          · (try dsimp only at hSw)
            unfold oN16
            go_simp
          try simp only [oN16, Act.put, List.setIfInBounds_toArray, List.set_cons_zero, List.set_cons_succ]
          refine wpAnyH_take (i := 7) (oi := oN17) (v := .pointer (some ⟨w.heap.size, 1, none⟩)) rfl (by kernel_rfl) (by kernel_rfl) (by kernel_rfl) (fun _ _ _ h => h) (Or.inl ⟨by rfl, fun w hSw => ?_⟩) hHeld ?_
          · (try dsimp only at hSw)
            unfold oN17
            go_simp
          try simp only [oN17, Act.put, List.setIfInBounds_toArray, List.set_cons_zero, List.set_cons_succ]
          refine wpAnyH_take (i := 8) (oi := oN18) (v := .slice (some ⟨x.gi, 0, none⟩) x.b.ic.length x.ci) rfl (by kernel_rfl) (by kernel_rfl) (by kernel_rfl) (fun _ _ _ h => h) (Or.inl ⟨by rfl, fun w hSw => ?_⟩) hHeld ?_
          · (try dsimp only at hSw)
            unfold oN18
            go_simp
          try simp only [oN18, Act.put, List.setIfInBounds_toArray, List.set_cons_zero, List.set_cons_succ]
          refine wpAnyH_take (i := 9) (oi := oN19) (v := .int .i64 k) rfl (by kernel_rfl) (by kernel_rfl) (by kernel_rfl) (fun _ _ _ h => h) (Or.inl ⟨by rfl, fun w hSw => ?_⟩) hHeld ?_
          · (try dsimp only at hSw)
            unfold oN19
            go_simp
          try simp only [oN19, Act.put, List.setIfInBounds_toArray, List.set_cons_zero, List.set_cons_succ]
          refine wpAnyH_take (i := 10) (oi := oN110) (v := .pointer (some ⟨x.gi, k * 2, none⟩)) rfl (by kernel_rfl) (by kernel_rfl) (by kernel_rfl) (fun _ _ _ h => h) (Or.inl ⟨by rfl, fun w hSw => ?_⟩) hHeld ?_
          · (try dsimp only at hSw)
            unfold oN110
            go_simp
          try simp only [oN110, Act.put, List.setIfInBounds_toArray, List.set_cons_zero, List.set_cons_succ]
          refine wpAnyH_take (i := 11) (oi := oN111) (v := .pointer (some ⟨x.gi, k * 2 + 1, none⟩)) rfl (by kernel_rfl) (by kernel_rfl) (by kernel_rfl) (fun _ _ _ h => h) (Or.inl ⟨by rfl, fun w hSw => ?_⟩) hHeld ?_
          · (try dsimp only at hSw)
            unfold oN111
            go_simp
          try simp only [oN111, Act.put, List.setIfInBounds_toArray, List.set_cons_zero, List.set_cons_succ]
          refine wpAnyH_take (i := 12) (oi := oN112) (v := .int .i64 p1) rfl (by kernel_rfl) (by kernel_rfl) (by kernel_rfl) (fun _ _ _ h => h) (Or.inl ⟨by rfl, fun w hSw => ?_⟩) hHeld ?_
          · (try dsimp only at hSw)
            unfold oN112
            go_simp
          try simp only [oN112, Act.put, List.setIfInBounds_toArray, List.set_cons_zero, List.set_cons_succ]
          have KB : (wr.drew.alloc (.cells #[.int .i64 p0, .int .i64 p1] 3)).cell? ⟨w.heap.size, 1, none⟩ = some (.slice (some ⟨x.gi, 0, none⟩) x.b.ic.length x.ci) ∧ (wr.drew.alloc (.cells #[.int .i64 p0, .int .i64 p1] 3)).cell? ⟨x.gi, k * 2, none⟩ = some (.int .i64 p0) ∧ (wr.drew.alloc (.cells #[.int .i64 p0, .int .i64 p1] 3)).cell? ⟨x.gi, k * 2 + 1, none⟩ = some (.int .i64 p1) := ⟨((one_more wr.drew (.cells #[.int .i64 p0, .int .i64 p1] 3)).cell (p := ⟨w.heap.size, 1, none⟩) (show w.heap.size < wr.heap.size from (unhide S1).s)).trans cf, ((one_more wr.drew (.cells #[.int .i64 p0, .int .i64 p1] 3)).cell (p := ⟨x.gi, k * 2, none⟩) (show x.gi < wr.heap.size from lg)).trans d0, ((one_more wr.drew (.cells #[.int .i64 p0, .int .i64 p1] 3)).cell (p := ⟨x.gi, k * 2 + 1, none⟩) (show x.gi < wr.heap.size from lg)).trans d1⟩
          refine wpAnyH_ready (rs := [13]) (by kernel_rfl) (by simp) ?_
          refine AllReadyH.cons (o := oN113) rfl (fun K hK => ?_) AllReadyH.nil
          unfold oN113
          go_simp
          refine hK.out _ _ KB (fun hHeld => ?_)
          clear hK K
          try simp only [oN113, Act.put, List.setIfInBounds_toArray, List.set_cons_zero, List.set_cons_succ]
          refine wpAnyH_ready (rs := [14]) (by kernel_rfl) (by simp) ?_
          refine AllReadyH.cons (o := oN114) rfl (fun K hK => ?_) AllReadyH.nil
          refine step_catI _ (by rfl) _ _ (by rfl) W0.heap.size g n c 2 _ [p0, p1] wr.drew.heap.size 2 (by rfl) (by rfl) (by exact own_allocI (unhide HO) _) (by rfl) (by exact lit2 wr.drew p0 p1) (by omega) (Nat.le_trans (show W0.heap.size ≤ wr.drew.heap.size from bs) (by simp)) ?_
          intro g9 c9 u9 o9 gr9 loc9
          have K9 : u9.cell? ⟨w.heap.size, 1, none⟩ = some (.slice (some ⟨x.gi, 0, none⟩) x.b.ic.length x.ci) ∧ u9.cell? ⟨x.gi, k * 2, none⟩ = some (.int .i64 p0) ∧ u9.cell? ⟨x.gi, k * 2 + 1, none⟩ = some (.int .i64 p1) := ⟨gr9.cell KB.1 (fun e => by injection e with e; simp at e; have := (unhide S0).s; omega), gr9.cell KB.2.1 (fun e => by injection e with e; simp at e; have := (unhide XB).1.2; omega), gr9.cell KB.2.2 (fun e => by injection e with e; simp at e; have := (unhide XB).1.2; omega)⟩
          have O9 := hide o9
          have B9 := hide (((unhide HB).drew.alloc (show W0.heap.size ≤ wr.heap.size from bs) (.cells #[.int .i64 p0, .int .i64 p1] 3)).grown gr9 (Nat.le_trans (show W0.heap.size ≤ wr.drew.heap.size from bs) (by simp)) (fun j hj => by cases hj; exact og.1))
          clear o9 gr9 loc9
          refine hK.out _ _ K9 (fun hHeld => ?_)
          clear hK K
          try simp only [oN114, Act.put, List.setIfInBounds_toArray, List.set_cons_zero, List.set_cons_succ]
          refine wpAnyH_take (i := 15) (oi := oN115) (v := .slice (some ⟨g9, 0, none⟩) (n + 2) c9) rfl (by kernel_rfl) (by kernel_rfl) (by kernel_rfl) (fun _ _ _ h => h) (Or.inl ⟨by rfl, fun w hSw => ?_⟩) hHeld ?_
          · (try dsimp only at hSw)
            unfold oN115
            go_simp
          try simp only [oN115, Act.put, List.setIfInBounds_toArray, List.set_cons_zero, List.set_cons_succ]
          refine wpAnyH_done (by kernel_rfl) ?_ _
          go_wp2
          go_roundw
          case rel => exact ⟨k + 1, g9, c9, n + 2, by go_num, by omega, rfl, by omega, hide (by rw [unhide NX]; first | exact unhide O9 | (rw [ws]; exact unhide O9) | (rw [← List.append_assoc]; exact unhide O9) | (rw [← List.append_assoc, ws]; exact unhide O9)), B9⟩
          case measure => simp [intOf]; omega
        · have e : k = x.b.ic.length := by omega
          subst e
          have O := unhide HO
          rw [List.take_length] at O
          have HO := hide O
          clear O hk t
          have cg := (unhide S1).c.c2
          go_wp2_with (first | (at_builtin; refine wp_catI _ rfl _ _ rfl W0.heap.size g n c 1 _ [(x.b.bs.length : Int)] _ 1 rfl rfl (own_allocI (unhide HO) _) rfl (lit1 _ _) (by omega) (by simp; omega) ?_) | go_in)
          intro g9 c9 u9 o9 gr9 loc9
          have O2 := hide (show Ints.Own u9 W0.heap.size g9 (n + 1) c9 (A1 ++ x.b.ic.flatMap row2 ++ [(x.b.bs.length : Int)]) from by first | exact o9 | (rw [List.append_assoc]; exact o9) | (rw [ws]; exact o9) | (rw [ws, List.append_assoc]; exact o9))
          have B2 := hide (((unhide HB).alloc bs (.cells #[.int .i64 (x.b.bs.length : Int)] 3)).grown gr9 (by simp; omega) (fun j hj => by cases hj; exact og.1))
          have n9 : n + 1 ≤ 1 + 2 * 1048576 + 1 + 2 * 1048576 + 1 := by omega
          clear o9 gr9 loc9 HO HB S1 cf cg bs og
          generalize hA : A1 ++ x.b.ic.flatMap row2 ++ [(x.b.bs.length : Int)] = A2 at *
          have HA2 := hide hA
          clear hA
          go_wp2
          go_loopw [3, 6] (fun l i wr => ∃ (k g c n : Nat), i = .int .i64 k ∧ k ≤ x.b.bs.length ∧ l = .slice (some ⟨g, 0, none⟩) n c ∧ n ≤ 1 + 2 * 1048576 + 1 + 2 * 1048576 + 1 + 3 * k ∧ Hid (Ints.Own wr W0.heap.size g n c (A2 ++ (x.b.bs.take k).flatMap row3)) ∧ Hid (Below W0.heap.size W0 wr)) (fun _ i _ => x.b.bs.length - (intOf i).toNat)
          case atStart => exact ⟨0, _, _, _, rfl, by omega, rfl, by omega, hide (by simpa using unhide O2), B2⟩
          case round =>
            clear O2 B2
            obtain ⟨k, g, c, n, rfl, hk, rfl, nk, HO, HB⟩ := hrel
            have bs := (unhide HB).size
            have og := (unhide HO).lt
            have S1 := hide ((unhide S0).step (unhide HB))
            have cf := (unhide S1).c.c2
            by_cases t : k < x.b.bs.length
            · have kt : (k : Int) < x.b.bs.length := by omega
              have d := (unhide S1).r.rb k t
              have lg := (unhide S1).r.lb
              have NX := hide (flat_more (f := row3) ((0, 0, 0) : T3) t)
              change Hid (_ = _ ++ row3 (el3 x.b.bs k)) at NX
              have am := (unhide HA) k t
              change wr.cell? ⟨x.gb, k * 3, none⟩ = some (.int .i64 (el3 x.b.bs k).1) ∧ wr.cell? ⟨x.gb, k * 3 + 1, none⟩ = some (.int .i64 (el3 x.b.bs k).2.1) ∧ wr.cell? ⟨x.gb, k * 3 + 2, none⟩ = some (.int .i64 (el3 x.b.bs k).2.2) at d
              generalize el3 x.b.bs k = p at *
              obtain ⟨p0, p1, p2⟩ := p
              obtain ⟨d0, d1, d2⟩ := d
              have am1 : wrap64 (p2 + 1000000000000000) = p2 + 1000000000000000 := by rw [wrap64]; simp only at am; omega
              have am2 : IntKind.i64.wrap (p2 + 1000000000000000) = p2 + 1000000000000000 := by rw [IntKind.wrap_i64]; simp only at am; omega
              have K0 : wr.cell? ⟨w.heap.size, 2, none⟩ = some (.slice (some ⟨x.gb, 0, none⟩) x.b.bs.length x.cb) ∧ wr.cell? ⟨x.gb, k * 3, none⟩ = some (.int .i64 p0) ∧ wr.cell? ⟨x.gb, k * 3 + 1, none⟩ = some (.int .i64 p1) ∧ wr.cell? ⟨x.gb, k * 3 + 2, none⟩ = some (.int .i64 p2) := ⟨cf, d0, d1, d2⟩
              go_wp2_with fail
              refine wp_region_held_drew (S := (fun w' => w'.cell? ⟨w.heap.size, 2, none⟩ = some (.slice (some ⟨x.gb, 0, none⟩) x.b.bs.length x.cb) ∧ w'.cell? ⟨x.gb, k * 3, none⟩ = some (.int .i64 p0) ∧ w'.cell? ⟨x.gb, k * 3 + 1, none⟩ = some (.int .i64 p1) ∧ w'.cell? ⟨x.gb, k * 3 + 2, none⟩ = some (.int .i64 p2))) (by kernel_rfl) K0 (fun hHeld => ?_)
              refine wpAnyH_take (i := 0) (oi := oN20) (v := .slice (some ⟨g, 0, none⟩) n c) rfl (by kernel_rfl) (by kernel_rfl) (by kernel_rfl) (fun _ _ _ h => h) (Or.inl ⟨by rfl, fun w hSw => ?_⟩) hHeld ?_
              · (try dsimp only at hSw)
                unfold oN20
                go_simp
              try simp only [oN20, Act.put, List.setIfInBounds_toArray, List.set_cons_zero, List.set_cons_succ]
              refine wpAnyH_take (i := 1) (oi := oN21) (v := .pointer (some ⟨w.heap.size, 2, none⟩)) rfl (by kernel_rfl) (by kernel_rfl) (by kernel_rfl) (fun _ _ _ h => h) (Or.inl ⟨by rfl, fun w hSw => ?_⟩) hHeld ?_
              · (try dsimp only at hSw)
                unfold oN21
                go_simp
              try simp only [oN21, Act.put, List.setIfInBounds_toArray, List.set_cons_zero, List.set_cons_succ]
              refine wpAnyH_take (i := 2) (oi := oN22) (v := .slice (some ⟨x.gb, 0, none⟩) x.b.bs.length x.cb) rfl (by kernel_rfl) (by kernel_rfl) (by kernel_rfl) (fun _ _ _ h => h) (Or.inl ⟨by rfl, fun w hSw => ?_⟩) hHeld ?_
              · (try dsimp only at hSw)
                unfold oN22
                go_simp
              try simp only [oN22, Act.put, List.setIfInBounds_toArray, List.set_cons_zero, List.set_cons_succ]
              refine wpAnyH_take (i := 3) (oi := oN23) (v := .int .i64 k) rfl (by kernel_rfl) (by kernel_rfl) (by kernel_rfl) (fun _ _ _ h => h) (Or.inl ⟨by rfl, fun w hSw => ?_⟩) hHeld ?_
              · (try dsimp only at hSw)
                unfold oN23
                go_simp
              try simp only [oN23, Act.put, List.setIfInBounds_toArray, List.set_cons_zero, List.set_cons_succ]
              refine wpAnyH_take (i := 4) (oi := oN24) (v := .pointer (some ⟨x.gb, k * 3, none⟩)) rfl (by kernel_rfl) (by kernel_rfl) (by kernel_rfl) (fun _ _ _ h => h) (Or.inl ⟨by rfl, fun w hSw => ?_⟩) hHeld ?_
              · (try dsimp only at hSw)
                unfold oN24
                go_simp
              try simp only [oN24, Act.put, List.setIfInBounds_toArray, List.set_cons_zero, List.set_cons_succ]
              refine wpAnyH_take (i := 5) (oi := oN25) (v := .pointer (some ⟨x.gb, k * 3, none⟩)) rfl (by kernel_rfl) (by kernel_rfl) (by kernel_rfl) (fun _ _ _ h => h) (Or.inl ⟨by rfl, fun w hSw => ?_⟩) hHeld ?_
              · (try dsimp only at hSw)
                unfold oN25
                go_simp
              try simp only [oN25, Act.put, List.setIfInBounds_toArray, List.set_cons_zero, List.set_cons_succ]
              refine wpAnyH_take (i := 6) (oi := oN26) (v := .int .i64 p0) rfl (by kernel_rfl) (by kernel_rfl) (by kernel_rfl) (fun _ _ _ h => h) (Or.inl ⟨by rfl, fun w hSw => ?_⟩) hHeld ?_
              · (try dsimp only at hSw)
                unfold oN26
                go_simp
              try simp only [oN26, Act.put, List.setIfInBounds_toArray, List.set_cons_zero, List.set_cons_succ]
              refine wpAnyH_take (i := 7) (oi := oN27) (v := .pointer (some ⟨w.heap.size, 2, none⟩)) rfl (by kernel_rfl) (by kernel_rfl) (by kernel_rfl) (fun _ _ _ h => h) (Or.inl ⟨by rfl, fun w hSw => ?_⟩) hHeld ?_
              · (try dsimp only at hSw)
                unfold oN27
                go_simp
              try simp only [oN27, Act.put, List.setIfInBounds_toArray, List.set_cons_zero, List.set_cons_succ]
              refine wpAnyH_take (i := 8) (oi := oN28) (v := .slice (some ⟨x.gb, 0, none⟩) x.b.bs.length x.cb) rfl (by kernel_rfl) (by kernel_rfl) (by kernel_rfl) (fun _ _ _ h => h) (Or.inl ⟨by rfl, fun w hSw => ?_⟩) hHeld ?_
              · (try dsimp only at hSw)
                unfold oN28
                go_simp
              try simp only [oN28, Act.put, List.setIfInBounds_toArray, List.set_cons_zero, List.set_cons_succ]
              refine wpAnyH_take (i := 9) (oi := oN29) (v := .int .i64 k) rfl (by kernel_rfl) (by kernel_rfl) (by kernel_rfl) (fun _ _ _ h => h) (Or.inl ⟨by rfl, fun w hSw => ?_⟩) hHeld ?_
              · (try dsimp only at hSw)
                unfold oN29
                go_simp
              try simp only [oN29, Act.put, List.setIfInBounds_toArray, List.set_cons_zero, List.set_cons_succ]
              refine wpAnyH_take (i := 10) (oi := oN210) (v := .pointer (some ⟨x.gb, k * 3, none⟩)) rfl (by kernel_rfl) (by kernel_rfl) (by kernel_rfl) (fun _ _ _ h => h) (Or.inl ⟨by rfl, fun w hSw => ?_⟩) hHeld ?_
              · (try dsimp only at hSw)
                unfold oN210
                go_simp
              try simp only [oN210, Act.put, List.setIfInBounds_toArray, List.set_cons_zero, List.set_cons_succ]
              refine wpAnyH_take (i := 11) (oi := oN211) (v := .pointer (some ⟨x.gb, k * 3 + 1, none⟩)) rfl (by kernel_rfl) (by kernel_rfl) (by kernel_rfl) (fun _ _ _ h => h) (Or.inl ⟨by rfl, fun w hSw => ?_⟩) hHeld ?_
              · (try dsimp only at hSw)
                unfold oN211
                go_simp
              try simp only [oN211, Act.put, List.setIfInBounds_toArray, List.set_cons_zero, List.set_cons_succ]
              refine wpAnyH_take (i := 12) (oi := oN212) (v := .int .i64 p1) rfl (by kernel_rfl) (by kernel_rfl) (by kernel_rfl) (fun _ _ _ h => h) (Or.inl ⟨by rfl, fun w hSw => ?_⟩) hHeld ?_
              · (try dsimp only at hSw)
                unfold oN212
                go_simp
              try simp only [oN212, Act.put, List.setIfInBounds_toArray, List.set_cons_zero, List.set_cons_succ]
              refine wpAnyH_take (i := 13) (oi := oN213) (v := .pointer (some ⟨w.heap.size, 2, none⟩)) rfl (by kernel_rfl) (by kernel_rfl) (by kernel_rfl) (fun _ _ _ h => h) (Or.inl ⟨by rfl, fun w hSw => ?_⟩) hHeld ?_
              · (try dsimp only at hSw)
                unfold oN213
                go_simp
              try simp only [oN213, Act.put, List.setIfInBounds_toArray, List.set_cons_zero, List.set_cons_succ]
              refine wpAnyH_take (i := 14) (oi := oN214) (v := .slice (some ⟨x.gb, 0, none⟩) x.b.bs.length x.cb) rfl (by kernel_rfl) (by kernel_rfl) (by kernel_rfl) (fun _ _ _ h => h) (Or.inl ⟨by rfl, fun w hSw => ?_⟩) hHeld ?_
              · (try dsimp only at hSw)
                unfold oN214
                go_simp
              try simp only [oN214, Act.put, List.setIfInBounds_toArray, List.set_cons_zero, List.set_cons_succ]
              refine wpAnyH_take (i := 15) (oi := oN215) (v := .int .i64 k) rfl (by kernel_rfl) (by kernel_rfl) (by kernel_rfl) (fun _ _ _ h => h) (Or.inl ⟨by rfl, fun w hSw => ?_⟩) hHeld ?_
              · (try dsimp only at hSw)
                unfold oN215
                go_simp
              try simp only [oN215, Act.put, List.setIfInBounds_toArray, List.set_cons_zero, List.set_cons_succ]
              refine wpAnyH_take (i := 16) (oi := oN216) (v := .pointer (some ⟨x.gb, k * 3, none⟩)) rfl (by kernel_rfl) (by kernel_rfl) (by kernel_rfl) (fun _ _ _ h => h) (Or.inl ⟨by rfl, fun w hSw => ?_⟩) hHeld ?_
              · (try dsimp only at hSw)
                unfold oN216
                go_simp
              try simp only [oN216, Act.put, List.setIfInBounds_toArray, List.set_cons_zero, List.set_cons_succ]
              refine wpAnyH_take (i := 17) (oi := oN217) (v := .pointer (some ⟨x.gb, k * 3 + 2, none⟩)) rfl (by kernel_rfl) (by kernel_rfl) (by kernel_rfl) (fun _ _ _ h => h) (Or.inl ⟨by rfl, fun w hSw => ?_⟩) hHeld ?_
              · (try dsimp only at hSw)
                unfold oN217
                go_simp
              try simp only [oN217, Act.put, List.setIfInBounds_toArray, List.set_cons_zero, List.set_cons_succ]
              refine wpAnyH_take (i := 18) (oi := oN218) (v := .int .i64 p2) rfl (by kernel_rfl) (by kernel_rfl) (by kernel_rfl) (fun _ _ _ h => h) (Or.inl ⟨by rfl, fun w hSw => ?_⟩) hHeld ?_
              · (try dsimp only at hSw)
                unfold oN218
                go_simp
              try simp only [oN218, Act.put, List.setIfInBounds_toArray, List.set_cons_zero, List.set_cons_succ]
              refine wpAnyH_take (i := 19) (oi := oN219) (v := .int .i64 (p2 + 1000000000000000)) rfl (by kernel_rfl) (by kernel_rfl) (by kernel_rfl) (fun _ _ _ h => h) (Or.inl ⟨by rfl, fun w hSw => ?_⟩) hHeld ?_
              · (try dsimp only at hSw)
                unfold oN219
                go_simp
              try simp only [oN219, Act.put, List.setIfInBounds_toArray, List.set_cons_zero, List.set_cons_succ]
              have KB : (wr.drew.alloc (.cells #[.int .i64 p0, .int .i64 p1, .int .i64 (p2 + 1000000000000000)] 3)).cell? ⟨w.heap.size, 2, none⟩ = some (.slice (some ⟨x.gb, 0, none⟩) x.b.bs.length x.cb) ∧ (wr.drew.alloc (.cells #[.int .i64 p0, .int .i64 p1, .int .i64 (p2 + 1000000000000000)] 3)).cell? ⟨x.gb, k * 3, none⟩ = some (.int .i64 p0) ∧ (wr.drew.alloc (.cells #[.int .i64 p0, .int .i64 p1, .int .i64 (p2 + 1000000000000000)] 3)).cell? ⟨x.gb, k * 3 + 1, none⟩ = some (.int .i64 p1) ∧ (wr.drew.alloc (.cells #[.int .i64 p0, .int .i64 p1, .int .i64 (p2 + 1000000000000000)] 3)).cell? ⟨x.gb, k * 3 + 2, none⟩ = some (.int .i64 p2) := ⟨((one_more wr.drew (.cells #[.int .i64 p0, .int .i64 p1, .int .i64 (p2 + 1000000000000000)] 3)).cell (p := ⟨w.heap.size, 2, none⟩) (show w.heap.size < wr.heap.size from (unhide S1).s)).trans cf, ((one_more wr.drew (.cells #[.int .i64 p0, .int .i64 p1, .int .i64 (p2 + 1000000000000000)] 3)).cell (p := ⟨x.gb, k * 3, none⟩) (show x.gb < wr.heap.size from lg)).trans d0, ((one_more wr.drew (.cells #[.int .i64 p0, .int .i64 p1, .int .i64 (p2 + 1000000000000000)] 3)).cell (p := ⟨x.gb, k * 3 + 1, none⟩) (show x.gb < wr.heap.size from lg)).trans d1, ((one_more wr.drew (.cells #[.int .i64 p0, .int .i64 p1, .int .i64 (p2 + 1000000000000000)] 3)).cell (p := ⟨x.gb, k * 3 + 2, none⟩) (show x.gb < wr.heap.size from lg)).trans d2⟩
              refine wpAnyH_ready (rs := [20]) (by kernel_rfl) (by simp) ?_
              refine AllReadyH.cons (o := oN220) rfl (fun K hK => ?_) AllReadyH.nil
              unfold oN220
              go_simp
              refine hK.out _ _ KB (fun hHeld => ?_)
              clear hK K
              try simp only [oN220, Act.put, List.setIfInBounds_toArray, List.set_cons_zero, List.set_cons_succ]
              refine wpAnyH_ready (rs := [21]) (by kernel_rfl) (by simp) ?_
              refine AllReadyH.cons (o := oN221) rfl (fun K hK => ?_) AllReadyH.nil
              refine step_catI _ (by rfl) _ _ (by rfl) W0.heap.size g n c 3 _ [p0, p1, (p2 + 1000000000000000)] wr.drew.heap.size 3 (by rfl) (by rfl) (by exact own_allocI (unhide HO) _) (by rfl) (by exact lit3 wr.drew p0 p1 (p2 + 1000000000000000)) (by omega) (Nat.le_trans (show W0.heap.size ≤ wr.drew.heap.size from bs) (by simp)) ?_
              intro g9 c9 u9 o9 gr9 loc9
              have K9 : u9.cell? ⟨w.heap.size, 2, none⟩ = some (.slice (some ⟨x.gb, 0, none⟩) x.b.bs.length x.cb) ∧ u9.cell? ⟨x.gb, k * 3, none⟩ = some (.int .i64 p0) ∧ u9.cell? ⟨x.gb, k * 3 + 1, none⟩ = some (.int .i64 p1) ∧ u9.cell? ⟨x.gb, k * 3 + 2, none⟩ = some (.int .i64 p2) := ⟨gr9.cell KB.1 (fun e => by injection e with e; simp at e; have := (unhide S0).s; omega), gr9.cell KB.2.1 (fun e => by injection e with e; simp at e; have := (unhide XB).2; omega), gr9.cell KB.2.2.1 (fun e => by injection e with e; simp at e; have := (unhide XB).2; omega), gr9.cell KB.2.2.2 (fun e => by injection e with e; simp at e; have := (unhide XB).2; omega)⟩
              have O9 := hide o9
              have B9 := hide (((unhide HB).drew.alloc (show W0.heap.size ≤ wr.heap.size from bs) (.cells #[.int .i64 p0, .int .i64 p1, .int .i64 (p2 + 1000000000000000)] 3)).grown gr9 (Nat.le_trans (show W0.heap.size ≤ wr.drew.heap.size from bs) (by simp)) (fun j hj => by cases hj; exact og.1))
              clear o9 gr9 loc9
              refine hK.out _ _ K9 (fun hHeld => ?_)
              clear hK K
              try simp only [oN221, Act.put, List.setIfInBounds_toArray, List.set_cons_zero, List.set_cons_succ]
              refine wpAnyH_take (i := 22) (oi := oN222) (v := .slice (some ⟨g9, 0, none⟩) (n + 3) c9) rfl (by kernel_rfl) (by kernel_rfl) (by kernel_rfl) (fun _ _ _ h => h) (Or.inl ⟨by rfl, fun w hSw => ?_⟩) hHeld ?_
              · (try dsimp only at hSw)
                unfold oN222
                go_simp
              try simp only [oN222, Act.put, List.setIfInBounds_toArray, List.set_cons_zero, List.set_cons_succ]
              refine wpAnyH_done (by kernel_rfl) ?_ _
              go_wp2
              go_roundw
              case rel => exact ⟨k + 1, g9, c9, n + 3, by go_num, by omega, rfl, by omega, hide (by rw [unhide NX]; first | exact unhide O9 | (rw [ws]; exact unhide O9) | (rw [← List.append_assoc]; exact unhide O9) | (rw [← List.append_assoc, ws]; exact unhide O9)), B9⟩
              case measure => simp [intOf]; omega
            · have e : k = x.b.bs.length := by omega
              subst e
              have O := unhide HO
              rw [List.take_length] at O
              have HO := hide O
              clear O hk t
              have cg := (unhide S1).c.c3
              go_wp2_with (first | (at_builtin; refine wp_catI _ rfl _ _ rfl W0.heap.size g n c 1 _ [(x.b.ls.length : Int)] _ 1 rfl rfl (own_allocI (unhide HO) _) rfl (lit1 _ _) (by omega) (by simp; omega) ?_) | go_in)
              intro g9 c9 u9 o9 gr9 loc9
              have O3 := hide (show Ints.Own u9 W0.heap.size g9 (n + 1) c9 (A2 ++ x.b.bs.flatMap row3 ++ [(x.b.ls.length : Int)]) from by first | exact o9 | (rw [List.append_assoc]; exact o9) | (rw [ws]; exact o9) | (rw [ws, List.append_assoc]; exact o9))
              have B3 := hide (((unhide HB).alloc bs (.cells #[.int .i64 (x.b.ls.length : Int)] 3)).grown gr9 (by simp; omega) (fun j hj => by cases hj; exact og.1))
              have n9 : n + 1 ≤ 1 + 2 * 1048576 + 1 + 2 * 1048576 + 1 + 3 * 1048576 + 1 := by omega
              clear o9 gr9 loc9 HO HB S1 cf cg bs og
              generalize hA : A2 ++ x.b.bs.flatMap row3 ++ [(x.b.ls.length : Int)] = A3 at *
              have HA3 := hide hA
              clear hA
              go_wp2
              go_loopw [3, 7, 8] (fun l i _ wr => ∃ (k g c n : Nat), i = .int .i64 k ∧ k ≤ x.b.ls.length ∧ l = .slice (some ⟨g, 0, none⟩) n c ∧ n ≤ 1 + 2 * 1048576 + 1 + 2 * 1048576 + 1 + 3 * 1048576 + 1 + 5 * k ∧ Hid (Ints.Own wr W0.heap.size g n c (A3 ++ (x.b.ls.take k).flatMap row5)) ∧ Hid (Below W0.heap.size W0 wr)) (fun _ i _ _ => x.b.ls.length - (intOf i).toNat)
              case atStart => exact ⟨0, _, _, _, rfl, by omega, rfl, by omega, hide (by simpa using unhide O3), B3⟩
              case round =>
                clear O3 B3
                obtain ⟨k, g, c, n, rfl, hk, rfl, nk, HO, HB⟩ := hrel
                have bs := (unhide HB).size
                have og := (unhide HO).lt
                have S1 := hide ((unhide S0).step (unhide HB))
                have cf := (unhide S1).c.c3
                by_cases t : k < x.b.ls.length
                · have kt : (k : Int) < x.b.ls.length := by omega
                  have d := (unhide S1).r.rl k t
                  have lg := (unhide S1).r.ll
                  have NX := hide (flat_more (f := row5) ((0, 0, 0, 0, 0) : T5) t)
                  change Hid (_ = _ ++ row5 (el5 x.b.ls k)) at NX
                  change wr.cell? ⟨x.gl, k * 5, none⟩ = some (.int .i64 (el5 x.b.ls k).1) ∧ wr.cell? ⟨x.gl, k * 5 + 1, none⟩ = some (.int .i64 (el5 x.b.ls k).2.1) ∧ wr.cell? ⟨x.gl, k * 5 + 2, none⟩ = some (.int .i64 (el5 x.b.ls k).2.2.1) ∧ wr.cell? ⟨x.gl, k * 5 + 3, none⟩ = some (.int .i64 (el5 x.b.ls k).2.2.2.1) ∧ wr.cell? ⟨x.gl, k * 5 + 4, none⟩ = some (.int .i64 (el5 x.b.ls k).2.2.2.2) at d
                  generalize el5 x.b.ls k = p at *
                  obtain ⟨p0, p1, p2, p3, p4⟩ := p
                  obtain ⟨d0, d1, d2, d3, d4⟩ := d
                  have LL := hide (lit5 (wr.alloc (.cells #[.int .i64 p0, .int .i64 p1, .int .i64 p2, .int .i64 p3, .int .i64 p4] 87)) p0 p1 p2 p3 p4)
                  rw [show (wr.alloc (.cells #[.int .i64 p0, .int .i64 p1, .int .i64 p2, .int .i64 p3, .int .i64 p4] 87)).heap.size = wr.heap.size + 1 by simp] at LL
                  go_wp2_with (first | (at_builtin; refine wp_catI _ rfl _ _ rfl W0.heap.size g n c 5 _ [p0, p1, p2, p3, p4] (wr.heap.size + 1) 5 rfl rfl (own_allocI (own_allocI (unhide HO) _) _) rfl (unhide LL) (by omega) (by simp; omega) ?_) | go_in)
                  intro g9 c9 u9 o9 gr9 loc9
                  have O9 := hide o9
                  have B9 := hide ((((unhide HB).alloc bs (.cells #[.int .i64 p0, .int .i64 p1, .int .i64 p2, .int .i64 p3, .int .i64 p4] 87)).alloc (by simp; omega) (.cells #[.int .i64 p0, .int .i64 p1, .int .i64 p2, .int .i64 p3, .int .i64 p4] 3)).grown gr9 (by simp; omega) (fun j hj => by cases hj; exact og.1))
                  clear o9 gr9 loc9
                  go_wp2
                  go_roundw
                  case rel => exact ⟨k + 1, g9, c9, n + 5, by go_num, by omega, rfl, by omega, hide (by rw [unhide NX]; first | exact unhide O9 | (rw [ws]; exact unhide O9) | (rw [← List.append_assoc]; exact unhide O9) | (rw [← List.append_assoc, ws]; exact unhide O9)), B9⟩
                  case measure => simp [intOf]; omega
                · have e : k = x.b.ls.length := by omega
                  subst e
                  have O := unhide HO
                  rw [List.take_length] at O
                  have HO := hide O
                  clear O hk t
                  have cg := (unhide S1).c.c4
                  go_wp2_with (first | (at_builtin; refine wp_catI _ rfl _ _ rfl W0.heap.size g n c 1 _ [(x.b.ts.length : Int)] _ 1 rfl rfl (own_allocI (unhide HO) _) rfl (lit1 _ _) (by omega) (by simp; omega) ?_) | go_in)
                  intro g9 c9 u9 o9 gr9 loc9
                  have O4 := hide (show Ints.Own u9 W0.heap.size g9 (n + 1) c9 (A3 ++ x.b.ls.flatMap row5 ++ [(x.b.ts.length : Int)]) from by first | exact o9 | (rw [List.append_assoc]; exact o9) | (rw [ws]; exact o9) | (rw [ws, List.append_assoc]; exact o9))
                  have B4 := hide (((unhide HB).alloc bs (.cells #[.int .i64 (x.b.ts.length : Int)] 3)).grown gr9 (by simp; omega) (fun j hj => by cases hj; exact og.1))
                  have n9 : n + 1 ≤ 1 + 2 * 1048576 + 1 + 2 * 1048576 + 1 + 3 * 1048576 + 1 + 5 * 1048576 + 1 := by omega
                  clear o9 gr9 loc9 HO HB S1 cf cg bs og
                  generalize hA : A3 ++ x.b.ls.flatMap row5 ++ [(x.b.ts.length : Int)] = A4 at *
                  have HA4 := hide hA
                  clear hA
                  go_wp2
                  go_loopw [3, 9, 10] (fun l i _ wr => ∃ (k g c n : Nat), i = .int .i64 k ∧ k ≤ x.b.ts.length ∧ l = .slice (some ⟨g, 0, none⟩) n c ∧ n ≤ 1 + 2 * 1048576 + 1 + 2 * 1048576 + 1 + 3 * 1048576 + 1 + 5 * 1048576 + 1 + 8 * k ∧ Hid (Ints.Own wr W0.heap.size g n c (A4 ++ (x.b.ts.take k).flatMap row8)) ∧ Hid (Below W0.heap.size W0 wr)) (fun _ i _ _ => x.b.ts.length - (intOf i).toNat)
                  case atStart => exact ⟨0, _, _, _, rfl, by omega, rfl, by omega, hide (by simpa using unhide O4), B4⟩
                  case round =>
                    clear O4 B4
                    obtain ⟨k, g, c, n, rfl, hk, rfl, nk, HO, HB⟩ := hrel
                    have bs := (unhide HB).size
                    have og := (unhide HO).lt
                    have S1 := hide ((unhide S0).step (unhide HB))
                    have cf := (unhide S1).c.c4
                    by_cases t : k < x.b.ts.length
                    · have kt : (k : Int) < x.b.ts.length := by omega
                      have d := (unhide S1).r.rt k t
                      have lg := (unhide S1).r.lt
                      have NX := hide (flat_more (f := row8) ((0, 0, 0, 0, 0, 0, 0, 0) : T8) t)
                      change Hid (_ = _ ++ row8 (el8 x.b.ts k)) at NX
                      change wr.cell? ⟨x.gt, k * 8, none⟩ = some (.int .i64 (el8 x.b.ts k).1) ∧ wr.cell? ⟨x.gt, k * 8 + 1, none⟩ = some (.int .i64 (el8 x.b.ts k).2.1) ∧ wr.cell? ⟨x.gt, k * 8 + 2, none⟩ = some (.int .i64 (el8 x.b.ts k).2.2.1) ∧ wr.cell? ⟨x.gt, k * 8 + 3, none⟩ = some (.int .i64 (el8 x.b.ts k).2.2.2.1) ∧ wr.cell? ⟨x.gt, k * 8 + 4, none⟩ = some (.int .i64 (el8 x.b.ts k).2.2.2.2.1) ∧ wr.cell? ⟨x.gt, k * 8 + 5, none⟩ = some (.int .i64 (el8 x.b.ts k).2.2.2.2.2.1) ∧ wr.cell? ⟨x.gt, k * 8 + 6, none⟩ = some (.int .i64 (el8 x.b.ts k).2.2.2.2.2.2.1) ∧ wr.cell? ⟨x.gt, k * 8 + 7, none⟩ = some (.int .i64 (el8 x.b.ts k).2.2.2.2.2.2.2) at d
                      generalize el8 x.b.ts k = p at *
                      obtain ⟨p0, p1, p2, p3, p4, p5, p6, p7⟩ := p
                      obtain ⟨d0, d1, d2, d3, d4, d5, d6, d7⟩ := d
                      have LL := hide (lit8 (wr.alloc (.cells #[.int .i64 p0, .int .i64 p1, .int .i64 p2, .int .i64 p3, .int .i64 p4, .int .i64 p5, .int .i64 p6, .int .i64 p7] 79)) p0 p1 p2 p3 p4 p5 p6 p7)
                      rw [show (wr.alloc (.cells #[.int .i64 p0, .int .i64 p1, .int .i64 p2, .int .i64 p3, .int .i64 p4, .int .i64 p5, .int .i64 p6, .int .i64 p7] 79)).heap.size = wr.heap.size + 1 by simp] at LL
                      go_wp2_with (first | (at_builtin; refine wp_catI _ rfl _ _ rfl W0.heap.size g n c 8 _ [p0, p1, p2, p3, p4, p5, p6, p7] (wr.heap.size + 1) 8 rfl rfl (own_allocI (own_allocI (unhide HO) _) _) rfl (unhide LL) (by omega) (by simp; omega) ?_) | go_in)
                      intro g9 c9 u9 o9 gr9 loc9
                      have O9 := hide o9
                      have B9 := hide ((((unhide HB).alloc bs (.cells #[.int .i64 p0, .int .i64 p1, .int .i64 p2, .int .i64 p3, .int .i64 p4, .int .i64 p5, .int .i64 p6, .int .i64 p7] 79)).alloc (by simp; omega) (.cells #[.int .i64 p0, .int .i64 p1, .int .i64 p2, .int .i64 p3, .int .i64 p4, .int .i64 p5, .int .i64 p6, .int .i64 p7] 3)).grown gr9 (by simp; omega) (fun j hj => by cases hj; exact og.1))
                      clear o9 gr9 loc9
                      go_wp2
                      go_roundw
                      case rel => exact ⟨k + 1, g9, c9, n + 8, by go_num, by omega, rfl, by omega, hide (by rw [unhide NX]; first | exact unhide O9 | (rw [ws]; exact unhide O9) | (rw [← List.append_assoc]; exact unhide O9) | (rw [← List.append_assoc, ws]; exact unhide O9)), B9⟩
                      case measure => simp [intOf]; omega
                    · have e : k = x.b.ts.length := by omega
                      subst e
                      have O := unhide HO
                      rw [List.take_length] at O
                      have HO := hide O
                      clear O hk t
                      have cg := (unhide S1).c.c5
                      go_wp2_with (first | (at_builtin; refine wp_catI _ rfl _ _ rfl W0.heap.size g n c 1 _ [x.b.lot] _ 1 rfl rfl (own_allocI (unhide HO) _) rfl (lit1 _ _) (by omega) (by simp; omega) ?_) | go_in)
                      intro g9 c9 u9 o9 gr9 loc9
                      have O9 := hide o9
                      have B9 := hide (((unhide HB).alloc bs (.cells #[.int .i64 x.b.lot] 3)).grown gr9 (by simp; omega) (fun j hj => by cases hj; exact og.1))
                      clear o9 gr9 loc9
                      go_wp2
                      go_ret
                      have E : A4 ++ x.b.ts.flatMap row8 ++ [x.b.lot] = nums x.b := by rw [← unhide HA4, ← unhide HA3, ← unhide HA2, ← unhide HA1, ← unhide HA0]; rfl
                      have O : Ints.Own u9 W0.heap.size g9 (n + 1) c9 (A4 ++ x.b.ts.flatMap row8 ++ [x.b.lot]) := by first | exact unhide O9 | (rw [List.append_assoc]; exact unhide O9) | (rw [ws]; exact unhide O9) | (rw [ws, List.append_assoc]; exact unhide O9)
                      rw [E] at O
                      have l := O.len
                      refine ⟨g9, c9, ?_, ?_, ((unhide S0).b.trans ((unhide B9).mono (by omega)))⟩
                      · rw [l]; rfl
                      · rw [l]; exact O.mono (by omega)
end Go.Proofs.YtefcigaalgfmiaaGreat.SNums13
namespace Go.Proofs.YtefcigaalgfmiaaGreat.AccountSOk
open Go.ChangeShapes Go.WideShapes Go.ChangeAt Go.RowKit Pairs Chart
/-- b tells whether x is between two numbers. -/
def Tells (b : Bool) (x lo hi : Int) : Prop := b = true ↔ lo ≤ x ∧ x ≤ hi
theorem tells_of (x lo hi : Int) : ∃ b, Tells b x lo hi := bool_of _
/-- Between two numbers. -/
theorem sIn (x lo hi : Int) (b : Bool) (w : World) (hb : Tells b x lo hi) :
    Calls Tryz.prog 45 #[.int .i64 x, .int .i64 lo, .int .i64 hi] w fun e w' => e = .returned (.bool b) ∧ w' = w := by
  cases b
  · have H := hide (show lo ≤ x → ¬ x ≤ hi from fun h1 h2 => Bool.noConfusion ((unhide hb).2 ⟨h1, h2⟩))
    clear hb
    by_cases h1 : lo ≤ x
    · have h2 := (unhide H) h1
      clear H
      go_enter Tryz.func45, Tryz.ntmps45
      go_wp2
      go_ret
      exact ⟨rfl, rfl⟩
    · clear H
      go_enter Tryz.func45, Tryz.ntmps45
      go_wp2
      go_ret
      exact ⟨rfl, rfl⟩
  · obtain ⟨h1, h2⟩ := (unhide hb).1 rfl
    clear hb
    go_enter Tryz.func45, Tryz.ntmps45
    go_wp2
    go_ret
    exact ⟨rfl, rfl⟩
theorem sNo (x : Int) (b : Bool) (w : World) (hb : Tells b x 1 1000) :
    Calls Tryz.prog 62 #[.int .i64 x] w fun e w' => e = .returned (.bool b) ∧ w' = w := by
  go_enter Tryz.func62, Tryz.ntmps62
  go_wp2_with fail
  refine (sIn x 1 1000 b _ hb).mono ?_
  rintro e w' ⟨rfl, rfl⟩
  go_wp2
  go_ret
  exact ⟨rfl, rfl⟩
theorem drewN_more {w wr : World} (h : ∃ q, wr = w.drewN q) (m : Nat) : ∃ q, wr.drewN m = w.drewN q := by
  obtain ⟨q, rfl⟩ := h
  exact ⟨q + m, World.drewN_drewN ..⟩
set_option maxRecDepth 100000 in
set_option maxHeartbeats 2000000 in
theorem sOk (w : World) (g n cap : Nat) (ps : List (Int × Int)) (ok : Bool) (hl : ps.length = n) (h20 : n ≤ 1048576) (h : At w g ps) (hok : Says ok 20 4 ps) :
    Calls Tryz.prog 40 #[.slice (some ⟨g, 0, none⟩) n cap] w fun e w' => e = .returned (.bool ok) ∧ ∃ q, w' = w.drewN q := by
  by_cases nn : (20 : Int) < (n : Int)
  · obtain rfl : ok = false := hok.not (fun r => by have := r.1; omega)
    clear hok h
    go_enter Tryz.func40, Tryz.ntmps40
    go_wp2
    go_ret
    exact ⟨rfl, 0, rfl⟩
  go_enter Tryz.func40, Tryz.ntmps40
  go_wp2
  go_loopw [3] (fun i wr => ∃ (k : Nat), k ≤ n ∧ i = .int .i64 k ∧ At wr g ps ∧ Hid (∃ q, wr = w.drewN q) ∧ Hid (∀ i, i < k → RowOk 4 ps i)) (fun i _ => n - (intOf i).toNat)
  case atStart => exact ⟨0, by omega, rfl, h, hide ⟨0, rfl⟩, hide (fun i hi => absurd hi (by omega))⟩
  case round =>
    clear h
    obtain ⟨k, hk, rfl, h, HQ, HG⟩ := hrel
    by_cases t : k < n
    · obtain ⟨e1, e2⟩ := h k (by omega)
      have e3 : 0 < k → wr.cell? ⟨g, (k - 1) * 2, none⟩ = some (.int .i64 (el ps (k - 1)).1) := fun k0 => (h (k - 1) (by omega)).1
      obtain ⟨b1, B1⟩ := tells_of (el ps k).1 1 1000
      obtain ⟨b2, B2⟩ := tells_of (el ps k).2 1 4
      have ROW := hide (show RowOk 4 ps k ↔ (b1 = true) ∧ (b2 = true) ∧ (0 < k → (el ps (k - 1)).1 < (el ps k).1) from by unfold Tells at B1 B2; rw [B1, B2]; exact Iff.rfl)
      have HA := hide h
      clear h
      have BAD := hide (show ¬ RowOk 4 ps k → ok = false from fun hr => hok.not (fun r => hr (r.2 k (by omega))))
      have GOOD := hide (show RowOk 4 ps k → ∀ i, i < k + 1 → RowOk 4 ps i from fun hr i hi => by
        by_cases e : i = k
        · subst e; exact hr
        · exact (unhide HG) i (by omega))
      generalize (el ps k).1 = x at *
      generalize (el ps k).2 = y at *
      cases b1
      · have OKF := hide ((unhide BAD) (fun hr => by have := ((unhide ROW).1 hr).1; cases this))
        clear BAD GOOD ROW e3
        go_wp2_with fail
        go_quiet (first | (go_at_call 62; refine Calls.quiet_of_same (sNo _ false _ B1)))
        go_wp2
        go_ret
        exact ⟨by rw [unhide OKF]; rfl, drewN_more (unhide HQ) _⟩
      · cases b2
        · have OKF := hide ((unhide BAD) (fun hr => by have := ((unhide ROW).1 hr).2.1; cases this))
          clear BAD GOOD ROW e3
          go_wp2_with fail
          go_quiet (first | (go_at_call 62; refine Calls.quiet_of_same (sNo _ true _ B1)) | (go_at_call 45; refine Calls.quiet_of_same (sIn _ _ _ false _ B2)))
          go_wp2
          go_ret
          exact ⟨by rw [unhide OKF]; rfl, drewN_more (unhide HQ) _⟩
        · by_cases k0 : 0 < k
          · have e3 := e3 k0
            have k1 : (0 : Int) < (k : Int) := by omega
            have k2 : (0 : Int) ≤ (k : Int) - 1 := by omega
            have k3 : ((k : Int) - 1).toNat = k - 1 := by omega
            by_cases lt : (el ps (k - 1)).1 < x
            · have GO := hide ((unhide GOOD) ((unhide ROW).2 ⟨rfl, rfl, fun _ => lt⟩))
              clear BAD GOOD ROW
              have ge : ¬ x ≤ (el ps (k - 1)).1 := by omega
              generalize (el ps (k - 1)).1 = z at *
              go_wp2_with fail
              go_quiet (first | (go_at_call 62; refine Calls.quiet_of_same (sNo _ true _ B1)) | (go_at_call 45; refine Calls.quiet_of_same (sIn _ _ _ true _ B2)))
              go_wp2
              go_roundw
              case rel => exact ⟨k + 1, by omega, by go_num, unhide HA, hide (drewN_more (unhide HQ) _), GO⟩
              case measure => simp [intOf]; omega
            · have OKF := hide ((unhide BAD) (fun hr => lt (((unhide ROW).1 hr).2.2 k0)))
              clear BAD GOOD ROW
              have ge : x ≤ (el ps (k - 1)).1 := by omega
              generalize (el ps (k - 1)).1 = z at *
              go_wp2_with fail
              go_quiet (first | (go_at_call 62; refine Calls.quiet_of_same (sNo _ true _ B1)) | (go_at_call 45; refine Calls.quiet_of_same (sIn _ _ _ true _ B2)))
              go_wp2
              go_ret
              exact ⟨by rw [unhide OKF]; rfl, drewN_more (unhide HQ) _⟩
          · obtain rfl : k = 0 := by omega
            have GO := hide ((unhide GOOD) ((unhide ROW).2 ⟨rfl, rfl, fun h0 => absurd h0 k0⟩))
            clear BAD GOOD ROW e3
            go_wp2_with fail
            go_quiet (first | (go_at_call 62; refine Calls.quiet_of_same (sNo _ true _ B1)) | (go_at_call 45; refine Calls.quiet_of_same (sIn _ _ _ true _ B2)))
            go_wp2
            go_roundw
            case rel => exact ⟨1, by omega, by go_num, unhide HA, hide (drewN_more (unhide HQ) _), GO⟩
            case measure => simp [intOf]; omega
    · obtain rfl : k = n := by omega
      obtain rfl : ok = true := hok.of ⟨by omega, by rw [hl]; exact unhide HG⟩
      clear h hok
      go_wp2
      go_ret
      exact ⟨rfl, unhide HQ⟩
set_option maxRecDepth 100000 in
set_option maxHeartbeats 2000000 in
theorem sKind (w : World) (g n cap : Nat) (ps : List (Int × Int)) (no : Int) (hl : ps.length = n) (h20 : n ≤ 1048576) (h : At w g ps) :
    Calls Tryz.prog 48 #[.slice (some ⟨g, 0, none⟩) n cap, .int .i64 no] w fun e w' => ∃ r, IsKind 20 4 ps no r ∧ e = .returned (.int .i64 r) ∧ ∃ q, w' = w.drewN q := by
  obtain ⟨ok, OK⟩ := says_of 20 4 ps
  go_enter Tryz.func48, Tryz.ntmps48
  go_wp2
  go_loopw [5] (fun i wr => ∃ (k : Nat), k ≤ n ∧ i = .int .i64 k ∧ At wr g ps ∧ Hid (∃ q, wr = w.drewN q) ∧ Hid (∀ i, i < k → (el ps i).1 ≠ no)) (fun i _ => n - (intOf i).toNat)
  case atStart => exact ⟨0, by omega, rfl, h, hide ⟨0, rfl⟩, hide (fun i hi => absurd hi (by omega))⟩
  case round =>
    clear h
    obtain ⟨k, hk, rfl, h, HQ, HG⟩ := hrel
    by_cases t : k < n
    · obtain ⟨e1, e2⟩ := h k (by omega)
      have HA := hide h
      clear h
      have GO := hide (show (el ps k).1 ≠ no → ∀ i, i < k + 1 → (el ps i).1 ≠ no from fun hn i hi => by
        by_cases e : i = k
        · subst e; exact hn
        · exact (unhide HG) i (by omega))
      have YES := hide (show ok = true → (el ps k).1 = no → IsKind 20 4 ps no (el ps k).2 from fun ho he => .inl ⟨OK.1 ho, k, by omega, he, rfl⟩)
      generalize (el ps k).1 = x at *
      generalize (el ps k).2 = y at *
      cases ok
      · go_wp2_with fail
        refine (sOk _ _ _ _ ps false hl h20 (unhide HA) OK).mono ?_
        rintro e w2 ⟨rfl, nq, rfl⟩
        go_wp2
        go_ret
        exact ⟨0, .inr ⟨.inl OK.no, rfl⟩, rfl, drewN_more (unhide HQ) _⟩
      · go_wp2_with fail
        refine (sOk _ _ _ _ ps true hl h20 (unhide HA) OK).mono ?_
        rintro e w2 ⟨rfl, nq, rfl⟩
        by_cases eq : x = no
        · have Y := hide ((unhide YES) (by trivial) eq)
          clear YES GO
          subst eq
          go_wp2
          go_ret
          exact ⟨y, unhide Y, rfl, drewN_more (unhide HQ) _⟩
        · have eqb : (x == no) = false := by simpa using eq
          have G := hide ((unhide GO) eq)
          clear YES GO
          go_wp2
          go_roundw
          case rel => exact ⟨k + 1, by omega, by go_num, unhide HA, hide (drewN_more (unhide HQ) _), G⟩
          case measure => simp [intOf]; omega
    · obtain rfl : k = n := by omega
      have K0 := hide (show IsKind 20 4 ps no 0 from .inr ⟨.inr (fun i hi => (unhide HG) i (by omega)), rfl⟩)
      clear h
      go_wp2
      go_ret
      exact ⟨0, unhide K0, rfl, unhide HQ⟩
end Go.Proofs.YtefcigaalgfmiaaGreat.AccountSOk
namespace Go.Proofs.YtefcigaalgfmiaaGreat.InstrSOk
open Go.ChangeShapes Go.WideShapes Go.ChangeAt Go.RowKit Pairs Chart
/-- b tells whether x is between two numbers. -/
def Tells (b : Bool) (x lo hi : Int) : Prop := b = true ↔ lo ≤ x ∧ x ≤ hi
theorem tells_of (x lo hi : Int) : ∃ b, Tells b x lo hi := bool_of _
/-- Between two numbers. -/
theorem sIn (x lo hi : Int) (b : Bool) (w : World) (hb : Tells b x lo hi) :
    Calls Tryz.prog 45 #[.int .i64 x, .int .i64 lo, .int .i64 hi] w fun e w' => e = .returned (.bool b) ∧ w' = w := by
  cases b
  · have H := hide (show lo ≤ x → ¬ x ≤ hi from fun h1 h2 => Bool.noConfusion ((unhide hb).2 ⟨h1, h2⟩))
    clear hb
    by_cases h1 : lo ≤ x
    · have h2 := (unhide H) h1
      clear H
      go_enter Tryz.func45, Tryz.ntmps45
      go_wp2
      go_ret
      exact ⟨rfl, rfl⟩
    · clear H
      go_enter Tryz.func45, Tryz.ntmps45
      go_wp2
      go_ret
      exact ⟨rfl, rfl⟩
  · obtain ⟨h1, h2⟩ := (unhide hb).1 rfl
    clear hb
    go_enter Tryz.func45, Tryz.ntmps45
    go_wp2
    go_ret
    exact ⟨rfl, rfl⟩
theorem sNo (x : Int) (b : Bool) (w : World) (hb : Tells b x 1 1000) :
    Calls Tryz.prog 62 #[.int .i64 x] w fun e w' => e = .returned (.bool b) ∧ w' = w := by
  go_enter Tryz.func62, Tryz.ntmps62
  go_wp2_with fail
  refine (sIn x 1 1000 b _ hb).mono ?_
  rintro e w' ⟨rfl, rfl⟩
  go_wp2
  go_ret
  exact ⟨rfl, rfl⟩
theorem drewN_more {w wr : World} (h : ∃ q, wr = w.drewN q) (m : Nat) : ∃ q, wr.drewN m = w.drewN q := by
  obtain ⟨q, rfl⟩ := h
  exact ⟨q + m, World.drewN_drewN ..⟩
set_option maxRecDepth 100000 in
set_option maxHeartbeats 2000000 in
theorem sOk (w : World) (g n cap : Nat) (ps : List (Int × Int)) (ok : Bool) (hl : ps.length = n) (h20 : n ≤ 1048576) (h : At w g ps) (hok : Says ok 8 2 ps) :
    Calls Tryz.prog 41 #[.slice (some ⟨g, 0, none⟩) n cap] w fun e w' => e = .returned (.bool ok) ∧ ∃ q, w' = w.drewN q := by
  by_cases nn : (8 : Int) < (n : Int)
  · obtain rfl : ok = false := hok.not (fun r => by have := r.1; omega)
    clear hok h
    go_enter Tryz.func41, Tryz.ntmps41
    go_wp2
    go_ret
    exact ⟨rfl, 0, rfl⟩
  go_enter Tryz.func41, Tryz.ntmps41
  go_wp2
  go_loopw [3] (fun i wr => ∃ (k : Nat), k ≤ n ∧ i = .int .i64 k ∧ At wr g ps ∧ Hid (∃ q, wr = w.drewN q) ∧ Hid (∀ i, i < k → RowOk 2 ps i)) (fun i _ => n - (intOf i).toNat)
  case atStart => exact ⟨0, by omega, rfl, h, hide ⟨0, rfl⟩, hide (fun i hi => absurd hi (by omega))⟩
  case round =>
    clear h
    obtain ⟨k, hk, rfl, h, HQ, HG⟩ := hrel
    by_cases t : k < n
    · obtain ⟨e1, e2⟩ := h k (by omega)
      have e3 : 0 < k → wr.cell? ⟨g, (k - 1) * 2, none⟩ = some (.int .i64 (el ps (k - 1)).1) := fun k0 => (h (k - 1) (by omega)).1
      obtain ⟨b1, B1⟩ := tells_of (el ps k).1 1 1000
      obtain ⟨b2, B2⟩ := tells_of (el ps k).2 1 2
      have ROW := hide (show RowOk 2 ps k ↔ (b1 = true) ∧ (b2 = true) ∧ (0 < k → (el ps (k - 1)).1 < (el ps k).1) from by unfold Tells at B1 B2; rw [B1, B2]; exact Iff.rfl)
      have HA := hide h
      clear h
      have BAD := hide (show ¬ RowOk 2 ps k → ok = false from fun hr => hok.not (fun r => hr (r.2 k (by omega))))
      have GOOD := hide (show RowOk 2 ps k → ∀ i, i < k + 1 → RowOk 2 ps i from fun hr i hi => by
        by_cases e : i = k
        · subst e; exact hr
        · exact (unhide HG) i (by omega))
      generalize (el ps k).1 = x at *
      generalize (el ps k).2 = y at *
      cases b1
      · have OKF := hide ((unhide BAD) (fun hr => by have := ((unhide ROW).1 hr).1; cases this))
        clear BAD GOOD ROW e3
        go_wp2_with fail
        go_quiet (first | (go_at_call 62; refine Calls.quiet_of_same (sNo _ false _ B1)))
        go_wp2
        go_ret
        exact ⟨by rw [unhide OKF]; rfl, drewN_more (unhide HQ) _⟩
      · cases b2
        · have OKF := hide ((unhide BAD) (fun hr => by have := ((unhide ROW).1 hr).2.1; cases this))
          clear BAD GOOD ROW e3
          go_wp2_with fail
          go_quiet (first | (go_at_call 62; refine Calls.quiet_of_same (sNo _ true _ B1)) | (go_at_call 45; refine Calls.quiet_of_same (sIn _ _ _ false _ B2)))
          go_wp2
          go_ret
          exact ⟨by rw [unhide OKF]; rfl, drewN_more (unhide HQ) _⟩
        · by_cases k0 : 0 < k
          · have e3 := e3 k0
            have k1 : (0 : Int) < (k : Int) := by omega
            have k2 : (0 : Int) ≤ (k : Int) - 1 := by omega
            have k3 : ((k : Int) - 1).toNat = k - 1 := by omega
            by_cases lt : (el ps (k - 1)).1 < x
            · have GO := hide ((unhide GOOD) ((unhide ROW).2 ⟨rfl, rfl, fun _ => lt⟩))
              clear BAD GOOD ROW
              have ge : ¬ x ≤ (el ps (k - 1)).1 := by omega
              generalize (el ps (k - 1)).1 = z at *
              go_wp2_with fail
              go_quiet (first | (go_at_call 62; refine Calls.quiet_of_same (sNo _ true _ B1)) | (go_at_call 45; refine Calls.quiet_of_same (sIn _ _ _ true _ B2)))
              go_wp2
              go_roundw
              case rel => exact ⟨k + 1, by omega, by go_num, unhide HA, hide (drewN_more (unhide HQ) _), GO⟩
              case measure => simp [intOf]; omega
            · have OKF := hide ((unhide BAD) (fun hr => lt (((unhide ROW).1 hr).2.2 k0)))
              clear BAD GOOD ROW
              have ge : x ≤ (el ps (k - 1)).1 := by omega
              generalize (el ps (k - 1)).1 = z at *
              go_wp2_with fail
              go_quiet (first | (go_at_call 62; refine Calls.quiet_of_same (sNo _ true _ B1)) | (go_at_call 45; refine Calls.quiet_of_same (sIn _ _ _ true _ B2)))
              go_wp2
              go_ret
              exact ⟨by rw [unhide OKF]; rfl, drewN_more (unhide HQ) _⟩
          · obtain rfl : k = 0 := by omega
            have GO := hide ((unhide GOOD) ((unhide ROW).2 ⟨rfl, rfl, fun h0 => absurd h0 k0⟩))
            clear BAD GOOD ROW e3
            go_wp2_with fail
            go_quiet (first | (go_at_call 62; refine Calls.quiet_of_same (sNo _ true _ B1)) | (go_at_call 45; refine Calls.quiet_of_same (sIn _ _ _ true _ B2)))
            go_wp2
            go_roundw
            case rel => exact ⟨1, by omega, by go_num, unhide HA, hide (drewN_more (unhide HQ) _), GO⟩
            case measure => simp [intOf]; omega
    · obtain rfl : k = n := by omega
      obtain rfl : ok = true := hok.of ⟨by omega, by rw [hl]; exact unhide HG⟩
      clear h hok
      go_wp2
      go_ret
      exact ⟨rfl, unhide HQ⟩
set_option maxRecDepth 100000 in
set_option maxHeartbeats 2000000 in
theorem sKind (w : World) (g n cap : Nat) (ps : List (Int × Int)) (no : Int) (hl : ps.length = n) (h20 : n ≤ 1048576) (h : At w g ps) :
    Calls Tryz.prog 49 #[.slice (some ⟨g, 0, none⟩) n cap, .int .i64 no] w fun e w' => ∃ r, IsKind 8 2 ps no r ∧ e = .returned (.int .i64 r) ∧ ∃ q, w' = w.drewN q := by
  obtain ⟨ok, OK⟩ := says_of 8 2 ps
  go_enter Tryz.func49, Tryz.ntmps49
  go_wp2
  go_loopw [5] (fun i wr => ∃ (k : Nat), k ≤ n ∧ i = .int .i64 k ∧ At wr g ps ∧ Hid (∃ q, wr = w.drewN q) ∧ Hid (∀ i, i < k → (el ps i).1 ≠ no)) (fun i _ => n - (intOf i).toNat)
  case atStart => exact ⟨0, by omega, rfl, h, hide ⟨0, rfl⟩, hide (fun i hi => absurd hi (by omega))⟩
  case round =>
    clear h
    obtain ⟨k, hk, rfl, h, HQ, HG⟩ := hrel
    by_cases t : k < n
    · obtain ⟨e1, e2⟩ := h k (by omega)
      have HA := hide h
      clear h
      have GO := hide (show (el ps k).1 ≠ no → ∀ i, i < k + 1 → (el ps i).1 ≠ no from fun hn i hi => by
        by_cases e : i = k
        · subst e; exact hn
        · exact (unhide HG) i (by omega))
      have YES := hide (show ok = true → (el ps k).1 = no → IsKind 8 2 ps no (el ps k).2 from fun ho he => .inl ⟨OK.1 ho, k, by omega, he, rfl⟩)
      generalize (el ps k).1 = x at *
      generalize (el ps k).2 = y at *
      cases ok
      · go_wp2_with fail
        refine (sOk _ _ _ _ ps false hl h20 (unhide HA) OK).mono ?_
        rintro e w2 ⟨rfl, nq, rfl⟩
        go_wp2
        go_ret
        exact ⟨0, .inr ⟨.inl OK.no, rfl⟩, rfl, drewN_more (unhide HQ) _⟩
      · go_wp2_with fail
        refine (sOk _ _ _ _ ps true hl h20 (unhide HA) OK).mono ?_
        rintro e w2 ⟨rfl, nq, rfl⟩
        by_cases eq : x = no
        · have Y := hide ((unhide YES) (by trivial) eq)
          clear YES GO
          subst eq
          go_wp2
          go_ret
          exact ⟨y, unhide Y, rfl, drewN_more (unhide HQ) _⟩
        · have eqb : (x == no) = false := by simpa using eq
          have G := hide ((unhide GO) eq)
          clear YES GO
          go_wp2
          go_roundw
          case rel => exact ⟨k + 1, by omega, by go_num, unhide HA, hide (drewN_more (unhide HQ) _), G⟩
          case measure => simp [intOf]; omega
    · obtain rfl : k = n := by omega
      have K0 := hide (show IsKind 8 2 ps no 0 from .inr ⟨.inr (fun i hi => (unhide HG) i (by omega)), rfl⟩)
      clear h
      go_wp2
      go_ret
      exact ⟨0, unhide K0, rfl, unhide HQ⟩
end Go.Proofs.YtefcigaalgfmiaaGreat.InstrSOk
namespace Go.Proofs.YtefcigaalgfmiaaGreat.SBals
open Go.ChangeShapes Go.WideShapes Go.ChangeAt Go.RowKit BMem Bks IRead IHave ITrade ILists IBalsFit
open Lots (Says says_of NoOk)
open Bals (T3 el3 val sumI)
/-- The kind of an account. -/
theorem sKindA (w : World) (x : Bx) (no r : Int) (h : Rd w x) (hr : Chart.Right 20 4 x.b.ac) (hk : kindOf x.b.ac no = r) :
    Calls Tryz.prog 48 #[.slice (some ⟨x.ga, 0, none⟩) x.b.ac.length x.ca, .int .i64 no] w fun e w' => e = .returned (.int .i64 r) ∧ Below w.heap.size w w' :=
  (AccountSOk.sKind w x.ga _ x.ca x.b.ac no rfl h.na h.ra).mono fun e w' ⟨r', h1, h2, q, h3⟩ => ⟨by rw [h2, kind_is hr h1, hk], by rw [h3]; exact below_drewN (Below.refl _ _) q⟩
theorem sKindI (w : World) (x : Bx) (no r : Int) (h : Rd w x) (hr : Chart.Right 8 2 x.b.ic) (hk : kindOf x.b.ic no = r) :
    Calls Tryz.prog 49 #[.slice (some ⟨x.gi, 0, none⟩) x.b.ic.length x.ci, .int .i64 no] w fun e w' => e = .returned (.int .i64 r) ∧ Below w.heap.size w w' :=
  (InstrSOk.sKind w x.gi _ x.ci x.b.ic no rfl h.ni h.ri).mono fun e w' ⟨r', h1, h2, q, h3⟩ => ⟨by rw [h2, kind_is hr h1, hk], by rw [h3]; exact below_drewN (Below.refl _ _) q⟩
set_option maxRecDepth 100000 in
set_option maxHeartbeats 4000000 in
theorem sBals (w : World) (x : Bx) (b : Bool) (h : Rd w x) (hl : Lists x.b) (hb : Says b (BalsFit x.b)) :
    Calls Tryz.prog 46 #[.agg #[.slice (some ⟨x.ga, 0, none⟩) x.b.ac.length x.ca, .slice (some ⟨x.gi, 0, none⟩) x.b.ic.length x.ci, .slice (some ⟨x.gb, 0, none⟩) x.b.bs.length x.cb, .slice (some ⟨x.gl, 0, none⟩) x.b.ls.length x.cl, .slice (some ⟨x.gt, 0, none⟩) x.b.ts.length x.ct, .int .i64 x.b.lot]] w fun e w' => e = .returned (.bool b) ∧ Below w.heap.size w w' := by
  have T := hide hb
  have L := hide hl
  have S0 := hide (St.start h 39)
  have nb := h.nb
  clear hb hl h
  go_enter Tryz.func46, Tryz.ntmps46
  go_wp2
  go_loopw [3] (fun i wr => ∃ (k : Nat), k ≤ x.b.bs.length ∧ i = .int .i64 k ∧ St w wr x ∧ Hid (∀ j, j < k → BalFit x.b (el3 x.b.bs j) ∧ sumI x.b.bs (el3 x.b.bs j).2.1 = 0)) (fun i _ => x.b.bs.length - (intOf i).toNat)
  case atStart => exact ⟨0, by omega, rfl, unhide S0, hide (fun i hi => absurd hi (by omega))⟩
  case round =>
    obtain ⟨k, hk, rfl, hS, HG⟩ := hrel
    clear S0
    by_cases t : k < x.b.bs.length
    · obtain ⟨d0, d1, d2⟩ := (hS.r.rb k t)
      obtain ⟨c0, c1, c2, c3, c4, c5⟩ := hS.c
      have BAD := hide (show ¬ (BalFit x.b (el3 x.b.bs k) ∧ sumI x.b.bs (el3 x.b.bs k).2.1 = 0) → b = false from fun hr => (unhide T).not (fun r => hr ⟨r.1 k t, r.2 _⟩))
      have GOOD := hide (show (BalFit x.b (el3 x.b.bs k) ∧ sumI x.b.bs (el3 x.b.bs k).2.1 = 0) → ∀ i, i < k + 1 → BalFit x.b (el3 x.b.bs i) ∧ sumI x.b.bs (el3 x.b.bs i).2.1 = 0 from fun hr i hi => by
        by_cases e : i = k
        · subst e; exact hr
        · exact (unhide HG) i (by omega))
      have FIT := hide (show BalFit x.b (el3 x.b.bs k) ↔ kindOf x.b.ac (el3 x.b.bs k).1 ≠ 0 ∧ kindOf x.b.ic (el3 x.b.bs k).2.1 ≠ 0 ∧ ¬ (kindOf x.b.ac (el3 x.b.bs k).1 = 1 ∧ (el3 x.b.bs k).2.2 < 0) from Iff.rfl)
      have wz := hS.s
      have S1 := hide (hS.step (one_more wr (.cells #[.int .i64 (el3 x.b.bs k).1, .int .i64 (el3 x.b.bs k).2.1, .int .i64 (el3 x.b.bs k).2.2] 85)))
      clear hS
      generalize BalFit x.b (el3 x.b.bs k) = FP at *
      generalize (el3 x.b.bs k).1 = y0 at *
      generalize (el3 x.b.bs k).2.1 = y1 at *
      generalize (el3 x.b.bs k).2.2 = y2 at *
      generalize hK : kindOf x.b.ac y0 = K at *
      generalize hJ : kindOf x.b.ic y1 = J at *
      have HK := hide hK
      have HJ := hide hJ
      clear hK hJ
      go_wp2_with fail
      refine (sKindA _ x y0 K (unhide S1).r (unhide L).1 (unhide HK)).mono ?_
      rintro e w1 ⟨rfl, bb⟩
      have S2 := hide ((unhide S1).step bb)
      have f0 : w1.cell? ⟨wr.heap.size, 0, none⟩ = some (.int .i64 y0) := (bb.cell (p := ⟨wr.heap.size, 0, none⟩) (by simp)).trans (by simp)
      have f1 : w1.cell? ⟨wr.heap.size, 1, none⟩ = some (.int .i64 y1) := (bb.cell (p := ⟨wr.heap.size, 1, none⟩) (by simp)).trans (by simp)
      have f2 : w1.cell? ⟨wr.heap.size, 2, none⟩ = some (.int .i64 y2) := (bb.cell (p := ⟨wr.heap.size, 2, none⟩) (by simp)).trans (by simp)
      have z1 : wr.heap.size < w1.heap.size := by have := bb.size; simp at this; omega
      clear bb c0 c1 c2 c3 c4 c5 d0 d1 d2
      obtain ⟨c0, c1, c2, c3, c4, c5⟩ := (unhide S2).c
      by_cases q0 : K = 0
      · have F := hide ((unhide BAD) (fun hh => ((unhide FIT).1 hh.1).1 q0))
        have hq : (K == 0) = true := by simp [q0]
        clear BAD GOOD FIT T q0
        go_wp2
        go_ret
        exact ⟨by rw [unhide F]; rfl, (unhide S2).b⟩
      have hq0 : (K == 0) = false := by simp [q0]
      have Q0 := hide q0
      clear q0
      go_wp2_with fail
      refine (sKindI _ x y1 J (unhide S2).r (unhide L).2.1 (unhide HJ)).mono ?_
      rintro e w2 ⟨rfl, bb⟩
      have S3 := hide ((unhide S2).step bb)
      replace f0 : w2.cell? ⟨wr.heap.size, 0, none⟩ = some (.int .i64 y0) := (bb.cell (p := ⟨wr.heap.size, 0, none⟩) z1).trans f0
      replace f1 : w2.cell? ⟨wr.heap.size, 1, none⟩ = some (.int .i64 y1) := (bb.cell (p := ⟨wr.heap.size, 1, none⟩) z1).trans f1
      replace f2 : w2.cell? ⟨wr.heap.size, 2, none⟩ = some (.int .i64 y2) := (bb.cell (p := ⟨wr.heap.size, 2, none⟩) z1).trans f2
      have z2 : wr.heap.size < w2.heap.size := Nat.lt_of_lt_of_le z1 bb.size
      clear bb c0 c1 c2 c3 c4 c5
      obtain ⟨c0, c1, c2, c3, c4, c5⟩ := (unhide S3).c
      by_cases q1 : J = 0
      · have F := hide ((unhide BAD) (fun hh => ((unhide FIT).1 hh.1).2.1 q1))
        have hq : (J == 0) = true := by simp [q1]
        clear BAD GOOD FIT T q1
        go_wp2
        go_ret
        exact ⟨by rw [unhide F]; rfl, (unhide S3).b⟩
      have hq1 : (J == 0) = false := by simp [q1]
      have Q1 := hide q1
      clear q1
      by_cases q2 : K = 1
      · have hq2 : (K == 1) = true := by simp [q2]
        by_cases q3 : y2 < 0
        · have F := hide ((unhide BAD) (fun hh => ((unhide FIT).1 hh.1).2.2 ⟨q2, q3⟩))
          clear BAD GOOD FIT T q2
          go_wp2
          go_ret
          exact ⟨by rw [unhide F]; rfl, (unhide S3).b⟩
        have FP' := hide ((unhide FIT).2 ⟨unhide Q0, unhide Q1, fun r => q3 r.2⟩)
        have hq3 : decide (y2 < 0) = false := decide_eq_false q3
        clear q2 q3 FIT
        obtain ⟨r, c, hs⟩ := Look.sum_is x.b.bs y1
        have Z := hide (sum_zero (unhide L).2.2.1 hs)
        have HS := hide hs
        clear hs
        go_wp2_with fail
        refine (Look.sSum _ x.gb _ x.cb x.b.bs y1 r c rfl nb (unhide S3).r.lb (unhide S3).r.rb (unhide HS)).mono ?_
        rintro e w3 ⟨rfl, bb⟩
        have S4 := hide ((unhide S3).step bb)
        clear bb c0 c1 c2 c3 c4 c5 f0 f1 f2
        cases c
        · have F := hide ((unhide BAD) (fun e => by have := (unhide Z).2 e.2; cases this.1))
          clear BAD GOOD T
          go_wp2
          go_ret
          exact ⟨by rw [unhide F]; rfl, (unhide S4).b⟩
        by_cases q : r = 0
        · have G := hide ((unhide GOOD) ⟨unhide FP', (unhide Z).1 ⟨rfl, q⟩⟩)
          have hq : (r != 0) = false := by simp [q]
          clear BAD GOOD q
          go_wp2
          go_roundw
          case rel => exact ⟨k + 1, by omega, by go_num, unhide S4, G⟩
          case measure => simp [intOf]; omega
        · have F := hide ((unhide BAD) (fun e => q ((unhide Z).2 e.2).2))
          have hq : (r != 0) = true := by simp [q]
          clear BAD GOOD T q
          go_wp2
          go_ret
          exact ⟨by rw [unhide F]; rfl, (unhide S4).b⟩
      · have hq2 : (K == 1) = false := by simp [q2]
        have FP' := hide ((unhide FIT).2 ⟨unhide Q0, unhide Q1, fun r => q2 r.1⟩)
        clear q2 FIT
        obtain ⟨r, c, hs⟩ := Look.sum_is x.b.bs y1
        have Z := hide (sum_zero (unhide L).2.2.1 hs)
        have HS := hide hs
        clear hs
        go_wp2_with fail
        refine (Look.sSum _ x.gb _ x.cb x.b.bs y1 r c rfl nb (unhide S3).r.lb (unhide S3).r.rb (unhide HS)).mono ?_
        rintro e w3 ⟨rfl, bb⟩
        have S4 := hide ((unhide S3).step bb)
        clear bb c0 c1 c2 c3 c4 c5 f0 f1 f2
        cases c
        · have F := hide ((unhide BAD) (fun e => by have := (unhide Z).2 e.2; cases this.1))
          clear BAD GOOD T
          go_wp2
          go_ret
          exact ⟨by rw [unhide F]; rfl, (unhide S4).b⟩
        by_cases q : r = 0
        · have G := hide ((unhide GOOD) ⟨unhide FP', (unhide Z).1 ⟨rfl, q⟩⟩)
          have hq : (r != 0) = false := by simp [q]
          clear BAD GOOD q
          go_wp2
          go_roundw
          case rel => exact ⟨k + 1, by omega, by go_num, unhide S4, G⟩
          case measure => simp [intOf]; omega
        · have F := hide ((unhide BAD) (fun e => q ((unhide Z).2 e.2).2))
          have hq : (r != 0) = true := by simp [q]
          clear BAD GOOD T q
          go_wp2
          go_ret
          exact ⟨by rw [unhide F]; rfl, (unhide S4).b⟩
    · have F := hide ((unhide T).of (bals_spec (fun j hj => (unhide HG) j (by omega))))
      obtain ⟨c0, c1, c2, c3, c4, c5⟩ := hS.c
      have S1 := hide hS
      clear hS
      go_wp2
      go_ret
      exact ⟨by rw [unhide F]; rfl, (unhide S1).b⟩
end Go.Proofs.YtefcigaalgfmiaaGreat.SBals
namespace Go.Proofs.YtefcigaalgfmiaaGreat.Legs
open Go.ChangeShapes Go.WideShapes Go.ChangeAt Go.RowKit Bals Triples Cmp SOk3 IOk3 Tab Look
/-- Block B is a table by number that tells g. -/
def STab (w : World) (B n : Nat) (g : Int → Int) : Prop := ∃ D : D0, w.ownsMap Tryz.prog 3 (plainElem Tryz.prog 3) B n D ∧ ∀ i, (Lit.int .i64 i).wf = true → D.atKey (.int .i64 i) (.lit (.int .i64 0)) = .lit (.int .i64 (g i))
theorem STab.kept {w w' : World} {B n : Nat} {f : Int → Int} {row : Option Nat} (h : STab w B n f) (hg : w.grownBy w' row) (hne : some B ≠ row) : STab w' B n f := by
  obtain ⟨D, h1, h2⟩ := h
  exact ⟨D, h1.kept hg hne, h2⟩
theorem STab.lt {w : World} {B n : Nat} {f : Int → Int} (h : STab w B n f) : B < w.heap.size := by
  obtain ⟨D, h1, _⟩ := h
  exact h1.lt
/-- Block B is a table that tells g, block r goes over it; left: the numbers still to come. -/
def RSTab (w : World) (B r n : Nat) (g : Int → Int) (left : Int → Bool) (cnt : Nat) : Prop :=
  ∃ (D : D0) (lf : Lit → Bool), w.ranges Tryz.prog 3 (plainElem Tryz.prog 3) B r n D lf cnt ∧ (∀ i, (Lit.int .i64 i).wf = true → D.atKey (.int .i64 i) (.lit (.int .i64 0)) = .lit (.int .i64 (g i))) ∧ ∀ i, left i = lf (.int .i64 i)
theorem RSTab.left_eq {w : World} {B r n : Nat} {f : Int → Int} {left : Int → Bool} {cnt : Nat} (h : RSTab w B r n f left cnt) : w.rangeLeft B r = cnt := by
  obtain ⟨D, lf, h1, _⟩ := h
  exact h1.left_eq
end Go.Proofs.YtefcigaalgfmiaaGreat.Legs
namespace Go.Proofs.YtefcigaalgfmiaaGreat.BalApp
open Go.ChangeShapes Go.WideShapes Go.ChangeAt Go.RowKit Bals Triples
theorem info2 : (Tryz.prog.info? 85).map (fun i => (i.zero, i.size, i.bytes)) = some (some (.agg #[.int .i64 0, .int .i64 0, .int .i64 0]), 3, 24) := by kernel_rfl
theorem wp_app (u : World) {ops : Array Oper} {rest : List Oper} {o : Oper} {a : Act} {Q : Exit → Act → World → Prop} (hgd : o.guard = none) (s x : Operand)
    (ho : o.op = .call { callee := .builtin .append, args := #[s, x], argTypes := #[35, 35] }) (base g n cap : Nat) (ps : List T3) (vb : Nat) (p q r : Int)
    (hs : a.eval s = .slice (some ⟨g, 0, none⟩) n cap) (hx : a.eval x = .slice (some ⟨vb, 0, none⟩) 1 1) (hown : Own3 85 u base g n cap ps) (hv : Holds3 u vb 0 (p, q, r)) (hn : n ≤ 1048576) (hb : base ≤ u.heap.size)
    (h : ∀ g' c' w', Own3 85 w' base g' (n + 1) c' (ps ++ [(p, q, r)]) → u.grownBy w' (some g) → (g' = g ∨ g' = u.heap.size) → wpList Tryz.prog ops Q rest (a.put o.dst (.slice (some ⟨g', 0, none⟩) (n + 1) c')) w') : wpList Tryz.prog ops Q (o :: rest) a u := by
  obtain ⟨i0, hi, hz0, hz1, hz2⟩ := info_parts info2
  have hat : At3 u vb [(p, q, r)] := by
    intro i hi
    obtain rfl : i = 0 := by simpa using hi
    exact hv
  refine wpList_append_own_at u hgd s x 35 ho base 85 i0 (.agg #[.int .i64 0, .int .i64 0, .int .i64 0]) 3 24 Tryz.underlying35 hi hz0 hz1 hz2 rfl (by decide) _ n _ hs hown ⟨vb, 0, none⟩ 1 1 (flat3 [(p, q, r)]) hx rfl hat.cells (fun u hu => flat3_one u _ hu) (by unfold maxLen; omega) (by omega) hb ?_
  intro v' w' own' gr' nil' loc'
  obtain ⟨g', c', rfl, o'⟩ := own3_of_row (n' := n + 1) (ps := ps ++ [(p, q, r)]) own' rfl (by rw [flat3_append]) (by rw [nil']; simp)
  exact h g' c' w' o' gr' (by simpa [Value.ownBlock] using loc')
end Go.Proofs.YtefcigaalgfmiaaGreat.BalApp
namespace Go.Proofs.YtefcigaalgfmiaaGreat.LotApp
open Go.ChangeShapes Go.WideShapes Go.ChangeAt Go.RowKit Tup5
theorem info2 : (Tryz.prog.info? 87).map (fun i => (i.zero, i.size, i.bytes)) = some (some (.agg #[.int .i64 0, .int .i64 0, .int .i64 0, .int .i64 0, .int .i64 0]), 5, 40) := by kernel_rfl
theorem wp_app (u : World) {ops : Array Oper} {rest : List Oper} {o : Oper} {a : Act} {Q : Exit → Act → World → Prop} (hgd : o.guard = none) (s x : Operand)
    (ho : o.op = .call { callee := .builtin .append, args := #[s, x], argTypes := #[36, 36] }) (base g n cap : Nat) (ps : List T5) (vb : Nat) (x0 x1 x2 x3 x4 : Int)
    (hs : a.eval s = .slice (some ⟨g, 0, none⟩) n cap) (hx : a.eval x = .slice (some ⟨vb, 0, none⟩) 1 1) (hown : Own5 87 u base g n cap ps) (hv : Holds5 u vb 0 (x0, x1, x2, x3, x4)) (hn : n ≤ 1048576) (hb : base ≤ u.heap.size)
    (h : ∀ g' c' w', Own5 87 w' base g' (n + 1) c' (ps ++ [(x0, x1, x2, x3, x4)]) → u.grownBy w' (some g) → (g' = g ∨ g' = u.heap.size) → wpList Tryz.prog ops Q rest (a.put o.dst (.slice (some ⟨g', 0, none⟩) (n + 1) c')) w') : wpList Tryz.prog ops Q (o :: rest) a u := by
  obtain ⟨i0, hi, hz0, hz1, hz2⟩ := info_parts info2
  have hat : At5 u vb [(x0, x1, x2, x3, x4)] := by
    intro i hi
    obtain rfl : i = 0 := by simpa using hi
    exact hv
  refine wpList_append_own_at u hgd s x 36 ho base 87 i0 (.agg #[.int .i64 0, .int .i64 0, .int .i64 0, .int .i64 0, .int .i64 0]) 5 40 Tryz.underlying36 hi hz0 hz1 hz2 rfl (by decide) _ n _ hs hown ⟨vb, 0, none⟩ 1 1 (flat5 [(x0, x1, x2, x3, x4)]) hx rfl hat.cells (fun u hu => flat5_one u _ hu) (by unfold maxLen; omega) (by omega) hb ?_
  intro v' w' own' gr' nil' loc'
  obtain ⟨g', c', rfl, o'⟩ := own5_of_row (n' := n + 1) (ps := ps ++ [(x0, x1, x2, x3, x4)]) own' rfl (by rw [flat5_append]) (by rw [nil']; simp)
  exact h g' c' w' o' gr' (by simpa [Value.ownBlock] using loc')
end Go.Proofs.YtefcigaalgfmiaaGreat.LotApp
namespace Go.Proofs.YtefcigaalgfmiaaGreat.SSplit
open Go.ChangeShapes Go.WideShapes Go.ChangeAt Go.RowKit Tup5 Lots Takes SOk5 Quieter
set_option maxRecDepth 100000 in
set_option maxHeartbeats 4000000 in
theorem sSplit (w : World) (g n cap : Nat) (ps : List T5) (a i : Int) (hl : ps.length = n) (h20 : n ≤ 100000) (hg : g < w.heap.size) (h : At5 w g ps) :
    Calls Tryz.prog 69 #[.slice (some ⟨g, 0, none⟩) n cap, .int .i64 a, .int .i64 i] w fun e w' => ∃ g1 c1 g2 c2, e = .returned (.tuple #[.slice (some ⟨g1, 0, none⟩) (ownL ps a i).length c1, .slice (some ⟨g2, 0, none⟩) (restL ps a i).length c2]) ∧ Own5 87 w' w.heap.size g1 (ownL ps a i).length c1 (ownL ps a i) ∧ Own5 87 w' w.heap.size g2 (restL ps a i).length c2 (restL ps a i) ∧ g1 ≠ g2 ∧ Below w.heap.size w w' := by
  have H := hide h
  clear h
  have O1 := hide ((lit50 87 w w.heap.size (Nat.le_refl _)).alloc (.cells #[] 87))
  have O2 := hide (lit50 87 (w.alloc (.cells #[] 87)) w.heap.size (by simp))
  have B0 := hide (show Below w.heap.size w ((w.alloc (.cells #[] 87)).alloc (.cells #[] 87)) from ((Below.refl _ _).alloc (Nat.le_refl _) _).alloc (by simp) _)
  simp only [World.size_alloc] at O2
  go_enter Tryz.func69, Tryz.ntmps69
  go_wp2
  generalize (w.alloc (.cells #[] 87)).alloc (.cells #[] 87) = w0 at *
  go_loopw [8, 9, 10] (fun l m j wr => ∃ (p q : List T5) (g1 c1 g2 c2 k : Nat), l = .slice (some ⟨g1, 0, none⟩) p.length c1 ∧ m = .slice (some ⟨g2, 0, none⟩) q.length c2 ∧ j = .int .i64 k ∧ k ≤ n ∧ p.length ≤ k ∧ q.length ≤ k ∧ g1 ≠ g2 ∧ Hid (p = ownL (ps.take k) a i) ∧ Hid (q = restL (ps.take k) a i) ∧ Hid (Own5 87 wr w.heap.size g1 p.length c1 p) ∧ Hid (Own5 87 wr w.heap.size g2 q.length c2 q) ∧ Hid (Below w.heap.size w wr)) (fun _ _ j _ => n - (intOf j).toNat)
  case atStart => exact ⟨[], [], w.heap.size, 0, w.heap.size + 1, 0, 0, rfl, rfl, rfl, by omega, by simp, by simp, by omega, hide rfl, hide rfl, O1, O2, B0⟩
  case round =>
    clear O1 O2 B0
    obtain ⟨p, q, g1, c1, g2, c2, k, rfl, rfl, rfl, hk, pl, ql, g12, HP, HQ, H1, H2, HB⟩ := hrel
    have bs := (unhide HB).size
    have gl1 := (unhide H1).lt.2
    have gl2 := (unhide H2).lt.2
    by_cases t : k < n
    · obtain ⟨e0, e1, e2, e3, e4⟩ := (unhide H).below (unhide HB) hg k (by omega)
      have NP := hide (own_next (ps := ps) (k := k) (by omega) a i)
      have NQ := hide (rest_next (ps := ps) (k := k) (by omega) a i)
      rw [← unhide HP] at NP
      rw [← unhide HQ] at NQ
      have EQ : el5 ps k = ((el5 ps k).1, (el5 ps k).2.1, (el5 ps k).2.2.1, (el5 ps k).2.2.2.1, (el5 ps k).2.2.2.2) := rfl
      rw [EQ] at NP NQ
      clear EQ HP HQ
      generalize (el5 ps k).1 = x0 at *
      generalize (el5 ps k).2.1 = x1 at *
      generalize (el5 ps k).2.2.1 = x2 at *
      generalize (el5 ps k).2.2.2.1 = x3 at *
      generalize (el5 ps k).2.2.2.2 = x4 at *
      have V5 := hide (show Holds5 (wr.alloc (.cells #[.int .i64 x0, .int .i64 x1, .int .i64 x2, .int .i64 x3, .int .i64 x4] 87)) wr.heap.size 0 (x0, x1, x2, x3, x4) from by unfold Holds5; simp)
      by_cases own : x0 = a ∧ x1 = i
      · have NP1 : Hid (ownL (ps.take (k + 1)) a i = p ++ [(x0, x1, x2, x3, x4)]) := hide (by rw [unhide NP, if_pos own])
        have NQ1 : Hid (restL (ps.take (k + 1)) a i = q) := hide (by rw [unhide NQ, if_pos own, List.append_nil])
        clear NP NQ
        obtain ⟨rfl, rfl⟩ := own
        go_wp2_with (first | (at_builtin; refine LotApp.wp_app _ rfl _ _ rfl w.heap.size g1 p.length c1 p wr.heap.size x0 x1 x2 x3 x4 rfl rfl ((unhide H1).alloc _) (unhide V5) (by omega) (by simp; omega) ?_) | go_in)
        intro g5 c5 w5 o5 gr5 loc5
        have O5 := hide o5
        have K5 := hide (((unhide H2).alloc (.cells #[.int .i64 x0, .int .i64 x1, .int .i64 x2, .int .i64 x3, .int .i64 x4] 87)).kept gr5 (by simp; omega))
        have B5 := hide (((unhide HB).alloc bs (.cells #[.int .i64 x0, .int .i64 x1, .int .i64 x2, .int .i64 x3, .int .i64 x4] 87)).grown gr5 (by simp; omega) (fun j hj => by cases hj; exact (unhide H1).lt.1))
        have g5B : g5 ≠ g2 := by
          try simp at loc5
          omega
        clear o5 gr5 loc5 V5
        go_wp2
        go_roundw
        case rel => exact ⟨p ++ [(x0, x1, x2, x3, x4)], q, g5, c5, g2, c2, k + 1, by rw [show (p ++ [(x0, x1, x2, x3, x4)]).length = p.length + 1 by simp], rfl, by go_num, by omega, by simp; omega, by omega, g5B, hide (unhide NP1).symm, hide (unhide NQ1).symm, hide (by rw [show (p ++ [(x0, x1, x2, x3, x4)]).length = p.length + 1 by simp]; exact unhide O5), K5, B5⟩
        case measure => simp [intOf]; omega
      · have NP1 : Hid (ownL (ps.take (k + 1)) a i = p) := hide (by rw [unhide NP, if_neg own, List.append_nil])
        have NQ1 : Hid (restL (ps.take (k + 1)) a i = q ++ [(x0, x1, x2, x3, x4)]) := hide (by rw [unhide NQ, if_neg own])
        clear NP NQ
        rcases (show x0 ≠ a ∨ (x0 = a ∧ x1 ≠ i) by omega) with o2 | ⟨rfl, o2⟩
        · have ob : (x0 == a) = false := by simpa using o2
          go_wp2_with (first | (at_builtin; refine LotApp.wp_app _ rfl _ _ rfl w.heap.size g2 q.length c2 q wr.heap.size x0 x1 x2 x3 x4 rfl rfl ((unhide H2).alloc _) (unhide V5) (by omega) (by simp; omega) ?_) | go_in)
          intro g5 c5 w5 o5 gr5 loc5
          have O5 := hide o5
          have K5 := hide (((unhide H1).alloc (.cells #[.int .i64 x0, .int .i64 x1, .int .i64 x2, .int .i64 x3, .int .i64 x4] 87)).kept gr5 (by simp; omega))
          have B5 := hide (((unhide HB).alloc bs (.cells #[.int .i64 x0, .int .i64 x1, .int .i64 x2, .int .i64 x3, .int .i64 x4] 87)).grown gr5 (by simp; omega) (fun j hj => by cases hj; exact (unhide H2).lt.1))
          have g5B : g5 ≠ g1 := by
            try simp at loc5
            omega
          clear o5 gr5 loc5 V5
          go_wp2
          go_roundw
          case rel => exact ⟨p, q ++ [(x0, x1, x2, x3, x4)], g1, c1, g5, c5, k + 1, rfl, by rw [show (q ++ [(x0, x1, x2, x3, x4)]).length = q.length + 1 by simp], by go_num, by omega, by omega, by simp; omega, fun e => g5B e.symm, hide (unhide NP1).symm, hide (unhide NQ1).symm, K5, hide (by rw [show (q ++ [(x0, x1, x2, x3, x4)]).length = q.length + 1 by simp]; exact unhide O5), B5⟩
          case measure => simp [intOf]; omega
        · have ob : (x1 == i) = false := by simpa using o2
          go_wp2_with (first | (at_builtin; refine LotApp.wp_app _ rfl _ _ rfl w.heap.size g2 q.length c2 q wr.heap.size x0 x1 x2 x3 x4 rfl rfl ((unhide H2).alloc _) (unhide V5) (by omega) (by simp; omega) ?_) | go_in)
          intro g5 c5 w5 o5 gr5 loc5
          have O5 := hide o5
          have K5 := hide (((unhide H1).alloc (.cells #[.int .i64 x0, .int .i64 x1, .int .i64 x2, .int .i64 x3, .int .i64 x4] 87)).kept gr5 (by simp; omega))
          have B5 := hide (((unhide HB).alloc bs (.cells #[.int .i64 x0, .int .i64 x1, .int .i64 x2, .int .i64 x3, .int .i64 x4] 87)).grown gr5 (by simp; omega) (fun j hj => by cases hj; exact (unhide H2).lt.1))
          have g5B : g5 ≠ g1 := by
            try simp at loc5
            omega
          clear o5 gr5 loc5 V5
          go_wp2
          go_roundw
          case rel => exact ⟨p, q ++ [(x0, x1, x2, x3, x4)], g1, c1, g5, c5, k + 1, rfl, by rw [show (q ++ [(x0, x1, x2, x3, x4)]).length = q.length + 1 by simp], by go_num, by omega, by omega, by simp; omega, fun e => g5B e.symm, hide (unhide NP1).symm, hide (unhide NQ1).symm, K5, hide (by rw [show (q ++ [(x0, x1, x2, x3, x4)]).length = q.length + 1 by simp]; exact unhide O5), B5⟩
          case measure => simp [intOf]; omega
    · obtain rfl : k = n := by omega
      have EP := hide (show p = ownL ps a i by rw [unhide HP, List.take_of_length_le (by omega)])
      have EQ := hide (show q = restL ps a i by rw [unhide HQ, List.take_of_length_le (by omega)])
      clear HP HQ
      go_wp2
      go_ret2
      rw [← unhide EP, ← unhide EQ]
      exact ⟨g1, c1, g2, c2, rfl, unhide H1, unhide H2, g12, unhide HB⟩
theorem take_sum {ps : List T5} (h : ∀ p ∈ ps, Pos p) (k : Nat) : 0 ≤ sumQ (ps.take k) ∧ sumQ (ps.take k) ≤ sumQ ps ∧ 0 ≤ sumC (ps.take k) ∧ sumC (ps.take k) ≤ sumC ps := by
  have e : ps = ps.take k ++ ps.drop k := (List.take_append_drop k ps).symm
  have p1 := sum_pos (ps.take k) (fun p hp => h p (List.mem_of_mem_take hp))
  have p2 := sum_pos (ps.drop k) (fun p hp => h p (List.mem_of_mem_drop hp))
  have e1 := sumQ_append (ps.take k) (ps.drop k)
  have e2 := sumC_append (ps.take k) (ps.drop k)
  rw [← e] at e1 e2
  omega
set_option maxRecDepth 100000 in
theorem sQty (w : World) (g n cap : Nat) (ps : List T5) (hl : ps.length = n) (h20 : n ≤ 1048576) (h : At5 w g ps) (hp : ∀ p ∈ ps, Pos p) (hs : sumQ ps ≤ 1000000000000000) :
    Calls Tryz.prog 70 #[.slice (some ⟨g, 0, none⟩) n cap] w fun e w' => e = .returned (.int .i64 (sumQ ps)) ∧ Below w.heap.size w w' := by
  have HP := hide hp
  clear hp
  go_enter Tryz.func70, Tryz.ntmps70
  go_wp2
  go_loopw [3, 4] (fun q j wr => ∃ (k : Nat) (s : Int), q = .int .i64 s ∧ j = .int .i64 k ∧ k ≤ n ∧ At5 wr g ps ∧ Hid (s = sumQ (ps.take k)) ∧ Hid (Below w.heap.size w wr)) (fun _ j _ => n - (intOf j).toNat)
  case atStart => exact ⟨0, 0, rfl, rfl, by omega, h, hide rfl, hide (Below.refl _ _)⟩
  case round =>
    clear h
    obtain ⟨k, s, rfl, rfl, hk, h, HS, HB⟩ := hrel
    have ts := take_sum (unhide HP) k
    have s0 : 0 ≤ s := by rw [unhide HS]; omega
    by_cases t : k < n
    · obtain ⟨e0, e1, e2, e3, e4⟩ := h k (by omega)
      have ts1 := take_sum (unhide HP) (k + 1)
      have NX := hide (sumQ_next (ps := ps) (k := k) (by omega))
      rw [← unhide HS] at NX
      have xp := (unhide HP) _ (getD_mem (ps := ps) (i := k) (by omega))
      unfold Pos at xp
      have b1 : s + (el5 ps k).2.2.2.1 ≤ 1000000000000000 := by rw [← unhide NX]; omega
      have HA := hide h
      clear h HS ts ts1
      obtain ⟨⟨x31, x32⟩, x41, x42⟩ := xp
      generalize (el5 ps k).1 = x0 at *
      generalize (el5 ps k).2.1 = x1 at *
      generalize (el5 ps k).2.2.1 = x2 at *
      generalize (el5 ps k).2.2.2.1 = x3 at *
      generalize (el5 ps k).2.2.2.2 = x4 at *
      have wS : IntKind.i64.wrap (s + x3) = s + x3 := by rw [IntKind.wrap_i64]; omega
      go_wp2
      go_roundw
      case rel => exact ⟨k + 1, s + x3, rfl, by go_num, by omega, unhide HA, hide (unhide NX).symm, HB⟩
      case measure => simp [intOf]; omega
    · obtain rfl : k = n := by omega
      have E := hide (show s = sumQ ps by rw [unhide HS, List.take_of_length_le (by omega)])
      clear h HS ts
      go_wp2
      go_ret
      exact ⟨by rw [← unhide E]; rfl, unhide HB⟩
end Go.Proofs.YtefcigaalgfmiaaGreat.SSplit
namespace Go.Proofs.YtefcigaalgfmiaaGreat.INums13
open Go.ChangeShapes Go.WideShapes Go.ChangeAt Go.RowKit BMem Bks SPuts11 SNums13
open IBalsFit (St one_more)
open Bals (T3 el3)
open Tup5 (T5 el5)
open Tup8 (T8 el8)
set_option maxRecDepth 100000 in
set_option maxHeartbeats 8000000 in
theorem iNums (w : World) (x : Bx) (h : Rd w x) (ha : ∀ i, i < x.b.bs.length → -1000000000000000 ≤ (el3 x.b.bs i).2.2 ∧ (el3 x.b.bs i).2.2 ≤ 1000000000000000) :
    Calls Tryz.prog 91 #[.agg #[.slice (some ⟨x.ga, 0, none⟩) x.b.ac.length x.ca, .slice (some ⟨x.gi, 0, none⟩) x.b.ic.length x.ci, .slice (some ⟨x.gb, 0, none⟩) x.b.bs.length x.cb, .slice (some ⟨x.gl, 0, none⟩) x.b.ls.length x.cl, .slice (some ⟨x.gt, 0, none⟩) x.b.ts.length x.ct, .int .i64 x.b.lot]] w fun e w' => ∃ g c, e = .returned (.slice (some ⟨g, 0, none⟩) (nums x.b).length c) ∧ Ints.Own w' w.heap.size g (nums x.b).length c (nums x.b) ∧ Below w.heap.size w w' := by
  have S0 := hide (St.start h 39)
  have XB := hide (show ((x.ga < w.heap.size ∧ x.gi < w.heap.size) ∧ x.gb < w.heap.size) from ⟨⟨h.la, h.li⟩, h.lb⟩)
  have na := h.na
  have ni := h.ni
  have nb := h.nb
  have nl := h.nl
  have nt := h.nt
  have HA := hide ha
  clear h ha
  go_enter Tryz.func91, Tryz.ntmps91
  have s0 := (unhide S0).c.c0
  go_wp2
  clear s0
  generalize hW : (w.alloc (.cells #[.slice (some ⟨x.ga, 0, none⟩) x.b.ac.length x.ca, .slice (some ⟨x.gi, 0, none⟩) x.b.ic.length x.ci, .slice (some ⟨x.gb, 0, none⟩) x.b.bs.length x.cb, .slice (some ⟨x.gl, 0, none⟩) x.b.ls.length x.cl, .slice (some ⟨x.gt, 0, none⟩) x.b.ts.length x.ct, .int .i64 x.b.lot] 39)) = W0 at *
  have ws : W0.heap.size = w.heap.size + 1 := by rw [← hW]; simp
  have O0 := hide (show Ints.Own (W0.alloc (.cells #[.int .i64 x.b.ac.length] 3)) W0.heap.size (w.heap.size + 1) 1 1 [(x.b.ac.length : Int)] from by rw [← ws]; exact World.ownsRow_lit W0 #[.int .i64 x.b.ac.length] 1 (Nat.le_refl _) (by decide) rfl)
  have B0 := hide (one_more W0 (.cells #[.int .i64 x.b.ac.length] 3))
  clear hW
  generalize hA : [(x.b.ac.length : Int)] = A0 at *
  have HA0 := hide hA
  clear hA
  go_loopw [3, 5, 21] (fun l _ i wr => ∃ (k g c n : Nat), i = .int .i64 k ∧ k ≤ x.b.ac.length ∧ l = .slice (some ⟨g, 0, none⟩) n c ∧ n ≤ 1 + 2 * k ∧ Hid (Ints.Own wr W0.heap.size g n c (A0 ++ (x.b.ac.take k).flatMap row2)) ∧ Hid (Below W0.heap.size W0 wr)) (fun _ _ i _ => x.b.ac.length - (intOf i).toNat)
  case atStart => exact ⟨0, _, _, _, rfl, by omega, rfl, by omega, hide (by simpa using unhide O0), B0⟩
  case round =>
    clear O0 B0
    obtain ⟨k, g, c, n, rfl, hk, rfl, nk, HO, HB⟩ := hrel
    have bs := (unhide HB).size
    have og := (unhide HO).lt
    have S1 := hide ((unhide S0).step (unhide HB))
    have cf := (unhide S1).c.c0
    by_cases t : k < x.b.ac.length
    · have kt : (k : Int) < x.b.ac.length := by omega
      have d := (unhide S1).r.ra k t
      have lg := (unhide S1).r.la
      have NX := hide (flat_more (f := row2) ((0, 0) : Int × Int) t)
      change Hid (_ = _ ++ row2 (Chart.el x.b.ac k)) at NX
      change wr.cell? ⟨x.ga, k * 2, none⟩ = some (.int .i64 (Chart.el x.b.ac k).1) ∧ wr.cell? ⟨x.ga, k * 2 + 1, none⟩ = some (.int .i64 (Chart.el x.b.ac k).2) at d
      generalize Chart.el x.b.ac k = p at *
      obtain ⟨p0, p1⟩ := p
      obtain ⟨d0, d1⟩ := d
      have LL := hide (lit2 (wr.alloc (.cells #[.int .i64 p0, .int .i64 p1] 82)) p0 p1)
      rw [show (wr.alloc (.cells #[.int .i64 p0, .int .i64 p1] 82)).heap.size = wr.heap.size + 1 by simp] at LL
      go_wp2_with (first | (at_builtin; refine wp_catI _ rfl _ _ rfl W0.heap.size g n c 2 _ [p0, p1] (wr.heap.size + 1) 2 rfl rfl (own_allocI (own_allocI (unhide HO) _) _) rfl (unhide LL) (by omega) (by simp; omega) ?_) | go_in)
      intro g9 c9 u9 o9 gr9 loc9
      have O9 := hide o9
      have B9 := hide ((((unhide HB).alloc bs (.cells #[.int .i64 p0, .int .i64 p1] 82)).alloc (by simp; omega) (.cells #[.int .i64 p0, .int .i64 p1] 3)).grown gr9 (by simp; omega) (fun j hj => by cases hj; exact og.1))
      clear o9 gr9 loc9
      go_wp2
      go_roundw
      case rel => exact ⟨k + 1, g9, c9, n + 2, by go_num, by omega, rfl, by omega, hide (by rw [unhide NX]; first | exact unhide O9 | (rw [ws]; exact unhide O9) | (rw [← List.append_assoc]; exact unhide O9) | (rw [← List.append_assoc, ws]; exact unhide O9)), B9⟩
      case measure => simp [intOf]; omega
    · have e : k = x.b.ac.length := by omega
      subst e
      have O := unhide HO
      rw [List.take_length] at O
      have HO := hide O
      clear O hk t
      have cg := (unhide S1).c.c1
      go_wp2_with (first | (at_builtin; refine wp_catI _ rfl _ _ rfl W0.heap.size g n c 1 _ [(x.b.ic.length : Int)] _ 1 rfl rfl (own_allocI (unhide HO) _) rfl (lit1 _ _) (by omega) (by simp; omega) ?_) | go_in)
      intro g9 c9 u9 o9 gr9 loc9
      have O1 := hide (show Ints.Own u9 W0.heap.size g9 (n + 1) c9 (A0 ++ x.b.ac.flatMap row2 ++ [(x.b.ic.length : Int)]) from by first | exact o9 | (rw [List.append_assoc]; exact o9) | (rw [ws]; exact o9) | (rw [ws, List.append_assoc]; exact o9))
      have B1 := hide (((unhide HB).alloc bs (.cells #[.int .i64 (x.b.ic.length : Int)] 3)).grown gr9 (by simp; omega) (fun j hj => by cases hj; exact og.1))
      have n9 : n + 1 ≤ 1 + 2 * 1048576 + 1 := by omega
      clear o9 gr9 loc9 HO HB S1 cf cg bs og
      generalize hA : A0 ++ x.b.ac.flatMap row2 ++ [(x.b.ic.length : Int)] = A1 at *
      have HA1 := hide hA
      clear hA
      have cn := ((unhide S0).step (unhide B1)).c.c1
      go_wp2
      clear cn
      go_loopw [3, 7, 42] (fun l _ i wr => ∃ (k g c n : Nat), i = .int .i64 k ∧ k ≤ x.b.ic.length ∧ l = .slice (some ⟨g, 0, none⟩) n c ∧ n ≤ 1 + 2 * 1048576 + 1 + 2 * k ∧ Hid (Ints.Own wr W0.heap.size g n c (A1 ++ (x.b.ic.take k).flatMap row2)) ∧ Hid (Below W0.heap.size W0 wr)) (fun _ _ i _ => x.b.ic.length - (intOf i).toNat)
      case atStart => exact ⟨0, _, _, _, rfl, by omega, rfl, by omega, hide (by simpa using unhide O1), B1⟩
      case round =>
        clear O1 B1
        obtain ⟨k, g, c, n, rfl, hk, rfl, nk, HO, HB⟩ := hrel
        have bs := (unhide HB).size
        have og := (unhide HO).lt
        have S1 := hide ((unhide S0).step (unhide HB))
        have cf := (unhide S1).c.c1
        by_cases t : k < x.b.ic.length
        · have kt : (k : Int) < x.b.ic.length := by omega
          have d := (unhide S1).r.ri k t
          have lg := (unhide S1).r.li
          have NX := hide (flat_more (f := row2) ((0, 0) : Int × Int) t)
          change Hid (_ = _ ++ row2 (Chart.el x.b.ic k)) at NX
          change wr.cell? ⟨x.gi, k * 2, none⟩ = some (.int .i64 (Chart.el x.b.ic k).1) ∧ wr.cell? ⟨x.gi, k * 2 + 1, none⟩ = some (.int .i64 (Chart.el x.b.ic k).2) at d
          generalize Chart.el x.b.ic k = p at *
          obtain ⟨p0, p1⟩ := p
          obtain ⟨d0, d1⟩ := d
          have LL := hide (lit2 (wr.alloc (.cells #[.int .i64 p0, .int .i64 p1] 83)) p0 p1)
          rw [show (wr.alloc (.cells #[.int .i64 p0, .int .i64 p1] 83)).heap.size = wr.heap.size + 1 by simp] at LL
          go_wp2_with (first | (at_builtin; refine wp_catI _ rfl _ _ rfl W0.heap.size g n c 2 _ [p0, p1] (wr.heap.size + 1) 2 rfl rfl (own_allocI (own_allocI (unhide HO) _) _) rfl (unhide LL) (by omega) (by simp; omega) ?_) | go_in)
          intro g9 c9 u9 o9 gr9 loc9
          have O9 := hide o9
          have B9 := hide ((((unhide HB).alloc bs (.cells #[.int .i64 p0, .int .i64 p1] 83)).alloc (by simp; omega) (.cells #[.int .i64 p0, .int .i64 p1] 3)).grown gr9 (by simp; omega) (fun j hj => by cases hj; exact og.1))
          clear o9 gr9 loc9
          go_wp2
          go_roundw
          case rel => exact ⟨k + 1, g9, c9, n + 2, by go_num, by omega, rfl, by omega, hide (by rw [unhide NX]; first | exact unhide O9 | (rw [ws]; exact unhide O9) | (rw [← List.append_assoc]; exact unhide O9) | (rw [← List.append_assoc, ws]; exact unhide O9)), B9⟩
          case measure => simp [intOf]; omega
        · have e : k = x.b.ic.length := by omega
          subst e
          have O := unhide HO
          rw [List.take_length] at O
          have HO := hide O
          clear O hk t
          have cg := (unhide S1).c.c2
          go_wp2_with (first | (at_builtin; refine wp_catI _ rfl _ _ rfl W0.heap.size g n c 1 _ [(x.b.bs.length : Int)] _ 1 rfl rfl (own_allocI (unhide HO) _) rfl (lit1 _ _) (by omega) (by simp; omega) ?_) | go_in)
          intro g9 c9 u9 o9 gr9 loc9
          have O2 := hide (show Ints.Own u9 W0.heap.size g9 (n + 1) c9 (A1 ++ x.b.ic.flatMap row2 ++ [(x.b.bs.length : Int)]) from by first | exact o9 | (rw [List.append_assoc]; exact o9) | (rw [ws]; exact o9) | (rw [ws, List.append_assoc]; exact o9))
          have B2 := hide (((unhide HB).alloc bs (.cells #[.int .i64 (x.b.bs.length : Int)] 3)).grown gr9 (by simp; omega) (fun j hj => by cases hj; exact og.1))
          have n9 : n + 1 ≤ 1 + 2 * 1048576 + 1 + 2 * 1048576 + 1 := by omega
          clear o9 gr9 loc9 HO HB S1 cf cg bs og
          generalize hA : A1 ++ x.b.ic.flatMap row2 ++ [(x.b.bs.length : Int)] = A2 at *
          have HA2 := hide hA
          clear hA
          have cn := ((unhide S0).step (unhide B2)).c.c2
          go_wp2
          clear cn
          go_loopw [3, 9, 63] (fun l _ i wr => ∃ (k g c n : Nat), i = .int .i64 k ∧ k ≤ x.b.bs.length ∧ l = .slice (some ⟨g, 0, none⟩) n c ∧ n ≤ 1 + 2 * 1048576 + 1 + 2 * 1048576 + 1 + 3 * k ∧ Hid (Ints.Own wr W0.heap.size g n c (A2 ++ (x.b.bs.take k).flatMap row3)) ∧ Hid (Below W0.heap.size W0 wr)) (fun _ _ i _ => x.b.bs.length - (intOf i).toNat)
          case atStart => exact ⟨0, _, _, _, rfl, by omega, rfl, by omega, hide (by simpa using unhide O2), B2⟩
          case round =>
            clear O2 B2
            obtain ⟨k, g, c, n, rfl, hk, rfl, nk, HO, HB⟩ := hrel
            have bs := (unhide HB).size
            have og := (unhide HO).lt
            have S1 := hide ((unhide S0).step (unhide HB))
            have cf := (unhide S1).c.c2
            by_cases t : k < x.b.bs.length
            · have kt : (k : Int) < x.b.bs.length := by omega
              have d := (unhide S1).r.rb k t
              have lg := (unhide S1).r.lb
              have NX := hide (flat_more (f := row3) ((0, 0, 0) : T3) t)
              change Hid (_ = _ ++ row3 (el3 x.b.bs k)) at NX
              have am := (unhide HA) k t
              change wr.cell? ⟨x.gb, k * 3, none⟩ = some (.int .i64 (el3 x.b.bs k).1) ∧ wr.cell? ⟨x.gb, k * 3 + 1, none⟩ = some (.int .i64 (el3 x.b.bs k).2.1) ∧ wr.cell? ⟨x.gb, k * 3 + 2, none⟩ = some (.int .i64 (el3 x.b.bs k).2.2) at d
              generalize el3 x.b.bs k = p at *
              obtain ⟨p0, p1, p2⟩ := p
              obtain ⟨d0, d1, d2⟩ := d
              have am1 : wrap64 (p2 + 1000000000000000) = p2 + 1000000000000000 := by rw [wrap64]; simp only at am; omega
              have am2 : IntKind.i64.wrap (p2 + 1000000000000000) = p2 + 1000000000000000 := by rw [IntKind.wrap_i64]; simp only at am; omega
              have LL := hide (lit3 (wr.alloc (.cells #[.int .i64 p0, .int .i64 p1, .int .i64 p2] 85)) p0 p1 (p2 + 1000000000000000))
              rw [show (wr.alloc (.cells #[.int .i64 p0, .int .i64 p1, .int .i64 p2] 85)).heap.size = wr.heap.size + 1 by simp] at LL
              go_wp2_with (first | (at_builtin; refine wp_catI _ rfl _ _ rfl W0.heap.size g n c 3 _ [p0, p1, (p2 + 1000000000000000)] (wr.heap.size + 1) 3 rfl rfl (own_allocI (own_allocI (unhide HO) _) _) rfl (unhide LL) (by omega) (by simp; omega) ?_) | go_in)
              intro g9 c9 u9 o9 gr9 loc9
              have O9 := hide o9
              have B9 := hide ((((unhide HB).alloc bs (.cells #[.int .i64 p0, .int .i64 p1, .int .i64 p2] 85)).alloc (by simp; omega) (.cells #[.int .i64 p0, .int .i64 p1, .int .i64 (p2 + 1000000000000000)] 3)).grown gr9 (by simp; omega) (fun j hj => by cases hj; exact og.1))
              clear o9 gr9 loc9
              go_wp2
              go_roundw
              case rel => exact ⟨k + 1, g9, c9, n + 3, by go_num, by omega, rfl, by omega, hide (by rw [unhide NX]; first | exact unhide O9 | (rw [ws]; exact unhide O9) | (rw [← List.append_assoc]; exact unhide O9) | (rw [← List.append_assoc, ws]; exact unhide O9)), B9⟩
              case measure => simp [intOf]; omega
            · have e : k = x.b.bs.length := by omega
              subst e
              have O := unhide HO
              rw [List.take_length] at O
              have HO := hide O
              clear O hk t
              have cg := (unhide S1).c.c3
              go_wp2_with (first | (at_builtin; refine wp_catI _ rfl _ _ rfl W0.heap.size g n c 1 _ [(x.b.ls.length : Int)] _ 1 rfl rfl (own_allocI (unhide HO) _) rfl (lit1 _ _) (by omega) (by simp; omega) ?_) | go_in)
              intro g9 c9 u9 o9 gr9 loc9
              have O3 := hide (show Ints.Own u9 W0.heap.size g9 (n + 1) c9 (A2 ++ x.b.bs.flatMap row3 ++ [(x.b.ls.length : Int)]) from by first | exact o9 | (rw [List.append_assoc]; exact o9) | (rw [ws]; exact o9) | (rw [ws, List.append_assoc]; exact o9))
              have B3 := hide (((unhide HB).alloc bs (.cells #[.int .i64 (x.b.ls.length : Int)] 3)).grown gr9 (by simp; omega) (fun j hj => by cases hj; exact og.1))
              have n9 : n + 1 ≤ 1 + 2 * 1048576 + 1 + 2 * 1048576 + 1 + 3 * 1048576 + 1 := by omega
              clear o9 gr9 loc9 HO HB S1 cf cg bs og
              generalize hA : A2 ++ x.b.bs.flatMap row3 ++ [(x.b.ls.length : Int)] = A3 at *
              have HA3 := hide hA
              clear hA
              have cn := ((unhide S0).step (unhide B3)).c.c3
              go_wp2
              clear cn
              go_loopw [3, 11, 87] (fun l _ i wr => ∃ (k g c n : Nat), i = .int .i64 k ∧ k ≤ x.b.ls.length ∧ l = .slice (some ⟨g, 0, none⟩) n c ∧ n ≤ 1 + 2 * 1048576 + 1 + 2 * 1048576 + 1 + 3 * 1048576 + 1 + 5 * k ∧ Hid (Ints.Own wr W0.heap.size g n c (A3 ++ (x.b.ls.take k).flatMap row5)) ∧ Hid (Below W0.heap.size W0 wr)) (fun _ _ i _ => x.b.ls.length - (intOf i).toNat)
              case atStart => exact ⟨0, _, _, _, rfl, by omega, rfl, by omega, hide (by simpa using unhide O3), B3⟩
              case round =>
                clear O3 B3
                obtain ⟨k, g, c, n, rfl, hk, rfl, nk, HO, HB⟩ := hrel
                have bs := (unhide HB).size
                have og := (unhide HO).lt
                have S1 := hide ((unhide S0).step (unhide HB))
                have cf := (unhide S1).c.c3
                by_cases t : k < x.b.ls.length
                · have kt : (k : Int) < x.b.ls.length := by omega
                  have d := (unhide S1).r.rl k t
                  have lg := (unhide S1).r.ll
                  have NX := hide (flat_more (f := row5) ((0, 0, 0, 0, 0) : T5) t)
                  change Hid (_ = _ ++ row5 (el5 x.b.ls k)) at NX
                  change wr.cell? ⟨x.gl, k * 5, none⟩ = some (.int .i64 (el5 x.b.ls k).1) ∧ wr.cell? ⟨x.gl, k * 5 + 1, none⟩ = some (.int .i64 (el5 x.b.ls k).2.1) ∧ wr.cell? ⟨x.gl, k * 5 + 2, none⟩ = some (.int .i64 (el5 x.b.ls k).2.2.1) ∧ wr.cell? ⟨x.gl, k * 5 + 3, none⟩ = some (.int .i64 (el5 x.b.ls k).2.2.2.1) ∧ wr.cell? ⟨x.gl, k * 5 + 4, none⟩ = some (.int .i64 (el5 x.b.ls k).2.2.2.2) at d
                  generalize el5 x.b.ls k = p at *
                  obtain ⟨p0, p1, p2, p3, p4⟩ := p
                  obtain ⟨d0, d1, d2, d3, d4⟩ := d
                  have LL := hide (lit5 (wr.alloc (.cells #[.int .i64 p0, .int .i64 p1, .int .i64 p2, .int .i64 p3, .int .i64 p4] 87)) p0 p1 p2 p3 p4)
                  rw [show (wr.alloc (.cells #[.int .i64 p0, .int .i64 p1, .int .i64 p2, .int .i64 p3, .int .i64 p4] 87)).heap.size = wr.heap.size + 1 by simp] at LL
                  go_wp2_with (first | (at_builtin; refine wp_catI _ rfl _ _ rfl W0.heap.size g n c 5 _ [p0, p1, p2, p3, p4] (wr.heap.size + 1) 5 rfl rfl (own_allocI (own_allocI (unhide HO) _) _) rfl (unhide LL) (by omega) (by simp; omega) ?_) | go_in)
                  intro g9 c9 u9 o9 gr9 loc9
                  have O9 := hide o9
                  have B9 := hide ((((unhide HB).alloc bs (.cells #[.int .i64 p0, .int .i64 p1, .int .i64 p2, .int .i64 p3, .int .i64 p4] 87)).alloc (by simp; omega) (.cells #[.int .i64 p0, .int .i64 p1, .int .i64 p2, .int .i64 p3, .int .i64 p4] 3)).grown gr9 (by simp; omega) (fun j hj => by cases hj; exact og.1))
                  clear o9 gr9 loc9
                  go_wp2
                  go_roundw
                  case rel => exact ⟨k + 1, g9, c9, n + 5, by go_num, by omega, rfl, by omega, hide (by rw [unhide NX]; first | exact unhide O9 | (rw [ws]; exact unhide O9) | (rw [← List.append_assoc]; exact unhide O9) | (rw [← List.append_assoc, ws]; exact unhide O9)), B9⟩
                  case measure => simp [intOf]; omega
                · have e : k = x.b.ls.length := by omega
                  subst e
                  have O := unhide HO
                  rw [List.take_length] at O
                  have HO := hide O
                  clear O hk t
                  have cg := (unhide S1).c.c4
                  go_wp2_with (first | (at_builtin; refine wp_catI _ rfl _ _ rfl W0.heap.size g n c 1 _ [(x.b.ts.length : Int)] _ 1 rfl rfl (own_allocI (unhide HO) _) rfl (lit1 _ _) (by omega) (by simp; omega) ?_) | go_in)
                  intro g9 c9 u9 o9 gr9 loc9
                  have O4 := hide (show Ints.Own u9 W0.heap.size g9 (n + 1) c9 (A3 ++ x.b.ls.flatMap row5 ++ [(x.b.ts.length : Int)]) from by first | exact o9 | (rw [List.append_assoc]; exact o9) | (rw [ws]; exact o9) | (rw [ws, List.append_assoc]; exact o9))
                  have B4 := hide (((unhide HB).alloc bs (.cells #[.int .i64 (x.b.ts.length : Int)] 3)).grown gr9 (by simp; omega) (fun j hj => by cases hj; exact og.1))
                  have n9 : n + 1 ≤ 1 + 2 * 1048576 + 1 + 2 * 1048576 + 1 + 3 * 1048576 + 1 + 5 * 1048576 + 1 := by omega
                  clear o9 gr9 loc9 HO HB S1 cf cg bs og
                  generalize hA : A3 ++ x.b.ls.flatMap row5 ++ [(x.b.ts.length : Int)] = A4 at *
                  have HA4 := hide hA
                  clear hA
                  have cn := ((unhide S0).step (unhide B4)).c.c4
                  go_wp2
                  clear cn
                  go_loopw [3, 13, 114] (fun l _ i wr => ∃ (k g c n : Nat), i = .int .i64 k ∧ k ≤ x.b.ts.length ∧ l = .slice (some ⟨g, 0, none⟩) n c ∧ n ≤ 1 + 2 * 1048576 + 1 + 2 * 1048576 + 1 + 3 * 1048576 + 1 + 5 * 1048576 + 1 + 8 * k ∧ Hid (Ints.Own wr W0.heap.size g n c (A4 ++ (x.b.ts.take k).flatMap row8)) ∧ Hid (Below W0.heap.size W0 wr)) (fun _ _ i _ => x.b.ts.length - (intOf i).toNat)
                  case atStart => exact ⟨0, _, _, _, rfl, by omega, rfl, by omega, hide (by simpa using unhide O4), B4⟩
                  case round =>
                    clear O4 B4
                    obtain ⟨k, g, c, n, rfl, hk, rfl, nk, HO, HB⟩ := hrel
                    have bs := (unhide HB).size
                    have og := (unhide HO).lt
                    have S1 := hide ((unhide S0).step (unhide HB))
                    have cf := (unhide S1).c.c4
                    by_cases t : k < x.b.ts.length
                    · have kt : (k : Int) < x.b.ts.length := by omega
                      have d := (unhide S1).r.rt k t
                      have lg := (unhide S1).r.lt
                      have NX := hide (flat_more (f := row8) ((0, 0, 0, 0, 0, 0, 0, 0) : T8) t)
                      change Hid (_ = _ ++ row8 (el8 x.b.ts k)) at NX
                      change wr.cell? ⟨x.gt, k * 8, none⟩ = some (.int .i64 (el8 x.b.ts k).1) ∧ wr.cell? ⟨x.gt, k * 8 + 1, none⟩ = some (.int .i64 (el8 x.b.ts k).2.1) ∧ wr.cell? ⟨x.gt, k * 8 + 2, none⟩ = some (.int .i64 (el8 x.b.ts k).2.2.1) ∧ wr.cell? ⟨x.gt, k * 8 + 3, none⟩ = some (.int .i64 (el8 x.b.ts k).2.2.2.1) ∧ wr.cell? ⟨x.gt, k * 8 + 4, none⟩ = some (.int .i64 (el8 x.b.ts k).2.2.2.2.1) ∧ wr.cell? ⟨x.gt, k * 8 + 5, none⟩ = some (.int .i64 (el8 x.b.ts k).2.2.2.2.2.1) ∧ wr.cell? ⟨x.gt, k * 8 + 6, none⟩ = some (.int .i64 (el8 x.b.ts k).2.2.2.2.2.2.1) ∧ wr.cell? ⟨x.gt, k * 8 + 7, none⟩ = some (.int .i64 (el8 x.b.ts k).2.2.2.2.2.2.2) at d
                      generalize el8 x.b.ts k = p at *
                      obtain ⟨p0, p1, p2, p3, p4, p5, p6, p7⟩ := p
                      obtain ⟨d0, d1, d2, d3, d4, d5, d6, d7⟩ := d
                      have LL := hide (lit8 (wr.alloc (.cells #[.int .i64 p0, .int .i64 p1, .int .i64 p2, .int .i64 p3, .int .i64 p4, .int .i64 p5, .int .i64 p6, .int .i64 p7] 79)) p0 p1 p2 p3 p4 p5 p6 p7)
                      rw [show (wr.alloc (.cells #[.int .i64 p0, .int .i64 p1, .int .i64 p2, .int .i64 p3, .int .i64 p4, .int .i64 p5, .int .i64 p6, .int .i64 p7] 79)).heap.size = wr.heap.size + 1 by simp] at LL
                      go_wp2_with (first | (at_builtin; refine wp_catI _ rfl _ _ rfl W0.heap.size g n c 8 _ [p0, p1, p2, p3, p4, p5, p6, p7] (wr.heap.size + 1) 8 rfl rfl (own_allocI (own_allocI (unhide HO) _) _) rfl (unhide LL) (by omega) (by simp; omega) ?_) | go_in)
                      intro g9 c9 u9 o9 gr9 loc9
                      have O9 := hide o9
                      have B9 := hide ((((unhide HB).alloc bs (.cells #[.int .i64 p0, .int .i64 p1, .int .i64 p2, .int .i64 p3, .int .i64 p4, .int .i64 p5, .int .i64 p6, .int .i64 p7] 79)).alloc (by simp; omega) (.cells #[.int .i64 p0, .int .i64 p1, .int .i64 p2, .int .i64 p3, .int .i64 p4, .int .i64 p5, .int .i64 p6, .int .i64 p7] 3)).grown gr9 (by simp; omega) (fun j hj => by cases hj; exact og.1))
                      clear o9 gr9 loc9
                      go_wp2
                      go_roundw
                      case rel => exact ⟨k + 1, g9, c9, n + 8, by go_num, by omega, rfl, by omega, hide (by rw [unhide NX]; first | exact unhide O9 | (rw [ws]; exact unhide O9) | (rw [← List.append_assoc]; exact unhide O9) | (rw [← List.append_assoc, ws]; exact unhide O9)), B9⟩
                      case measure => simp [intOf]; omega
                    · have e : k = x.b.ts.length := by omega
                      subst e
                      have O := unhide HO
                      rw [List.take_length] at O
                      have HO := hide O
                      clear O hk t
                      have cg := (unhide S1).c.c5
                      go_wp2_with (first | (at_builtin; refine wp_catI _ rfl _ _ rfl W0.heap.size g n c 1 _ [x.b.lot] _ 1 rfl rfl (own_allocI (unhide HO) _) rfl (lit1 _ _) (by omega) (by simp; omega) ?_) | go_in)
                      intro g9 c9 u9 o9 gr9 loc9
                      have O9 := hide o9
                      have B9 := hide (((unhide HB).alloc bs (.cells #[.int .i64 x.b.lot] 3)).grown gr9 (by simp; omega) (fun j hj => by cases hj; exact og.1))
                      clear o9 gr9 loc9
                      go_wp2
                      go_ret
                      have E : A4 ++ x.b.ts.flatMap row8 ++ [x.b.lot] = nums x.b := by rw [← unhide HA4, ← unhide HA3, ← unhide HA2, ← unhide HA1, ← unhide HA0]; rfl
                      have O : Ints.Own u9 W0.heap.size g9 (n + 1) c9 (A4 ++ x.b.ts.flatMap row8 ++ [x.b.lot]) := by first | exact unhide O9 | (rw [List.append_assoc]; exact unhide O9) | (rw [ws]; exact unhide O9) | (rw [ws, List.append_assoc]; exact unhide O9)
                      rw [E] at O
                      have l := O.len
                      refine ⟨g9, c9, ?_, ?_, ((unhide S0).b.trans ((unhide B9).mono (by omega)))⟩
                      · rw [l]; rfl
                      · rw [l]; exact O.mono (by omega)
end Go.Proofs.YtefcigaalgfmiaaGreat.INums13
namespace Go.Proofs.YtefcigaalgfmiaaGreat.IIndex8
open Go.ChangeShapes Go.WideShapes Go.ChangeAt Go.RowKit BMem Bks IRead
open Lots (Says says_of NoOk)
open Tup8 (T8 el8 At8 Holds8)
/-- Where the first one stands for which p says yes, or -1. -/
def FirstAt8 (xs : List T8) (p : T8 → Bool) (r : Int) : Prop := (r = -1 ∧ ∀ x ∈ xs, p x = false) ∨ (0 ≤ r ∧ ∃ x ∈ xs, p x = true)
set_option maxRecDepth 100000 in
set_option maxHeartbeats 1000000 in
theorem iIndexF8 (w : World) (g n cap K : Nat) (caps : Array Value) (xs : List T8) (p : T8 → Bool) (hl : xs.length = n) (h20 : n ≤ 1048576) (hg : g < w.heap.size) (h : At8 w g xs)
    (hK : ∀ (args : Array Value) (u : World), (callFunc K args).run Tryz.prog u = .ok (.enter K args) u) (hf : ∀ (u : World) (y : T8), Below w.heap.size w u → Calls Tryz.prog K (#[.agg #[.int .i64 y.1, .int .i64 y.2.1, .int .i64 y.2.2.1, .int .i64 y.2.2.2.1, .int .i64 y.2.2.2.2.1, .int .i64 y.2.2.2.2.2.1, .int .i64 y.2.2.2.2.2.2.1, .int .i64 y.2.2.2.2.2.2.2]] ++ caps) u fun e u' => e = .returned (.bool (p y)) ∧ Below u.heap.size u u') :
    Calls Tryz.prog 129 #[.slice (some ⟨g, 0, none⟩) n cap, .func (.func K) #[] caps] w fun e w' => ∃ r, FirstAt8 xs p r ∧ e = .returned (.int .i64 r) ∧ Below w.heap.size w w' := by
  have H := hide h
  have HF := hide hf
  have HL := hide hl
  clear h hf hl
  go_enter Tryz.func129, Tryz.ntmps129
  go_wp2_with fail
  go_loopw [8] (fun i wr => ∃ (k : Nat), k ≤ n ∧ i = .int .i64 k ∧ (∀ j, j < k → p (el8 xs j) = false) ∧ Below w.heap.size w wr) (fun i _ => n - (intOf i).toNat)
  case atStart => exact ⟨0, by omega, rfl, fun j hj => by omega, Below.refl _ _⟩
  case round =>
    obtain ⟨k, hk, rfl, hn, hb⟩ := hrel
    have HB := hide hb
    have HN := hide hn
    by_cases t : k < n
    · obtain ⟨c0, c1, c2, c3, c4, c5, c6, c7⟩ := ((unhide H).below hb hg) k (by rw [unhide HL]; exact t)
      have hM : el8 xs k ∈ xs := by
        simp [el8, List.getD, unhide HL, t]
      have HM := hide hM
      clear hb hn hM
      generalize hy : el8 xs k = y at *
      have HY := hide hy
      clear hy
      go_wp2_with fail
      refine ((unhide HF) _ y (unhide HB)).mono ?_
      rintro e w1 ⟨rfl, b1⟩
      have B1 := hide (next (unhide HB) b1)
      clear b1 c0 c1 c2 c3 c4 c5 c6 c7
      cases hp : p y
      · go_wp2
        go_roundw
        case rel => exact ⟨k + 1, by omega, by go_num, fun j hj => by
          by_cases e : j = k
          · subst e; rw [unhide HY]; exact hp
          · exact (unhide HN) j (by omega), unhide B1⟩
        case measure => simp [intOf]; omega
      · go_wp2
        go_ret
        exact ⟨k, .inr ⟨by omega, y, unhide HM, hp⟩, rfl, unhide B1⟩
    · clear hb hn
      have hkn : k = n := by omega
      have E0 := hide (show ∀ x ∈ xs, p x = false from fun x hx => by
        obtain ⟨j, hj, rfl⟩ := List.getElem_of_mem hx
        have := (unhide HN) j (by rw [unhide HL] at hj; omega)
        simpa [el8, List.getD, hj] using this)
      clear hkn
      go_wp2
      go_ret
      exact ⟨-1, .inl ⟨rfl, unhide E0⟩, rfl, unhide HB⟩
set_option maxRecDepth 100000 in
theorem iContainsF8 (w : World) (g n cap K : Nat) (caps : Array Value) (xs : List T8) (p : T8 → Bool) (b : Bool) (hl : xs.length = n) (h20 : n ≤ 1048576) (hg : g < w.heap.size) (h : At8 w g xs)
    (hK : ∀ (args : Array Value) (u : World), (callFunc K args).run Tryz.prog u = .ok (.enter K args) u) (hf : ∀ (u : World) (y : T8), Below w.heap.size w u → Calls Tryz.prog K (#[.agg #[.int .i64 y.1, .int .i64 y.2.1, .int .i64 y.2.2.1, .int .i64 y.2.2.2.1, .int .i64 y.2.2.2.2.1, .int .i64 y.2.2.2.2.2.1, .int .i64 y.2.2.2.2.2.2.1, .int .i64 y.2.2.2.2.2.2.2]] ++ caps) u fun e u' => e = .returned (.bool (p y)) ∧ Below u.heap.size u u') (hb : Says b (∃ x ∈ xs, p x = true)) :
    Calls Tryz.prog 108 #[.slice (some ⟨g, 0, none⟩) n cap, .func (.func K) #[] caps] w fun e w' => e = .returned (.bool b) ∧ Below w.heap.size w w' := by
  have H := hide h
  have HF := hide hf
  have HL := hide hl
  have T := hide hb
  clear h hf hl hb
  go_enter Tryz.func108, Tryz.ntmps108
  go_wp2_with fail
  refine (iIndexF8 _ g n cap K caps xs p (unhide HL) h20 hg (unhide H) hK (unhide HF)).mono ?_
  rintro e w1 ⟨r, hr, rfl, b1⟩
  have B1 := hide b1
  have hd : decide (0 ≤ r) = b := by
    rcases hr with ⟨rfl, hr⟩ | ⟨h0, hr⟩
    · rw [(unhide T).not (fun ⟨x, hx, e⟩ => by rw [hr x hx] at e; cases e)]; rfl
    · rw [(unhide T).of hr]; exact decide_eq_true h0
  clear b1 hr
  go_wp2
  go_ret
  exact ⟨rfl, unhide B1⟩
end Go.Proofs.YtefcigaalgfmiaaGreat.IIndex8
namespace Go.Proofs.YtefcigaalgfmiaaGreat.ITradesFit
open Go.ChangeShapes Go.WideShapes Go.ChangeAt Go.RowKit BMem Bks IRead IHave ITrade ILists IBalsFit IIndex8
open Lots (Says says_of NoOk)
open Tup8 (T8 el8 At8 Holds8)
set_option maxRecDepth 100000 in
set_option maxHeartbeats 4000000 in
theorem iTradeFits (w : World) (x : Bx) (y0 y1 y2 y3 y4 y5 y6 y7 : Int) (b : Bool) (h : Rd w x) (ha : Chart.Right 20 4 x.b.ac) (hi : Chart.Right 8 2 x.b.ic) (hb : Says b (TradeFit x.b (y0, y1, y2, y3, y4, y5, y6, y7))) :
    Calls Tryz.prog 110 #[.agg #[.slice (some ⟨x.ga, 0, none⟩) x.b.ac.length x.ca, .slice (some ⟨x.gi, 0, none⟩) x.b.ic.length x.ci, .slice (some ⟨x.gb, 0, none⟩) x.b.bs.length x.cb, .slice (some ⟨x.gl, 0, none⟩) x.b.ls.length x.cl, .slice (some ⟨x.gt, 0, none⟩) x.b.ts.length x.ct, .int .i64 x.b.lot], .agg #[.int .i64 y0, .int .i64 y1, .int .i64 y2, .int .i64 y3, .int .i64 y4, .int .i64 y5, .int .i64 y6, .int .i64 y7]] w fun e w' => e = .returned (.bool b) ∧ Below w.heap.size w w' := by
  have T := hide hb
  have LA := hide ha
  have LI := hide hi
  have FIT := hide (show TradeFit x.b (y0, y1, y2, y3, y4, y5, y6, y7) ↔ kindOf x.b.ac y1 = 1 ∧ kindOf x.b.ac y2 = 1 ∧ kindOf x.b.ic y3 = 2 ∧ kindOf x.b.ic y5 = 1 from Iff.rfl)
  have S1 := hide ((St.start h 39).step (one_more (w.alloc (.cells #[.slice (some ⟨x.ga, 0, none⟩) x.b.ac.length x.ca, .slice (some ⟨x.gi, 0, none⟩) x.b.ic.length x.ci, .slice (some ⟨x.gb, 0, none⟩) x.b.bs.length x.cb, .slice (some ⟨x.gl, 0, none⟩) x.b.ls.length x.cl, .slice (some ⟨x.gt, 0, none⟩) x.b.ts.length x.ct, .int .i64 x.b.lot] 39)) (.cells #[.int .i64 y0, .int .i64 y1, .int .i64 y2, .int .i64 y3, .int .i64 y4, .int .i64 y5, .int .i64 y6, .int .i64 y7] 79)))
  clear hb ha hi h
  obtain ⟨b1, h1⟩ := says_of (kindOf x.b.ac y1 = 1)
  obtain ⟨b2, h2⟩ := says_of (kindOf x.b.ac y2 = 1)
  obtain ⟨b3, h3⟩ := says_of (kindOf x.b.ic y3 = 2)
  obtain ⟨b4, h4⟩ := says_of (kindOf x.b.ic y5 = 1)
  have H1 := hide h1
  have H2 := hide h2
  have H3 := hide h3
  have H4 := hide h4
  clear h1 h2 h3 h4
  go_enter Tryz.func110, Tryz.ntmps110
  go_wp2_with fail
  refine (iHolder _ x y1 b1 (unhide S1).r (unhide LA) (unhide H1)).mono ?_
  rintro e w1 ⟨rfl, bb⟩
  have S2 := hide ((unhide S1).step bb)
  have f2 : w1.cell? ⟨w.heap.size + 1, 2, none⟩ = some (.int .i64 y2) := (bb.cell (p := ⟨w.heap.size + 1, 2, none⟩) (by simp)).trans (by simp)
  have f3 : w1.cell? ⟨w.heap.size + 1, 3, none⟩ = some (.int .i64 y3) := (bb.cell (p := ⟨w.heap.size + 1, 3, none⟩) (by simp)).trans (by simp)
  have f5 : w1.cell? ⟨w.heap.size + 1, 5, none⟩ = some (.int .i64 y5) := (bb.cell (p := ⟨w.heap.size + 1, 5, none⟩) (by simp)).trans (by simp)
  have z1 : w.heap.size + 1 < w1.heap.size := by have := bb.size; simp at this; omega
  clear bb
  cases b1
  · have F := hide ((unhide T).not (fun hh => (unhide H1).no ((unhide FIT).1 hh).1))
    clear FIT T
    go_wp2
    go_ret
    exact ⟨by rw [unhide F]; rfl, (unhide S2).b⟩
  obtain ⟨c0, c1, c2, c3, c4, c5⟩ := (unhide S2).c
  go_wp2_with fail
  refine (iHolder _ x y2 b2 (unhide S2).r (unhide LA) (unhide H2)).mono ?_
  rintro e w2 ⟨rfl, bb⟩
  have S3 := hide ((unhide S2).step bb)
  replace f2 : w2.cell? ⟨w.heap.size + 1, 2, none⟩ = some (.int .i64 y2) := (bb.cell (p := ⟨w.heap.size + 1, 2, none⟩) z1).trans f2
  replace f3 : w2.cell? ⟨w.heap.size + 1, 3, none⟩ = some (.int .i64 y3) := (bb.cell (p := ⟨w.heap.size + 1, 3, none⟩) z1).trans f3
  replace f5 : w2.cell? ⟨w.heap.size + 1, 5, none⟩ = some (.int .i64 y5) := (bb.cell (p := ⟨w.heap.size + 1, 5, none⟩) z1).trans f5
  have z2 : w.heap.size + 1 < w2.heap.size := Nat.lt_of_lt_of_le z1 bb.size
  clear bb c0 c1 c2 c3 c4 c5
  cases b2
  · have F := hide ((unhide T).not (fun hh => (unhide H2).no ((unhide FIT).1 hh).2.1))
    clear FIT T
    go_wp2
    go_ret
    exact ⟨by rw [unhide F]; rfl, (unhide S3).b⟩
  obtain ⟨c0, c1, c2, c3, c4, c5⟩ := (unhide S3).c
  go_wp2_with fail
  refine (iPaper _ x y3 b3 (unhide S3).r (unhide LI) (unhide H3)).mono ?_
  rintro e w3 ⟨rfl, bb⟩
  have S4 := hide ((unhide S3).step bb)
  replace f5 : w3.cell? ⟨w.heap.size + 1, 5, none⟩ = some (.int .i64 y5) := (bb.cell (p := ⟨w.heap.size + 1, 5, none⟩) z2).trans f5
  clear bb c0 c1 c2 c3 c4 c5 f2 f3
  cases b3
  · have F := hide ((unhide T).not (fun hh => (unhide H3).no ((unhide FIT).1 hh).2.2.1))
    clear FIT T
    go_wp2
    go_ret
    exact ⟨by rw [unhide F]; rfl, (unhide S4).b⟩
  obtain ⟨c0, c1, c2, c3, c4, c5⟩ := (unhide S4).c
  go_wp2_with fail
  refine (iCash _ x y5 b4 (unhide S4).r (unhide LI) (unhide H4)).mono ?_
  rintro e w4 ⟨rfl, bb⟩
  have S5 := hide ((unhide S4).step bb)
  clear bb c0 c1 c2 c3 c4 c5
  have G := hide (show b = b4 from by
    cases b4
    · exact (unhide T).not (fun hh => (unhide H4).no ((unhide FIT).1 hh).2.2.2)
    · exact (unhide T).of ((unhide FIT).2 ⟨(unhide H1).yes, (unhide H2).yes, (unhide H3).yes, (unhide H4).yes⟩))
  clear FIT T
  go_wp2
  go_ret
  exact ⟨by rw [unhide G]; rfl, (unhide S5).b⟩
/-- A trade that does not fit. -/
noncomputable def unfitB (b : Bk) (t : T8) : Bool := @decide (¬ TradeFit b t) (Classical.propDecidable _)
theorem unfit_says (b : Bk) (t : T8) : Says (!(unfitB b t)) (TradeFit b t) := by
  unfold unfitB
  by_cases h : TradeFit b t
  · rw [@decide_eq_false _ (Classical.propDecidable _) (fun n : ¬ TradeFit b t => n h)]
    exact ⟨fun _ => h, fun _ => rfl⟩
  · rw [@decide_eq_true _ (Classical.propDecidable _) h]
    exact ⟨fun e => Bool.noConfusion e, fun e => absurd e h⟩
set_option maxRecDepth 100000 in
theorem iUnfit (w : World) (x : Bx) (g : Nat) (y : T8) (h : Rd w x) (hgs : g < w.heap.size) (hc : Cl w g x) (ha : Chart.Right 20 4 x.b.ac) (hi : Chart.Right 8 2 x.b.ic) :
    Calls Tryz.prog 109 (#[.agg #[.int .i64 y.1, .int .i64 y.2.1, .int .i64 y.2.2.1, .int .i64 y.2.2.2.1, .int .i64 y.2.2.2.2.1, .int .i64 y.2.2.2.2.2.1, .int .i64 y.2.2.2.2.2.2.1, .int .i64 y.2.2.2.2.2.2.2]] ++ #[.pointer (some ⟨g, 0, none⟩)]) w fun e w' => e = .returned (.bool (unfitB x.b y)) ∧ Below w.heap.size w w' := by
  obtain ⟨y0, y1, y2, y3, y4, y5, y6, y7⟩ := y
  show Calls Tryz.prog 109 #[.agg #[.int .i64 y0, .int .i64 y1, .int .i64 y2, .int .i64 y3, .int .i64 y4, .int .i64 y5, .int .i64 y6, .int .i64 y7], .pointer (some ⟨g, 0, none⟩)] w _
  have T := hide (unfit_says x.b (y0, y1, y2, y3, y4, y5, y6, y7))
  generalize unfitB x.b (y0, y1, y2, y3, y4, y5, y6, y7) = b at *
  have B0 := hide (one_more w (.cells #[.int .i64 y0, .int .i64 y1, .int .i64 y2, .int .i64 y3, .int .i64 y4, .int .i64 y5, .int .i64 y6, .int .i64 y7] 79))
  have H := hide (h.below (unhide B0))
  have LA := hide ha
  have LI := hide hi
  obtain ⟨c0, c1, c2, c3, c4, c5⟩ := hc.below (unhide B0) hgs
  clear h ha hi
  go_enter Tryz.func109, Tryz.ntmps109
  go_wp2_with fail
  refine (iTradeFits _ x y0 y1 y2 y3 y4 y5 y6 y7 (!b) (unhide H) (unhide LA) (unhide LI) (unhide T)).mono ?_
  rintro e w1 ⟨rfl, b1⟩
  have B1 := hide (next (unhide B0) b1)
  clear b1
  go_wp2
  go_ret
  exact ⟨by simp, unhide B1⟩
set_option maxRecDepth 100000 in
theorem iTradesFit (w : World) (x : Bx) (b : Bool) (h : Rd w x) (hl : Lists x.b) (hb : Says b (TradesFit x.b)) :
    Calls Tryz.prog 95 #[.agg #[.slice (some ⟨x.ga, 0, none⟩) x.b.ac.length x.ca, .slice (some ⟨x.gi, 0, none⟩) x.b.ic.length x.ci, .slice (some ⟨x.gb, 0, none⟩) x.b.bs.length x.cb, .slice (some ⟨x.gl, 0, none⟩) x.b.ls.length x.cl, .slice (some ⟨x.gt, 0, none⟩) x.b.ts.length x.ct, .int .i64 x.b.lot]] w fun e w' => e = .returned (.bool b) ∧ Below w.heap.size w w' := by
  have T := hide (show Says (!b) (∃ t ∈ x.b.ts, unfitB x.b t = true) from by
    cases b
    · refine ⟨fun _ => ?_, fun _ => rfl⟩
      have := hb.no
      refine Classical.byContradiction fun hn => this fun k hk => ?_
      refine (unfit_says x.b (el8 x.b.ts k)).1 ?_
      cases e : unfitB x.b (el8 x.b.ts k)
      · rfl
      · exact absurd ⟨_, Tup8.getD_mem hk, e⟩ hn
    · refine ⟨fun e => Bool.noConfusion e, fun ⟨t, ht, e⟩ => ?_⟩
      obtain ⟨k, hk, rfl⟩ := Tup8.mem_getD ht
      have := (unfit_says x.b (el8 x.b.ts k)).2 (hb.yes k hk)
      rw [e] at this
      cases this)
  have LA := hide hl.1
  have LI := hide hl.2.1
  have S0 := hide (St.start h 39)
  have nt := h.nt
  have lt := h.lt
  clear hb hl h
  go_enter Tryz.func95, Tryz.ntmps95
  go_wp2_with fail
  refine (iContainsF8 _ x.gt _ x.ct 109 #[.pointer (some ⟨w.heap.size, 0, none⟩)] x.b.ts (unfitB x.b) (!b) rfl nt (by simp; omega) (unhide S0).r.rt (fun _ _ => enters Tryz.func109 (by kernel_rfl) rfl _ _) (fun u y bu => iUnfit u x w.heap.size y ((unhide S0).r.below bu) (Nat.lt_of_lt_of_le (unhide S0).s bu.size) ((unhide S0).c.below bu (by simp)) (unhide LA) (unhide LI)) (unhide T)).mono ?_
  rintro e w1 ⟨rfl, b1⟩
  have B1 := hide ((unhide S0).step b1).b
  clear b1
  go_wp2
  go_ret
  exact ⟨by simp, unhide B1⟩
end Go.Proofs.YtefcigaalgfmiaaGreat.ITradesFit
namespace Go.Proofs.YtefcigaalgfmiaaGreat.IPuts11
open Go.ChangeShapes Go.WideShapes Go.ChangeAt Go.RowKit SBytes SPut11 SPuts11
open ByteH (Own At)
set_option maxRecDepth 100000 in
set_option maxHeartbeats 4000000 in
theorem iForm (w : World) (base g0 c0 n0 : Nat) (p0 : List Int) (x0 : Int) (h0 : 0 ≤ x0) (hx : x0 ≤ 9223372036854775807) (hn : n0 ≤ 100000000) (hb : base ≤ w.heap.size) (ho : Own w base g0 n0 c0 p0) :
    Calls Tryz.prog 72 #[.slice (some ⟨g0, 0, none⟩) n0 c0, .int .i64 x0] w fun e w' => ∃ g c, e = .returned (.slice (some ⟨g, 0, none⟩) (n0 + (numF x0.toNat).length) c) ∧ Own w' base g (n0 + (numF x0.toNat).length) c (p0 ++ numF x0.toNat) ∧ Below base w w' := by
  have O0 := hide (show Own w base g0 (n0 + ([] : List Int).length) c0 (p0 ++ []) from by simpa using ho)
  have B0 := hide (Below.refl base w)
  have L := hide (numF_nine (x := x0.toNat) (by omega))
  obtain ⟨r, hr⟩ : ∃ r, Hid (numF x0.toNat = r) := ⟨_, rfl⟩
  rw [unhide hr] at L ⊢
  have S0 := hide (show ([] : List Int) ++ numF x0.toNat = r from unhide hr)
  clear hr ho
  go_enter Tryz.func72, Tryz.ntmps72
  go_wp2
  go_loopw [0, 1] (fun l a wr => ∃ (x : Int) (p : List Int) (g c n : Nat), a = .int .i64 x ∧ l = .slice (some ⟨g, 0, none⟩) n c ∧ n = n0 + p.length ∧ 0 ≤ x ∧ x ≤ 9223372036854775807 ∧ Hid (p ++ numF x.toNat = r) ∧ Hid (Own wr base g n c (p0 ++ p)) ∧ Hid (Below base w wr)) (fun _ a _ => (intOf a).toNat)
  case atStart => exact ⟨x0, [], g0, c0, n0, rfl, rfl, by simp, h0, hx, S0, O0, B0⟩
  case round =>
    clear O0 B0 S0 hx h0
    obtain ⟨x, p, g, c, n, rfl, rfl, hnp, x1, x2, HR, HO, HB⟩ := hrel
    have bs := (unhide HB).size
    have pl : p.length ≤ 9 := by have a := unhide L; rw [← unhide HR] at a; simp at a; omega
    have nl : n ≤ 100000009 := by omega
    have HN := hide hnp
    have og := (unhide HO).lt
    have HX := hide (And.intro x1 x2)
    clear hnp
    by_cases t : 127 < x
    · have N := hide (show (p ++ [x % 128 + 128]) ++ numF (x / 128).toNat = r from by
        rw [← unhide HR, numF_more (x := x.toNat) (by omega), List.append_assoc]
        have e1 : ((x.toNat % 128 + 128 : Nat) : Int) = x % 128 + 128 := by omega
        have e2 : x.toNat / 128 = (x / 128).toNat := by omega
        rw [e1, e2]; rfl)
      clear HR x1 x2
      go_wp2_with (first | (at_builtin; refine wp_catB _ rfl _ _ rfl base g n c 1 (p0 ++ p) [x % 128 + 128] wr.heap.size 0 1 rfl rfl (own_alloc (unhide HO) _) rfl (lit_one _ _) (by omega) (by simp; omega) ?_) | go_in)
      intro g5 c5 w5 o5 gr5 loc5
      have O5 := hide o5
      have B5 := hide (((unhide HB).alloc (by omega) (.cells #[.int .u8 (x % 128 + 128)] 5)).grown gr5 (by simp; omega) (fun j hj => by cases hj; exact og.1))
      clear o5 gr5 loc5
      go_wp2
      go_roundw
      case rel =>
        have xx := unhide HX
        exact ⟨x / 128, p ++ [x % 128 + 128], g5, c5, n + 1, by simp, rfl, by have := unhide HN; simp; omega, by omega, by omega, N, O5, B5⟩
      case measure =>
        have xx := unhide HX
        simp [intOf]
        omega
    · have N := hide (show p ++ [x] = r from by
        rw [← unhide HR, numF_last (x := x.toNat) (by omega)]
        have e1 : ((x.toNat : Nat) : Int) = x := by omega
        rw [e1])
      clear HR
      go_wp2_with (first | (at_builtin; refine wp_catB _ rfl _ _ rfl base g n c 1 (p0 ++ p) [x] wr.heap.size 0 1 rfl rfl (own_alloc (unhide HO) _) rfl (lit_one _ _) (by omega) (by simp; omega) ?_) | go_in)
      intro g5 c5 w5 o5 gr5 loc5
      have O5 := hide o5
      have B5 := hide (((unhide HB).alloc (by omega) (.cells #[.int .u8 x] 5)).grown gr5 (by simp; omega) (fun j hj => by cases hj; exact og.1))
      clear o5 gr5 loc5
      go_wp2
      go_ret
      have e := unhide N
      have e1 : n0 + r.length = n + 1 := by rw [← e, unhide HN]; simp; omega
      exact ⟨g5, c5, by rw [e1]; rfl, by rw [e1, ← e]; exact unhide O5, unhide B5⟩
set_option maxRecDepth 100000 in
set_option maxHeartbeats 4000000 in
theorem iPutNums (w : World) (gl cl : Nat) (xs : List Int) (h20 : xs.length ≤ 1048576) (hg : gl < w.heap.size) (hr : Ints.At w gl xs) (hi : ∀ i, i < xs.length → xs.getD i 0 ≤ 9223372036854775807) :
    Calls Tryz.prog 56 #[.slice (some ⟨gl, 0, none⟩) xs.length cl] w fun e w' => ∃ a c, e = .returned (.slice a (numsB xs).length c) ∧ VOB.Ob w' w.heap.size a (numsB xs).length c (numsB xs) ∧ Below w.heap.size w w' := by
  have O0 := hide (lit0 w w.heap.size (Nat.le_refl _) rfl)
  have B0 := hide (one_more w (.cells #[] 5))
  have R := hide hr
  have HI := hide hi
  have HG := hide hg
  obtain ⟨r, hq⟩ : ∃ r, Hid (numsB xs = r) := ⟨_, rfl⟩
  rw [unhide hq]
  clear hr hi hg
  go_enter Tryz.func56, Tryz.ntmps56
  go_wp2
  go_loopw [3, 5, 9] (fun l _ a wr => ∃ (k g c n : Nat), a = .int .i64 k ∧ k ≤ xs.length ∧ l = .slice (some ⟨g, 0, none⟩) n c ∧ n ≤ 9 * k ∧ Hid (n = ((xs.take k).flatMap numB).length) ∧ Hid (∀ i, i < k → 0 ≤ xs.getD i 0) ∧ Hid (Own wr w.heap.size g n c ((xs.take k).flatMap numB)) ∧ Hid (Below w.heap.size w wr)) (fun _ _ a _ => xs.length - (intOf a).toNat)
  case atStart => exact ⟨0, w.heap.size, 0, 0, rfl, by omega, rfl, by omega, hide (by simp), hide (fun i h => absurd h (by omega)), hide (by simpa using unhide O0), B0⟩
  case round =>
    clear O0 B0
    obtain ⟨k, g, c, n, rfl, hk, rfl, nk, HN, HP, HO, HB⟩ := hrel
    have bs := (unhide HB).size
    by_cases t : k < xs.length
    · have d := (((unhide R).below (unhide HB) (unhide HG)) k t)
      have NX := hide (flat_next t)
      have HX := hide ((unhide HI) k t)
      have SG := hide (show 0 ≤ xs.getD k 0 → ∀ i, i < k + 1 → 0 ≤ xs.getD i 0 from fun h i hi => by
        by_cases e : i = k
        · subst e; exact h
        · exact (unhide HP) i (by omega))
      have BAD := hide (show xs.getD k 0 < 0 → r = [] from fun h => by rw [← unhide hq]; exact if_neg (fun a => by have := a k t; omega))
      clear HP
      generalize xs.getD k 0 = y at *
      have kx : (k : Int) < xs.length := by omega
      by_cases y0 : y < 0
      · have e := (unhide BAD) y0
        subst e
        have O5 := hide (lit0 wr w.heap.size bs rfl)
        have B5 := hide ((unhide HB).alloc bs (.cells #[] 5))
        clear BAD SG NX HX hq HI R
        go_wp2
        go_ret
        exact ⟨_, 0, rfl, .of (unhide O5), unhide B5⟩
      · have S1 := hide ((unhide SG) (by omega))
        have NB := hide (numB_pos (x := y) (by omega))
        have nine := numB_nine (unhide HX)
        rw [unhide NB] at nine
        have y1 : 0 ≤ y := by omega
        have FM := hide (iForm wr w.heap.size g c n _ y y1 (unhide HX) (by omega) bs (unhide HO))
        clear BAD SG
        go_wp2_with fail
        refine (unhide FM).mono ?_
        rintro e u ⟨g5, c5, rfl, o5, b5⟩
        have O5 := hide o5
        have B5 := hide ((unhide HB).trans b5)
        clear o5 b5 FM HO
        go_wp2
        go_roundw
        case rel => exact ⟨k + 1, g5, c5, n + (numF y.toNat).length, by go_num, by omega, rfl, by omega, hide (by rw [unhide NX, List.length_append, ← unhide HN, unhide NB]), S1, hide (by rw [unhide NX, unhide NB]; exact unhide O5), B5⟩
        case measure => simp [intOf]; omega
    · have e : k = xs.length := by omega
      subst e
      have E := hide (show xs.flatMap numB = r from by rw [← unhide hq]; exact (if_pos (unhide HP)).symm)
      have N := unhide HN
      have O := unhide HO
      rw [List.take_length] at N O
      rw [unhide E] at N O
      have O5 := hide O
      have N5 := hide N
      clear N O HN HO HP
      go_wp2
      go_ret
      have e := unhide N5
      subst e
      exact ⟨_, c, rfl, .of (unhide O5), unhide HB⟩
end Go.Proofs.YtefcigaalgfmiaaGreat.IPuts11
