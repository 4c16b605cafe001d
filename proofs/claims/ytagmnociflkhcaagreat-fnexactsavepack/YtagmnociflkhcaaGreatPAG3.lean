/- Texts of one proof, one behind the other: SNums13, AccountSOk, InstrSOk, SBals, Legs, BalApp, LotApp, SSplit, SSeal11, Fil14, DiskH14, MarkF14, MarkFS14, DkH14, SDk14, SOk14, Conv15, SegP15, SSg16, Opens, Opens3, Opens5, Opens8, OpensB, Bx16, INums13, IIndex8, ITradesFit, VOB, IPuts11, IPut11, ICheck11, ISum11, ConB11. -/
import Derived.Test.YtagmnociflkhcaaGreatRows
import Derived.Test.YtagmnociflkhcaaGreatPAG1
import Derived.Test.YtagmnociflkhcaaGreatPAG2
import Derived.Deep.RegionHeld3
import Derived.Maps.AppendAt
import Derived.WalkKit
import Derived.ProofKit
import Derived.OpenShut
import Derived.Below
import Derived.BigQuiet
import Derived.Laws.BytesArg
import Derived.Laws.Concat
import Derived.Lib.ConvBytes
import Derived.Deep.SlicePairs
import Derived.Lib.SmallJoins
import Derived.Deep.Slices
import Derived.Deep.Strs
import Derived.Handy
import Derived.Lib.AppendZerosOnto
import Derived.Lib.AppendZeros
set_option linter.unusedVariables false
set_option linter.unusedSimpArgs false
namespace Go.Proofs.YtagmnociflkhcaaGreat.SNums13
open Go.ChangeShapes Go.WideShapes Go.ChangeAt Go.RowKit BMem Bks SPuts11
open IBalsFit (St one_more)
open Bals (T3 el3)
open Tup5 (T5 el5)
open Tup8 (T8 el8)
def AtI (w : World) (g : Nat) (xs : List Int) : Prop := ∀ i, i < xs.length → w.cell? ⟨g, i, none⟩ = some (.int .i64 (xs.getD i 0))
theorem wp_catI (u : World) {ops : Array Oper} {rest : List Oper} {o : Oper} {a : Act} {Q : Exit → Act → World → Prop} (hgd : o.guard = none) (s x : Operand)
    (ho : o.op = .call { callee := .builtin .append, args := #[s, x], argTypes := #[96, 96] }) (base g n cap m : Nat) (xs ys : List Int) (vb c : Nat)
    (hs : a.eval s = .slice (some ⟨g, 0, none⟩) n cap) (hx : a.eval x = .slice (some ⟨vb, 0, none⟩) m c) (hown : Ints.Own u base g n cap xs) (hl : ys.length = m) (hv : AtI u vb ys) (hn : n + m ≤ 100000000) (hb : base ≤ u.heap.size)
    (h : ∀ g' c' w', Ints.Own w' base g' (n + m) c' (xs ++ ys) → u.grownBy w' (some g) → (g' = g ∨ g' = u.heap.size) → wpList Tryz.prog ops Q rest (a.put o.dst (.slice (some ⟨g', 0, none⟩) (n + m) c')) w') : wpList Tryz.prog ops Q (o :: rest) a u := by
  obtain ⟨i0, hi, hz0, hz1, hz2⟩ := info_parts Ints.info3
  refine wpList_append_own_at u hgd s x 96 ho base 3 i0 (.int .i64 0) 1 8 Tryz.underlying96 hi hz0 hz1 hz2 rfl (by decide) _ n _ hs hown ⟨vb, 0, none⟩ m c (ys.map (Value.int .i64)) hx (by simp [hl]) (fun j v hj => by
    have hj' : j < ys.length := by
      have := (List.getElem?_eq_some_iff.1 hj).1
      simpa using this
    have := hv j hj'
    rw [Addr.add_lit, Nat.zero_add, this]
    rw [← hj]
    simp [List.getD, hj']) (by intro u hu; obtain ⟨y, _, rfl⟩ := List.mem_map.1 hu; simp [Value.oneCell']) (by unfold maxLen; omega) (by omega) hb ?_
  intro v' w' own' gr' nil' loc'
  obtain ⟨g', c', rfl, o'⟩ := own_of_rowI (n' := n + m) (xs := xs ++ ys) own' rfl (by simp) (by rw [nil']; simp)
  exact h g' c' w' o' gr' (by simpa [Value.ownBlock] using loc')
theorem step_catI (u : World) {ops : Array Oper} {o : Oper} {a : Act} {K : Act → World → Prop} {Q : Exit → Act → World → Prop} {E : Prop} (hgd : o.guard = none) (s x : Operand)
    (ho : o.op = .call { callee := .builtin .append, args := #[s, x], argTypes := #[96, 96] }) (base g n cap m : Nat) (xs ys : List Int) (vb c : Nat)
    (hs : a.eval s = .slice (some ⟨g, 0, none⟩) n cap) (hx : a.eval x = .slice (some ⟨vb, 0, none⟩) m c) (hown : Ints.Own u base g n cap xs) (hl : ys.length = m) (hv : AtI u vb ys) (hn : n + m ≤ 100000000) (hb : base ≤ u.heap.size)
    (h : ∀ g' c' w', Ints.Own w' base g' (n + m) c' (xs ++ ys) → u.grownBy w' (some g) → (g' = g ∨ g' = u.heap.size) → K (a.put o.dst (.slice (some ⟨g', 0, none⟩) (n + m) c')) w') : if Region.wanted o (yielded ops a.tmps) = true then Oper.wp Tryz.prog o a u K Q else E := by
  obtain ⟨i0, hi, hz0, hz1, hz2⟩ := info_parts Ints.info3
  have hw : Region.wanted o (yielded ops a.tmps) = true := by simp [Region.wanted, hgd]
  rw [if_pos hw]
  obtain ⟨v', w', hr, own', gr', nil', loc'⟩ := run_append_own_at (P := Tryz.prog) u base 96 o.type 3 i0 (.int .i64 0) 1 8 Tryz.underlying96 hi hz0 hz1 hz2 rfl (by decide) (.slice (some ⟨g, 0, none⟩) n cap) n (xs.map (Value.int .i64)) hown ⟨vb, 0, none⟩ m c (ys.map (Value.int .i64)) (by simp [hl]) (fun j v hj => by
    have hj' : j < ys.length := by
      have := (List.getElem?_eq_some_iff.1 hj).1
      simpa using this
    have := hv j hj'
    rw [Addr.add_lit, Nat.zero_add, this]
    rw [← hj]
    simp [List.getD, hj']) (by intro u hu; obtain ⟨y, _, rfl⟩ := List.mem_map.1 hu; simp [Value.oneCell']) (by unfold maxLen; omega) (by omega) hb
  unfold Oper.wp execOp
  simp only [ho, resolve, invoke, builtin, Sem.run_bind, Sem.run_pure, Result.andThen_ok, List.map_toArray, List.map_cons, List.map_nil, hs, hx, hr]
  obtain ⟨g', c', rfl, o'⟩ := own_of_rowI (n' := n + m) (xs := xs ++ ys) own' rfl (by simp) (by rw [nil']; simp)
  exact h g' c' w' o' gr' (by simpa [Value.ownBlock] using loc')
theorem lit1 (w : World) (a : Int) : AtI (w.alloc (.cells #[.int .i64 a] 3)) w.heap.size [a] := by
  intro i hi
  have : i = 0 := by simpa using hi
  subst this
  simp
theorem lit2 (w : World) (a b : Int) : AtI (w.alloc (.cells #[.int .i64 a, .int .i64 b] 3)) w.heap.size [a, b] := by
  intro i hi
  have : i = 0 ∨ i = 1 := by simp at hi; omega
  rcases this with rfl | rfl <;> simp
theorem lit3 (w : World) (a b c : Int) : AtI (w.alloc (.cells #[.int .i64 a, .int .i64 b, .int .i64 c] 3)) w.heap.size [a, b, c] := by
  intro i hi
  have : i = 0 ∨ i = 1 ∨ i = 2 := by simp at hi; omega
  rcases this with rfl | rfl | rfl <;> simp
theorem lit5 (w : World) (a b c d e : Int) : AtI (w.alloc (.cells #[.int .i64 a, .int .i64 b, .int .i64 c, .int .i64 d, .int .i64 e] 3)) w.heap.size [a, b, c, d, e] := by
  intro i hi
  have : i = 0 ∨ i = 1 ∨ i = 2 ∨ i = 3 ∨ i = 4 := by simp at hi; omega
  rcases this with rfl | rfl | rfl | rfl | rfl <;> simp
theorem lit8 (w : World) (a b c d e f g h : Int) : AtI (w.alloc (.cells #[.int .i64 a, .int .i64 b, .int .i64 c, .int .i64 d, .int .i64 e, .int .i64 f, .int .i64 g, .int .i64 h] 3)) w.heap.size [a, b, c, d, e, f, g, h] := by
  intro i hi
  have : i = 0 ∨ i = 1 ∨ i = 2 ∨ i = 3 ∨ i = 4 ∨ i = 5 ∨ i = 6 ∨ i = 7 := by simp at hi; omega
  rcases this with rfl | rfl | rfl | rfl | rfl | rfl | rfl | rfl <;> simp
def row2 (p : Int × Int) : List Int := [p.1, p.2]
def row3 (p : T3) : List Int := [p.1, p.2.1, p.2.2 + 1000000000000000]
def row5 (p : T5) : List Int := [p.1, p.2.1, p.2.2.1, p.2.2.2.1, p.2.2.2.2]
def row8 (p : T8) : List Int := [p.1, p.2.1, p.2.2.1, p.2.2.2.1, p.2.2.2.2.1, p.2.2.2.2.2.1, p.2.2.2.2.2.2.1, p.2.2.2.2.2.2.2]
def nums (b : Bk) : List Int := [(b.ac.length : Int)] ++ b.ac.flatMap row2 ++ [(b.ic.length : Int)] ++ b.ic.flatMap row2 ++ [(b.bs.length : Int)] ++ b.bs.flatMap row3 ++ [(b.ls.length : Int)] ++ b.ls.flatMap row5 ++ [(b.ts.length : Int)] ++ b.ts.flatMap row8 ++ [b.lot]
theorem flat_more {α : Type} {ps : List α} {f : α → List Int} {k : Nat} (d : α) (h : k < ps.length) : (ps.take (k + 1)).flatMap f = (ps.take k).flatMap f ++ f (ps.getD k d) := by
  rw [List.take_succ_eq_append_getElem h, List.flatMap_append]
  simp [List.getD, h]
abbrev oN00 : Oper := { dst := some 22, op := Go.Op.move (Go.Operand.tmp 3), type := 96, pos := "l13_save.go:9", after := #[], guard := none }
abbrev oN01 : Oper := { dst := some 23, op := Go.Op.fieldAddr 40 (Go.Operand.tmp 1) 0, type := 0, pos := "l13_save.go:9", after := #[], guard := none }
abbrev oN02 : Oper := { dst := some 24, op := Go.Op.load 34 (Go.Operand.tmp 23), type := 34, pos := "l13_save.go:9", after := #[{ on := 1, ground := Go.Ground.data }], guard := none }
abbrev oN03 : Oper := { dst := some 25, op := Go.Op.move (Go.Operand.tmp 4), type := 3, pos := "l13_save.go:9", after := #[], guard := none }
abbrev oN04 : Oper := { dst := some 26, op := Go.Op.indexAddr 34 (Go.Operand.tmp 24) (Go.Operand.tmp 25), type := 0, pos := "l13_save.go:9", after := #[{ on := 2, ground := Go.Ground.data }, { on := 3, ground := Go.Ground.data }], guard := none }
abbrev oN05 : Oper := { dst := some 27, op := Go.Op.fieldAddr 143 (Go.Operand.tmp 26) 0, type := 0, pos := "l13_save.go:9", after := #[{ on := 4, ground := Go.Ground.data }], guard := none }
abbrev oN06 : Oper := { dst := some 28, op := Go.Op.load 3 (Go.Operand.tmp 27), type := 3, pos := "l13_save.go:9", after := #[{ on := 5, ground := Go.Ground.data }], guard := none }
abbrev oN07 : Oper := { dst := some 29, op := Go.Op.fieldAddr 40 (Go.Operand.tmp 1) 0, type := 0, pos := "l13_save.go:9", after := #[], guard := none }
abbrev oN08 : Oper := { dst := some 30, op := Go.Op.load 34 (Go.Operand.tmp 29), type := 34, pos := "l13_save.go:9", after := #[{ on := 7, ground := Go.Ground.data }], guard := none }
abbrev oN09 : Oper := { dst := some 31, op := Go.Op.move (Go.Operand.tmp 4), type := 3, pos := "l13_save.go:9", after := #[], guard := none }
abbrev oN010 : Oper := { dst := some 32, op := Go.Op.indexAddr 34 (Go.Operand.tmp 30) (Go.Operand.tmp 31), type := 0, pos := "l13_save.go:9", after := #[{ on := 8, ground := Go.Ground.data }, { on := 9, ground := Go.Ground.data }], guard := none }
abbrev oN011 : Oper := { dst := some 33, op := Go.Op.fieldAddr 143 (Go.Operand.tmp 32) 1, type := 0, pos := "l13_save.go:9", after := #[{ on := 10, ground := Go.Ground.data }], guard := none }
abbrev oN012 : Oper := { dst := some 34, op := Go.Op.load 3 (Go.Operand.tmp 33), type := 3, pos := "l13_save.go:9", after := #[{ on := 11, ground := Go.Ground.data }], guard := none }
abbrev oN013 : Oper := { dst := some 35, op := Go.Op.buildSlice 96 2 #[(0, Go.Operand.tmp 28), (1, Go.Operand.tmp 34)], type := 96, pos := "l13_save.go:9", after := #[{ on := 6, ground := Go.Ground.data }, { on := 12, ground := Go.Ground.data }], guard := none }
abbrev oN014 : Oper := { dst := some 36, op := Go.Op.call { callee := Go.Callee.builtin Go.Builtin.append, args := #[Go.Operand.tmp 22, Go.Operand.tmp 35], argTypes := #[96, 96] }, type := 96, pos := "l13_save.go:9", after := #[{ on := 0, ground := Go.Ground.data }, { on := 13, ground := Go.Ground.data }], guard := none }
abbrev oN015 : Oper := { dst := some 3, op := Go.Op.assign (Go.Operand.tmp 36), type := 96, pos := "l13_save.go:9", after := #[{ on := 14, ground := Go.Ground.data }, { on := 14, ground := Go.Ground.chain }, { on := 0, ground := Go.Ground.phase }, { on := 1, ground := Go.Ground.phase }, { on := 2, ground := Go.Ground.phase }, { on := 3, ground := Go.Ground.phase }, { on := 4, ground := Go.Ground.phase }, { on := 5, ground := Go.Ground.phase }, { on := 6, ground := Go.Ground.phase }, { on := 7, ground := Go.Ground.phase }, { on := 8, ground := Go.Ground.phase }, { on := 9, ground := Go.Ground.phase }, { on := 10, ground := Go.Ground.phase }, { on := 11, ground := Go.Ground.phase }, { on := 12, ground := Go.Ground.phase }, { on := 13, ground := Go.Ground.phase }, { on := 14, ground := Go.Ground.phase }], guard := none }
abbrev oN10 : Oper := { dst := some 50, op := Go.Op.move (Go.Operand.tmp 3), type := 96, pos := "l13_save.go:13", after := #[], guard := none }
abbrev oN11 : Oper := { dst := some 51, op := Go.Op.fieldAddr 40 (Go.Operand.tmp 1) 1, type := 0, pos := "l13_save.go:13", after := #[], guard := none }
abbrev oN12 : Oper := { dst := some 52, op := Go.Op.load 35 (Go.Operand.tmp 51), type := 35, pos := "l13_save.go:13", after := #[{ on := 1, ground := Go.Ground.data }], guard := none }
abbrev oN13 : Oper := { dst := some 53, op := Go.Op.move (Go.Operand.tmp 5), type := 3, pos := "l13_save.go:13", after := #[], guard := none }
abbrev oN14 : Oper := { dst := some 54, op := Go.Op.indexAddr 35 (Go.Operand.tmp 52) (Go.Operand.tmp 53), type := 0, pos := "l13_save.go:13", after := #[{ on := 2, ground := Go.Ground.data }, { on := 3, ground := Go.Ground.data }], guard := none }
abbrev oN15 : Oper := { dst := some 55, op := Go.Op.fieldAddr 144 (Go.Operand.tmp 54) 0, type := 0, pos := "l13_save.go:13", after := #[{ on := 4, ground := Go.Ground.data }], guard := none }
abbrev oN16 : Oper := { dst := some 56, op := Go.Op.load 3 (Go.Operand.tmp 55), type := 3, pos := "l13_save.go:13", after := #[{ on := 5, ground := Go.Ground.data }], guard := none }
abbrev oN17 : Oper := { dst := some 57, op := Go.Op.fieldAddr 40 (Go.Operand.tmp 1) 1, type := 0, pos := "l13_save.go:13", after := #[], guard := none }
abbrev oN18 : Oper := { dst := some 58, op := Go.Op.load 35 (Go.Operand.tmp 57), type := 35, pos := "l13_save.go:13", after := #[{ on := 7, ground := Go.Ground.data }], guard := none }
abbrev oN19 : Oper := { dst := some 59, op := Go.Op.move (Go.Operand.tmp 5), type := 3, pos := "l13_save.go:13", after := #[], guard := none }
abbrev oN110 : Oper := { dst := some 60, op := Go.Op.indexAddr 35 (Go.Operand.tmp 58) (Go.Operand.tmp 59), type := 0, pos := "l13_save.go:13", after := #[{ on := 8, ground := Go.Ground.data }, { on := 9, ground := Go.Ground.data }], guard := none }
abbrev oN111 : Oper := { dst := some 61, op := Go.Op.fieldAddr 144 (Go.Operand.tmp 60) 1, type := 0, pos := "l13_save.go:13", after := #[{ on := 10, ground := Go.Ground.data }], guard := none }
abbrev oN112 : Oper := { dst := some 62, op := Go.Op.load 3 (Go.Operand.tmp 61), type := 3, pos := "l13_save.go:13", after := #[{ on := 11, ground := Go.Ground.data }], guard := none }
abbrev oN113 : Oper := { dst := some 63, op := Go.Op.buildSlice 96 2 #[(0, Go.Operand.tmp 56), (1, Go.Operand.tmp 62)], type := 96, pos := "l13_save.go:13", after := #[{ on := 6, ground := Go.Ground.data }, { on := 12, ground := Go.Ground.data }], guard := none }
abbrev oN114 : Oper := { dst := some 64, op := Go.Op.call { callee := Go.Callee.builtin Go.Builtin.append, args := #[Go.Operand.tmp 50, Go.Operand.tmp 63], argTypes := #[96, 96] }, type := 96, pos := "l13_save.go:13", after := #[{ on := 0, ground := Go.Ground.data }, { on := 13, ground := Go.Ground.data }], guard := none }
abbrev oN115 : Oper := { dst := some 3, op := Go.Op.assign (Go.Operand.tmp 64), type := 96, pos := "l13_save.go:13", after := #[{ on := 14, ground := Go.Ground.data }, { on := 14, ground := Go.Ground.chain }, { on := 0, ground := Go.Ground.phase }, { on := 1, ground := Go.Ground.phase }, { on := 2, ground := Go.Ground.phase }, { on := 3, ground := Go.Ground.phase }, { on := 4, ground := Go.Ground.phase }, { on := 5, ground := Go.Ground.phase }, { on := 6, ground := Go.Ground.phase }, { on := 7, ground := Go.Ground.phase }, { on := 8, ground := Go.Ground.phase }, { on := 9, ground := Go.Ground.phase }, { on := 10, ground := Go.Ground.phase }, { on := 11, ground := Go.Ground.phase }, { on := 12, ground := Go.Ground.phase }, { on := 13, ground := Go.Ground.phase }, { on := 14, ground := Go.Ground.phase }], guard := none }
abbrev oN20 : Oper := { dst := some 78, op := Go.Op.move (Go.Operand.tmp 3), type := 96, pos := "l13_save.go:17", after := #[], guard := none }
abbrev oN21 : Oper := { dst := some 79, op := Go.Op.fieldAddr 40 (Go.Operand.tmp 1) 2, type := 0, pos := "l13_save.go:17", after := #[], guard := none }
abbrev oN22 : Oper := { dst := some 80, op := Go.Op.load 36 (Go.Operand.tmp 79), type := 36, pos := "l13_save.go:17", after := #[{ on := 1, ground := Go.Ground.data }], guard := none }
abbrev oN23 : Oper := { dst := some 81, op := Go.Op.move (Go.Operand.tmp 6), type := 3, pos := "l13_save.go:17", after := #[], guard := none }
abbrev oN24 : Oper := { dst := some 82, op := Go.Op.indexAddr 36 (Go.Operand.tmp 80) (Go.Operand.tmp 81), type := 0, pos := "l13_save.go:17", after := #[{ on := 2, ground := Go.Ground.data }, { on := 3, ground := Go.Ground.data }], guard := none }
abbrev oN25 : Oper := { dst := some 83, op := Go.Op.fieldAddr 146 (Go.Operand.tmp 82) 0, type := 0, pos := "l13_save.go:17", after := #[{ on := 4, ground := Go.Ground.data }], guard := none }
abbrev oN26 : Oper := { dst := some 84, op := Go.Op.load 3 (Go.Operand.tmp 83), type := 3, pos := "l13_save.go:17", after := #[{ on := 5, ground := Go.Ground.data }], guard := none }
abbrev oN27 : Oper := { dst := some 85, op := Go.Op.fieldAddr 40 (Go.Operand.tmp 1) 2, type := 0, pos := "l13_save.go:17", after := #[], guard := none }
abbrev oN28 : Oper := { dst := some 86, op := Go.Op.load 36 (Go.Operand.tmp 85), type := 36, pos := "l13_save.go:17", after := #[{ on := 7, ground := Go.Ground.data }], guard := none }
abbrev oN29 : Oper := { dst := some 87, op := Go.Op.move (Go.Operand.tmp 6), type := 3, pos := "l13_save.go:17", after := #[], guard := none }
abbrev oN210 : Oper := { dst := some 88, op := Go.Op.indexAddr 36 (Go.Operand.tmp 86) (Go.Operand.tmp 87), type := 0, pos := "l13_save.go:17", after := #[{ on := 8, ground := Go.Ground.data }, { on := 9, ground := Go.Ground.data }], guard := none }
abbrev oN211 : Oper := { dst := some 89, op := Go.Op.fieldAddr 146 (Go.Operand.tmp 88) 1, type := 0, pos := "l13_save.go:17", after := #[{ on := 10, ground := Go.Ground.data }], guard := none }
abbrev oN212 : Oper := { dst := some 90, op := Go.Op.load 3 (Go.Operand.tmp 89), type := 3, pos := "l13_save.go:17", after := #[{ on := 11, ground := Go.Ground.data }], guard := none }
abbrev oN213 : Oper := { dst := some 91, op := Go.Op.fieldAddr 40 (Go.Operand.tmp 1) 2, type := 0, pos := "l13_save.go:17", after := #[], guard := none }
abbrev oN214 : Oper := { dst := some 92, op := Go.Op.load 36 (Go.Operand.tmp 91), type := 36, pos := "l13_save.go:17", after := #[{ on := 13, ground := Go.Ground.data }], guard := none }
abbrev oN215 : Oper := { dst := some 93, op := Go.Op.move (Go.Operand.tmp 6), type := 3, pos := "l13_save.go:17", after := #[], guard := none }
abbrev oN216 : Oper := { dst := some 94, op := Go.Op.indexAddr 36 (Go.Operand.tmp 92) (Go.Operand.tmp 93), type := 0, pos := "l13_save.go:17", after := #[{ on := 14, ground := Go.Ground.data }, { on := 15, ground := Go.Ground.data }], guard := none }
abbrev oN217 : Oper := { dst := some 95, op := Go.Op.fieldAddr 146 (Go.Operand.tmp 94) 2, type := 0, pos := "l13_save.go:17", after := #[{ on := 16, ground := Go.Ground.data }], guard := none }
abbrev oN218 : Oper := { dst := some 96, op := Go.Op.load 3 (Go.Operand.tmp 95), type := 3, pos := "l13_save.go:17", after := #[{ on := 17, ground := Go.Ground.data }], guard := none }
abbrev oN219 : Oper := { dst := some 97, op := Go.Op.binOp Go.BinOp.add 3 (Go.Operand.tmp 96) (Go.Operand.const (Go.Value.int Go.IntKind.i64 1000000000000000)) 3, type := 3, pos := "l13_save.go:17", after := #[{ on := 18, ground := Go.Ground.data }], guard := none }
abbrev oN220 : Oper := { dst := some 98, op := Go.Op.buildSlice 96 3 #[(0, Go.Operand.tmp 84), (1, Go.Operand.tmp 90), (2, Go.Operand.tmp 97)], type := 96, pos := "l13_save.go:17", after := #[{ on := 6, ground := Go.Ground.data }, { on := 12, ground := Go.Ground.data }, { on := 19, ground := Go.Ground.data }], guard := none }
abbrev oN221 : Oper := { dst := some 99, op := Go.Op.call { callee := Go.Callee.builtin Go.Builtin.append, args := #[Go.Operand.tmp 78, Go.Operand.tmp 98], argTypes := #[96, 96] }, type := 96, pos := "l13_save.go:17", after := #[{ on := 0, ground := Go.Ground.data }, { on := 20, ground := Go.Ground.data }], guard := none }
abbrev oN222 : Oper := { dst := some 3, op := Go.Op.assign (Go.Operand.tmp 99), type := 96, pos := "l13_save.go:17", after := #[{ on := 21, ground := Go.Ground.data }, { on := 21, ground := Go.Ground.chain }, { on := 0, ground := Go.Ground.phase }, { on := 1, ground := Go.Ground.phase }, { on := 2, ground := Go.Ground.phase }, { on := 3, ground := Go.Ground.phase }, { on := 4, ground := Go.Ground.phase }, { on := 5, ground := Go.Ground.phase }, { on := 6, ground := Go.Ground.phase }, { on := 7, ground := Go.Ground.phase }, { on := 8, ground := Go.Ground.phase }, { on := 9, ground := Go.Ground.phase }, { on := 10, ground := Go.Ground.phase }, { on := 11, ground := Go.Ground.phase }, { on := 12, ground := Go.Ground.phase }, { on := 13, ground := Go.Ground.phase }, { on := 14, ground := Go.Ground.phase }, { on := 15, ground := Go.Ground.phase }, { on := 16, ground := Go.Ground.phase }, { on := 17, ground := Go.Ground.phase }, { on := 18, ground := Go.Ground.phase }, { on := 19, ground := Go.Ground.phase }, { on := 20, ground := Go.Ground.phase }, { on := 21, ground := Go.Ground.phase }], guard := none }
set_option maxRecDepth 100000 in
set_option maxHeartbeats 8000000 in
theorem sNums (w : World) (x : Bx) (h : Rd w x) (ha : ∀ i, i < x.b.bs.length → -1000000000000000 ≤ (el3 x.b.bs i).2.2 ∧ (el3 x.b.bs i).2.2 ≤ 1000000000000000) :
    Calls Tryz.prog 58 #[.agg #[.slice (some ⟨x.ga, 0, none⟩) x.b.ac.length x.ca, .slice (some ⟨x.gi, 0, none⟩) x.b.ic.length x.ci, .slice (some ⟨x.gb, 0, none⟩) x.b.bs.length x.cb, .slice (some ⟨x.gl, 0, none⟩) x.b.ls.length x.cl, .slice (some ⟨x.gt, 0, none⟩) x.b.ts.length x.ct, .int .i64 x.b.lot]] w fun e w' => ∃ g c, e = .returned (.slice (some ⟨g, 0, none⟩) (nums x.b).length c) ∧ Ints.Own w' w.heap.size g (nums x.b).length c (nums x.b) ∧ Below w.heap.size w w' := by
  have S0 := hide (St.start h 40)
  have XB := hide (show ((x.ga < w.heap.size ∧ x.gi < w.heap.size) ∧ x.gb < w.heap.size) from ⟨⟨h.la, h.li⟩, h.lb⟩)
  have na := h.na
  have ni := h.ni
  have nb := h.nb
  have nl := h.nl
  have nt := h.nt
  have HA := hide ha
  clear h ha
  go_enter Tryz.func58, Tryz.ntmps58
  have s0 := (unhide S0).c.c0
  go_wp2
  clear s0
  generalize hW : (w.alloc (.cells #[.slice (some ⟨x.ga, 0, none⟩) x.b.ac.length x.ca, .slice (some ⟨x.gi, 0, none⟩) x.b.ic.length x.ci, .slice (some ⟨x.gb, 0, none⟩) x.b.bs.length x.cb, .slice (some ⟨x.gl, 0, none⟩) x.b.ls.length x.cl, .slice (some ⟨x.gt, 0, none⟩) x.b.ts.length x.ct, .int .i64 x.b.lot] 40)) = W0 at *
  have ws : W0.heap.size = w.heap.size + 1 := by rw [← hW]; simp
  have O0 := hide (show Ints.Own (W0.alloc (.cells #[.int .i64 x.b.ac.length] 3)) W0.heap.size (w.heap.size + 1) 1 1 [(x.b.ac.length : Int)] from by rw [← ws]; exact World.ownsRow_lit W0 #[.int .i64 x.b.ac.length] 1 (Nat.le_refl _) (by decide) rfl)
  have B0 := hide (one_more W0 (.cells #[.int .i64 x.b.ac.length] 3))
  clear hW
  generalize hA : [(x.b.ac.length : Int)] = A0 at *
  have HA0 := hide hA
  clear hA
  go_loopw [3, 4] (fun l i wr => ∃ (k g c n : Nat), i = .int .i64 k ∧ k ≤ x.b.ac.length ∧ l = .slice (some ⟨g, 0, none⟩) n c ∧ n ≤ 1 + 2 * k ∧ Hid (Ints.Own wr W0.heap.size g n c (A0 ++ (x.b.ac.take k).flatMap row2)) ∧ Hid (Below W0.heap.size W0 wr)) (fun _ i _ => x.b.ac.length - (intOf i).toNat)
  case atStart => exact ⟨0, _, _, _, rfl, by omega, rfl, by omega, hide (by simpa using unhide O0), B0⟩
  case round =>
    clear O0 B0
    obtain ⟨k, g, c, n, rfl, hk, rfl, nk, HO, HB⟩ := hrel
    have bs := (unhide HB).size
    have og := (unhide HO).lt
    have S1 := hide ((unhide S0).step (unhide HB))
    have cf := (unhide S1).c.c0
    by_cases t : k < x.b.ac.length
    · have kt : (k : Int) < x.b.ac.length := by omega
      have d := (unhide S1).r.ra k t
      have lg := (unhide S1).r.la
      have NX := hide (flat_more (f := row2) ((0, 0) : Int × Int) t)
      change Hid (_ = _ ++ row2 (Chart.el x.b.ac k)) at NX
      change wr.cell? ⟨x.ga, k * 2, none⟩ = some (.int .i64 (Chart.el x.b.ac k).1) ∧ wr.cell? ⟨x.ga, k * 2 + 1, none⟩ = some (.int .i64 (Chart.el x.b.ac k).2) at d
      generalize Chart.el x.b.ac k = p at *
      obtain ⟨p0, p1⟩ := p
      obtain ⟨d0, d1⟩ := d
      have K0 : wr.cell? ⟨w.heap.size, 0, none⟩ = some (.slice (some ⟨x.ga, 0, none⟩) x.b.ac.length x.ca) ∧ wr.cell? ⟨x.ga, k * 2, none⟩ = some (.int .i64 p0) ∧ wr.cell? ⟨x.ga, k * 2 + 1, none⟩ = some (.int .i64 p1) := ⟨cf, d0, d1⟩
      go_wp2_with fail
      refine wp_region_held_drew (S := (fun w' => w'.cell? ⟨w.heap.size, 0, none⟩ = some (.slice (some ⟨x.ga, 0, none⟩) x.b.ac.length x.ca) ∧ w'.cell? ⟨x.ga, k * 2, none⟩ = some (.int .i64 p0) ∧ w'.cell? ⟨x.ga, k * 2 + 1, none⟩ = some (.int .i64 p1))) (by kernel_rfl) K0 (fun hHeld => ?_)
      refine wpAnyH_take (i := 0) (oi := oN00) (v := .slice (some ⟨g, 0, none⟩) n c) rfl (by kernel_rfl) (by kernel_rfl) (by kernel_rfl) (fun _ _ _ h => h) (Or.inl ⟨by rfl, fun w hSw => ?_⟩) hHeld ?_
      · (try dsimp only at hSw)
        unfold oN00
        go_simp
      try simp only [oN00, Act.put, List.setIfInBounds_toArray, List.set_cons_zero, List.set_cons_succ]
      refine wpAnyH_take (i := 1) (oi := oN01) (v := .pointer (some ⟨w.heap.size, 0, none⟩)) rfl (by kernel_rfl) (by kernel_rfl) (by kernel_rfl) (fun _ _ _ h => h) (Or.inl ⟨by rfl, fun w hSw => ?_⟩) hHeld ?_
      · (try dsimp only at hSw)
        unfold oN01
        go_simp
      try simp only [oN01, Act.put, List.setIfInBounds_toArray, List.set_cons_zero, List.set_cons_succ]
      refine wpAnyH_take (i := 2) (oi := oN02) (v := .slice (some ⟨x.ga, 0, none⟩) x.b.ac.length x.ca) rfl (by kernel_rfl) (by kernel_rfl) (by kernel_rfl) (fun _ _ _ h => h) (Or.inl ⟨by rfl, fun w hSw => ?_⟩) hHeld ?_
      · (try dsimp only at hSw)
        unfold oN02
        go_simp
      try simp only [oN02, Act.put, List.setIfInBounds_toArray, List.set_cons_zero, List.set_cons_succ]
      refine wpAnyH_take (i := 3) (oi := oN03) (v := .int .i64 k) rfl (by kernel_rfl) (by kernel_rfl) (by kernel_rfl) (fun _ _ _ h => h) (Or.inl ⟨by rfl, fun w hSw => ?_⟩) hHeld ?_
      · (try dsimp only at hSw)
        unfold oN03
        go_simp
      try simp only [oN03, Act.put, List.setIfInBounds_toArray, List.set_cons_zero, List.set_cons_succ]
      refine wpAnyH_take (i := 4) (oi := oN04) (v := .pointer (some ⟨x.ga, k * 2, none⟩)) rfl (by kernel_rfl) (by kernel_rfl) (by kernel_rfl) (fun _ _ _ h => h) (Or.inl ⟨by rfl, fun w hSw => ?_⟩) hHeld ?_
      · (try dsimp only at hSw)
        unfold oN04
        go_simp
      try simp only [oN04, Act.put, List.setIfInBounds_toArray, List.set_cons_zero, List.set_cons_succ]
      refine wpAnyH_take (i := 5) (oi := oN05) (v := .pointer (some ⟨x.ga, k * 2, none⟩)) rfl (by kernel_rfl) (by kernel_rfl) (by kernel_rfl) (fun _ _ _ h => h) (Or.inl ⟨by rfl, fun w hSw => ?_⟩) hHeld ?_
      · (try dsimp only at hSw)
        unfold oN05
        go_simp
      try simp only [oN05, Act.put, List.setIfInBounds_toArray, List.set_cons_zero, List.set_cons_succ]
      refine wpAnyH_take (i := 6) (oi := oN06) (v := .int .i64 p0) rfl (by kernel_rfl) (by kernel_rfl) (by kernel_rfl) (fun _ _ _ h => h) (Or.inl ⟨by rfl, fun w hSw => ?_⟩) hHeld ?_
      · (try dsimp only at hSw)
        unfold oN06
        go_simp
      try simp only [oN06, Act.put, List.setIfInBounds_toArray, List.set_cons_zero, List.set_cons_succ]
      refine wpAnyH_take (i := 7) (oi := oN07) (v := .pointer (some ⟨w.heap.size, 0, none⟩)) rfl (by kernel_rfl) (by kernel_rfl) (by kernel_rfl) (fun _ _ _ h => h) (Or.inl ⟨by rfl, fun w hSw => ?_⟩) hHeld ?_
      · (try dsimp only at hSw)
        unfold oN07
        go_simp
      try simp only [oN07, Act.put, List.setIfInBounds_toArray, List.set_cons_zero, List.set_cons_succ]
      refine wpAnyH_take (i := 8) (oi := oN08) (v := .slice (some ⟨x.ga, 0, none⟩) x.b.ac.length x.ca) rfl (by kernel_rfl) (by kernel_rfl) (by kernel_rfl) (fun _ _ _ h => h) (Or.inl ⟨by rfl, fun w hSw => ?_⟩) hHeld ?_
      · (try dsimp only at hSw)
        unfold oN08
        go_simp
      try simp only [oN08, Act.put, List.setIfInBounds_toArray, List.set_cons_zero, List.set_cons_succ]
      refine wpAnyH_take (i := 9) (oi := oN09) (v := .int .i64 k) rfl (by kernel_rfl) (by kernel_rfl) (by kernel_rfl) (fun _ _ _ h => h) (Or.inl ⟨by rfl, fun w hSw => ?_⟩) hHeld ?_
      · (try dsimp only at hSw)
        unfold oN09
        go_simp
      try simp only [oN09, Act.put, List.setIfInBounds_toArray, List.set_cons_zero, List.set_cons_succ]
      refine wpAnyH_take (i := 10) (oi := oN010) (v := .pointer (some ⟨x.ga, k * 2, none⟩)) rfl (by kernel_rfl) (by kernel_rfl) (by kernel_rfl) (fun _ _ _ h => h) (Or.inl ⟨by rfl, fun w hSw => ?_⟩) hHeld ?_
      · (try dsimp only at hSw)
        unfold oN010
        go_simp
      try simp only [oN010, Act.put, List.setIfInBounds_toArray, List.set_cons_zero, List.set_cons_succ]
      refine wpAnyH_take (i := 11) (oi := oN011) (v := .pointer (some ⟨x.ga, k * 2 + 1, none⟩)) rfl (by kernel_rfl) (by kernel_rfl) (by kernel_rfl) (fun _ _ _ h => h) (Or.inl ⟨by rfl, fun w hSw => ?_⟩) hHeld ?_
      · (try dsimp only at hSw)
        unfold oN011
        go_simp
      try simp only [oN011, Act.put, List.setIfInBounds_toArray, List.set_cons_zero, List.set_cons_succ]
      refine wpAnyH_take (i := 12) (oi := oN012) (v := .int .i64 p1) rfl (by kernel_rfl) (by kernel_rfl) (by kernel_rfl) (fun _ _ _ h => h) (Or.inl ⟨by rfl, fun w hSw => ?_⟩) hHeld ?_
      · (try dsimp only at hSw)
        unfold oN012
        go_simp
      try simp only [oN012, Act.put, List.setIfInBounds_toArray, List.set_cons_zero, List.set_cons_succ]
      have KB : (wr.drew.alloc (.cells #[.int .i64 p0, .int .i64 p1] 3)).cell? ⟨w.heap.size, 0, none⟩ = some (.slice (some ⟨x.ga, 0, none⟩) x.b.ac.length x.ca) ∧ (wr.drew.alloc (.cells #[.int .i64 p0, .int .i64 p1] 3)).cell? ⟨x.ga, k * 2, none⟩ = some (.int .i64 p0) ∧ (wr.drew.alloc (.cells #[.int .i64 p0, .int .i64 p1] 3)).cell? ⟨x.ga, k * 2 + 1, none⟩ = some (.int .i64 p1) := ⟨((one_more wr.drew (.cells #[.int .i64 p0, .int .i64 p1] 3)).cell (p := ⟨w.heap.size, 0, none⟩) (show w.heap.size < wr.heap.size from (unhide S1).s)).trans cf, ((one_more wr.drew (.cells #[.int .i64 p0, .int .i64 p1] 3)).cell (p := ⟨x.ga, k * 2, none⟩) (show x.ga < wr.heap.size from lg)).trans d0, ((one_more wr.drew (.cells #[.int .i64 p0, .int .i64 p1] 3)).cell (p := ⟨x.ga, k * 2 + 1, none⟩) (show x.ga < wr.heap.size from lg)).trans d1⟩
      refine wpAnyH_ready (rs := [13]) (by kernel_rfl) (by simp) ?_
      refine AllReadyH.cons (o := oN013) rfl (fun K hK => ?_) AllReadyH.nil
      unfold oN013
      go_simp
      refine hK.out _ _ KB (fun hHeld => ?_)
      clear hK K
      try simp only [oN013, Act.put, List.setIfInBounds_toArray, List.set_cons_zero, List.set_cons_succ]
      refine wpAnyH_ready (rs := [14]) (by kernel_rfl) (by simp) ?_
      refine AllReadyH.cons (o := oN014) rfl (fun K hK => ?_) AllReadyH.nil
      refine step_catI _ (by rfl) _ _ (by rfl) W0.heap.size g n c 2 _ [p0, p1] wr.drew.heap.size 2 (by rfl) (by rfl) (by exact own_allocI (unhide HO) _) (by rfl) (by exact lit2 wr.drew p0 p1) (by omega) (Nat.le_trans (show W0.heap.size ≤ wr.drew.heap.size from bs) (by simp)) ?_
      intro g9 c9 u9 o9 gr9 loc9
      have K9 : u9.cell? ⟨w.heap.size, 0, none⟩ = some (.slice (some ⟨x.ga, 0, none⟩) x.b.ac.length x.ca) ∧ u9.cell? ⟨x.ga, k * 2, none⟩ = some (.int .i64 p0) ∧ u9.cell? ⟨x.ga, k * 2 + 1, none⟩ = some (.int .i64 p1) := ⟨gr9.cell KB.1 (fun e => by injection e with e; simp at e; have := (unhide S0).s; omega), gr9.cell KB.2.1 (fun e => by injection e with e; simp at e; have := (unhide XB).1.1; omega), gr9.cell KB.2.2 (fun e => by injection e with e; simp at e; have := (unhide XB).1.1; omega)⟩
      have O9 := hide o9
      have B9 := hide (((unhide HB).drew.alloc (show W0.heap.size ≤ wr.heap.size from bs) (.cells #[.int .i64 p0, .int .i64 p1] 3)).grown gr9 (Nat.le_trans (show W0.heap.size ≤ wr.drew.heap.size from bs) (by simp)) (fun j hj => by cases hj; exact og.1))
      clear o9 gr9 loc9
      refine hK.out _ _ K9 (fun hHeld => ?_)
      clear hK K
      try simp only [oN014, Act.put, List.setIfInBounds_toArray, List.set_cons_zero, List.set_cons_succ]
      refine wpAnyH_take (i := 15) (oi := oN015) (v := .slice (some ⟨g9, 0, none⟩) (n + 2) c9) rfl (by kernel_rfl) (by kernel_rfl) (by kernel_rfl) (fun _ _ _ h => h) (Or.inl ⟨by rfl, fun w hSw => ?_⟩) hHeld ?_
      · (try dsimp only at hSw)
        unfold oN015
        go_simp
      try simp only [oN015, Act.put, List.setIfInBounds_toArray, List.set_cons_zero, List.set_cons_succ]
      refine wpAnyH_done (by kernel_rfl) ?_ _
      go_wp2
      go_roundw
      case rel => exact ⟨k + 1, g9, c9, n + 2, by go_num, by omega, rfl, by omega, hide (by rw [unhide NX]; first | exact unhide O9 | (rw [ws]; exact unhide O9) | (rw [← List.append_assoc]; exact unhide O9) | (rw [← List.append_assoc, ws]; exact unhide O9)), B9⟩
      case measure => simp [intOf]; omega
    · have e : k = x.b.ac.length := by omega
      subst e
      have O := unhide HO
      rw [List.take_length] at O
      have HO := hide O
      clear O hk t
      have cg := (unhide S1).c.c1
      go_wp2_with (first | (at_builtin; refine wp_catI _ rfl _ _ rfl W0.heap.size g n c 1 _ [(x.b.ic.length : Int)] _ 1 rfl rfl (own_allocI (unhide HO) _) rfl (lit1 _ _) (by omega) (by simp; omega) ?_) | go_in)
      intro g9 c9 u9 o9 gr9 loc9
      have O1 := hide (show Ints.Own u9 W0.heap.size g9 (n + 1) c9 (A0 ++ x.b.ac.flatMap row2 ++ [(x.b.ic.length : Int)]) from by first | exact o9 | (rw [List.append_assoc]; exact o9) | (rw [ws]; exact o9) | (rw [ws, List.append_assoc]; exact o9))
      have B1 := hide (((unhide HB).alloc bs (.cells #[.int .i64 (x.b.ic.length : Int)] 3)).grown gr9 (by simp; omega) (fun j hj => by cases hj; exact og.1))
      have n9 : n + 1 ≤ 1 + 2 * 1048576 + 1 := by omega
      clear o9 gr9 loc9 HO HB S1 cf cg bs og
      generalize hA : A0 ++ x.b.ac.flatMap row2 ++ [(x.b.ic.length : Int)] = A1 at *
      have HA1 := hide hA
      clear hA
      go_wp2
      go_loopw [3, 5] (fun l i wr => ∃ (k g c n : Nat), i = .int .i64 k ∧ k ≤ x.b.ic.length ∧ l = .slice (some ⟨g, 0, none⟩) n c ∧ n ≤ 1 + 2 * 1048576 + 1 + 2 * k ∧ Hid (Ints.Own wr W0.heap.size g n c (A1 ++ (x.b.ic.take k).flatMap row2)) ∧ Hid (Below W0.heap.size W0 wr)) (fun _ i _ => x.b.ic.length - (intOf i).toNat)
      case atStart => exact ⟨0, _, _, _, rfl, by omega, rfl, by omega, hide (by simpa using unhide O1), B1⟩
      case round =>
        clear O1 B1
        obtain ⟨k, g, c, n, rfl, hk, rfl, nk, HO, HB⟩ := hrel
        have bs := (unhide HB).size
        have og := (unhide HO).lt
        have S1 := hide ((unhide S0).step (unhide HB))
        have cf := (unhide S1).c.c1
        by_cases t : k < x.b.ic.length
        · have kt : (k : Int) < x.b.ic.length := by omega
          have d := (unhide S1).r.ri k t
          have lg := (unhide S1).r.li
          have NX := hide (flat_more (f := row2) ((0, 0) : Int × Int) t)
          change Hid (_ = _ ++ row2 (Chart.el x.b.ic k)) at NX
          change wr.cell? ⟨x.gi, k * 2, none⟩ = some (.int .i64 (Chart.el x.b.ic k).1) ∧ wr.cell? ⟨x.gi, k * 2 + 1, none⟩ = some (.int .i64 (Chart.el x.b.ic k).2) at d
          generalize Chart.el x.b.ic k = p at *
          obtain ⟨p0, p1⟩ := p
          obtain ⟨d0, d1⟩ := d
          have K0 : wr.cell? ⟨w.heap.size, 1, none⟩ = some (.slice (some ⟨x.gi, 0, none⟩) x.b.ic.length x.ci) ∧ wr.cell? ⟨x.gi, k * 2, none⟩ = some (.int .i64 p0) ∧ wr.cell? ⟨x.gi, k * 2 + 1, none⟩ = some (.int .i64 p1) := ⟨cf, d0, d1⟩
          go_wp2_with fail
          refine wp_region_held_drew (S := (fun w' => w'.cell? ⟨w.heap.size, 1, none⟩ = some (.slice (some ⟨x.gi, 0, none⟩) x.b.ic.length x.ci) ∧ w'.cell? ⟨x.gi, k * 2, none⟩ = some (.int .i64 p0) ∧ w'.cell? ⟨x.gi, k * 2 + 1, none⟩ = some (.int .i64 p1))) (by kernel_rfl) K0 (fun hHeld => ?_)
          refine wpAnyH_take (i := 0) (oi := oN10) (v := .slice (some ⟨g, 0, none⟩) n c) rfl (by kernel_rfl) (by kernel_rfl) (by kernel_rfl) (fun _ _ _ h => h) (Or.inl ⟨by rfl, fun w hSw => ?_⟩) hHeld ?_
          · (try dsimp only at hSw)
            unfold oN10
            go_simp
          try simp only [oN10, Act.put, List.setIfInBounds_toArray, List.set_cons_zero, List.set_cons_succ]
          refine wpAnyH_take (i := 1) (oi := oN11) (v := .pointer (some ⟨w.heap.size, 1, none⟩)) rfl (by kernel_rfl) (by kernel_rfl) (by kernel_rfl) (fun _ _ _ h => h) (Or.inl ⟨by rfl, fun w hSw => ?_⟩) hHeld ?_
          · (try dsimp only at hSw)
            unfold oN11
            go_simp
          try simp only [oN11, Act.put, List.setIfInBounds_toArray, List.set_cons_zero, List.set_cons_succ]
          refine wpAnyH_take (i := 2) (oi := oN12) (v := .slice (some ⟨x.gi, 0, none⟩) x.b.ic.length x.ci) rfl (by kernel_rfl) (by kernel_rfl) (by kernel_rfl) (fun _ _ _ h => h) (Or.inl ⟨by rfl, fun w hSw => ?_⟩) hHeld ?_
          · (try dsimp only at hSw)
            unfold oN12
            go_simp
          try simp only [oN12, Act.put, List.setIfInBounds_toArray, List.set_cons_zero, List.set_cons_succ]
          refine wpAnyH_take (i := 3) (oi := oN13) (v := .int .i64 k) rfl (by kernel_rfl) (by kernel_rfl) (by kernel_rfl) (fun _ _ _ h => h) (Or.inl ⟨by rfl, fun w hSw => ?_⟩) hHeld ?_
          · (try dsimp only at hSw)
            unfold oN13
            go_simp
          try simp only [oN13, Act.put, List.setIfInBounds_toArray, List.set_cons_zero, List.set_cons_succ]
          refine wpAnyH_take (i := 4) (oi := oN14) (v := .pointer (some ⟨x.gi, k * 2, none⟩)) rfl (by kernel_rfl) (by kernel_rfl) (by kernel_rfl) (fun _ _ _ h => h) (Or.inl ⟨by rfl, fun w hSw => ?_⟩) hHeld ?_
          · (try dsimp only at hSw)
            unfold oN14
            go_simp
          try simp only [oN14, Act.put, List.setIfInBounds_toArray, List.set_cons_zero, List.set_cons_succ]
          refine wpAnyH_take (i := 5) (oi := oN15) (v := .pointer (some ⟨x.gi, k * 2, none⟩)) rfl (by kernel_rfl) (by kernel_rfl) (by kernel_rfl) (fun _ _ _ h => h) (Or.inl ⟨by rfl, fun w hSw => ?_⟩) hHeld ?_
          · (try dsimp only at hSw)
            unfold oN15
            go_simp
          try simp only [oN15, Act.put, List.setIfInBounds_toArray, List.set_cons_zero, List.set_cons_succ]
          refine wpAnyH_take (i := 6) (oi := oN16) (v := .int .i64 p0) rfl (by kernel_rfl) (by kernel_rfl) (by kernel_rfl) (fun _ _ _ h => h) (Or.inl ⟨by rfl, fun w hSw => ?_⟩) hHeld ?_
          · (try dsimp only at hSw)
            unfold oN16
            go_simp
          try simp only [oN16, Act.put, List.setIfInBounds_toArray, List.set_cons_zero, List.set_cons_succ]
          refine wpAnyH_take (i := 7) (oi := oN17) (v := .pointer (some ⟨w.heap.size, 1, none⟩)) rfl (by kernel_rfl) (by kernel_rfl) (by kernel_rfl) (fun _ _ _ h => h) (Or.inl ⟨by rfl, fun w hSw => ?_⟩) hHeld ?_
          · (try dsimp only at hSw)
            unfold oN17
            go_simp
          try simp only [oN17, Act.put, List.setIfInBounds_toArray, List.set_cons_zero, List.set_cons_succ]
          refine wpAnyH_take (i := 8) (oi := oN18) (v := .slice (some ⟨x.gi, 0, none⟩) x.b.ic.length x.ci) rfl (by kernel_rfl) (by kernel_rfl) (by kernel_rfl) (fun _ _ _ h => h) (Or.inl ⟨by rfl, fun w hSw => ?_⟩) hHeld ?_
          · (try dsimp only at hSw)
            unfold oN18
            go_simp
          try simp only [oN18, Act.put, List.setIfInBounds_toArray, List.set_cons_zero, List.set_cons_succ]
          refine wpAnyH_take (i := 9) (oi := oN19) (v := .int .i64 k) rfl (by kernel_rfl) (by kernel_rfl) (by kernel_rfl) (fun _ _ _ h => h) (Or.inl ⟨by rfl, fun w hSw => ?_⟩) hHeld ?_
          · (try dsimp only at hSw)
            unfold oN19
            go_simp
          try simp only [oN19, Act.put, List.setIfInBounds_toArray, List.set_cons_zero, List.set_cons_succ]
          refine wpAnyH_take (i := 10) (oi := oN110) (v := .pointer (some ⟨x.gi, k * 2, none⟩)) rfl (by kernel_rfl) (by kernel_rfl) (by kernel_rfl) (fun _ _ _ h => h) (Or.inl ⟨by rfl, fun w hSw => ?_⟩) hHeld ?_
          · (try dsimp only at hSw)
            unfold oN110
            go_simp
          try simp only [oN110, Act.put, List.setIfInBounds_toArray, List.set_cons_zero, List.set_cons_succ]
          refine wpAnyH_take (i := 11) (oi := oN111) (v := .pointer (some ⟨x.gi, k * 2 + 1, none⟩)) rfl (by kernel_rfl) (by kernel_rfl) (by kernel_rfl) (fun _ _ _ h => h) (Or.inl ⟨by rfl, fun w hSw => ?_⟩) hHeld ?_
          · (try dsimp only at hSw)
            unfold oN111
            go_simp
          try simp only [oN111, Act.put, List.setIfInBounds_toArray, List.set_cons_zero, List.set_cons_succ]
          refine wpAnyH_take (i := 12) (oi := oN112) (v := .int .i64 p1) rfl (by kernel_rfl) (by kernel_rfl) (by kernel_rfl) (fun _ _ _ h => h) (Or.inl ⟨by rfl, fun w hSw => ?_⟩) hHeld ?_
          · (try dsimp only at hSw)
            unfold oN112
            go_simp
          try simp only [oN112, Act.put, List.setIfInBounds_toArray, List.set_cons_zero, List.set_cons_succ]
          have KB : (wr.drew.alloc (.cells #[.int .i64 p0, .int .i64 p1] 3)).cell? ⟨w.heap.size, 1, none⟩ = some (.slice (some ⟨x.gi, 0, none⟩) x.b.ic.length x.ci) ∧ (wr.drew.alloc (.cells #[.int .i64 p0, .int .i64 p1] 3)).cell? ⟨x.gi, k * 2, none⟩ = some (.int .i64 p0) ∧ (wr.drew.alloc (.cells #[.int .i64 p0, .int .i64 p1] 3)).cell? ⟨x.gi, k * 2 + 1, none⟩ = some (.int .i64 p1) := ⟨((one_more wr.drew (.cells #[.int .i64 p0, .int .i64 p1] 3)).cell (p := ⟨w.heap.size, 1, none⟩) (show w.heap.size < wr.heap.size from (unhide S1).s)).trans cf, ((one_more wr.drew (.cells #[.int .i64 p0, .int .i64 p1] 3)).cell (p := ⟨x.gi, k * 2, none⟩) (show x.gi < wr.heap.size from lg)).trans d0, ((one_more wr.drew (.cells #[.int .i64 p0, .int .i64 p1] 3)).cell (p := ⟨x.gi, k * 2 + 1, none⟩) (show x.gi < wr.heap.size from lg)).trans d1⟩
          refine wpAnyH_ready (rs := [13]) (by kernel_rfl) (by simp) ?_
          refine AllReadyH.cons (o := oN113) rfl (fun K hK => ?_) AllReadyH.nil
          unfold oN113
          go_simp
          refine hK.out _ _ KB (fun hHeld => ?_)
          clear hK K
          try simp only [oN113, Act.put, List.setIfInBounds_toArray, List.set_cons_zero, List.set_cons_succ]
          refine wpAnyH_ready (rs := [14]) (by kernel_rfl) (by simp) ?_
          refine AllReadyH.cons (o := oN114) rfl (fun K hK => ?_) AllReadyH.nil
          refine step_catI _ (by rfl) _ _ (by rfl) W0.heap.size g n c 2 _ [p0, p1] wr.drew.heap.size 2 (by rfl) (by rfl) (by exact own_allocI (unhide HO) _) (by rfl) (by exact lit2 wr.drew p0 p1) (by omega) (Nat.le_trans (show W0.heap.size ≤ wr.drew.heap.size from bs) (by simp)) ?_
          intro g9 c9 u9 o9 gr9 loc9
          have K9 : u9.cell? ⟨w.heap.size, 1, none⟩ = some (.slice (some ⟨x.gi, 0, none⟩) x.b.ic.length x.ci) ∧ u9.cell? ⟨x.gi, k * 2, none⟩ = some (.int .i64 p0) ∧ u9.cell? ⟨x.gi, k * 2 + 1, none⟩ = some (.int .i64 p1) := ⟨gr9.cell KB.1 (fun e => by injection e with e; simp at e; have := (unhide S0).s; omega), gr9.cell KB.2.1 (fun e => by injection e with e; simp at e; have := (unhide XB).1.2; omega), gr9.cell KB.2.2 (fun e => by injection e with e; simp at e; have := (unhide XB).1.2; omega)⟩
          have O9 := hide o9
          have B9 := hide (((unhide HB).drew.alloc (show W0.heap.size ≤ wr.heap.size from bs) (.cells #[.int .i64 p0, .int .i64 p1] 3)).grown gr9 (Nat.le_trans (show W0.heap.size ≤ wr.drew.heap.size from bs) (by simp)) (fun j hj => by cases hj; exact og.1))
          clear o9 gr9 loc9
          refine hK.out _ _ K9 (fun hHeld => ?_)
          clear hK K
          try simp only [oN114, Act.put, List.setIfInBounds_toArray, List.set_cons_zero, List.set_cons_succ]
          refine wpAnyH_take (i := 15) (oi := oN115) (v := .slice (some ⟨g9, 0, none⟩) (n + 2) c9) rfl (by kernel_rfl) (by kernel_rfl) (by kernel_rfl) (fun _ _ _ h => h) (Or.inl ⟨by rfl, fun w hSw => ?_⟩) hHeld ?_
          · (try dsimp only at hSw)
            unfold oN115
            go_simp
          try simp only [oN115, Act.put, List.setIfInBounds_toArray, List.set_cons_zero, List.set_cons_succ]
          refine wpAnyH_done (by kernel_rfl) ?_ _
          go_wp2
          go_roundw
          case rel => exact ⟨k + 1, g9, c9, n + 2, by go_num, by omega, rfl, by omega, hide (by rw [unhide NX]; first | exact unhide O9 | (rw [ws]; exact unhide O9) | (rw [← List.append_assoc]; exact unhide O9) | (rw [← List.append_assoc, ws]; exact unhide O9)), B9⟩
          case measure => simp [intOf]; omega
        · have e : k = x.b.ic.length := by omega
          subst e
          have O := unhide HO
          rw [List.take_length] at O
          have HO := hide O
          clear O hk t
          have cg := (unhide S1).c.c2
          go_wp2_with (first | (at_builtin; refine wp_catI _ rfl _ _ rfl W0.heap.size g n c 1 _ [(x.b.bs.length : Int)] _ 1 rfl rfl (own_allocI (unhide HO) _) rfl (lit1 _ _) (by omega) (by simp; omega) ?_) | go_in)
          intro g9 c9 u9 o9 gr9 loc9
          have O2 := hide (show Ints.Own u9 W0.heap.size g9 (n + 1) c9 (A1 ++ x.b.ic.flatMap row2 ++ [(x.b.bs.length : Int)]) from by first | exact o9 | (rw [List.append_assoc]; exact o9) | (rw [ws]; exact o9) | (rw [ws, List.append_assoc]; exact o9))
          have B2 := hide (((unhide HB).alloc bs (.cells #[.int .i64 (x.b.bs.length : Int)] 3)).grown gr9 (by simp; omega) (fun j hj => by cases hj; exact og.1))
          have n9 : n + 1 ≤ 1 + 2 * 1048576 + 1 + 2 * 1048576 + 1 := by omega
          clear o9 gr9 loc9 HO HB S1 cf cg bs og
          generalize hA : A1 ++ x.b.ic.flatMap row2 ++ [(x.b.bs.length : Int)] = A2 at *
          have HA2 := hide hA
          clear hA
          go_wp2
          go_loopw [3, 6] (fun l i wr => ∃ (k g c n : Nat), i = .int .i64 k ∧ k ≤ x.b.bs.length ∧ l = .slice (some ⟨g, 0, none⟩) n c ∧ n ≤ 1 + 2 * 1048576 + 1 + 2 * 1048576 + 1 + 3 * k ∧ Hid (Ints.Own wr W0.heap.size g n c (A2 ++ (x.b.bs.take k).flatMap row3)) ∧ Hid (Below W0.heap.size W0 wr)) (fun _ i _ => x.b.bs.length - (intOf i).toNat)
          case atStart => exact ⟨0, _, _, _, rfl, by omega, rfl, by omega, hide (by simpa using unhide O2), B2⟩
          case round =>
            clear O2 B2
            obtain ⟨k, g, c, n, rfl, hk, rfl, nk, HO, HB⟩ := hrel
            have bs := (unhide HB).size
            have og := (unhide HO).lt
            have S1 := hide ((unhide S0).step (unhide HB))
            have cf := (unhide S1).c.c2
            by_cases t : k < x.b.bs.length
            · have kt : (k : Int) < x.b.bs.length := by omega
              have d := (unhide S1).r.rb k t
              have lg := (unhide S1).r.lb
              have NX := hide (flat_more (f := row3) ((0, 0, 0) : T3) t)
              change Hid (_ = _ ++ row3 (el3 x.b.bs k)) at NX
              have am := (unhide HA) k t
              change wr.cell? ⟨x.gb, k * 3, none⟩ = some (.int .i64 (el3 x.b.bs k).1) ∧ wr.cell? ⟨x.gb, k * 3 + 1, none⟩ = some (.int .i64 (el3 x.b.bs k).2.1) ∧ wr.cell? ⟨x.gb, k * 3 + 2, none⟩ = some (.int .i64 (el3 x.b.bs k).2.2) at d
              generalize el3 x.b.bs k = p at *
              obtain ⟨p0, p1, p2⟩ := p
              obtain ⟨d0, d1, d2⟩ := d
              have am1 : wrap64 (p2 + 1000000000000000) = p2 + 1000000000000000 := by rw [wrap64]; simp only at am; omega
              have am2 : IntKind.i64.wrap (p2 + 1000000000000000) = p2 + 1000000000000000 := by rw [IntKind.wrap_i64]; simp only at am; omega
              have K0 : wr.cell? ⟨w.heap.size, 2, none⟩ = some (.slice (some ⟨x.gb, 0, none⟩) x.b.bs.length x.cb) ∧ wr.cell? ⟨x.gb, k * 3, none⟩ = some (.int .i64 p0) ∧ wr.cell? ⟨x.gb, k * 3 + 1, none⟩ = some (.int .i64 p1) ∧ wr.cell? ⟨x.gb, k * 3 + 2, none⟩ = some (.int .i64 p2) := ⟨cf, d0, d1, d2⟩
              go_wp2_with fail
              refine wp_region_held_drew (S := (fun w' => w'.cell? ⟨w.heap.size, 2, none⟩ = some (.slice (some ⟨x.gb, 0, none⟩) x.b.bs.length x.cb) ∧ w'.cell? ⟨x.gb, k * 3, none⟩ = some (.int .i64 p0) ∧ w'.cell? ⟨x.gb, k * 3 + 1, none⟩ = some (.int .i64 p1) ∧ w'.cell? ⟨x.gb, k * 3 + 2, none⟩ = some (.int .i64 p2))) (by kernel_rfl) K0 (fun hHeld => ?_)
              refine wpAnyH_take (i := 0) (oi := oN20) (v := .slice (some ⟨g, 0, none⟩) n c) rfl (by kernel_rfl) (by kernel_rfl) (by kernel_rfl) (fun _ _ _ h => h) (Or.inl ⟨by rfl, fun w hSw => ?_⟩) hHeld ?_
              · (try dsimp only at hSw)
                unfold oN20
                go_simp
              try simp only [oN20, Act.put, List.setIfInBounds_toArray, List.set_cons_zero, List.set_cons_succ]
              refine wpAnyH_take (i := 1) (oi := oN21) (v := .pointer (some ⟨w.heap.size, 2, none⟩)) rfl (by kernel_rfl) (by kernel_rfl) (by kernel_rfl) (fun _ _ _ h => h) (Or.inl ⟨by rfl, fun w hSw => ?_⟩) hHeld ?_
              · (try dsimp only at hSw)
                unfold oN21
                go_simp
              try simp only [oN21, Act.put, List.setIfInBounds_toArray, List.set_cons_zero, List.set_cons_succ]
              refine wpAnyH_take (i := 2) (oi := oN22) (v := .slice (some ⟨x.gb, 0, none⟩) x.b.bs.length x.cb) rfl (by kernel_rfl) (by kernel_rfl) (by kernel_rfl) (fun _ _ _ h => h) (Or.inl ⟨by rfl, fun w hSw => ?_⟩) hHeld ?_
              · (try dsimp only at hSw)
                unfold oN22
                go_simp
              try simp only [oN22, Act.put, List.setIfInBounds_toArray, List.set_cons_zero, List.set_cons_succ]
              refine wpAnyH_take (i := 3) (oi := oN23) (v := .int .i64 k) rfl (by kernel_rfl) (by kernel_rfl) (by kernel_rfl) (fun _ _ _ h => h) (Or.inl ⟨by rfl, fun w hSw => ?_⟩) hHeld ?_
              · (try dsimp only at hSw)
                unfold oN23
                go_simp
              try simp only [oN23, Act.put, List.setIfInBounds_toArray, List.set_cons_zero, List.set_cons_succ]
              refine wpAnyH_take (i := 4) (oi := oN24) (v := .pointer (some ⟨x.gb, k * 3, none⟩)) rfl (by kernel_rfl) (by kernel_rfl) (by kernel_rfl) (fun _ _ _ h => h) (Or.inl ⟨by rfl, fun w hSw => ?_⟩) hHeld ?_
              · (try dsimp only at hSw)
                unfold oN24
                go_simp
              try simp only [oN24, Act.put, List.setIfInBounds_toArray, List.set_cons_zero, List.set_cons_succ]
              refine wpAnyH_take (i := 5) (oi := oN25) (v := .pointer (some ⟨x.gb, k * 3, none⟩)) rfl (by kernel_rfl) (by kernel_rfl) (by kernel_rfl) (fun _ _ _ h => h) (Or.inl ⟨by rfl, fun w hSw => ?_⟩) hHeld ?_
              · (try dsimp only at hSw)
                unfold oN25
                go_simp
              try simp only [oN25, Act.put, List.setIfInBounds_toArray, List.set_cons_zero, List.set_cons_succ]
              refine wpAnyH_take (i := 6) (oi := oN26) (v := .int .i64 p0) rfl (by kernel_rfl) (by kernel_rfl) (by kernel_rfl) (fun _ _ _ h => h) (Or.inl ⟨by rfl, fun w hSw => ?_⟩) hHeld ?_
              · (try dsimp only at hSw)
                unfold oN26
                go_simp
              try simp only [oN26, Act.put, List.setIfInBounds_toArray, List.set_cons_zero, List.set_cons_succ]
              refine wpAnyH_take (i := 7) (oi := oN27) (v := .pointer (some ⟨w.heap.size, 2, none⟩)) rfl (by kernel_rfl) (by kernel_rfl) (by kernel_rfl) (fun _ _ _ h => h) (Or.inl ⟨by rfl, fun w hSw => ?_⟩) hHeld ?_
              · (try dsimp only at hSw)
                unfold oN27
                go_simp
              try simp only [oN27, Act.put, List.setIfInBounds_toArray, List.set_cons_zero, List.set_cons_succ]
              refine wpAnyH_take (i := 8) (oi := oN28) (v := .slice (some ⟨x.gb, 0, none⟩) x.b.bs.length x.cb) rfl (by kernel_rfl) (by kernel_rfl) (by kernel_rfl) (fun _ _ _ h => h) (Or.inl ⟨by rfl, fun w hSw => ?_⟩) hHeld ?_
              · (try dsimp only at hSw)
                unfold oN28
                go_simp
              try simp only [oN28, Act.put, List.setIfInBounds_toArray, List.set_cons_zero, List.set_cons_succ]
              refine wpAnyH_take (i := 9) (oi := oN29) (v := .int .i64 k) rfl (by kernel_rfl) (by kernel_rfl) (by kernel_rfl) (fun _ _ _ h => h) (Or.inl ⟨by rfl, fun w hSw => ?_⟩) hHeld ?_
              · (try dsimp only at hSw)
                unfold oN29
                go_simp
              try simp only [oN29, Act.put, List.setIfInBounds_toArray, List.set_cons_zero, List.set_cons_succ]
              refine wpAnyH_take (i := 10) (oi := oN210) (v := .pointer (some ⟨x.gb, k * 3, none⟩)) rfl (by kernel_rfl) (by kernel_rfl) (by kernel_rfl) (fun _ _ _ h => h) (Or.inl ⟨by rfl, fun w hSw => ?_⟩) hHeld ?_
              · (try dsimp only at hSw)
                unfold oN210
                go_simp
              try simp only [oN210, Act.put, List.setIfInBounds_toArray, List.set_cons_zero, List.set_cons_succ]
              refine wpAnyH_take (i := 11) (oi := oN211) (v := .pointer (some ⟨x.gb, k * 3 + 1, none⟩)) rfl (by kernel_rfl) (by kernel_rfl) (by kernel_rfl) (fun _ _ _ h => h) (Or.inl ⟨by rfl, fun w hSw => ?_⟩) hHeld ?_
              · (try dsimp only at hSw)
                unfold oN211
                go_simp
              try simp only [oN211, Act.put, List.setIfInBounds_toArray, List.set_cons_zero, List.set_cons_succ]
              refine wpAnyH_take (i := 12) (oi := oN212) (v := .int .i64 p1) rfl (by kernel_rfl) (by kernel_rfl) (by kernel_rfl) (fun _ _ _ h => h) (Or.inl ⟨by rfl, fun w hSw => ?_⟩) hHeld ?_
              · (try dsimp only at hSw)
                unfold oN212
                go_simp
              try simp only [oN212, Act.put, List.setIfInBounds_toArray, List.set_cons_zero, List.set_cons_succ]
              refine wpAnyH_take (i := 13) (oi := oN213) (v := .pointer (some ⟨w.heap.size, 2, none⟩)) rfl (by kernel_rfl) (by kernel_rfl) (by kernel_rfl) (fun _ _ _ h => h) (Or.inl ⟨by rfl, fun w hSw => ?_⟩) hHeld ?_
              · (try dsimp only at hSw)
                unfold oN213
                go_simp
              try simp only [oN213, Act.put, List.setIfInBounds_toArray, List.set_cons_zero, List.set_cons_succ]
              refine wpAnyH_take (i := 14) (oi := oN214) (v := .slice (some ⟨x.gb, 0, none⟩) x.b.bs.length x.cb) rfl (by kernel_rfl) (by kernel_rfl) (by kernel_rfl) (fun _ _ _ h => h) (Or.inl ⟨by rfl, fun w hSw => ?_⟩) hHeld ?_
              · (try dsimp only at hSw)
                unfold oN214
                go_simp
              try simp only [oN214, Act.put, List.setIfInBounds_toArray, List.set_cons_zero, List.set_cons_succ]
              refine wpAnyH_take (i := 15) (oi := oN215) (v := .int .i64 k) rfl (by kernel_rfl) (by kernel_rfl) (by kernel_rfl) (fun _ _ _ h => h) (Or.inl ⟨by rfl, fun w hSw => ?_⟩) hHeld ?_
              · (try dsimp only at hSw)
                unfold oN215
                go_simp
              try simp only [oN215, Act.put, List.setIfInBounds_toArray, List.set_cons_zero, List.set_cons_succ]
              refine wpAnyH_take (i := 16) (oi := oN216) (v := .pointer (some ⟨x.gb, k * 3, none⟩)) rfl (by kernel_rfl) (by kernel_rfl) (by kernel_rfl) (fun _ _ _ h => h) (Or.inl ⟨by rfl, fun w hSw => ?_⟩) hHeld ?_
              · (try dsimp only at hSw)
                unfold oN216
                go_simp
              try simp only [oN216, Act.put, List.setIfInBounds_toArray, List.set_cons_zero, List.set_cons_succ]
              refine wpAnyH_take (i := 17) (oi := oN217) (v := .pointer (some ⟨x.gb, k * 3 + 2, none⟩)) rfl (by kernel_rfl) (by kernel_rfl) (by kernel_rfl) (fun _ _ _ h => h) (Or.inl ⟨by rfl, fun w hSw => ?_⟩) hHeld ?_
              · (try dsimp only at hSw)
                unfold oN217
                go_simp
              try simp only [oN217, Act.put, List.setIfInBounds_toArray, List.set_cons_zero, List.set_cons_succ]
              refine wpAnyH_take (i := 18) (oi := oN218) (v := .int .i64 p2) rfl (by kernel_rfl) (by kernel_rfl) (by kernel_rfl) (fun _ _ _ h => h) (Or.inl ⟨by rfl, fun w hSw => ?_⟩) hHeld ?_
              · (try dsimp only at hSw)
                unfold oN218
                go_simp
              try simp only [oN218, Act.put, List.setIfInBounds_toArray, List.set_cons_zero, List.set_cons_succ]
              refine wpAnyH_take (i := 19) (oi := oN219) (v := .int .i64 (p2 + 1000000000000000)) rfl (by kernel_rfl) (by kernel_rfl) (by kernel_rfl) (fun _ _ _ h => h) (Or.inl ⟨by rfl, fun w hSw => ?_⟩) hHeld ?_
              · (try dsimp only at hSw)
                unfold oN219
                go_simp
              try simp only [oN219, Act.put, List.setIfInBounds_toArray, List.set_cons_zero, List.set_cons_succ]
              have KB : (wr.drew.alloc (.cells #[.int .i64 p0, .int .i64 p1, .int .i64 (p2 + 1000000000000000)] 3)).cell? ⟨w.heap.size, 2, none⟩ = some (.slice (some ⟨x.gb, 0, none⟩) x.b.bs.length x.cb) ∧ (wr.drew.alloc (.cells #[.int .i64 p0, .int .i64 p1, .int .i64 (p2 + 1000000000000000)] 3)).cell? ⟨x.gb, k * 3, none⟩ = some (.int .i64 p0) ∧ (wr.drew.alloc (.cells #[.int .i64 p0, .int .i64 p1, .int .i64 (p2 + 1000000000000000)] 3)).cell? ⟨x.gb, k * 3 + 1, none⟩ = some (.int .i64 p1) ∧ (wr.drew.alloc (.cells #[.int .i64 p0, .int .i64 p1, .int .i64 (p2 + 1000000000000000)] 3)).cell? ⟨x.gb, k * 3 + 2, none⟩ = some (.int .i64 p2) := ⟨((one_more wr.drew (.cells #[.int .i64 p0, .int .i64 p1, .int .i64 (p2 + 1000000000000000)] 3)).cell (p := ⟨w.heap.size, 2, none⟩) (show w.heap.size < wr.heap.size from (unhide S1).s)).trans cf, ((one_more wr.drew (.cells #[.int .i64 p0, .int .i64 p1, .int .i64 (p2 + 1000000000000000)] 3)).cell (p := ⟨x.gb, k * 3, none⟩) (show x.gb < wr.heap.size from lg)).trans d0, ((one_more wr.drew (.cells #[.int .i64 p0, .int .i64 p1, .int .i64 (p2 + 1000000000000000)] 3)).cell (p := ⟨x.gb, k * 3 + 1, none⟩) (show x.gb < wr.heap.size from lg)).trans d1, ((one_more wr.drew (.cells #[.int .i64 p0, .int .i64 p1, .int .i64 (p2 + 1000000000000000)] 3)).cell (p := ⟨x.gb, k * 3 + 2, none⟩) (show x.gb < wr.heap.size from lg)).trans d2⟩
              refine wpAnyH_ready (rs := [20]) (by kernel_rfl) (by simp) ?_
              refine AllReadyH.cons (o := oN220) rfl (fun K hK => ?_) AllReadyH.nil
              unfold oN220
              go_simp
              refine hK.out _ _ KB (fun hHeld => ?_)
              clear hK K
              try simp only [oN220, Act.put, List.setIfInBounds_toArray, List.set_cons_zero, List.set_cons_succ]
              refine wpAnyH_ready (rs := [21]) (by kernel_rfl) (by simp) ?_
              refine AllReadyH.cons (o := oN221) rfl (fun K hK => ?_) AllReadyH.nil
              refine step_catI _ (by rfl) _ _ (by rfl) W0.heap.size g n c 3 _ [p0, p1, (p2 + 1000000000000000)] wr.drew.heap.size 3 (by rfl) (by rfl) (by exact own_allocI (unhide HO) _) (by rfl) (by exact lit3 wr.drew p0 p1 (p2 + 1000000000000000)) (by omega) (Nat.le_trans (show W0.heap.size ≤ wr.drew.heap.size from bs) (by simp)) ?_
              intro g9 c9 u9 o9 gr9 loc9
              have K9 : u9.cell? ⟨w.heap.size, 2, none⟩ = some (.slice (some ⟨x.gb, 0, none⟩) x.b.bs.length x.cb) ∧ u9.cell? ⟨x.gb, k * 3, none⟩ = some (.int .i64 p0) ∧ u9.cell? ⟨x.gb, k * 3 + 1, none⟩ = some (.int .i64 p1) ∧ u9.cell? ⟨x.gb, k * 3 + 2, none⟩ = some (.int .i64 p2) := ⟨gr9.cell KB.1 (fun e => by injection e with e; simp at e; have := (unhide S0).s; omega), gr9.cell KB.2.1 (fun e => by injection e with e; simp at e; have := (unhide XB).2; omega), gr9.cell KB.2.2.1 (fun e => by injection e with e; simp at e; have := (unhide XB).2; omega), gr9.cell KB.2.2.2 (fun e => by injection e with e; simp at e; have := (unhide XB).2; omega)⟩
              have O9 := hide o9
              have B9 := hide (((unhide HB).drew.alloc (show W0.heap.size ≤ wr.heap.size from bs) (.cells #[.int .i64 p0, .int .i64 p1, .int .i64 (p2 + 1000000000000000)] 3)).grown gr9 (Nat.le_trans (show W0.heap.size ≤ wr.drew.heap.size from bs) (by simp)) (fun j hj => by cases hj; exact og.1))
              clear o9 gr9 loc9
              refine hK.out _ _ K9 (fun hHeld => ?_)
              clear hK K
              try simp only [oN221, Act.put, List.setIfInBounds_toArray, List.set_cons_zero, List.set_cons_succ]
              refine wpAnyH_take (i := 22) (oi := oN222) (v := .slice (some ⟨g9, 0, none⟩) (n + 3) c9) rfl (by kernel_rfl) (by kernel_rfl) (by kernel_rfl) (fun _ _ _ h => h) (Or.inl ⟨by rfl, fun w hSw => ?_⟩) hHeld ?_
              · (try dsimp only at hSw)
                unfold oN222
                go_simp
              try simp only [oN222, Act.put, List.setIfInBounds_toArray, List.set_cons_zero, List.set_cons_succ]
              refine wpAnyH_done (by kernel_rfl) ?_ _
              go_wp2
              go_roundw
              case rel => exact ⟨k + 1, g9, c9, n + 3, by go_num, by omega, rfl, by omega, hide (by rw [unhide NX]; first | exact unhide O9 | (rw [ws]; exact unhide O9) | (rw [← List.append_assoc]; exact unhide O9) | (rw [← List.append_assoc, ws]; exact unhide O9)), B9⟩
              case measure => simp [intOf]; omega
            · have e : k = x.b.bs.length := by omega
              subst e
              have O := unhide HO
              rw [List.take_length] at O
              have HO := hide O
              clear O hk t
              have cg := (unhide S1).c.c3
              go_wp2_with (first | (at_builtin; refine wp_catI _ rfl _ _ rfl W0.heap.size g n c 1 _ [(x.b.ls.length : Int)] _ 1 rfl rfl (own_allocI (unhide HO) _) rfl (lit1 _ _) (by omega) (by simp; omega) ?_) | go_in)
              intro g9 c9 u9 o9 gr9 loc9
              have O3 := hide (show Ints.Own u9 W0.heap.size g9 (n + 1) c9 (A2 ++ x.b.bs.flatMap row3 ++ [(x.b.ls.length : Int)]) from by first | exact o9 | (rw [List.append_assoc]; exact o9) | (rw [ws]; exact o9) | (rw [ws, List.append_assoc]; exact o9))
              have B3 := hide (((unhide HB).alloc bs (.cells #[.int .i64 (x.b.ls.length : Int)] 3)).grown gr9 (by simp; omega) (fun j hj => by cases hj; exact og.1))
              have n9 : n + 1 ≤ 1 + 2 * 1048576 + 1 + 2 * 1048576 + 1 + 3 * 1048576 + 1 := by omega
              clear o9 gr9 loc9 HO HB S1 cf cg bs og
              generalize hA : A2 ++ x.b.bs.flatMap row3 ++ [(x.b.ls.length : Int)] = A3 at *
              have HA3 := hide hA
              clear hA
              go_wp2
              go_loopw [3, 7, 8] (fun l i _ wr => ∃ (k g c n : Nat), i = .int .i64 k ∧ k ≤ x.b.ls.length ∧ l = .slice (some ⟨g, 0, none⟩) n c ∧ n ≤ 1 + 2 * 1048576 + 1 + 2 * 1048576 + 1 + 3 * 1048576 + 1 + 5 * k ∧ Hid (Ints.Own wr W0.heap.size g n c (A3 ++ (x.b.ls.take k).flatMap row5)) ∧ Hid (Below W0.heap.size W0 wr)) (fun _ i _ _ => x.b.ls.length - (intOf i).toNat)
              case atStart => exact ⟨0, _, _, _, rfl, by omega, rfl, by omega, hide (by simpa using unhide O3), B3⟩
              case round =>
                clear O3 B3
                obtain ⟨k, g, c, n, rfl, hk, rfl, nk, HO, HB⟩ := hrel
                have bs := (unhide HB).size
                have og := (unhide HO).lt
                have S1 := hide ((unhide S0).step (unhide HB))
                have cf := (unhide S1).c.c3
                by_cases t : k < x.b.ls.length
                · have kt : (k : Int) < x.b.ls.length := by omega
                  have d := (unhide S1).r.rl k t
                  have lg := (unhide S1).r.ll
                  have NX := hide (flat_more (f := row5) ((0, 0, 0, 0, 0) : T5) t)
                  change Hid (_ = _ ++ row5 (el5 x.b.ls k)) at NX
                  change wr.cell? ⟨x.gl, k * 5, none⟩ = some (.int .i64 (el5 x.b.ls k).1) ∧ wr.cell? ⟨x.gl, k * 5 + 1, none⟩ = some (.int .i64 (el5 x.b.ls k).2.1) ∧ wr.cell? ⟨x.gl, k * 5 + 2, none⟩ = some (.int .i64 (el5 x.b.ls k).2.2.1) ∧ wr.cell? ⟨x.gl, k * 5 + 3, none⟩ = some (.int .i64 (el5 x.b.ls k).2.2.2.1) ∧ wr.cell? ⟨x.gl, k * 5 + 4, none⟩ = some (.int .i64 (el5 x.b.ls k).2.2.2.2) at d
                  generalize el5 x.b.ls k = p at *
                  obtain ⟨p0, p1, p2, p3, p4⟩ := p
                  obtain ⟨d0, d1, d2, d3, d4⟩ := d
                  have LL := hide (lit5 (wr.alloc (.cells #[.int .i64 p0, .int .i64 p1, .int .i64 p2, .int .i64 p3, .int .i64 p4] 148)) p0 p1 p2 p3 p4)
                  rw [show (wr.alloc (.cells #[.int .i64 p0, .int .i64 p1, .int .i64 p2, .int .i64 p3, .int .i64 p4] 148)).heap.size = wr.heap.size + 1 by simp] at LL
                  go_wp2_with (first | (at_builtin; refine wp_catI _ rfl _ _ rfl W0.heap.size g n c 5 _ [p0, p1, p2, p3, p4] (wr.heap.size + 1) 5 rfl rfl (own_allocI (own_allocI (unhide HO) _) _) rfl (unhide LL) (by omega) (by simp; omega) ?_) | go_in)
                  intro g9 c9 u9 o9 gr9 loc9
                  have O9 := hide o9
                  have B9 := hide ((((unhide HB).alloc bs (.cells #[.int .i64 p0, .int .i64 p1, .int .i64 p2, .int .i64 p3, .int .i64 p4] 148)).alloc (by simp; omega) (.cells #[.int .i64 p0, .int .i64 p1, .int .i64 p2, .int .i64 p3, .int .i64 p4] 3)).grown gr9 (by simp; omega) (fun j hj => by cases hj; exact og.1))
                  clear o9 gr9 loc9
                  go_wp2
                  go_roundw
                  case rel => exact ⟨k + 1, g9, c9, n + 5, by go_num, by omega, rfl, by omega, hide (by rw [unhide NX]; first | exact unhide O9 | (rw [ws]; exact unhide O9) | (rw [← List.append_assoc]; exact unhide O9) | (rw [← List.append_assoc, ws]; exact unhide O9)), B9⟩
                  case measure => simp [intOf]; omega
                · have e : k = x.b.ls.length := by omega
                  subst e
                  have O := unhide HO
                  rw [List.take_length] at O
                  have HO := hide O
                  clear O hk t
                  have cg := (unhide S1).c.c4
                  go_wp2_with (first | (at_builtin; refine wp_catI _ rfl _ _ rfl W0.heap.size g n c 1 _ [(x.b.ts.length : Int)] _ 1 rfl rfl (own_allocI (unhide HO) _) rfl (lit1 _ _) (by omega) (by simp; omega) ?_) | go_in)
                  intro g9 c9 u9 o9 gr9 loc9
                  have O4 := hide (show Ints.Own u9 W0.heap.size g9 (n + 1) c9 (A3 ++ x.b.ls.flatMap row5 ++ [(x.b.ts.length : Int)]) from by first | exact o9 | (rw [List.append_assoc]; exact o9) | (rw [ws]; exact o9) | (rw [ws, List.append_assoc]; exact o9))
                  have B4 := hide (((unhide HB).alloc bs (.cells #[.int .i64 (x.b.ts.length : Int)] 3)).grown gr9 (by simp; omega) (fun j hj => by cases hj; exact og.1))
                  have n9 : n + 1 ≤ 1 + 2 * 1048576 + 1 + 2 * 1048576 + 1 + 3 * 1048576 + 1 + 5 * 1048576 + 1 := by omega
                  clear o9 gr9 loc9 HO HB S1 cf cg bs og
                  generalize hA : A3 ++ x.b.ls.flatMap row5 ++ [(x.b.ts.length : Int)] = A4 at *
                  have HA4 := hide hA
                  clear hA
                  go_wp2
                  go_loopw [3, 9, 10] (fun l i _ wr => ∃ (k g c n : Nat), i = .int .i64 k ∧ k ≤ x.b.ts.length ∧ l = .slice (some ⟨g, 0, none⟩) n c ∧ n ≤ 1 + 2 * 1048576 + 1 + 2 * 1048576 + 1 + 3 * 1048576 + 1 + 5 * 1048576 + 1 + 8 * k ∧ Hid (Ints.Own wr W0.heap.size g n c (A4 ++ (x.b.ts.take k).flatMap row8)) ∧ Hid (Below W0.heap.size W0 wr)) (fun _ i _ _ => x.b.ts.length - (intOf i).toNat)
                  case atStart => exact ⟨0, _, _, _, rfl, by omega, rfl, by omega, hide (by simpa using unhide O4), B4⟩
                  case round =>
                    clear O4 B4
                    obtain ⟨k, g, c, n, rfl, hk, rfl, nk, HO, HB⟩ := hrel
                    have bs := (unhide HB).size
                    have og := (unhide HO).lt
                    have S1 := hide ((unhide S0).step (unhide HB))
                    have cf := (unhide S1).c.c4
                    by_cases t : k < x.b.ts.length
                    · have kt : (k : Int) < x.b.ts.length := by omega
                      have d := (unhide S1).r.rt k t
                      have lg := (unhide S1).r.lt
                      have NX := hide (flat_more (f := row8) ((0, 0, 0, 0, 0, 0, 0, 0) : T8) t)
                      change Hid (_ = _ ++ row8 (el8 x.b.ts k)) at NX
                      change wr.cell? ⟨x.gt, k * 8, none⟩ = some (.int .i64 (el8 x.b.ts k).1) ∧ wr.cell? ⟨x.gt, k * 8 + 1, none⟩ = some (.int .i64 (el8 x.b.ts k).2.1) ∧ wr.cell? ⟨x.gt, k * 8 + 2, none⟩ = some (.int .i64 (el8 x.b.ts k).2.2.1) ∧ wr.cell? ⟨x.gt, k * 8 + 3, none⟩ = some (.int .i64 (el8 x.b.ts k).2.2.2.1) ∧ wr.cell? ⟨x.gt, k * 8 + 4, none⟩ = some (.int .i64 (el8 x.b.ts k).2.2.2.2.1) ∧ wr.cell? ⟨x.gt, k * 8 + 5, none⟩ = some (.int .i64 (el8 x.b.ts k).2.2.2.2.2.1) ∧ wr.cell? ⟨x.gt, k * 8 + 6, none⟩ = some (.int .i64 (el8 x.b.ts k).2.2.2.2.2.2.1) ∧ wr.cell? ⟨x.gt, k * 8 + 7, none⟩ = some (.int .i64 (el8 x.b.ts k).2.2.2.2.2.2.2) at d
                      generalize el8 x.b.ts k = p at *
                      obtain ⟨p0, p1, p2, p3, p4, p5, p6, p7⟩ := p
                      obtain ⟨d0, d1, d2, d3, d4, d5, d6, d7⟩ := d
                      have LL := hide (lit8 (wr.alloc (.cells #[.int .i64 p0, .int .i64 p1, .int .i64 p2, .int .i64 p3, .int .i64 p4, .int .i64 p5, .int .i64 p6, .int .i64 p7] 141)) p0 p1 p2 p3 p4 p5 p6 p7)
                      rw [show (wr.alloc (.cells #[.int .i64 p0, .int .i64 p1, .int .i64 p2, .int .i64 p3, .int .i64 p4, .int .i64 p5, .int .i64 p6, .int .i64 p7] 141)).heap.size = wr.heap.size + 1 by simp] at LL
                      go_wp2_with (first | (at_builtin; refine wp_catI _ rfl _ _ rfl W0.heap.size g n c 8 _ [p0, p1, p2, p3, p4, p5, p6, p7] (wr.heap.size + 1) 8 rfl rfl (own_allocI (own_allocI (unhide HO) _) _) rfl (unhide LL) (by omega) (by simp; omega) ?_) | go_in)
                      intro g9 c9 u9 o9 gr9 loc9
                      have O9 := hide o9
                      have B9 := hide ((((unhide HB).alloc bs (.cells #[.int .i64 p0, .int .i64 p1, .int .i64 p2, .int .i64 p3, .int .i64 p4, .int .i64 p5, .int .i64 p6, .int .i64 p7] 141)).alloc (by simp; omega) (.cells #[.int .i64 p0, .int .i64 p1, .int .i64 p2, .int .i64 p3, .int .i64 p4, .int .i64 p5, .int .i64 p6, .int .i64 p7] 3)).grown gr9 (by simp; omega) (fun j hj => by cases hj; exact og.1))
                      clear o9 gr9 loc9
                      go_wp2
                      go_roundw
                      case rel => exact ⟨k + 1, g9, c9, n + 8, by go_num, by omega, rfl, by omega, hide (by rw [unhide NX]; first | exact unhide O9 | (rw [ws]; exact unhide O9) | (rw [← List.append_assoc]; exact unhide O9) | (rw [← List.append_assoc, ws]; exact unhide O9)), B9⟩
                      case measure => simp [intOf]; omega
                    · have e : k = x.b.ts.length := by omega
                      subst e
                      have O := unhide HO
                      rw [List.take_length] at O
                      have HO := hide O
                      clear O hk t
                      have cg := (unhide S1).c.c5
                      go_wp2_with (first | (at_builtin; refine wp_catI _ rfl _ _ rfl W0.heap.size g n c 1 _ [x.b.lot] _ 1 rfl rfl (own_allocI (unhide HO) _) rfl (lit1 _ _) (by omega) (by simp; omega) ?_) | go_in)
                      intro g9 c9 u9 o9 gr9 loc9
                      have O9 := hide o9
                      have B9 := hide (((unhide HB).alloc bs (.cells #[.int .i64 x.b.lot] 3)).grown gr9 (by simp; omega) (fun j hj => by cases hj; exact og.1))
                      clear o9 gr9 loc9
                      go_wp2
                      go_ret
                      have E : A4 ++ x.b.ts.flatMap row8 ++ [x.b.lot] = nums x.b := by rw [← unhide HA4, ← unhide HA3, ← unhide HA2, ← unhide HA1, ← unhide HA0]; rfl
                      have O : Ints.Own u9 W0.heap.size g9 (n + 1) c9 (A4 ++ x.b.ts.flatMap row8 ++ [x.b.lot]) := by first | exact unhide O9 | (rw [List.append_assoc]; exact unhide O9) | (rw [ws]; exact unhide O9) | (rw [ws, List.append_assoc]; exact unhide O9)
                      rw [E] at O
                      have l := O.len
                      refine ⟨g9, c9, ?_, ?_, ((unhide S0).b.trans ((unhide B9).mono (by omega)))⟩
                      · rw [l]; rfl
                      · rw [l]; exact O.mono (by omega)
end Go.Proofs.YtagmnociflkhcaaGreat.SNums13
namespace Go.Proofs.YtagmnociflkhcaaGreat.AccountSOk
open Go.ChangeShapes Go.WideShapes Go.ChangeAt Go.RowKit Pairs Chart
def Tells (b : Bool) (x lo hi : Int) : Prop := b = true ↔ lo ≤ x ∧ x ≤ hi
theorem tells_of (x lo hi : Int) : ∃ b, Tells b x lo hi := bool_of _
theorem sIn (x lo hi : Int) (b : Bool) (w : World) (hb : Tells b x lo hi) :
    Calls Tryz.prog 35 #[.int .i64 x, .int .i64 lo, .int .i64 hi] w fun e w' => e = .returned (.bool b) ∧ w' = w := by
  cases b
  · have H := hide (show lo ≤ x → ¬ x ≤ hi from fun h1 h2 => Bool.noConfusion ((unhide hb).2 ⟨h1, h2⟩))
    clear hb
    by_cases h1 : lo ≤ x
    · have h2 := (unhide H) h1
      clear H
      go_enter Tryz.func35, Tryz.ntmps35
      go_wp2
      go_ret
      exact ⟨rfl, rfl⟩
    · clear H
      go_enter Tryz.func35, Tryz.ntmps35
      go_wp2
      go_ret
      exact ⟨rfl, rfl⟩
  · obtain ⟨h1, h2⟩ := (unhide hb).1 rfl
    clear hb
    go_enter Tryz.func35, Tryz.ntmps35
    go_wp2
    go_ret
    exact ⟨rfl, rfl⟩
theorem sNo (x : Int) (b : Bool) (w : World) (hb : Tells b x 1 1000) :
    Calls Tryz.prog 121 #[.int .i64 x] w fun e w' => e = .returned (.bool b) ∧ w' = w := by
  go_enter Tryz.func121, Tryz.ntmps121
  go_wp2_with fail
  refine (sIn x 1 1000 b _ hb).mono ?_
  rintro e w' ⟨rfl, rfl⟩
  go_wp2
  go_ret
  exact ⟨rfl, rfl⟩
theorem drewN_more {w wr : World} (h : ∃ q, wr = w.drewN q) (m : Nat) : ∃ q, wr.drewN m = w.drewN q := by
  obtain ⟨q, rfl⟩ := h
  exact ⟨q + m, World.drewN_drewN ..⟩
set_option maxRecDepth 100000 in
set_option maxHeartbeats 2000000 in
theorem sOk (w : World) (g n cap : Nat) (ps : List (Int × Int)) (ok : Bool) (hl : ps.length = n) (h20 : n ≤ 1048576) (h : At w g ps) (hok : Says ok 20 4 ps) :
    Calls Tryz.prog 95 #[.slice (some ⟨g, 0, none⟩) n cap] w fun e w' => e = .returned (.bool ok) ∧ ∃ q, w' = w.drewN q := by
  by_cases nn : (20 : Int) < (n : Int)
  · obtain rfl : ok = false := hok.not (fun r => by have := r.1; omega)
    clear hok h
    go_enter Tryz.func95, Tryz.ntmps95
    go_wp2
    go_ret
    exact ⟨rfl, 0, rfl⟩
  go_enter Tryz.func95, Tryz.ntmps95
  go_wp2
  go_loopw [3] (fun i wr => ∃ (k : Nat), k ≤ n ∧ i = .int .i64 k ∧ At wr g ps ∧ Hid (∃ q, wr = w.drewN q) ∧ Hid (∀ i, i < k → RowOk 4 ps i)) (fun i _ => n - (intOf i).toNat)
  case atStart => exact ⟨0, by omega, rfl, h, hide ⟨0, rfl⟩, hide (fun i hi => absurd hi (by omega))⟩
  case round =>
    clear h
    obtain ⟨k, hk, rfl, h, HQ, HG⟩ := hrel
    by_cases t : k < n
    · obtain ⟨e1, e2⟩ := h k (by omega)
      have e3 : 0 < k → wr.cell? ⟨g, (k - 1) * 2, none⟩ = some (.int .i64 (el ps (k - 1)).1) := fun k0 => (h (k - 1) (by omega)).1
      obtain ⟨b1, B1⟩ := tells_of (el ps k).1 1 1000
      obtain ⟨b2, B2⟩ := tells_of (el ps k).2 1 4
      have ROW := hide (show RowOk 4 ps k ↔ (b1 = true) ∧ (b2 = true) ∧ (0 < k → (el ps (k - 1)).1 < (el ps k).1) from by unfold Tells at B1 B2; rw [B1, B2]; exact Iff.rfl)
      have HA := hide h
      clear h
      have BAD := hide (show ¬ RowOk 4 ps k → ok = false from fun hr => hok.not (fun r => hr (r.2 k (by omega))))
      have GOOD := hide (show RowOk 4 ps k → ∀ i, i < k + 1 → RowOk 4 ps i from fun hr i hi => by
        by_cases e : i = k
        · subst e; exact hr
        · exact (unhide HG) i (by omega))
      generalize (el ps k).1 = x at *
      generalize (el ps k).2 = y at *
      cases b1
      · have OKF := hide ((unhide BAD) (fun hr => by have := ((unhide ROW).1 hr).1; cases this))
        clear BAD GOOD ROW e3
        go_wp2_with fail
        go_quiet (first | (go_at_call 121; refine Calls.quiet_of_same (sNo _ false _ B1)))
        go_wp2
        go_ret
        exact ⟨by rw [unhide OKF]; rfl, drewN_more (unhide HQ) _⟩
      · cases b2
        · have OKF := hide ((unhide BAD) (fun hr => by have := ((unhide ROW).1 hr).2.1; cases this))
          clear BAD GOOD ROW e3
          go_wp2_with fail
          go_quiet (first | (go_at_call 121; refine Calls.quiet_of_same (sNo _ true _ B1)) | (go_at_call 35; refine Calls.quiet_of_same (sIn _ _ _ false _ B2)))
          go_wp2
          go_ret
          exact ⟨by rw [unhide OKF]; rfl, drewN_more (unhide HQ) _⟩
        · by_cases k0 : 0 < k
          · have e3 := e3 k0
            have k1 : (0 : Int) < (k : Int) := by omega
            have k2 : (0 : Int) ≤ (k : Int) - 1 := by omega
            have k3 : ((k : Int) - 1).toNat = k - 1 := by omega
            by_cases lt : (el ps (k - 1)).1 < x
            · have GO := hide ((unhide GOOD) ((unhide ROW).2 ⟨rfl, rfl, fun _ => lt⟩))
              clear BAD GOOD ROW
              have ge : ¬ x ≤ (el ps (k - 1)).1 := by omega
              generalize (el ps (k - 1)).1 = z at *
              go_wp2_with fail
              go_quiet (first | (go_at_call 121; refine Calls.quiet_of_same (sNo _ true _ B1)) | (go_at_call 35; refine Calls.quiet_of_same (sIn _ _ _ true _ B2)))
              go_wp2
              go_roundw
              case rel => exact ⟨k + 1, by omega, by go_num, unhide HA, hide (drewN_more (unhide HQ) _), GO⟩
              case measure => simp [intOf]; omega
            · have OKF := hide ((unhide BAD) (fun hr => lt (((unhide ROW).1 hr).2.2 k0)))
              clear BAD GOOD ROW
              have ge : x ≤ (el ps (k - 1)).1 := by omega
              generalize (el ps (k - 1)).1 = z at *
              go_wp2_with fail
              go_quiet (first | (go_at_call 121; refine Calls.quiet_of_same (sNo _ true _ B1)) | (go_at_call 35; refine Calls.quiet_of_same (sIn _ _ _ true _ B2)))
              go_wp2
              go_ret
              exact ⟨by rw [unhide OKF]; rfl, drewN_more (unhide HQ) _⟩
          · obtain rfl : k = 0 := by omega
            have GO := hide ((unhide GOOD) ((unhide ROW).2 ⟨rfl, rfl, fun h0 => absurd h0 k0⟩))
            clear BAD GOOD ROW e3
            go_wp2_with fail
            go_quiet (first | (go_at_call 121; refine Calls.quiet_of_same (sNo _ true _ B1)) | (go_at_call 35; refine Calls.quiet_of_same (sIn _ _ _ true _ B2)))
            go_wp2
            go_roundw
            case rel => exact ⟨1, by omega, by go_num, unhide HA, hide (drewN_more (unhide HQ) _), GO⟩
            case measure => simp [intOf]; omega
    · obtain rfl : k = n := by omega
      obtain rfl : ok = true := hok.of ⟨by omega, by rw [hl]; exact unhide HG⟩
      clear h hok
      go_wp2
      go_ret
      exact ⟨rfl, unhide HQ⟩
set_option maxRecDepth 100000 in
set_option maxHeartbeats 2000000 in
theorem sKind (w : World) (g n cap : Nat) (ps : List (Int × Int)) (no : Int) (hl : ps.length = n) (h20 : n ≤ 1048576) (h : At w g ps) :
    Calls Tryz.prog 102 #[.slice (some ⟨g, 0, none⟩) n cap, .int .i64 no] w fun e w' => ∃ r, IsKind 20 4 ps no r ∧ e = .returned (.int .i64 r) ∧ ∃ q, w' = w.drewN q := by
  obtain ⟨ok, OK⟩ := says_of 20 4 ps
  go_enter Tryz.func102, Tryz.ntmps102
  go_wp2
  go_loopw [5] (fun i wr => ∃ (k : Nat), k ≤ n ∧ i = .int .i64 k ∧ At wr g ps ∧ Hid (∃ q, wr = w.drewN q) ∧ Hid (∀ i, i < k → (el ps i).1 ≠ no)) (fun i _ => n - (intOf i).toNat)
  case atStart => exact ⟨0, by omega, rfl, h, hide ⟨0, rfl⟩, hide (fun i hi => absurd hi (by omega))⟩
  case round =>
    clear h
    obtain ⟨k, hk, rfl, h, HQ, HG⟩ := hrel
    by_cases t : k < n
    · obtain ⟨e1, e2⟩ := h k (by omega)
      have HA := hide h
      clear h
      have GO := hide (show (el ps k).1 ≠ no → ∀ i, i < k + 1 → (el ps i).1 ≠ no from fun hn i hi => by
        by_cases e : i = k
        · subst e; exact hn
        · exact (unhide HG) i (by omega))
      have YES := hide (show ok = true → (el ps k).1 = no → IsKind 20 4 ps no (el ps k).2 from fun ho he => .inl ⟨OK.1 ho, k, by omega, he, rfl⟩)
      generalize (el ps k).1 = x at *
      generalize (el ps k).2 = y at *
      cases ok
      · go_wp2_with fail
        refine (sOk _ _ _ _ ps false hl h20 (unhide HA) OK).mono ?_
        rintro e w2 ⟨rfl, nq, rfl⟩
        go_wp2
        go_ret
        exact ⟨0, .inr ⟨.inl OK.no, rfl⟩, rfl, drewN_more (unhide HQ) _⟩
      · go_wp2_with fail
        refine (sOk _ _ _ _ ps true hl h20 (unhide HA) OK).mono ?_
        rintro e w2 ⟨rfl, nq, rfl⟩
        by_cases eq : x = no
        · have Y := hide ((unhide YES) (by trivial) eq)
          clear YES GO
          subst eq
          go_wp2
          go_ret
          exact ⟨y, unhide Y, rfl, drewN_more (unhide HQ) _⟩
        · have eqb : (x == no) = false := by simpa using eq
          have G := hide ((unhide GO) eq)
          clear YES GO
          go_wp2
          go_roundw
          case rel => exact ⟨k + 1, by omega, by go_num, unhide HA, hide (drewN_more (unhide HQ) _), G⟩
          case measure => simp [intOf]; omega
    · obtain rfl : k = n := by omega
      have K0 := hide (show IsKind 20 4 ps no 0 from .inr ⟨.inr (fun i hi => (unhide HG) i (by omega)), rfl⟩)
      clear h
      go_wp2
      go_ret
      exact ⟨0, unhide K0, rfl, unhide HQ⟩
end Go.Proofs.YtagmnociflkhcaaGreat.AccountSOk
namespace Go.Proofs.YtagmnociflkhcaaGreat.InstrSOk
open Go.ChangeShapes Go.WideShapes Go.ChangeAt Go.RowKit Pairs Chart
def Tells (b : Bool) (x lo hi : Int) : Prop := b = true ↔ lo ≤ x ∧ x ≤ hi
theorem tells_of (x lo hi : Int) : ∃ b, Tells b x lo hi := bool_of _
theorem sIn (x lo hi : Int) (b : Bool) (w : World) (hb : Tells b x lo hi) :
    Calls Tryz.prog 35 #[.int .i64 x, .int .i64 lo, .int .i64 hi] w fun e w' => e = .returned (.bool b) ∧ w' = w := by
  cases b
  · have H := hide (show lo ≤ x → ¬ x ≤ hi from fun h1 h2 => Bool.noConfusion ((unhide hb).2 ⟨h1, h2⟩))
    clear hb
    by_cases h1 : lo ≤ x
    · have h2 := (unhide H) h1
      clear H
      go_enter Tryz.func35, Tryz.ntmps35
      go_wp2
      go_ret
      exact ⟨rfl, rfl⟩
    · clear H
      go_enter Tryz.func35, Tryz.ntmps35
      go_wp2
      go_ret
      exact ⟨rfl, rfl⟩
  · obtain ⟨h1, h2⟩ := (unhide hb).1 rfl
    clear hb
    go_enter Tryz.func35, Tryz.ntmps35
    go_wp2
    go_ret
    exact ⟨rfl, rfl⟩
theorem sNo (x : Int) (b : Bool) (w : World) (hb : Tells b x 1 1000) :
    Calls Tryz.prog 121 #[.int .i64 x] w fun e w' => e = .returned (.bool b) ∧ w' = w := by
  go_enter Tryz.func121, Tryz.ntmps121
  go_wp2_with fail
  refine (sIn x 1 1000 b _ hb).mono ?_
  rintro e w' ⟨rfl, rfl⟩
  go_wp2
  go_ret
  exact ⟨rfl, rfl⟩
theorem drewN_more {w wr : World} (h : ∃ q, wr = w.drewN q) (m : Nat) : ∃ q, wr.drewN m = w.drewN q := by
  obtain ⟨q, rfl⟩ := h
  exact ⟨q + m, World.drewN_drewN ..⟩
set_option maxRecDepth 100000 in
set_option maxHeartbeats 2000000 in
theorem sOk (w : World) (g n cap : Nat) (ps : List (Int × Int)) (ok : Bool) (hl : ps.length = n) (h20 : n ≤ 1048576) (h : At w g ps) (hok : Says ok 8 2 ps) :
    Calls Tryz.prog 96 #[.slice (some ⟨g, 0, none⟩) n cap] w fun e w' => e = .returned (.bool ok) ∧ ∃ q, w' = w.drewN q := by
  by_cases nn : (8 : Int) < (n : Int)
  · obtain rfl : ok = false := hok.not (fun r => by have := r.1; omega)
    clear hok h
    go_enter Tryz.func96, Tryz.ntmps96
    go_wp2
    go_ret
    exact ⟨rfl, 0, rfl⟩
  go_enter Tryz.func96, Tryz.ntmps96
  go_wp2
  go_loopw [3] (fun i wr => ∃ (k : Nat), k ≤ n ∧ i = .int .i64 k ∧ At wr g ps ∧ Hid (∃ q, wr = w.drewN q) ∧ Hid (∀ i, i < k → RowOk 2 ps i)) (fun i _ => n - (intOf i).toNat)
  case atStart => exact ⟨0, by omega, rfl, h, hide ⟨0, rfl⟩, hide (fun i hi => absurd hi (by omega))⟩
  case round =>
    clear h
    obtain ⟨k, hk, rfl, h, HQ, HG⟩ := hrel
    by_cases t : k < n
    · obtain ⟨e1, e2⟩ := h k (by omega)
      have e3 : 0 < k → wr.cell? ⟨g, (k - 1) * 2, none⟩ = some (.int .i64 (el ps (k - 1)).1) := fun k0 => (h (k - 1) (by omega)).1
      obtain ⟨b1, B1⟩ := tells_of (el ps k).1 1 1000
      obtain ⟨b2, B2⟩ := tells_of (el ps k).2 1 2
      have ROW := hide (show RowOk 2 ps k ↔ (b1 = true) ∧ (b2 = true) ∧ (0 < k → (el ps (k - 1)).1 < (el ps k).1) from by unfold Tells at B1 B2; rw [B1, B2]; exact Iff.rfl)
      have HA := hide h
      clear h
      have BAD := hide (show ¬ RowOk 2 ps k → ok = false from fun hr => hok.not (fun r => hr (r.2 k (by omega))))
      have GOOD := hide (show RowOk 2 ps k → ∀ i, i < k + 1 → RowOk 2 ps i from fun hr i hi => by
        by_cases e : i = k
        · subst e; exact hr
        · exact (unhide HG) i (by omega))
      generalize (el ps k).1 = x at *
      generalize (el ps k).2 = y at *
      cases b1
      · have OKF := hide ((unhide BAD) (fun hr => by have := ((unhide ROW).1 hr).1; cases this))
        clear BAD GOOD ROW e3
        go_wp2_with fail
        go_quiet (first | (go_at_call 121; refine Calls.quiet_of_same (sNo _ false _ B1)))
        go_wp2
        go_ret
        exact ⟨by rw [unhide OKF]; rfl, drewN_more (unhide HQ) _⟩
      · cases b2
        · have OKF := hide ((unhide BAD) (fun hr => by have := ((unhide ROW).1 hr).2.1; cases this))
          clear BAD GOOD ROW e3
          go_wp2_with fail
          go_quiet (first | (go_at_call 121; refine Calls.quiet_of_same (sNo _ true _ B1)) | (go_at_call 35; refine Calls.quiet_of_same (sIn _ _ _ false _ B2)))
          go_wp2
          go_ret
          exact ⟨by rw [unhide OKF]; rfl, drewN_more (unhide HQ) _⟩
        · by_cases k0 : 0 < k
          · have e3 := e3 k0
            have k1 : (0 : Int) < (k : Int) := by omega
            have k2 : (0 : Int) ≤ (k : Int) - 1 := by omega
            have k3 : ((k : Int) - 1).toNat = k - 1 := by omega
            by_cases lt : (el ps (k - 1)).1 < x
            · have GO := hide ((unhide GOOD) ((unhide ROW).2 ⟨rfl, rfl, fun _ => lt⟩))
              clear BAD GOOD ROW
              have ge : ¬ x ≤ (el ps (k - 1)).1 := by omega
              generalize (el ps (k - 1)).1 = z at *
              go_wp2_with fail
              go_quiet (first | (go_at_call 121; refine Calls.quiet_of_same (sNo _ true _ B1)) | (go_at_call 35; refine Calls.quiet_of_same (sIn _ _ _ true _ B2)))
              go_wp2
              go_roundw
              case rel => exact ⟨k + 1, by omega, by go_num, unhide HA, hide (drewN_more (unhide HQ) _), GO⟩
              case measure => simp [intOf]; omega
            · have OKF := hide ((unhide BAD) (fun hr => lt (((unhide ROW).1 hr).2.2 k0)))
              clear BAD GOOD ROW
              have ge : x ≤ (el ps (k - 1)).1 := by omega
              generalize (el ps (k - 1)).1 = z at *
              go_wp2_with fail
              go_quiet (first | (go_at_call 121; refine Calls.quiet_of_same (sNo _ true _ B1)) | (go_at_call 35; refine Calls.quiet_of_same (sIn _ _ _ true _ B2)))
              go_wp2
              go_ret
              exact ⟨by rw [unhide OKF]; rfl, drewN_more (unhide HQ) _⟩
          · obtain rfl : k = 0 := by omega
            have GO := hide ((unhide GOOD) ((unhide ROW).2 ⟨rfl, rfl, fun h0 => absurd h0 k0⟩))
            clear BAD GOOD ROW e3
            go_wp2_with fail
            go_quiet (first | (go_at_call 121; refine Calls.quiet_of_same (sNo _ true _ B1)) | (go_at_call 35; refine Calls.quiet_of_same (sIn _ _ _ true _ B2)))
            go_wp2
            go_roundw
            case rel => exact ⟨1, by omega, by go_num, unhide HA, hide (drewN_more (unhide HQ) _), GO⟩
            case measure => simp [intOf]; omega
    · obtain rfl : k = n := by omega
      obtain rfl : ok = true := hok.of ⟨by omega, by rw [hl]; exact unhide HG⟩
      clear h hok
      go_wp2
      go_ret
      exact ⟨rfl, unhide HQ⟩
set_option maxRecDepth 100000 in
set_option maxHeartbeats 2000000 in
theorem sKind (w : World) (g n cap : Nat) (ps : List (Int × Int)) (no : Int) (hl : ps.length = n) (h20 : n ≤ 1048576) (h : At w g ps) :
    Calls Tryz.prog 103 #[.slice (some ⟨g, 0, none⟩) n cap, .int .i64 no] w fun e w' => ∃ r, IsKind 8 2 ps no r ∧ e = .returned (.int .i64 r) ∧ ∃ q, w' = w.drewN q := by
  obtain ⟨ok, OK⟩ := says_of 8 2 ps
  go_enter Tryz.func103, Tryz.ntmps103
  go_wp2
  go_loopw [5] (fun i wr => ∃ (k : Nat), k ≤ n ∧ i = .int .i64 k ∧ At wr g ps ∧ Hid (∃ q, wr = w.drewN q) ∧ Hid (∀ i, i < k → (el ps i).1 ≠ no)) (fun i _ => n - (intOf i).toNat)
  case atStart => exact ⟨0, by omega, rfl, h, hide ⟨0, rfl⟩, hide (fun i hi => absurd hi (by omega))⟩
  case round =>
    clear h
    obtain ⟨k, hk, rfl, h, HQ, HG⟩ := hrel
    by_cases t : k < n
    · obtain ⟨e1, e2⟩ := h k (by omega)
      have HA := hide h
      clear h
      have GO := hide (show (el ps k).1 ≠ no → ∀ i, i < k + 1 → (el ps i).1 ≠ no from fun hn i hi => by
        by_cases e : i = k
        · subst e; exact hn
        · exact (unhide HG) i (by omega))
      have YES := hide (show ok = true → (el ps k).1 = no → IsKind 8 2 ps no (el ps k).2 from fun ho he => .inl ⟨OK.1 ho, k, by omega, he, rfl⟩)
      generalize (el ps k).1 = x at *
      generalize (el ps k).2 = y at *
      cases ok
      · go_wp2_with fail
        refine (sOk _ _ _ _ ps false hl h20 (unhide HA) OK).mono ?_
        rintro e w2 ⟨rfl, nq, rfl⟩
        go_wp2
        go_ret
        exact ⟨0, .inr ⟨.inl OK.no, rfl⟩, rfl, drewN_more (unhide HQ) _⟩
      · go_wp2_with fail
        refine (sOk _ _ _ _ ps true hl h20 (unhide HA) OK).mono ?_
        rintro e w2 ⟨rfl, nq, rfl⟩
        by_cases eq : x = no
        · have Y := hide ((unhide YES) (by trivial) eq)
          clear YES GO
          subst eq
          go_wp2
          go_ret
          exact ⟨y, unhide Y, rfl, drewN_more (unhide HQ) _⟩
        · have eqb : (x == no) = false := by simpa using eq
          have G := hide ((unhide GO) eq)
          clear YES GO
          go_wp2
          go_roundw
          case rel => exact ⟨k + 1, by omega, by go_num, unhide HA, hide (drewN_more (unhide HQ) _), G⟩
          case measure => simp [intOf]; omega
    · obtain rfl : k = n := by omega
      have K0 := hide (show IsKind 8 2 ps no 0 from .inr ⟨.inr (fun i hi => (unhide HG) i (by omega)), rfl⟩)
      clear h
      go_wp2
      go_ret
      exact ⟨0, unhide K0, rfl, unhide HQ⟩
end Go.Proofs.YtagmnociflkhcaaGreat.InstrSOk
namespace Go.Proofs.YtagmnociflkhcaaGreat.SBals
open Go.ChangeShapes Go.WideShapes Go.ChangeAt Go.RowKit BMem Bks IRead IHave ITrade ILists IBalsFit
open Lots (Says says_of NoOk)
open Bals (T3 el3 val sumI)
theorem sKindA (w : World) (x : Bx) (no r : Int) (h : Rd w x) (hr : Chart.Right 20 4 x.b.ac) (hk : kindOf x.b.ac no = r) :
    Calls Tryz.prog 102 #[.slice (some ⟨x.ga, 0, none⟩) x.b.ac.length x.ca, .int .i64 no] w fun e w' => e = .returned (.int .i64 r) ∧ Below w.heap.size w w' :=
  (AccountSOk.sKind w x.ga _ x.ca x.b.ac no rfl h.na h.ra).mono fun e w' ⟨r', h1, h2, q, h3⟩ => ⟨by rw [h2, kind_is hr h1, hk], by rw [h3]; exact below_drewN (Below.refl _ _) q⟩
theorem sKindI (w : World) (x : Bx) (no r : Int) (h : Rd w x) (hr : Chart.Right 8 2 x.b.ic) (hk : kindOf x.b.ic no = r) :
    Calls Tryz.prog 103 #[.slice (some ⟨x.gi, 0, none⟩) x.b.ic.length x.ci, .int .i64 no] w fun e w' => e = .returned (.int .i64 r) ∧ Below w.heap.size w w' :=
  (InstrSOk.sKind w x.gi _ x.ci x.b.ic no rfl h.ni h.ri).mono fun e w' ⟨r', h1, h2, q, h3⟩ => ⟨by rw [h2, kind_is hr h1, hk], by rw [h3]; exact below_drewN (Below.refl _ _) q⟩
set_option maxRecDepth 100000 in
set_option maxHeartbeats 4000000 in
theorem sBals (w : World) (x : Bx) (b : Bool) (h : Rd w x) (hl : Lists x.b) (hb : Says b (BalsFit x.b)) :
    Calls Tryz.prog 100 #[.agg #[.slice (some ⟨x.ga, 0, none⟩) x.b.ac.length x.ca, .slice (some ⟨x.gi, 0, none⟩) x.b.ic.length x.ci, .slice (some ⟨x.gb, 0, none⟩) x.b.bs.length x.cb, .slice (some ⟨x.gl, 0, none⟩) x.b.ls.length x.cl, .slice (some ⟨x.gt, 0, none⟩) x.b.ts.length x.ct, .int .i64 x.b.lot]] w fun e w' => e = .returned (.bool b) ∧ Below w.heap.size w w' := by
  have T := hide hb
  have L := hide hl
  have S0 := hide (St.start h 40)
  have nb := h.nb
  clear hb hl h
  go_enter Tryz.func100, Tryz.ntmps100
  go_wp2
  go_loopw [3] (fun i wr => ∃ (k : Nat), k ≤ x.b.bs.length ∧ i = .int .i64 k ∧ St w wr x ∧ Hid (∀ j, j < k → BalFit x.b (el3 x.b.bs j) ∧ sumI x.b.bs (el3 x.b.bs j).2.1 = 0)) (fun i _ => x.b.bs.length - (intOf i).toNat)
  case atStart => exact ⟨0, by omega, rfl, unhide S0, hide (fun i hi => absurd hi (by omega))⟩
  case round =>
    obtain ⟨k, hk, rfl, hS, HG⟩ := hrel
    clear S0
    by_cases t : k < x.b.bs.length
    · obtain ⟨d0, d1, d2⟩ := (hS.r.rb k t)
      obtain ⟨c0, c1, c2, c3, c4, c5⟩ := hS.c
      have BAD := hide (show ¬ (BalFit x.b (el3 x.b.bs k) ∧ sumI x.b.bs (el3 x.b.bs k).2.1 = 0) → b = false from fun hr => (unhide T).not (fun r => hr ⟨r.1 k t, r.2 _⟩))
      have GOOD := hide (show (BalFit x.b (el3 x.b.bs k) ∧ sumI x.b.bs (el3 x.b.bs k).2.1 = 0) → ∀ i, i < k + 1 → BalFit x.b (el3 x.b.bs i) ∧ sumI x.b.bs (el3 x.b.bs i).2.1 = 0 from fun hr i hi => by
        by_cases e : i = k
        · subst e; exact hr
        · exact (unhide HG) i (by omega))
      have FIT := hide (show BalFit x.b (el3 x.b.bs k) ↔ kindOf x.b.ac (el3 x.b.bs k).1 ≠ 0 ∧ kindOf x.b.ic (el3 x.b.bs k).2.1 ≠ 0 ∧ ¬ (kindOf x.b.ac (el3 x.b.bs k).1 = 1 ∧ (el3 x.b.bs k).2.2 < 0) from Iff.rfl)
      have wz := hS.s
      have S1 := hide (hS.step (one_more wr (.cells #[.int .i64 (el3 x.b.bs k).1, .int .i64 (el3 x.b.bs k).2.1, .int .i64 (el3 x.b.bs k).2.2] 146)))
      clear hS
      generalize BalFit x.b (el3 x.b.bs k) = FP at *
      generalize (el3 x.b.bs k).1 = y0 at *
      generalize (el3 x.b.bs k).2.1 = y1 at *
      generalize (el3 x.b.bs k).2.2 = y2 at *
      generalize hK : kindOf x.b.ac y0 = K at *
      generalize hJ : kindOf x.b.ic y1 = J at *
      have HK := hide hK
      have HJ := hide hJ
      clear hK hJ
      go_wp2_with fail
      refine (sKindA _ x y0 K (unhide S1).r (unhide L).1 (unhide HK)).mono ?_
      rintro e w1 ⟨rfl, bb⟩
      have S2 := hide ((unhide S1).step bb)
      have f0 : w1.cell? ⟨wr.heap.size, 0, none⟩ = some (.int .i64 y0) := (bb.cell (p := ⟨wr.heap.size, 0, none⟩) (by simp)).trans (by simp)
      have f1 : w1.cell? ⟨wr.heap.size, 1, none⟩ = some (.int .i64 y1) := (bb.cell (p := ⟨wr.heap.size, 1, none⟩) (by simp)).trans (by simp)
      have f2 : w1.cell? ⟨wr.heap.size, 2, none⟩ = some (.int .i64 y2) := (bb.cell (p := ⟨wr.heap.size, 2, none⟩) (by simp)).trans (by simp)
      have z1 : wr.heap.size < w1.heap.size := by have := bb.size; simp at this; omega
      clear bb c0 c1 c2 c3 c4 c5 d0 d1 d2
      obtain ⟨c0, c1, c2, c3, c4, c5⟩ := (unhide S2).c
      by_cases q0 : K = 0
      · have F := hide ((unhide BAD) (fun hh => ((unhide FIT).1 hh.1).1 q0))
        have hq : (K == 0) = true := by simp [q0]
        clear BAD GOOD FIT T q0
        go_wp2
        go_ret
        exact ⟨by rw [unhide F]; rfl, (unhide S2).b⟩
      have hq0 : (K == 0) = false := by simp [q0]
      have Q0 := hide q0
      clear q0
      go_wp2_with fail
      refine (sKindI _ x y1 J (unhide S2).r (unhide L).2.1 (unhide HJ)).mono ?_
      rintro e w2 ⟨rfl, bb⟩
      have S3 := hide ((unhide S2).step bb)
      replace f0 : w2.cell? ⟨wr.heap.size, 0, none⟩ = some (.int .i64 y0) := (bb.cell (p := ⟨wr.heap.size, 0, none⟩) z1).trans f0
      replace f1 : w2.cell? ⟨wr.heap.size, 1, none⟩ = some (.int .i64 y1) := (bb.cell (p := ⟨wr.heap.size, 1, none⟩) z1).trans f1
      replace f2 : w2.cell? ⟨wr.heap.size, 2, none⟩ = some (.int .i64 y2) := (bb.cell (p := ⟨wr.heap.size, 2, none⟩) z1).trans f2
      have z2 : wr.heap.size < w2.heap.size := Nat.lt_of_lt_of_le z1 bb.size
      clear bb c0 c1 c2 c3 c4 c5
      obtain ⟨c0, c1, c2, c3, c4, c5⟩ := (unhide S3).c
      by_cases q1 : J = 0
      · have F := hide ((unhide BAD) (fun hh => ((unhide FIT).1 hh.1).2.1 q1))
        have hq : (J == 0) = true := by simp [q1]
        clear BAD GOOD FIT T q1
        go_wp2
        go_ret
        exact ⟨by rw [unhide F]; rfl, (unhide S3).b⟩
      have hq1 : (J == 0) = false := by simp [q1]
      have Q1 := hide q1
      clear q1
      by_cases q2 : K = 1
      · have hq2 : (K == 1) = true := by simp [q2]
        by_cases q3 : y2 < 0
        · have F := hide ((unhide BAD) (fun hh => ((unhide FIT).1 hh.1).2.2 ⟨q2, q3⟩))
          clear BAD GOOD FIT T q2
          go_wp2
          go_ret
          exact ⟨by rw [unhide F]; rfl, (unhide S3).b⟩
        have FP' := hide ((unhide FIT).2 ⟨unhide Q0, unhide Q1, fun r => q3 r.2⟩)
        have hq3 : decide (y2 < 0) = false := decide_eq_false q3
        clear q2 q3 FIT
        obtain ⟨r, c, hs⟩ := Look.sum_is x.b.bs y1
        have Z := hide (sum_zero (unhide L).2.2.1 hs)
        have HS := hide hs
        clear hs
        go_wp2_with fail
        refine (Look.sSum _ x.gb _ x.cb x.b.bs y1 r c rfl nb (unhide S3).r.lb (unhide S3).r.rb (unhide HS)).mono ?_
        rintro e w3 ⟨rfl, bb⟩
        have S4 := hide ((unhide S3).step bb)
        clear bb c0 c1 c2 c3 c4 c5 f0 f1 f2
        cases c
        · have F := hide ((unhide BAD) (fun e => by have := (unhide Z).2 e.2; cases this.1))
          clear BAD GOOD T
          go_wp2
          go_ret
          exact ⟨by rw [unhide F]; rfl, (unhide S4).b⟩
        by_cases q : r = 0
        · have G := hide ((unhide GOOD) ⟨unhide FP', (unhide Z).1 ⟨rfl, q⟩⟩)
          have hq : (r != 0) = false := by simp [q]
          clear BAD GOOD q
          go_wp2
          go_roundw
          case rel => exact ⟨k + 1, by omega, by go_num, unhide S4, G⟩
          case measure => simp [intOf]; omega
        · have F := hide ((unhide BAD) (fun e => q ((unhide Z).2 e.2).2))
          have hq : (r != 0) = true := by simp [q]
          clear BAD GOOD T q
          go_wp2
          go_ret
          exact ⟨by rw [unhide F]; rfl, (unhide S4).b⟩
      · have hq2 : (K == 1) = false := by simp [q2]
        have FP' := hide ((unhide FIT).2 ⟨unhide Q0, unhide Q1, fun r => q2 r.1⟩)
        clear q2 FIT
        obtain ⟨r, c, hs⟩ := Look.sum_is x.b.bs y1
        have Z := hide (sum_zero (unhide L).2.2.1 hs)
        have HS := hide hs
        clear hs
        go_wp2_with fail
        refine (Look.sSum _ x.gb _ x.cb x.b.bs y1 r c rfl nb (unhide S3).r.lb (unhide S3).r.rb (unhide HS)).mono ?_
        rintro e w3 ⟨rfl, bb⟩
        have S4 := hide ((unhide S3).step bb)
        clear bb c0 c1 c2 c3 c4 c5 f0 f1 f2
        cases c
        · have F := hide ((unhide BAD) (fun e => by have := (unhide Z).2 e.2; cases this.1))
          clear BAD GOOD T
          go_wp2
          go_ret
          exact ⟨by rw [unhide F]; rfl, (unhide S4).b⟩
        by_cases q : r = 0
        · have G := hide ((unhide GOOD) ⟨unhide FP', (unhide Z).1 ⟨rfl, q⟩⟩)
          have hq : (r != 0) = false := by simp [q]
          clear BAD GOOD q
          go_wp2
          go_roundw
          case rel => exact ⟨k + 1, by omega, by go_num, unhide S4, G⟩
          case measure => simp [intOf]; omega
        · have F := hide ((unhide BAD) (fun e => q ((unhide Z).2 e.2).2))
          have hq : (r != 0) = true := by simp [q]
          clear BAD GOOD T q
          go_wp2
          go_ret
          exact ⟨by rw [unhide F]; rfl, (unhide S4).b⟩
    · have F := hide ((unhide T).of (bals_spec (fun j hj => (unhide HG) j (by omega))))
      obtain ⟨c0, c1, c2, c3, c4, c5⟩ := hS.c
      have S1 := hide hS
      clear hS
      go_wp2
      go_ret
      exact ⟨by rw [unhide F]; rfl, (unhide S1).b⟩
end Go.Proofs.YtagmnociflkhcaaGreat.SBals
namespace Go.Proofs.YtagmnociflkhcaaGreat.Legs
open Go.ChangeShapes Go.WideShapes Go.ChangeAt Go.RowKit Bals Triples Cmp SOk3 IOk3 Tab Look
def STab (w : World) (B n : Nat) (g : Int → Int) : Prop := ∃ D : D0, w.ownsMap Tryz.prog 3 (plainElem Tryz.prog 3) B n D ∧ ∀ i, (Lit.int .i64 i).wf = true → D.atKey (.int .i64 i) (.lit (.int .i64 0)) = .lit (.int .i64 (g i))
theorem STab.kept {w w' : World} {B n : Nat} {f : Int → Int} {row : Option Nat} (h : STab w B n f) (hg : w.grownBy w' row) (hne : some B ≠ row) : STab w' B n f := by
  obtain ⟨D, h1, h2⟩ := h
  exact ⟨D, h1.kept hg hne, h2⟩
theorem STab.lt {w : World} {B n : Nat} {f : Int → Int} (h : STab w B n f) : B < w.heap.size := by
  obtain ⟨D, h1, _⟩ := h
  exact h1.lt
def RSTab (w : World) (B r n : Nat) (g : Int → Int) (left : Int → Bool) (cnt : Nat) : Prop :=
  ∃ (D : D0) (lf : Lit → Bool), w.ranges Tryz.prog 3 (plainElem Tryz.prog 3) B r n D lf cnt ∧ (∀ i, (Lit.int .i64 i).wf = true → D.atKey (.int .i64 i) (.lit (.int .i64 0)) = .lit (.int .i64 (g i))) ∧ ∀ i, left i = lf (.int .i64 i)
theorem RSTab.left_eq {w : World} {B r n : Nat} {f : Int → Int} {left : Int → Bool} {cnt : Nat} (h : RSTab w B r n f left cnt) : w.rangeLeft B r = cnt := by
  obtain ⟨D, lf, h1, _⟩ := h
  exact h1.left_eq
end Go.Proofs.YtagmnociflkhcaaGreat.Legs
namespace Go.Proofs.YtagmnociflkhcaaGreat.BalApp
open Go.ChangeShapes Go.WideShapes Go.ChangeAt Go.RowKit Bals Triples
theorem info2 : (Tryz.prog.info? 146).map (fun i => (i.zero, i.size, i.bytes)) = some (some (.agg #[.int .i64 0, .int .i64 0, .int .i64 0]), 3, 24) := by kernel_rfl
theorem wp_app (u : World) {ops : Array Oper} {rest : List Oper} {o : Oper} {a : Act} {Q : Exit → Act → World → Prop} (hgd : o.guard = none) (s x : Operand)
    (ho : o.op = .call { callee := .builtin .append, args := #[s, x], argTypes := #[36, 36] }) (base g n cap : Nat) (ps : List T3) (vb : Nat) (p q r : Int)
    (hs : a.eval s = .slice (some ⟨g, 0, none⟩) n cap) (hx : a.eval x = .slice (some ⟨vb, 0, none⟩) 1 1) (hown : Own3 146 u base g n cap ps) (hv : Holds3 u vb 0 (p, q, r)) (hn : n ≤ 1048576) (hb : base ≤ u.heap.size)
    (h : ∀ g' c' w', Own3 146 w' base g' (n + 1) c' (ps ++ [(p, q, r)]) → u.grownBy w' (some g) → (g' = g ∨ g' = u.heap.size) → wpList Tryz.prog ops Q rest (a.put o.dst (.slice (some ⟨g', 0, none⟩) (n + 1) c')) w') : wpList Tryz.prog ops Q (o :: rest) a u := by
  obtain ⟨i0, hi, hz0, hz1, hz2⟩ := info_parts info2
  have hat : At3 u vb [(p, q, r)] := by
    intro i hi
    obtain rfl : i = 0 := by simpa using hi
    exact hv
  refine wpList_append_own_at u hgd s x 36 ho base 146 i0 (.agg #[.int .i64 0, .int .i64 0, .int .i64 0]) 3 24 Tryz.underlying36 hi hz0 hz1 hz2 rfl (by decide) _ n _ hs hown ⟨vb, 0, none⟩ 1 1 (flat3 [(p, q, r)]) hx rfl hat.cells (fun u hu => flat3_one u _ hu) (by unfold maxLen; omega) (by omega) hb ?_
  intro v' w' own' gr' nil' loc'
  obtain ⟨g', c', rfl, o'⟩ := own3_of_row (n' := n + 1) (ps := ps ++ [(p, q, r)]) own' rfl (by rw [flat3_append]) (by rw [nil']; simp)
  exact h g' c' w' o' gr' (by simpa [Value.ownBlock] using loc')
end Go.Proofs.YtagmnociflkhcaaGreat.BalApp
namespace Go.Proofs.YtagmnociflkhcaaGreat.LotApp
open Go.ChangeShapes Go.WideShapes Go.ChangeAt Go.RowKit Tup5
theorem info2 : (Tryz.prog.info? 148).map (fun i => (i.zero, i.size, i.bytes)) = some (some (.agg #[.int .i64 0, .int .i64 0, .int .i64 0, .int .i64 0, .int .i64 0]), 5, 40) := by kernel_rfl
theorem wp_app (u : World) {ops : Array Oper} {rest : List Oper} {o : Oper} {a : Act} {Q : Exit → Act → World → Prop} (hgd : o.guard = none) (s x : Operand)
    (ho : o.op = .call { callee := .builtin .append, args := #[s, x], argTypes := #[37, 37] }) (base g n cap : Nat) (ps : List T5) (vb : Nat) (x0 x1 x2 x3 x4 : Int)
    (hs : a.eval s = .slice (some ⟨g, 0, none⟩) n cap) (hx : a.eval x = .slice (some ⟨vb, 0, none⟩) 1 1) (hown : Own5 148 u base g n cap ps) (hv : Holds5 u vb 0 (x0, x1, x2, x3, x4)) (hn : n ≤ 1048576) (hb : base ≤ u.heap.size)
    (h : ∀ g' c' w', Own5 148 w' base g' (n + 1) c' (ps ++ [(x0, x1, x2, x3, x4)]) → u.grownBy w' (some g) → (g' = g ∨ g' = u.heap.size) → wpList Tryz.prog ops Q rest (a.put o.dst (.slice (some ⟨g', 0, none⟩) (n + 1) c')) w') : wpList Tryz.prog ops Q (o :: rest) a u := by
  obtain ⟨i0, hi, hz0, hz1, hz2⟩ := info_parts info2
  have hat : At5 u vb [(x0, x1, x2, x3, x4)] := by
    intro i hi
    obtain rfl : i = 0 := by simpa using hi
    exact hv
  refine wpList_append_own_at u hgd s x 37 ho base 148 i0 (.agg #[.int .i64 0, .int .i64 0, .int .i64 0, .int .i64 0, .int .i64 0]) 5 40 Tryz.underlying37 hi hz0 hz1 hz2 rfl (by decide) _ n _ hs hown ⟨vb, 0, none⟩ 1 1 (flat5 [(x0, x1, x2, x3, x4)]) hx rfl hat.cells (fun u hu => flat5_one u _ hu) (by unfold maxLen; omega) (by omega) hb ?_
  intro v' w' own' gr' nil' loc'
  obtain ⟨g', c', rfl, o'⟩ := own5_of_row (n' := n + 1) (ps := ps ++ [(x0, x1, x2, x3, x4)]) own' rfl (by rw [flat5_append]) (by rw [nil']; simp)
  exact h g' c' w' o' gr' (by simpa [Value.ownBlock] using loc')
end Go.Proofs.YtagmnociflkhcaaGreat.LotApp
namespace Go.Proofs.YtagmnociflkhcaaGreat.SSplit
open Go.ChangeShapes Go.WideShapes Go.ChangeAt Go.RowKit Tup5 Lots Takes SOk5 Quieter
set_option maxRecDepth 100000 in
set_option maxHeartbeats 4000000 in
theorem sSplit (w : World) (g n cap : Nat) (ps : List T5) (a i : Int) (hl : ps.length = n) (h20 : n ≤ 100000) (hg : g < w.heap.size) (h : At5 w g ps) :
    Calls Tryz.prog 128 #[.slice (some ⟨g, 0, none⟩) n cap, .int .i64 a, .int .i64 i] w fun e w' => ∃ g1 c1 g2 c2, e = .returned (.tuple #[.slice (some ⟨g1, 0, none⟩) (ownL ps a i).length c1, .slice (some ⟨g2, 0, none⟩) (restL ps a i).length c2]) ∧ Own5 148 w' w.heap.size g1 (ownL ps a i).length c1 (ownL ps a i) ∧ Own5 148 w' w.heap.size g2 (restL ps a i).length c2 (restL ps a i) ∧ g1 ≠ g2 ∧ Below w.heap.size w w' := by
  have H := hide h
  clear h
  have O1 := hide ((lit50 148 w w.heap.size (Nat.le_refl _)).alloc (.cells #[] 148))
  have O2 := hide (lit50 148 (w.alloc (.cells #[] 148)) w.heap.size (by simp))
  have B0 := hide (show Below w.heap.size w ((w.alloc (.cells #[] 148)).alloc (.cells #[] 148)) from ((Below.refl _ _).alloc (Nat.le_refl _) _).alloc (by simp) _)
  simp only [World.size_alloc] at O2
  go_enter Tryz.func128, Tryz.ntmps128
  go_wp2
  generalize (w.alloc (.cells #[] 148)).alloc (.cells #[] 148) = w0 at *
  go_loopw [8, 9, 10] (fun l m j wr => ∃ (p q : List T5) (g1 c1 g2 c2 k : Nat), l = .slice (some ⟨g1, 0, none⟩) p.length c1 ∧ m = .slice (some ⟨g2, 0, none⟩) q.length c2 ∧ j = .int .i64 k ∧ k ≤ n ∧ p.length ≤ k ∧ q.length ≤ k ∧ g1 ≠ g2 ∧ Hid (p = ownL (ps.take k) a i) ∧ Hid (q = restL (ps.take k) a i) ∧ Hid (Own5 148 wr w.heap.size g1 p.length c1 p) ∧ Hid (Own5 148 wr w.heap.size g2 q.length c2 q) ∧ Hid (Below w.heap.size w wr)) (fun _ _ j _ => n - (intOf j).toNat)
  case atStart => exact ⟨[], [], w.heap.size, 0, w.heap.size + 1, 0, 0, rfl, rfl, rfl, by omega, by simp, by simp, by omega, hide rfl, hide rfl, O1, O2, B0⟩
  case round =>
    clear O1 O2 B0
    obtain ⟨p, q, g1, c1, g2, c2, k, rfl, rfl, rfl, hk, pl, ql, g12, HP, HQ, H1, H2, HB⟩ := hrel
    have bs := (unhide HB).size
    have gl1 := (unhide H1).lt.2
    have gl2 := (unhide H2).lt.2
    by_cases t : k < n
    · obtain ⟨e0, e1, e2, e3, e4⟩ := (unhide H).below (unhide HB) hg k (by omega)
      have NP := hide (own_next (ps := ps) (k := k) (by omega) a i)
      have NQ := hide (rest_next (ps := ps) (k := k) (by omega) a i)
      rw [← unhide HP] at NP
      rw [← unhide HQ] at NQ
      have EQ : el5 ps k = ((el5 ps k).1, (el5 ps k).2.1, (el5 ps k).2.2.1, (el5 ps k).2.2.2.1, (el5 ps k).2.2.2.2) := rfl
      rw [EQ] at NP NQ
      clear EQ HP HQ
      generalize (el5 ps k).1 = x0 at *
      generalize (el5 ps k).2.1 = x1 at *
      generalize (el5 ps k).2.2.1 = x2 at *
      generalize (el5 ps k).2.2.2.1 = x3 at *
      generalize (el5 ps k).2.2.2.2 = x4 at *
      have V5 := hide (show Holds5 (wr.alloc (.cells #[.int .i64 x0, .int .i64 x1, .int .i64 x2, .int .i64 x3, .int .i64 x4] 148)) wr.heap.size 0 (x0, x1, x2, x3, x4) from by unfold Holds5; simp)
      by_cases own : x0 = a ∧ x1 = i
      · have NP1 : Hid (ownL (ps.take (k + 1)) a i = p ++ [(x0, x1, x2, x3, x4)]) := hide (by rw [unhide NP, if_pos own])
        have NQ1 : Hid (restL (ps.take (k + 1)) a i = q) := hide (by rw [unhide NQ, if_pos own, List.append_nil])
        clear NP NQ
        obtain ⟨rfl, rfl⟩ := own
        go_wp2_with (first | (at_builtin; refine LotApp.wp_app _ rfl _ _ rfl w.heap.size g1 p.length c1 p wr.heap.size x0 x1 x2 x3 x4 rfl rfl ((unhide H1).alloc _) (unhide V5) (by omega) (by simp; omega) ?_) | go_in)
        intro g5 c5 w5 o5 gr5 loc5
        have O5 := hide o5
        have K5 := hide (((unhide H2).alloc (.cells #[.int .i64 x0, .int .i64 x1, .int .i64 x2, .int .i64 x3, .int .i64 x4] 148)).kept gr5 (by simp; omega))
        have B5 := hide (((unhide HB).alloc bs (.cells #[.int .i64 x0, .int .i64 x1, .int .i64 x2, .int .i64 x3, .int .i64 x4] 148)).grown gr5 (by simp; omega) (fun j hj => by cases hj; exact (unhide H1).lt.1))
        have g5B : g5 ≠ g2 := by
          try simp at loc5
          omega
        clear o5 gr5 loc5 V5
        go_wp2
        go_roundw
        case rel => exact ⟨p ++ [(x0, x1, x2, x3, x4)], q, g5, c5, g2, c2, k + 1, by rw [show (p ++ [(x0, x1, x2, x3, x4)]).length = p.length + 1 by simp], rfl, by go_num, by omega, by simp; omega, by omega, g5B, hide (unhide NP1).symm, hide (unhide NQ1).symm, hide (by rw [show (p ++ [(x0, x1, x2, x3, x4)]).length = p.length + 1 by simp]; exact unhide O5), K5, B5⟩
        case measure => simp [intOf]; omega
      · have NP1 : Hid (ownL (ps.take (k + 1)) a i = p) := hide (by rw [unhide NP, if_neg own, List.append_nil])
        have NQ1 : Hid (restL (ps.take (k + 1)) a i = q ++ [(x0, x1, x2, x3, x4)]) := hide (by rw [unhide NQ, if_neg own])
        clear NP NQ
        rcases (show x0 ≠ a ∨ (x0 = a ∧ x1 ≠ i) by omega) with o2 | ⟨rfl, o2⟩
        · have ob : (x0 == a) = false := by simpa using o2
          go_wp2_with (first | (at_builtin; refine LotApp.wp_app _ rfl _ _ rfl w.heap.size g2 q.length c2 q wr.heap.size x0 x1 x2 x3 x4 rfl rfl ((unhide H2).alloc _) (unhide V5) (by omega) (by simp; omega) ?_) | go_in)
          intro g5 c5 w5 o5 gr5 loc5
          have O5 := hide o5
          have K5 := hide (((unhide H1).alloc (.cells #[.int .i64 x0, .int .i64 x1, .int .i64 x2, .int .i64 x3, .int .i64 x4] 148)).kept gr5 (by simp; omega))
          have B5 := hide (((unhide HB).alloc bs (.cells #[.int .i64 x0, .int .i64 x1, .int .i64 x2, .int .i64 x3, .int .i64 x4] 148)).grown gr5 (by simp; omega) (fun j hj => by cases hj; exact (unhide H2).lt.1))
          have g5B : g5 ≠ g1 := by
            try simp at loc5
            omega
          clear o5 gr5 loc5 V5
          go_wp2
          go_roundw
          case rel => exact ⟨p, q ++ [(x0, x1, x2, x3, x4)], g1, c1, g5, c5, k + 1, rfl, by rw [show (q ++ [(x0, x1, x2, x3, x4)]).length = q.length + 1 by simp], by go_num, by omega, by omega, by simp; omega, fun e => g5B e.symm, hide (unhide NP1).symm, hide (unhide NQ1).symm, K5, hide (by rw [show (q ++ [(x0, x1, x2, x3, x4)]).length = q.length + 1 by simp]; exact unhide O5), B5⟩
          case measure => simp [intOf]; omega
        · have ob : (x1 == i) = false := by simpa using o2
          go_wp2_with (first | (at_builtin; refine LotApp.wp_app _ rfl _ _ rfl w.heap.size g2 q.length c2 q wr.heap.size x0 x1 x2 x3 x4 rfl rfl ((unhide H2).alloc _) (unhide V5) (by omega) (by simp; omega) ?_) | go_in)
          intro g5 c5 w5 o5 gr5 loc5
          have O5 := hide o5
          have K5 := hide (((unhide H1).alloc (.cells #[.int .i64 x0, .int .i64 x1, .int .i64 x2, .int .i64 x3, .int .i64 x4] 148)).kept gr5 (by simp; omega))
          have B5 := hide (((unhide HB).alloc bs (.cells #[.int .i64 x0, .int .i64 x1, .int .i64 x2, .int .i64 x3, .int .i64 x4] 148)).grown gr5 (by simp; omega) (fun j hj => by cases hj; exact (unhide H2).lt.1))
          have g5B : g5 ≠ g1 := by
            try simp at loc5
            omega
          clear o5 gr5 loc5 V5
          go_wp2
          go_roundw
          case rel => exact ⟨p, q ++ [(x0, x1, x2, x3, x4)], g1, c1, g5, c5, k + 1, rfl, by rw [show (q ++ [(x0, x1, x2, x3, x4)]).length = q.length + 1 by simp], by go_num, by omega, by omega, by simp; omega, fun e => g5B e.symm, hide (unhide NP1).symm, hide (unhide NQ1).symm, K5, hide (by rw [show (q ++ [(x0, x1, x2, x3, x4)]).length = q.length + 1 by simp]; exact unhide O5), B5⟩
          case measure => simp [intOf]; omega
    · obtain rfl : k = n := by omega
      have EP := hide (show p = ownL ps a i by rw [unhide HP, List.take_of_length_le (by omega)])
      have EQ := hide (show q = restL ps a i by rw [unhide HQ, List.take_of_length_le (by omega)])
      clear HP HQ
      go_wp2
      go_ret2
      rw [← unhide EP, ← unhide EQ]
      exact ⟨g1, c1, g2, c2, rfl, unhide H1, unhide H2, g12, unhide HB⟩
theorem take_sum {ps : List T5} (h : ∀ p ∈ ps, Pos p) (k : Nat) : 0 ≤ sumQ (ps.take k) ∧ sumQ (ps.take k) ≤ sumQ ps ∧ 0 ≤ sumC (ps.take k) ∧ sumC (ps.take k) ≤ sumC ps := by
  have e : ps = ps.take k ++ ps.drop k := (List.take_append_drop k ps).symm
  have p1 := sum_pos (ps.take k) (fun p hp => h p (List.mem_of_mem_take hp))
  have p2 := sum_pos (ps.drop k) (fun p hp => h p (List.mem_of_mem_drop hp))
  have e1 := sumQ_append (ps.take k) (ps.drop k)
  have e2 := sumC_append (ps.take k) (ps.drop k)
  rw [← e] at e1 e2
  omega
set_option maxRecDepth 100000 in
theorem sQty (w : World) (g n cap : Nat) (ps : List T5) (hl : ps.length = n) (h20 : n ≤ 1048576) (h : At5 w g ps) (hp : ∀ p ∈ ps, Pos p) (hs : sumQ ps ≤ 1000000000000000) :
    Calls Tryz.prog 129 #[.slice (some ⟨g, 0, none⟩) n cap] w fun e w' => e = .returned (.int .i64 (sumQ ps)) ∧ Below w.heap.size w w' := by
  have HP := hide hp
  clear hp
  go_enter Tryz.func129, Tryz.ntmps129
  go_wp2
  go_loopw [3, 4] (fun q j wr => ∃ (k : Nat) (s : Int), q = .int .i64 s ∧ j = .int .i64 k ∧ k ≤ n ∧ At5 wr g ps ∧ Hid (s = sumQ (ps.take k)) ∧ Hid (Below w.heap.size w wr)) (fun _ j _ => n - (intOf j).toNat)
  case atStart => exact ⟨0, 0, rfl, rfl, by omega, h, hide rfl, hide (Below.refl _ _)⟩
  case round =>
    clear h
    obtain ⟨k, s, rfl, rfl, hk, h, HS, HB⟩ := hrel
    have ts := take_sum (unhide HP) k
    have s0 : 0 ≤ s := by rw [unhide HS]; omega
    by_cases t : k < n
    · obtain ⟨e0, e1, e2, e3, e4⟩ := h k (by omega)
      have ts1 := take_sum (unhide HP) (k + 1)
      have NX := hide (sumQ_next (ps := ps) (k := k) (by omega))
      rw [← unhide HS] at NX
      have xp := (unhide HP) _ (getD_mem (ps := ps) (i := k) (by omega))
      unfold Pos at xp
      have b1 : s + (el5 ps k).2.2.2.1 ≤ 1000000000000000 := by rw [← unhide NX]; omega
      have HA := hide h
      clear h HS ts ts1
      obtain ⟨⟨x31, x32⟩, x41, x42⟩ := xp
      generalize (el5 ps k).1 = x0 at *
      generalize (el5 ps k).2.1 = x1 at *
      generalize (el5 ps k).2.2.1 = x2 at *
      generalize (el5 ps k).2.2.2.1 = x3 at *
      generalize (el5 ps k).2.2.2.2 = x4 at *
      have wS : IntKind.i64.wrap (s + x3) = s + x3 := by rw [IntKind.wrap_i64]; omega
      go_wp2
      go_roundw
      case rel => exact ⟨k + 1, s + x3, rfl, by go_num, by omega, unhide HA, hide (unhide NX).symm, HB⟩
      case measure => simp [intOf]; omega
    · obtain rfl : k = n := by omega
      have E := hide (show s = sumQ ps by rw [unhide HS, List.take_of_length_le (by omega)])
      clear h HS ts
      go_wp2
      go_ret
      exact ⟨by rw [← unhide E]; rfl, unhide HB⟩
end Go.Proofs.YtagmnociflkhcaaGreat.SSplit
namespace Go.Proofs.YtagmnociflkhcaaGreat.SSeal11
open Go.ChangeShapes Go.WideShapes Go.ChangeAt Go.RowKit SBytes SPut11 SPuts11
open ByteH (Own At)
theorem chkB_in (xs : List Int) : 0 ≤ chkB xs ∧ chkB xs ≤ 4294967295 := by
  have := chk_in xs xs.length
  unfold chkB
  omega
def four (n : Int) : List Int := [n % 256, n / 256 % 256, n / 65536 % 256, n / 16777216 % 256]
def sealB (xs : List Int) : List Int := if xs.length ≤ 9000 then numB xs.length ++ xs ++ four (chkB xs) else []
theorem lit_four (w : World) (a b c d : Int) : AtO (w.alloc (.cells #[.int .u8 a, .int .u8 b, .int .u8 c, .int .u8 d] 5)) w.heap.size 0 [a, b, c, d] := by
  intro i hi
  have : i = 0 ∨ i = 1 ∨ i = 2 ∨ i = 3 := by simp at hi; omega
  rcases this with rfl | rfl | rfl | rfl <;> simp
set_option maxRecDepth 100000 in
set_option maxHeartbeats 4000000 in
theorem sSeal (w : World) (gl cl : Nat) (xs : List Int) (h20 : xs.length ≤ 1048576) (hg : gl < w.heap.size) (hr : AtB w gl xs) :
    Calls Tryz.prog 24 #[.slice (some ⟨gl, 0, none⟩) xs.length cl] w fun e w' => ∃ g c, e = .returned (.tuple #[.slice (some ⟨g, 0, none⟩) (sealB xs).length c, .bool (decide (xs.length ≤ 9000))]) ∧ Own w' w.heap.size g (sealB xs).length c (sealB xs) ∧ Below w.heap.size w w' := by
  by_cases h0 : xs.length ≤ 9000
  case neg =>
    have e : sealB xs = [] := if_neg h0
    rw [e]
    have O0 := hide (lit0 w w.heap.size (Nat.le_refl _) rfl)
    have B0 := hide (one_more w (.cells #[] 5))
    have h1 : (9000 : Int) < xs.length := by omega
    have D := hide (show decide (xs.length ≤ 9000) = false from by simp; omega)
    rw [unhide D]
    clear e h0 hr
    go_enter Tryz.func24, Tryz.ntmps24
    go_wp2
    go_ret2
    exact ⟨_, 0, rfl, unhide O0, unhide B0⟩
  have S := hide (show numB xs.length ++ xs ++ four (chkB xs) = sealB xs from (if_pos h0).symm)
  have D := hide (show decide (xs.length ≤ 9000) = true from by simp; omega)
  rw [unhide D]
  have CI := hide (show 0 ≤ 65536 * (chk xs xs.length).2 + (chk xs xs.length).1 ∧ 65536 * (chk xs xs.length).2 + (chk xs xs.length).1 ≤ 4294967295 from chkB_in xs)
  have R := hide hr
  have HG := hide hg
  have nine := numB_nine (x := xs.length) (by omega)
  have h1 : ¬ (9000 : Int) < xs.length := by omega
  clear hr hg D
  go_enter Tryz.func24, Tryz.ntmps24
  go_wp2_with fail
  refine (sCheck _ gl cl xs h20 (unhide R)).mono ?_
  rintro e u ⟨rfl, rfl⟩
  have S1 := hide (show numB xs.length ++ xs ++ four (65536 * (chk xs xs.length).2 + (chk xs xs.length).1) = sealB xs from unhide S)
  clear S
  generalize 65536 * (chk xs xs.length).2 + (chk xs xs.length).1 = n at *
  clear h1
  go_wp2_with fail
  refine (sPutNum _ xs.length (by omega)).mono ?_
  rintro e u1 ⟨g1, c1, rfl, o1, b1⟩
  have O1 := hide o1
  have B1 := hide b1
  have us := b1.size
  have og := o1.lt
  clear o1 b1
  go_wp2_with (first | (at_builtin; refine wp_catB _ rfl _ _ rfl u.heap.size g1 (numB xs.length).length c1 xs.length (numB xs.length) xs gl 0 cl rfl rfl (unhide O1) rfl (AtO.of (fun i hi => ((AtB.below (unhide R) (unhide B1) (unhide HG)) i hi).1)) (by omega) (by omega) ?_) | go_in)
  intro g2 c2 w2 o2 gr2 loc2
  have O2 := hide o2
  have B2 := hide ((unhide B1).grown gr2 (by omega) (fun j hj => by cases hj; exact og.1))
  have og2 := o2.lt
  have us2 := gr2.size
  clear o2 gr2 loc2
  obtain ⟨n0, n1⟩ := unhide CI
  have N := hide (And.intro n0 n1)
  have m9 : (numB xs.length).length + xs.length ≤ 9009 := by omega
  generalize hm : (numB xs.length).length + xs.length = m at *
  have HM := hide hm
  clear hm n0 n1
  go_wp2_with (first | (at_builtin; refine wp_catB _ rfl _ _ rfl u.heap.size g2 m c2 4 (numB xs.length ++ xs) _ w2.heap.size 0 4 rfl rfl (own_alloc (unhide O2) _) (by rfl) (lit_four _ _ _ _ _) (by omega) (by simp; omega) ?_) | go_in)
  intro g3 c3 w3 o3 gr3 loc3
  have O3 := hide o3
  have B3 := hide (((unhide B2).alloc (by omega) (.cells #[.int .u8 (n % 256), .int .u8 (n / 256 % 256), .int .u8 (n / 65536 % 256), .int .u8 (n / 16777216 % 256)] 5)).grown gr3 (by simp; omega) (fun j hj => by cases hj; exact og2.1))
  clear o3 gr3 loc3
  go_wp2
  go_ret2
  have e := unhide S1
  have l : (sealB xs).length = m + 4 := by rw [← e, ← unhide HM]; simp [four]; omega
  refine ⟨g3, c3, by rw [l]; rfl, ?_, unhide B3⟩
  rw [l, ← e]
  have := unhide O3
  simpa [four, List.append_assoc] using this
end Go.Proofs.YtagmnociflkhcaaGreat.SSeal11
namespace Go.Proofs.YtagmnociflkhcaaGreat.Fil14
open Go.ChangeShapes Go.WideShapes Go.ChangeAt Go.RowKit
abbrev TF : Type := Int × ByteArray × ByteArray
abbrev elF (ps : List TF) (i : Nat) : TF := ps.getD i (0, ByteArray.empty, ByteArray.empty)
theorem hide {p : Prop} (h : p) : Hid p := h
theorem unhide {p : Prop} (h : Hid p) : p := h
def flatF (ps : List TF) : List Value := ps.flatMap fun p => [.int .i64 p.1, .string p.2.1, .string p.2.2]
theorem flatF_cons (p : TF) (ps : List TF) : flatF (p :: ps) = .int .i64 p.1 :: .string p.2.1 :: .string p.2.2 :: flatF ps := rfl
theorem flatF_len (ps : List TF) : (flatF ps).length = ps.length * 3 := by
  induction ps with
  | nil => rfl
  | cons p ps ih => rw [flatF_cons]; simp [ih]; omega
theorem flatF_get (ps : List TF) : ∀ i, i < ps.length → (flatF ps)[i * 3]? = some (.int .i64 (elF ps i).1) ∧ (flatF ps)[i * 3 + 1]? = some (.string (elF ps i).2.1) ∧ (flatF ps)[i * 3 + 2]? = some (.string (elF ps i).2.2) := by
  induction ps with
  | nil => intro i h; simp at h
  | cons p ps ih =>
    intro i h
    cases i with
    | zero => rw [flatF_cons]; simp
    | succ i =>
      have := ih i (by simpa using h)
      rw [flatF_cons, show (i + 1) * 3 = i * 3 + 3 by omega, show i * 3 + 3 + 1 = (i * 3 + 1) + 3 by omega, show i * 3 + 3 + 2 = (i * 3 + 2) + 3 by omega]
      simpa using this
theorem flatF_set0 (ps : List TF) : ∀ (i : Nat) (x : Int), (flatF ps).set (i * 3) (.int .i64 x) = flatF (ps.modify i fun p => (x, p.2)) := by
  induction ps with
  | nil => intro i x; simp [flatF]
  | cons p ps ih =>
    intro i x
    cases i with
    | zero => simp [flatF_cons]
    | succ i => rw [flatF_cons, show (i + 1) * 3 = i * 3 + 1 + 1 + 1 by omega, List.set_cons_succ, List.set_cons_succ, List.set_cons_succ, ih i x, List.modify_succ_cons, flatF_cons]
theorem flatF_set (ps : List TF) : ∀ (i : Nat) (x : ByteArray), (flatF ps).set (i * 3 + 1) (.string x) = flatF (ps.modify i fun p => (p.1, x, p.2.2)) ∧ (flatF ps).set (i * 3 + 2) (.string x) = flatF (ps.modify i fun p => (p.1, p.2.1, x)) := by
  induction ps with
  | nil => intro i x; simp [flatF]
  | cons p ps ih =>
    intro i x
    cases i with
    | zero => simp [flatF_cons]
    | succ i =>
      obtain ⟨b, c⟩ := ih i x
      refine ⟨?_, ?_⟩
      · rw [flatF_cons, show (i + 1) * 3 + 1 = i * 3 + 1 + 1 + 1 + 1 by omega, List.set_cons_succ, List.set_cons_succ, List.set_cons_succ, b, List.modify_succ_cons, flatF_cons]
      · rw [flatF_cons, show (i + 1) * 3 + 2 = i * 3 + 2 + 1 + 1 + 1 by omega, List.set_cons_succ, List.set_cons_succ, List.set_cons_succ, c, List.modify_succ_cons, flatF_cons]
def HoldsF (w : World) (g o : Nat) (p : TF) : Prop := w.cell? ⟨g, o, none⟩ = some (.int .i64 p.1) ∧ w.cell? ⟨g, o + 1, none⟩ = some (.string p.2.1) ∧ w.cell? ⟨g, o + 2, none⟩ = some (.string p.2.2)
def AtF (w : World) (g : Nat) (ps : List TF) : Prop := ∀ i, i < ps.length → HoldsF w g (i * 3) (elF ps i)
def ReadsF (w : World) (a : Option Addr) (ps : List TF) : Prop := ps.length = 0 ∨ ∃ b off, a = some ⟨b, off, none⟩ ∧ b < w.heap.size ∧ ∀ i, i < ps.length → HoldsF w b (off + i * 3) (elF ps i)
def OwnF (e : TypeId) (w : World) (base g n cap : Nat) (ps : List TF) : Prop := w.ownsRow base e 3 (.slice (some ⟨g, 0, none⟩) n cap) n (flatF ps)
section
variable {e : TypeId} {w w' : World} {base base' g n cap : Nat} {ps : List TF}
theorem HoldsF.below {B o : Nat} {p : TF} (h : HoldsF w g o p) (k : Below B w w') (hg : g < B) : HoldsF w' g o p :=
  ⟨(k.cell (p := ⟨g, o, none⟩) hg).trans h.1, (k.cell (p := ⟨g, o + 1, none⟩) hg).trans h.2.1, (k.cell (p := ⟨g, o + 2, none⟩) hg).trans h.2.2⟩
theorem OwnF.len (h : OwnF e w base g n cap ps) : ps.length = n := by
  have := h.1
  rw [flatF_len] at this
  omega
theorem OwnF.lt (h : OwnF e w base g n cap ps) : base ≤ g ∧ g < w.heap.size := World.ownsRow.lt h g rfl
theorem OwnF.at (h : OwnF e w base g n cap ps) : AtF w g ps := by
  intro i hi
  have hl := h.len
  obtain ⟨f0, f1, f2⟩ := flatF_get ps i hi
  exact ⟨(World.ownsRow.cellAt h (i * 3) (by omega)).trans f0, (World.ownsRow.cellAt h (i * 3 + 1) (by omega)).trans f1, (World.ownsRow.cellAt h (i * 3 + 2) (by omega)).trans f2⟩
theorem OwnF.free (h : OwnF e w base g n cap ps) (i : Nat) : w.frozen? ⟨g, i, none⟩ = false := World.ownsRow.frozenAt h i
theorem OwnF.rebase (h : OwnF e w base g n cap ps) (hb : base' ≤ g) : OwnF e w base' g n cap ps := by
  refine ⟨h.1, ?_⟩
  rcases h.2 with ⟨h1, _⟩ | ⟨g', c, cur, h1, h2, h3⟩
  · simp at h1
  · obtain ⟨e, _⟩ : g = g' ∧ cap = c := by simpa using h1
    subst e
    exact Or.inr ⟨g, c, cur, h1, hb, h3⟩
theorem OwnF.kept {row : Option Nat} (h : OwnF e w base g n cap ps) (k : w.grownBy w' row) (hne : some g ≠ row) : OwnF e w' base g n cap ps :=
  World.ownsRow.kept h k (Or.inr hne)
theorem OwnF.below {B : Nat} (h : OwnF e w base g n cap ps) (k : Below B w w') (hg : g < B) : OwnF e w' base g n cap ps := by
  refine ⟨h.1, ?_⟩
  rcases h.2 with ⟨h1, _⟩ | ⟨g', c, cur, h1, h2, h3, h4⟩
  · simp at h1
  · obtain ⟨e, _⟩ : g = g' ∧ cap = c := by simpa using h1
    subst e
    exact Or.inr ⟨g, c, cur, h1, h2, by rw [k.block g hg]; exact h3, h4⟩
theorem OwnF.alloc (h : OwnF e w base g n cap ps) (o : Obj) : OwnF e (w.alloc o) base g n cap ps := World.ownsRow.alloc h o
theorem OwnF.drew (h : OwnF e w base g n cap ps) : OwnF e w.drew base g n cap ps := h
theorem AtF.below {B : Nat} (h : AtF w g ps) (k : Below B w w') (hg : g < B) : AtF w' g ps := fun i hi => (h i hi).below k hg
theorem ReadsF.below {a : Option Addr} (h : ReadsF w a ps) (k : Below w.heap.size w w') : ReadsF w' a ps := by
  rcases h with h | ⟨b, off, rfl, hb, hc⟩
  · exact Or.inl h
  · exact Or.inr ⟨b, off, rfl, Nat.lt_of_lt_of_le hb k.size, fun i hi => (hc i hi).below k hb⟩
theorem OwnF.set0 (h : OwnF e w base g n cap ps) (i : Nat) (x : Int) :
    OwnF e (w.setCell ⟨g, i * 3, none⟩ (.int .i64 x)) base g n cap (ps.modify i fun p => (x, p.2)) ∧ w.grownBy (w.setCell ⟨g, i * 3, none⟩ (.int .i64 x)) (some g) := by
  have := World.ownsRow.stored h (i * 3) (.int .i64 x)
  refine ⟨?_, this.2⟩
  unfold OwnF
  rw [← flatF_set0 ps i x]
  exact this.1
theorem OwnF.set1 (h : OwnF e w base g n cap ps) (i : Nat) (x : ByteArray) :
    OwnF e (w.setCell ⟨g, i * 3 + 1, none⟩ (.string x)) base g n cap (ps.modify i fun p => (p.1, x, p.2.2)) ∧ w.grownBy (w.setCell ⟨g, i * 3 + 1, none⟩ (.string x)) (some g) := by
  have := World.ownsRow.stored h (i * 3 + 1) (.string x)
  refine ⟨?_, this.2⟩
  unfold OwnF
  rw [← (flatF_set ps i x).1]
  exact this.1
theorem OwnF.set2 (h : OwnF e w base g n cap ps) (i : Nat) (x : ByteArray) :
    OwnF e (w.setCell ⟨g, i * 3 + 2, none⟩ (.string x)) base g n cap (ps.modify i fun p => (p.1, p.2.1, x)) ∧ w.grownBy (w.setCell ⟨g, i * 3 + 2, none⟩ (.string x)) (some g) := by
  have := World.ownsRow.stored h (i * 3 + 2) (.string x)
  refine ⟨?_, this.2⟩
  unfold OwnF
  rw [← (flatF_set ps i x).2]
  exact this.1
end
theorem AtF.cells {w : World} {g : Nat} {ps : List TF} (h : AtF w g ps) : ∀ (j : Nat) (u : Value), (flatF ps)[j]? = some u → w.cell? ((⟨g, 0, none⟩ : Addr).add j) = some u := by
  intro j u hj
  have hl : j < ps.length * 3 := by
    have := (List.getElem?_eq_some_iff.1 hj).1
    rw [flatF_len] at this
    exact this
  rw [Addr.add_lit, Nat.zero_add]
  obtain ⟨c0, c1, c2⟩ := h (j / 3) (by omega)
  obtain ⟨f0, f1, f2⟩ := flatF_get ps (j / 3) (by omega)
  rcases (show j % 3 = 0 ∨ j % 3 = 1 ∨ j % 3 = 2 by omega) with e | e | e
  · rw [show j / 3 * 3 = j by omega] at c0 f0
    rw [c0, ← hj, f0]
  · rw [show j / 3 * 3 + 1 = j by omega] at c1 f1
    rw [c1, ← hj, f1]
  · rw [show j / 3 * 3 + 2 = j by omega] at c2 f2
    rw [c2, ← hj, f2]
end Go.Proofs.YtagmnociflkhcaaGreat.Fil14
namespace Go.Proofs.YtagmnociflkhcaaGreat.DiskH14
open Go.ChangeShapes Go.WideShapes Go.ChangeAt Go.RowKit Fil14
theorem one_more (w : World) (o : Obj) : Below w.heap.size w (w.alloc o) := (Below.refl _ _).alloc (Nat.le_refl _) _
def sumZ : List TF → Nat
  | [] => 0
  | p :: r => p.2.1.size + p.2.2.size + sumZ r
end Go.Proofs.YtagmnociflkhcaaGreat.DiskH14
namespace Go.Proofs.YtagmnociflkhcaaGreat.MarkF14
open Go.ChangeShapes Go.WideShapes Go.ChangeAt Go.RowKit Fil14
def dg (k : Nat) (s : ByteArray) : ByteArray := if 0 < k then dg (k / 10) (strOfNums [48 + (k : Int) % 10] ++ s) else s
termination_by k
decreasing_by omega
def mt (k : Int) : ByteArray := ⟨#[109]⟩ ++ dg k.toNat ⟨#[]⟩
end Go.Proofs.YtagmnociflkhcaaGreat.MarkF14
namespace Go.Proofs.YtagmnociflkhcaaGreat.MarkFS14
open Go.ChangeShapes Go.WideShapes Go.ChangeAt Go.RowKit Fil14 MarkF14
def marks (s : Int) (n : Nat) : List TF := (List.range n).map fun (i : Nat) => (s + 3 * (i : Int), mt (s + 3 * (i : Int) + 1), mt (s + 3 * (i : Int) + 2))
end Go.Proofs.YtagmnociflkhcaaGreat.MarkFS14
namespace Go.Proofs.YtagmnociflkhcaaGreat.DkH14
open Go.ChangeShapes Go.WideShapes Go.ChangeAt Go.RowKit Fil14 DiskH14
open MarkFS14 (marks)
structure Dx where
  room : Int
  a : Option Addr
  c : Nat
  ps : List TF
structure RdD (w : World) (x : Dx) : Prop where
  e : x.ps.length ≠ 0 → ∃ g, x.a = some ⟨g, 0, none⟩
  r : ∀ g, x.a = some ⟨g, 0, none⟩ → g < w.heap.size ∧ AtF w g x.ps
  n : x.ps.length ≤ 1048576
theorem RdD.below {w w' : World} {x : Dx} (h : RdD w x) (k : Below w.heap.size w w') : RdD w' x := ⟨h.e, fun g e => ⟨Nat.lt_of_lt_of_le (h.r g e).1 k.size, (h.r g e).2.below k (h.r g e).1⟩, h.n⟩
def OwD (w : World) (base : Nat) (x : Dx) : Prop := w.ownsRow base 120 3 (.slice x.a x.ps.length x.c) x.ps.length (flatF x.ps)
def OmD (w : World) (base : Nat) (x : Dx) : Prop := w.ownsRow base 120 3 (.slice x.a x.ps.length x.c) x.ps.length (flatF (marks 1 x.ps.length))
theorem row_step {W W' : World} {base : Nat} {e : TypeId} {m : Nat} {v : Value} {n : Nat} {vs : List Value} (h : W.ownsRow base e m v n vs) (k : Below W.heap.size W W') : W'.ownsRow base e m v n vs :=
  World.ownsRow.kept h (row := none) ⟨k.os, k.tape, k.output, k.size, fun i hi _ => k.block i hi⟩ (by
    cases hb : v.ownBlock with
    | none => exact .inl rfl
    | some g => exact .inr (by simp))
theorem addr_of {W : World} {base : Nat} {e : TypeId} {m n c : Nat} {a : Option Addr} {vs : List Value} (h : W.ownsRow base e m (.slice a n c) n vs) : (n ≠ 0 → ∃ g, a = some ⟨g, 0, none⟩) ∧ ∀ g, a = some ⟨g, 0, none⟩ → g < W.heap.size := by
  refine ⟨fun hn => ?_, fun g e => (World.ownsRow.lt h g (by rw [e]; rfl)).2⟩
  rcases h.2 with ⟨h1, _⟩ | ⟨g, c', cur, h1, _⟩
  · have : n = 0 := by simp at h1; omega
    exact absurd this hn
  · have : a = some ⟨g, 0, none⟩ ∧ c = c' := by simpa using h1
    exact ⟨g, this.1⟩
theorem OwD.rd {w : World} {base : Nat} {x : Dx} (h : OwD w base x) (hn : x.ps.length ≤ 1048576) : RdD w x := by
  refine ⟨(addr_of h).1, fun g e => ⟨(addr_of h).2 g e, ?_⟩, hn⟩
  have o := h
  unfold OwD at o
  rw [e] at o
  exact OwnF.at o
theorem OwD.step {w w' : World} {base : Nat} {x : Dx} (h : OwD w base x) (k : Below w.heap.size w w') : OwD w' base x := row_step h k
theorem OmD.step {w w' : World} {base : Nat} {x : Dx} (h : OmD w base x) (k : Below w.heap.size w w') : OmD w' base x := row_step h k
def Bc (w : World) (base g : Nat) (v0 v1 : Value) : Prop := w.ownsRow base 52 2 (.slice (some ⟨g, 0, none⟩) 1 1) 1 [v0, v1]
theorem Bc.made {w : World} {base g : Nat} (v0 v1 : Value) (hb : base ≤ w.heap.size) (hg : g = w.heap.size) : Bc (w.alloc (.cells #[v0, v1] 52)) base g v0 v1 := by
  subst hg
  exact ⟨rfl, .inr ⟨w.heap.size, 1, #[v0, v1], rfl, hb, heap_alloc_new w _, Nat.le_refl _, by unfold maxLen; omega, rfl, rfl⟩⟩
section
variable {w w' : World} {base g : Nat} {v0 v1 : Value}
theorem Bc.lt (h : Bc w base g v0 v1) : base ≤ g ∧ g < w.heap.size := World.ownsRow.lt h g rfl
theorem Bc.free (h : Bc w base g v0 v1) (i : Nat) : w.frozen? ⟨g, i, none⟩ = false := World.ownsRow.frozenAt h i
theorem Bc.c0 (h : Bc w base g v0 v1) : w.cell? ⟨g, 0, none⟩ = some v0 := (World.ownsRow.cellAt h 0 (by omega)).trans rfl
theorem Bc.c1 (h : Bc w base g v0 v1) : w.cell? ⟨g, 1, none⟩ = some v1 := (World.ownsRow.cellAt h 1 (by omega)).trans rfl
theorem Bc.set0 (h : Bc w base g v0 v1) (u : Value) : Bc (w.setCell ⟨g, 0, none⟩ u) base g u v1 ∧ w.grownBy (w.setCell ⟨g, 0, none⟩ u) (some g) := World.ownsRow.stored h 0 u
theorem Bc.kept {row : Option Nat} (h : Bc w base g v0 v1) (k : w.grownBy w' row) (hne : some g ≠ row) : Bc w' base g v0 v1 := World.ownsRow.kept h k (Or.inr hne)
theorem Bc.below {B : Nat} (h : Bc w base g v0 v1) (k : Below B w w') (hg : g < B) : Bc w' base g v0 v1 := by
  refine ⟨h.1, ?_⟩
  rcases h.2 with ⟨h1, _⟩ | ⟨g', c, cur, h1, h2, h3, h4⟩
  · simp at h1
  · have e : g = g' := by simp at h1; exact h1.1
    subst e
    exact .inr ⟨g, c, cur, h1, h2, (k.block g hg).trans h3, h4⟩
end
structure TurnD (x : Dx) (w w' : World) : Prop where
  os : w'.os = w.os
  tape : w'.tape = w.tape
  output : w'.output = w.output
  size : w.heap.size ≤ w'.heap.size
  block : ∀ k, k < w.heap.size → some k ≠ (Value.slice x.a x.ps.length x.c).ownBlock → w'.heap[k]? = w.heap[k]?
theorem TurnD.below {x : Dx} {w w' : World} {base : Nat} (h : TurnD x w w') (o : OwD w base x) (hb : base ≤ w.heap.size) : Below base w w' :=
  ⟨h.os, h.tape, h.output, h.size, fun j hj => h.block j (by omega) (fun e => by have := (World.ownsRow.lt o j e.symm).1; omega)⟩
end Go.Proofs.YtagmnociflkhcaaGreat.DkH14
namespace Go.Proofs.YtagmnociflkhcaaGreat.SDk14
open Go.ChangeShapes Go.WideShapes Go.ChangeAt Go.RowKit Fil14 DiskH14 DkH14
structure Wd (w wr : World) (x : Dx) : Prop where
  c0 : wr.cell? ⟨w.heap.size, 0, none⟩ = some (.int .i64 x.room)
  c1 : wr.cell? ⟨w.heap.size, 1, none⟩ = some (.slice x.a x.ps.length x.c)
  lt : w.heap.size < wr.heap.size
  b : Below w.heap.size w wr
  r : RdD wr x
theorem Wd.made {w : World} {x : Dx} (hr : RdD w x) (t : TypeId) : Wd w (w.alloc (.cells #[.int .i64 x.room, .slice x.a x.ps.length x.c] t)) x :=
  ⟨by simp [go_sem], by simp [go_sem], by simp, one_more _ _, hr.below (one_more _ _)⟩
theorem Wd.step {w wr wz : World} {x : Dx} (h : Wd w wr x) (k : Below wr.heap.size wr wz) : Wd w wz x :=
  ⟨(k.cell (p := ⟨w.heap.size, 0, none⟩) h.lt).trans h.c0, (k.cell (p := ⟨w.heap.size, 1, none⟩) h.lt).trans h.c1, Nat.lt_of_lt_of_le h.lt k.size, h.b.trans (k.mono h.b.size), h.r.below k⟩
theorem Wd.drew {w wr : World} {x : Dx} (h : Wd w wr x) : Wd w wr.drew x := h.step (Below.refl _ _).drew
end Go.Proofs.YtagmnociflkhcaaGreat.SDk14
namespace Go.Proofs.YtagmnociflkhcaaGreat.SOk14
open Go.ChangeShapes Go.WideShapes Go.ChangeAt Go.RowKit Fil14 DiskH14 DkH14 SDk14
theorem sIn (w : World) (x lo hi : Int) : Calls Tryz.prog 35 #[.int .i64 x, .int .i64 lo, .int .i64 hi] w fun e w' => e = .returned (.bool (decide (lo ≤ x ∧ x ≤ hi))) ∧ w' = w := by
  by_cases h0 : lo ≤ x
  · by_cases h1 : x ≤ hi
    · rw [decide_eq_true ⟨h0, h1⟩]
      go_enter Tryz.func35, Tryz.ntmps35
      go_wp2
      go_ret
      exact ⟨rfl, rfl⟩
    · rw [decide_eq_false (fun q => h1 q.2)]
      go_enter Tryz.func35, Tryz.ntmps35
      go_wp2
      go_ret
      exact ⟨rfl, rfl⟩
  · rw [decide_eq_false (fun q => h0 q.1)]
    go_enter Tryz.func35, Tryz.ntmps35
    go_wp2
    go_ret
    exact ⟨rfl, rfl⟩
theorem sInB (w : World) (x lo hi : Int) (b : Bool) (h : decide (lo ≤ x ∧ x ≤ hi) = b) : Calls Tryz.prog 35 #[.int .i64 x, .int .i64 lo, .int .i64 hi] w fun e w' => e = .returned (.bool b) ∧ w' = w := by
  rw [← h]
  exact sIn w x lo hi
def okN (n : Int) : Bool := decide (0 ≤ n ∧ n ≤ 21)
def okAt (ps : List TF) (i : Nat) : Prop := okN (elF ps i).1 = true ∧ (0 < i → (elF ps (i - 1)).1 < (elF ps i).1)
instance (ps : List TF) (i : Nat) : Decidable (okAt ps i) := by unfold okAt; infer_instance
def OkD (room : Int) (ps : List TF) : Prop := (0 ≤ room ∧ room ≤ 60000) ∧ ps.length ≤ 22 ∧ (sumZ ps : Int) ≤ room ∧ ∀ i, i < ps.length → okAt ps i
instance (room : Int) (ps : List TF) : Decidable (OkD room ps) := by unfold OkD; infer_instance
-- WALK
end Go.Proofs.YtagmnociflkhcaaGreat.SOk14
namespace Go.Proofs.YtagmnociflkhcaaGreat.Conv15
open Go.ChangeShapes Go.WideShapes Go.ChangeAt Go.RowKit SBytes
theorem of_bytes (w : World) (g c : Nat) (xs : List Int) (h : ByteH.At w g xs) : (convert 63 9 (.slice (some ⟨g, 0, none⟩) xs.length c)).run Tryz.prog w = .ok (.string (strOfNums xs)) w :=
  run_convert_bytes_arg w 63 5 Tryz.underlying63 Tryz.underlying5 g 0 xs.length c xs rfl (fun i hi => by rw [Nat.zero_add]; exact h i hi) 9 Tryz.underlying9
end Go.Proofs.YtagmnociflkhcaaGreat.Conv15
namespace Go.Proofs.YtagmnociflkhcaaGreat.SegP15
open Fil14 DiskH14 SDk14 SOk14 Conv15
def okS (n : Int) : Bool := decide (0 ≤ n ∧ n ≤ 19)
end Go.Proofs.YtagmnociflkhcaaGreat.SegP15
namespace Go.Proofs.YtagmnociflkhcaaGreat.SSg16
open Go.ChangeShapes Go.WideShapes Go.ChangeAt Go.RowKit Fil14 DiskH14 DkH14 SDk14 SOk14 SegP15
theorem sSegOk (w : World) (n : Int) (b : Bool) (h : okS n = b) : Calls Tryz.prog 23 #[.int .i64 n] w fun e w' => e = .returned (.bool b) ∧ w' = w := by
  have S := hide (fun u => sInB u n 0 19 (okS n) rfl)
  rw [h] at S
  go_enter Tryz.func23, Tryz.ntmps23
  go_wp2_with fail
  refine (unhide S _).mono ?_
  rintro e u ⟨rfl, rfl⟩
  go_wp2
  go_ret
  exact ⟨rfl, rfl⟩
end Go.Proofs.YtagmnociflkhcaaGreat.SSg16
namespace Go.Proofs.YtagmnociflkhcaaGreat.Opens
open Go.ChangeShapes Go.WideShapes Go.ChangeAt Go.RowKit Pairs
theorem open_pairs {H : Type} {enc : TypeId × Value → H} {P : Program} {w : World} {base : Nat} {spare : Nat → Bool} {held : Bool} {t e i : TypeId} {n0 n1 : String} {b0 b1 : Bool} {t0 t1 p0 p1 : String} {o0 o1 : Nat} {fuel : Nat} {a : Option Addr} {len cap : Nat} {x : DataW H × List MemPlace}
    (ht : P.underlying t = some (.slice e)) (he : P.underlying e = some (.struct #[{ name := n0, type := i, offset := 0, embedded := b0, tag := t0, pkgPath := p0, byteOffset := o0 }, { name := n1, type := i, offset := 1, embedded := b1, tag := t1, pkgPath := p1, byteOffset := o1 }]))
    (hc : (P.cellsOf e == 2 && P.cellsOf i == 1) = true) (hi : P.underlying i = some (.int .i64))
    (h : DataW.trod enc P w base spare held fuel t (Value.slice a len cap).cells.toList = some x) : ∃ ps : List (Int × Int), ps.length = len ∧ len ≤ 9223372036854775807 ∧ Reads w a ps := by
  have hc' : P.cellsOf e = 2 ∧ P.cellsOf i = 1 := by simpa using hc
  rcases Deep.open_slice_pairs ht he hc'.1 rfl rfl hc'.2 hc'.2 h with ⟨hcs, _⟩ | ⟨b, l, c, m, n, V0, V1, D0, D1, P0, P1, hcs, _, hlc, hm, hmm, _, hx⟩
  · simp [Value.cells] at hcs
    obtain ⟨rfl, rfl, rfl⟩ := hcs
    exact ⟨[], rfl, by omega, .inl rfl⟩
  · simp [Value.cells] at hcs
    obtain ⟨rfl, rfl, rfl⟩ := hcs
    have hlm : len ≤ m := by rw [hmm]; split <;> omega
    refine ⟨(List.range len).map fun i => (intOf (V0 i), intOf (V1 i)), by simp, by unfold maxLen at hm; omega, ?_⟩
    by_cases z : len = 0
    · exact .inl (by simp [z])
    · have val : ∀ i, i < len → V0 i = .int .i64 (intOf (V0 i)) ∧ V1 i = .int .i64 (intOf (V1 i)) := fun i hi' => by
        obtain ⟨_, _, q0, q1⟩ := hx i (by omega)
        obtain ⟨x0, e0, _⟩ := DataW.trod_int hi q0
        obtain ⟨x1, e1, _⟩ := DataW.trod_int hi q1
        simp at e0 e1
        rw [e0, e1]
        exact ⟨rfl, rfl⟩
      obtain ⟨blk, off, spot⟩ := b
      have c0 := (hx 0 (by omega)).1
      have hspot : spot = none := by simpa [Addr.add] using World.cell?_spot c0
      subst hspot
      have c0' : w.cell? ⟨blk, off, none⟩ = some (V0 0) := by simpa [Addr.add] using c0
      refine .inr ⟨blk, off, rfl, World.block_lt_of_cell? w _ c0', fun i hi' => ?_⟩
      have hi'' : i < len := by simpa using hi'
      obtain ⟨q0, q1, _⟩ := hx i (by omega)
      obtain ⟨v0, v1⟩ := val i hi''
      rw [Addr.add_lit] at q0 q1
      have hg : ((List.range len).map fun i => (intOf (V0 i), intOf (V1 i))).getD i (0, 0) = (intOf (V0 i), intOf (V1 i)) := by simp [List.getD, hi'']
      rw [hg]
      exact ⟨by rw [q0]; exact congrArg some v0, by rw [Nat.add_assoc, q1]; exact congrArg some v1⟩
end Go.Proofs.YtagmnociflkhcaaGreat.Opens
namespace Go.Proofs.YtagmnociflkhcaaGreat.Opens3
open Go.ChangeShapes Go.WideShapes Go.ChangeAt Go.RowKit Bals Triples
theorem open_triples {H : Type} {enc : TypeId × Value → H} {P : Program} {w : World} {base : Nat} {spare : Nat → Bool} {held : Bool} {t e i : TypeId} {f0 f1 f2 : Field} {fuel : Nat} {a : Option Addr} {len cap : Nat} {x : DataW H × List MemPlace}
    (ht : P.underlying t = some (.slice e)) (he : P.underlying e = some (.struct #[f0, f1, f2]))
    (hc : (P.cellsOf e == 3 && P.cellsOf i == 1 && f0.type == i && f1.type == i && f2.type == i && f0.offset == 0 && f1.offset == 1 && f2.offset == 2) = true) (hi : P.underlying i = some (.int .i64))
    (h : DataW.trod enc P w base spare held fuel t (Value.slice a len cap).cells.toList = some x) : ∃ ps : List T3, ps.length = len ∧ len ≤ 9223372036854775807 ∧ Reads3 w a ps := by
  simp at hc
  obtain ⟨⟨⟨⟨⟨⟨⟨ce, ci⟩, e0⟩, e1⟩, e2⟩, o0⟩, o1⟩, o2⟩ := hc
  rcases Deep.open_slice ht h with ⟨hcs, _⟩ | ⟨b, l, c, m, n, D, Pl, hcs, _, hlc, hm, hmm, _, hx⟩
  · simp [Value.cells] at hcs
    obtain ⟨rfl, rfl, rfl⟩ := hcs
    exact ⟨[], rfl, by omega, .inl rfl⟩
  · simp [Value.cells] at hcs
    obtain ⟨rfl, rfl, rfl⟩ := hcs
    have hlm : len ≤ m := by rw [hmm]; split <;> omega
    have each : ∀ j, j < len → ∃ p : T3, w.cell? (b.add (j * 3)) = some (.int .i64 p.1) ∧ w.cell? (b.add (j * 3 + 1)) = some (.int .i64 p.2.1) ∧ w.cell? (b.add (j * 3 + 2)) = some (.int .i64 p.2.2) := by
      intro j hj
      obtain ⟨cs', h1, h2⟩ := hx j (by omega)
      rw [ce] at h1
      obtain ⟨_, hlen, hcell⟩ := World.cells?_some h1
      obtain ⟨y0, y1, y2, k, _, _, g0, g1, g2⟩ := Deep.trod_struct3 he h2
      match cs', hlen with
      | [v0, v1, v2], _ =>
        rw [e0] at g0
        rw [e1] at g1
        rw [e2] at g2
        simp [o0, o1, o2, ci] at g0 g1 g2
        obtain ⟨x0, q0, _⟩ := DataW.trod_int hi g0
        obtain ⟨x1, q1, _⟩ := DataW.trod_int hi g1
        obtain ⟨x2, q2, _⟩ := DataW.trod_int hi g2
        simp at q0 q1 q2
        subst q0 q1 q2
        have d0 := hcell 0 (by omega)
        have d1 := hcell 1 (by omega)
        have d2 := hcell 2 (by omega)
        rw [Deep.add_add] at d0 d1 d2
        exact ⟨(x0, x1, x2), by simpa using d0, by simpa using d1, by simpa using d2⟩
    obtain ⟨q, hq⟩ := Deep.choose_lt each
    refine ⟨(List.range len).map q, by simp, by unfold maxLen at hm; omega, ?_⟩
    by_cases z : len = 0
    · exact .inl (by simp [z])
    · obtain ⟨blk, off, spot⟩ := b
      have c0 := (hq 0 (by omega)).1
      have hspot : spot = none := by simpa [Addr.add] using World.cell?_spot c0
      subst hspot
      have c0' : w.cell? ⟨blk, off, none⟩ = some (.int .i64 (q 0).1) := by simpa [Addr.add] using c0
      refine .inr ⟨blk, off, rfl, World.block_lt_of_cell? w _ c0', fun j hj => ?_⟩
      have hj' : j < len := by simpa using hj
      obtain ⟨p0, p1, p2⟩ := hq j hj'
      rw [Addr.add_lit] at p0 p1 p2
      have hg : el3 ((List.range len).map q) j = q j := by simp [List.getD, hj']
      rw [hg]
      exact ⟨p0, by rw [Nat.add_assoc]; exact p1, by rw [Nat.add_assoc]; exact p2⟩
end Go.Proofs.YtagmnociflkhcaaGreat.Opens3
namespace Go.Proofs.YtagmnociflkhcaaGreat.Opens5
open Go.ChangeShapes Go.WideShapes Go.ChangeAt Go.RowKit Tup5
theorem cells_of {H : Type} {enc : TypeId × Value → H} {P : Program} {w : World} {base : Nat} {spare : Nat → Bool} {held : Bool} {e i : TypeId} {f0 f1 f2 f3 f4 : Field} {fuel : Nat} {cs : List Value} {x : DataW H × List MemPlace}
    (he : P.underlying e = some (.struct #[f0, f1, f2, f3, f4])) (hc : (P.cellsOf e == 5 && P.cellsOf i == 1 && f0.type == i && f1.type == i && f2.type == i && f3.type == i && f4.type == i && f0.offset == 0 && f1.offset == 1 && f2.offset == 2 && f3.offset == 3 && f4.offset == 4) = true) (hi : P.underlying i = some (.int .i64))
    (h : DataW.trod enc P w base spare held fuel e cs = some x) : ∃ p : T5, cs = [.int .i64 p.1, .int .i64 p.2.1, .int .i64 p.2.2.1, .int .i64 p.2.2.2.1, .int .i64 p.2.2.2.2] := by
  simp at hc
  obtain ⟨⟨⟨⟨⟨⟨⟨⟨⟨⟨⟨ce, ci⟩, e0⟩, e1⟩, e2⟩, e3⟩, e4⟩, o0⟩, o1⟩, o2⟩, o3⟩, o4⟩ := hc
  obtain ⟨xs, k, _, _, hl, hlen, hf⟩ := DataW.trod_struct he h
  rw [ce] at hl
  match xs, hlen, cs, hl with
  | [y0, y1, y2, y3, y4], _, [v0, v1, v2, v3, v4], _ =>
    have g0 := hf 0 f0 rfl
    have g1 := hf 1 f1 rfl
    have g2 := hf 2 f2 rfl
    have g3 := hf 3 f3 rfl
    have g4 := hf 4 f4 rfl
    rw [e0] at g0
    simp [o0, ci] at g0
    obtain ⟨x0, q0, _⟩ := DataW.trod_int hi g0
    simp at q0
    rw [e1] at g1
    simp [o1, ci] at g1
    obtain ⟨x1, q1, _⟩ := DataW.trod_int hi g1
    simp at q1
    rw [e2] at g2
    simp [o2, ci] at g2
    obtain ⟨x2, q2, _⟩ := DataW.trod_int hi g2
    simp at q2
    rw [e3] at g3
    simp [o3, ci] at g3
    obtain ⟨x3, q3, _⟩ := DataW.trod_int hi g3
    simp at q3
    rw [e4] at g4
    simp [o4, ci] at g4
    obtain ⟨x4, q4, _⟩ := DataW.trod_int hi g4
    simp at q4
    subst q0 q1 q2 q3 q4
    exact ⟨(x0, x1, x2, x3, x4), rfl⟩
theorem open_rows {H : Type} {enc : TypeId × Value → H} {P : Program} {w : World} {base : Nat} {spare : Nat → Bool} {held : Bool} {t e i : TypeId} {f0 f1 f2 f3 f4 : Field} {fuel : Nat} {a : Option Addr} {len cap : Nat} {x : DataW H × List MemPlace}
    (ht : P.underlying t = some (.slice e)) (he : P.underlying e = some (.struct #[f0, f1, f2, f3, f4])) (hc : (P.cellsOf e == 5 && P.cellsOf i == 1 && f0.type == i && f1.type == i && f2.type == i && f3.type == i && f4.type == i && f0.offset == 0 && f1.offset == 1 && f2.offset == 2 && f3.offset == 3 && f4.offset == 4) = true) (hi : P.underlying i = some (.int .i64))
    (h : DataW.trod enc P w base spare held fuel t (Value.slice a len cap).cells.toList = some x) : ∃ ps : List T5, ps.length = len ∧ len ≤ 9223372036854775807 ∧ Reads5 w a ps := by
  have ce : P.cellsOf e = 5 := by
    simp at hc
    exact hc.1.1.1.1.1.1.1.1.1.1.1
  rcases Deep.open_slice ht h with ⟨hcs, _⟩ | ⟨b, l, c, m, n, D, Pl, hcs, _, hlc, hm, hmm, _, hx⟩
  · simp [Value.cells] at hcs
    obtain ⟨rfl, rfl, rfl⟩ := hcs
    exact ⟨[], rfl, by omega, .inl rfl⟩
  · simp [Value.cells] at hcs
    obtain ⟨rfl, rfl, rfl⟩ := hcs
    have hlm : len ≤ m := by rw [hmm]; split <;> omega
    have each : ∀ j, j < len → ∃ p : T5, w.cell? (b.add (j * 5)) = some (.int .i64 p.1) ∧ w.cell? (b.add (j * 5 + 1)) = some (.int .i64 p.2.1) ∧ w.cell? (b.add (j * 5 + 2)) = some (.int .i64 p.2.2.1) ∧ w.cell? (b.add (j * 5 + 3)) = some (.int .i64 p.2.2.2.1) ∧ w.cell? (b.add (j * 5 + 4)) = some (.int .i64 p.2.2.2.2) := by
      intro j hj
      obtain ⟨cs', h1, h2⟩ := hx j (by omega)
      rw [ce] at h1
      obtain ⟨_, hlen, hcell⟩ := World.cells?_some h1
      obtain ⟨p, rfl⟩ := cells_of he hc hi h2
      have d0 := hcell 0 (by omega)
      have d1 := hcell 1 (by omega)
      have d2 := hcell 2 (by omega)
      have d3 := hcell 3 (by omega)
      have d4 := hcell 4 (by omega)
      rw [Deep.add_add] at d0 d1 d2 d3 d4
      exact ⟨p, by simpa using d0, by simpa using d1, by simpa using d2, by simpa using d3, by simpa using d4⟩
    obtain ⟨q, hq⟩ := Deep.choose_lt each
    refine ⟨(List.range len).map q, by simp, by unfold maxLen at hm; omega, ?_⟩
    by_cases z : len = 0
    · exact .inl (by simp [z])
    · obtain ⟨blk, off, spot⟩ := b
      have c0 := (hq 0 (by omega)).1
      have hspot : spot = none := by simpa [Addr.add] using World.cell?_spot c0
      subst hspot
      have c0' : w.cell? ⟨blk, off, none⟩ = some (.int .i64 (q 0).1) := by simpa [Addr.add] using c0
      refine .inr ⟨blk, off, rfl, World.block_lt_of_cell? w _ c0', fun j hj => ?_⟩
      have hj' : j < len := by simpa using hj
      obtain ⟨p0, p1, p2, p3, p4⟩ := hq j hj'
      rw [Addr.add_lit] at p0 p1 p2 p3 p4
      have hg : el5 ((List.range len).map q) j = q j := by simp [List.getD, hj']
      rw [hg]
      exact ⟨p0, by rw [Nat.add_assoc]; exact p1, by rw [Nat.add_assoc]; exact p2, by rw [Nat.add_assoc]; exact p3, by rw [Nat.add_assoc]; exact p4⟩
end Go.Proofs.YtagmnociflkhcaaGreat.Opens5
namespace Go.Proofs.YtagmnociflkhcaaGreat.Opens8
open Go.ChangeShapes Go.WideShapes Go.ChangeAt Go.RowKit Tup8
theorem cells_of {H : Type} {enc : TypeId × Value → H} {P : Program} {w : World} {base : Nat} {spare : Nat → Bool} {held : Bool} {e i : TypeId} {f0 f1 f2 f3 f4 f5 f6 f7 : Field} {fuel : Nat} {cs : List Value} {x : DataW H × List MemPlace}
    (he : P.underlying e = some (.struct #[f0, f1, f2, f3, f4, f5, f6, f7])) (hc : (P.cellsOf e == 8 && P.cellsOf i == 1 && f0.type == i && f1.type == i && f2.type == i && f3.type == i && f4.type == i && f5.type == i && f6.type == i && f7.type == i && f0.offset == 0 && f1.offset == 1 && f2.offset == 2 && f3.offset == 3 && f4.offset == 4 && f5.offset == 5 && f6.offset == 6 && f7.offset == 7) = true) (hi : P.underlying i = some (.int .i64))
    (h : DataW.trod enc P w base spare held fuel e cs = some x) : ∃ p : T8, cs = [.int .i64 p.1, .int .i64 p.2.1, .int .i64 p.2.2.1, .int .i64 p.2.2.2.1, .int .i64 p.2.2.2.2.1, .int .i64 p.2.2.2.2.2.1, .int .i64 p.2.2.2.2.2.2.1, .int .i64 p.2.2.2.2.2.2.2] := by
  simp at hc
  obtain ⟨⟨⟨⟨⟨⟨⟨⟨⟨⟨⟨⟨⟨⟨⟨⟨⟨ce, ci⟩, e0⟩, e1⟩, e2⟩, e3⟩, e4⟩, e5⟩, e6⟩, e7⟩, o0⟩, o1⟩, o2⟩, o3⟩, o4⟩, o5⟩, o6⟩, o7⟩ := hc
  obtain ⟨xs, k, _, _, hl, hlen, hf⟩ := DataW.trod_struct he h
  rw [ce] at hl
  match xs, hlen, cs, hl with
  | [y0, y1, y2, y3, y4, y5, y6, y7], _, [v0, v1, v2, v3, v4, v5, v6, v7], _ =>
    have g0 := hf 0 f0 rfl
    have g1 := hf 1 f1 rfl
    have g2 := hf 2 f2 rfl
    have g3 := hf 3 f3 rfl
    have g4 := hf 4 f4 rfl
    have g5 := hf 5 f5 rfl
    have g6 := hf 6 f6 rfl
    have g7 := hf 7 f7 rfl
    rw [e0] at g0
    simp [o0, ci] at g0
    obtain ⟨x0, q0, _⟩ := DataW.trod_int hi g0
    simp at q0
    rw [e1] at g1
    simp [o1, ci] at g1
    obtain ⟨x1, q1, _⟩ := DataW.trod_int hi g1
    simp at q1
    rw [e2] at g2
    simp [o2, ci] at g2
    obtain ⟨x2, q2, _⟩ := DataW.trod_int hi g2
    simp at q2
    rw [e3] at g3
    simp [o3, ci] at g3
    obtain ⟨x3, q3, _⟩ := DataW.trod_int hi g3
    simp at q3
    rw [e4] at g4
    simp [o4, ci] at g4
    obtain ⟨x4, q4, _⟩ := DataW.trod_int hi g4
    simp at q4
    rw [e5] at g5
    simp [o5, ci] at g5
    obtain ⟨x5, q5, _⟩ := DataW.trod_int hi g5
    simp at q5
    rw [e6] at g6
    simp [o6, ci] at g6
    obtain ⟨x6, q6, _⟩ := DataW.trod_int hi g6
    simp at q6
    rw [e7] at g7
    simp [o7, ci] at g7
    obtain ⟨x7, q7, _⟩ := DataW.trod_int hi g7
    simp at q7
    subst q0 q1 q2 q3 q4 q5 q6 q7
    exact ⟨(x0, x1, x2, x3, x4, x5, x6, x7), rfl⟩
theorem open_rows {H : Type} {enc : TypeId × Value → H} {P : Program} {w : World} {base : Nat} {spare : Nat → Bool} {held : Bool} {t e i : TypeId} {f0 f1 f2 f3 f4 f5 f6 f7 : Field} {fuel : Nat} {a : Option Addr} {len cap : Nat} {x : DataW H × List MemPlace}
    (ht : P.underlying t = some (.slice e)) (he : P.underlying e = some (.struct #[f0, f1, f2, f3, f4, f5, f6, f7])) (hc : (P.cellsOf e == 8 && P.cellsOf i == 1 && f0.type == i && f1.type == i && f2.type == i && f3.type == i && f4.type == i && f5.type == i && f6.type == i && f7.type == i && f0.offset == 0 && f1.offset == 1 && f2.offset == 2 && f3.offset == 3 && f4.offset == 4 && f5.offset == 5 && f6.offset == 6 && f7.offset == 7) = true) (hi : P.underlying i = some (.int .i64))
    (h : DataW.trod enc P w base spare held fuel t (Value.slice a len cap).cells.toList = some x) : ∃ ps : List T8, ps.length = len ∧ len ≤ 9223372036854775807 ∧ Reads8 w a ps := by
  have ce : P.cellsOf e = 8 := by
    simp at hc
    exact hc.1.1.1.1.1.1.1.1.1.1.1.1.1.1.1.1.1
  rcases Deep.open_slice ht h with ⟨hcs, _⟩ | ⟨b, l, c, m, n, D, Pl, hcs, _, hlc, hm, hmm, _, hx⟩
  · simp [Value.cells] at hcs
    obtain ⟨rfl, rfl, rfl⟩ := hcs
    exact ⟨[], rfl, by omega, .inl rfl⟩
  · simp [Value.cells] at hcs
    obtain ⟨rfl, rfl, rfl⟩ := hcs
    have hlm : len ≤ m := by rw [hmm]; split <;> omega
    have each : ∀ j, j < len → ∃ p : T8, w.cell? (b.add (j * 8)) = some (.int .i64 p.1) ∧ w.cell? (b.add (j * 8 + 1)) = some (.int .i64 p.2.1) ∧ w.cell? (b.add (j * 8 + 2)) = some (.int .i64 p.2.2.1) ∧ w.cell? (b.add (j * 8 + 3)) = some (.int .i64 p.2.2.2.1) ∧ w.cell? (b.add (j * 8 + 4)) = some (.int .i64 p.2.2.2.2.1) ∧ w.cell? (b.add (j * 8 + 5)) = some (.int .i64 p.2.2.2.2.2.1) ∧ w.cell? (b.add (j * 8 + 6)) = some (.int .i64 p.2.2.2.2.2.2.1) ∧ w.cell? (b.add (j * 8 + 7)) = some (.int .i64 p.2.2.2.2.2.2.2) := by
      intro j hj
      obtain ⟨cs', h1, h2⟩ := hx j (by omega)
      rw [ce] at h1
      obtain ⟨_, hlen, hcell⟩ := World.cells?_some h1
      obtain ⟨p, rfl⟩ := cells_of he hc hi h2
      have d0 := hcell 0 (by omega)
      have d1 := hcell 1 (by omega)
      have d2 := hcell 2 (by omega)
      have d3 := hcell 3 (by omega)
      have d4 := hcell 4 (by omega)
      have d5 := hcell 5 (by omega)
      have d6 := hcell 6 (by omega)
      have d7 := hcell 7 (by omega)
      rw [Deep.add_add] at d0 d1 d2 d3 d4 d5 d6 d7
      exact ⟨p, by simpa using d0, by simpa using d1, by simpa using d2, by simpa using d3, by simpa using d4, by simpa using d5, by simpa using d6, by simpa using d7⟩
    obtain ⟨q, hq⟩ := Deep.choose_lt each
    refine ⟨(List.range len).map q, by simp, by unfold maxLen at hm; omega, ?_⟩
    by_cases z : len = 0
    · exact .inl (by simp [z])
    · obtain ⟨blk, off, spot⟩ := b
      have c0 := (hq 0 (by omega)).1
      have hspot : spot = none := by simpa [Addr.add] using World.cell?_spot c0
      subst hspot
      have c0' : w.cell? ⟨blk, off, none⟩ = some (.int .i64 (q 0).1) := by simpa [Addr.add] using c0
      refine .inr ⟨blk, off, rfl, World.block_lt_of_cell? w _ c0', fun j hj => ?_⟩
      have hj' : j < len := by simpa using hj
      obtain ⟨p0, p1, p2, p3, p4, p5, p6, p7⟩ := hq j hj'
      rw [Addr.add_lit] at p0 p1 p2 p3 p4 p5 p6 p7
      have hg : el8 ((List.range len).map q) j = q j := by simp [List.getD, hj']
      rw [hg]
      exact ⟨p0, by rw [Nat.add_assoc]; exact p1, by rw [Nat.add_assoc]; exact p2, by rw [Nat.add_assoc]; exact p3, by rw [Nat.add_assoc]; exact p4, by rw [Nat.add_assoc]; exact p5, by rw [Nat.add_assoc]; exact p6, by rw [Nat.add_assoc]; exact p7⟩
end Go.Proofs.YtagmnociflkhcaaGreat.Opens8
namespace Go.Proofs.YtagmnociflkhcaaGreat.OpensB
open Go.ChangeShapes Go.WideShapes Go.ChangeAt Go.RowKit BMem Bks BHelp BkEq
theorem slice_cell {H : Type} {enc : TypeId × Value → H} {P : Program} {w : World} {base : Nat} {spare : Nat → Bool} {held : Bool} {t e : TypeId} {fuel : Nat} {v : Value} {x : DataW H × List MemPlace}
    (ht : P.underlying t = some (.slice e)) (h : DataW.trod enc P w base spare held fuel t [v] = some x) : ∃ a len cap, v = .slice a len cap := by
  rcases Deep.open_slice ht h with ⟨hcs, _⟩ | ⟨b, l, c, m, n, D, Pl, hcs, _⟩
  · simp at hcs
    exact ⟨_, _, _, hcs⟩
  · simp at hcs
    exact ⟨_, _, _, hcs⟩
theorem struct_cells {H : Type} {enc : TypeId × Value → H} {P : Program} {w : World} {base : Nat} {spare : Nat → Bool} {held : Bool} {e : TypeId} {f0 f1 f2 f3 f4 f5 : Field} {fuel : Nat} {cs : List Value} {x : DataW H × List MemPlace}
    (he : P.underlying e = some (.struct #[f0, f1, f2, f3, f4, f5])) (hc : (P.cellsOf e == 6 && P.cellsOf f0.type == 1 && P.cellsOf f1.type == 1 && P.cellsOf f2.type == 1 && P.cellsOf f3.type == 1 && P.cellsOf f4.type == 1 && P.cellsOf f5.type == 1 && f0.offset == 0 && f1.offset == 1 && f2.offset == 2 && f3.offset == 3 && f4.offset == 4 && f5.offset == 5) = true)
    (h : DataW.trod enc P w base spare held fuel e cs = some x) : ∃ v0 v1 v2 v3 v4 v5 k x0 x1 x2 x3 x4 x5, cs = [v0, v1, v2, v3, v4, v5] ∧ DataW.trod enc P w base spare held k f0.type [v0] = some x0 ∧ DataW.trod enc P w base spare held k f1.type [v1] = some x1 ∧ DataW.trod enc P w base spare held k f2.type [v2] = some x2 ∧ DataW.trod enc P w base spare held k f3.type [v3] = some x3 ∧ DataW.trod enc P w base spare held k f4.type [v4] = some x4 ∧ DataW.trod enc P w base spare held k f5.type [v5] = some x5 := by
  simp at hc
  obtain ⟨⟨⟨⟨⟨⟨⟨⟨⟨⟨⟨⟨ce, k0⟩, k1⟩, k2⟩, k3⟩, k4⟩, k5⟩, o0⟩, o1⟩, o2⟩, o3⟩, o4⟩, o5⟩ := hc
  obtain ⟨xs, k, _, _, hl, hlen, hf⟩ := DataW.trod_struct he h
  rw [ce] at hl
  match xs, hlen, cs, hl with
  | [y0, y1, y2, y3, y4, y5], _, [v0, v1, v2, v3, v4, v5], _ =>
    have g0 := hf 0 f0 rfl
    have g1 := hf 1 f1 rfl
    have g2 := hf 2 f2 rfl
    have g3 := hf 3 f3 rfl
    have g4 := hf 4 f4 rfl
    have g5 := hf 5 f5 rfl
    simp [o0, k0] at g0
    simp [o1, k1] at g1
    simp [o2, k2] at g2
    simp [o3, k3] at g3
    simp [o4, k4] at g4
    simp [o5, k5] at g5
    exact ⟨v0, v1, v2, v3, v4, v5, k, _, _, _, _, _, _, rfl, g0, g1, g2, g3, g4, g5⟩
end Go.Proofs.YtagmnociflkhcaaGreat.OpensB
namespace Go.Proofs.YtagmnociflkhcaaGreat.Bx16
open Go.ChangeShapes Go.WideShapes Go.ChangeAt Go.RowKit
def Bx7 (w : World) (base g : Nat) (v0 v1 v2 v3 v4 v5 v6 : Value) : Prop := w.ownsRow base 42 7 (.slice (some ⟨g, 0, none⟩) 1 1) 1 [v0, v1, v2, v3, v4, v5, v6]
theorem Bx7.made {w : World} {base g : Nat} (v0 v1 v2 v3 v4 v5 v6 : Value) (hb : base ≤ w.heap.size) (hg : g = w.heap.size) : Bx7 (w.alloc (.cells #[v0, v1, v2, v3, v4, v5, v6] 42)) base g v0 v1 v2 v3 v4 v5 v6 := by
  subst hg
  exact ⟨rfl, .inr ⟨w.heap.size, 1, #[v0, v1, v2, v3, v4, v5, v6], rfl, hb, heap_alloc_new w _, Nat.le_refl _, by unfold maxLen; omega, rfl, rfl⟩⟩
section
variable {w w' : World} {base g : Nat} {v0 v1 v2 v3 v4 v5 v6 : Value}
theorem Bx7.lt (h : Bx7 w base g v0 v1 v2 v3 v4 v5 v6) : base ≤ g ∧ g < w.heap.size := World.ownsRow.lt h g rfl
theorem Bx7.free (h : Bx7 w base g v0 v1 v2 v3 v4 v5 v6) (i : Nat) : w.frozen? ⟨g, i, none⟩ = false := World.ownsRow.frozenAt h i
theorem Bx7.c0 (h : Bx7 w base g v0 v1 v2 v3 v4 v5 v6) : w.cell? ⟨g, 0, none⟩ = some v0 := (World.ownsRow.cellAt h 0 (by omega)).trans rfl
theorem Bx7.c1 (h : Bx7 w base g v0 v1 v2 v3 v4 v5 v6) : w.cell? ⟨g, 1, none⟩ = some v1 := (World.ownsRow.cellAt h 1 (by omega)).trans rfl
theorem Bx7.c2 (h : Bx7 w base g v0 v1 v2 v3 v4 v5 v6) : w.cell? ⟨g, 2, none⟩ = some v2 := (World.ownsRow.cellAt h 2 (by omega)).trans rfl
theorem Bx7.c3 (h : Bx7 w base g v0 v1 v2 v3 v4 v5 v6) : w.cell? ⟨g, 3, none⟩ = some v3 := (World.ownsRow.cellAt h 3 (by omega)).trans rfl
theorem Bx7.c4 (h : Bx7 w base g v0 v1 v2 v3 v4 v5 v6) : w.cell? ⟨g, 4, none⟩ = some v4 := (World.ownsRow.cellAt h 4 (by omega)).trans rfl
theorem Bx7.c5 (h : Bx7 w base g v0 v1 v2 v3 v4 v5 v6) : w.cell? ⟨g, 5, none⟩ = some v5 := (World.ownsRow.cellAt h 5 (by omega)).trans rfl
theorem Bx7.c6 (h : Bx7 w base g v0 v1 v2 v3 v4 v5 v6) : w.cell? ⟨g, 6, none⟩ = some v6 := (World.ownsRow.cellAt h 6 (by omega)).trans rfl
theorem Bx7.set0 (h : Bx7 w base g v0 v1 v2 v3 v4 v5 v6) (u : Value) : Bx7 (w.setCell ⟨g, 0, none⟩ u) base g u v1 v2 v3 v4 v5 v6 ∧ w.grownBy (w.setCell ⟨g, 0, none⟩ u) (some g) := World.ownsRow.stored h 0 u
theorem Bx7.set1 (h : Bx7 w base g v0 v1 v2 v3 v4 v5 v6) (u : Value) : Bx7 (w.setCell ⟨g, 1, none⟩ u) base g v0 u v2 v3 v4 v5 v6 ∧ w.grownBy (w.setCell ⟨g, 1, none⟩ u) (some g) := World.ownsRow.stored h 1 u
theorem Bx7.set2 (h : Bx7 w base g v0 v1 v2 v3 v4 v5 v6) (u : Value) : Bx7 (w.setCell ⟨g, 2, none⟩ u) base g v0 v1 u v3 v4 v5 v6 ∧ w.grownBy (w.setCell ⟨g, 2, none⟩ u) (some g) := World.ownsRow.stored h 2 u
theorem Bx7.set3 (h : Bx7 w base g v0 v1 v2 v3 v4 v5 v6) (u : Value) : Bx7 (w.setCell ⟨g, 3, none⟩ u) base g v0 v1 v2 u v4 v5 v6 ∧ w.grownBy (w.setCell ⟨g, 3, none⟩ u) (some g) := World.ownsRow.stored h 3 u
theorem Bx7.set4 (h : Bx7 w base g v0 v1 v2 v3 v4 v5 v6) (u : Value) : Bx7 (w.setCell ⟨g, 4, none⟩ u) base g v0 v1 v2 v3 u v5 v6 ∧ w.grownBy (w.setCell ⟨g, 4, none⟩ u) (some g) := World.ownsRow.stored h 4 u
theorem Bx7.set5 (h : Bx7 w base g v0 v1 v2 v3 v4 v5 v6) (u : Value) : Bx7 (w.setCell ⟨g, 5, none⟩ u) base g v0 v1 v2 v3 v4 u v6 ∧ w.grownBy (w.setCell ⟨g, 5, none⟩ u) (some g) := World.ownsRow.stored h 5 u
theorem Bx7.set6 (h : Bx7 w base g v0 v1 v2 v3 v4 v5 v6) (u : Value) : Bx7 (w.setCell ⟨g, 6, none⟩ u) base g v0 v1 v2 v3 v4 v5 u ∧ w.grownBy (w.setCell ⟨g, 6, none⟩ u) (some g) := World.ownsRow.stored h 6 u
theorem Bx7.below {B : Nat} (h : Bx7 w base g v0 v1 v2 v3 v4 v5 v6) (k : Below B w w') (hg : g < B) : Bx7 w' base g v0 v1 v2 v3 v4 v5 v6 := by
  refine ⟨h.1, ?_⟩
  rcases h.2 with ⟨h1, _⟩ | ⟨g', c, cur, h1, h2, h3, h4⟩
  · simp at h1
  · have e : g = g' := by simp at h1; exact h1.1
    subst e
    exact .inr ⟨g, c, cur, h1, h2, (k.block g hg).trans h3, h4⟩
theorem Bx7.kept {row : Option Nat} (h : Bx7 w base g v0 v1 v2 v3 v4 v5 v6) (k : w.grownBy w' row) (hne : some g ≠ row) : Bx7 w' base g v0 v1 v2 v3 v4 v5 v6 := World.ownsRow.kept h k (Or.inr hne)
end
theorem grow_grow {w w1 w2 : World} {row : Option Nat} (h : w.grownBy w1 row) (k : w1.grownBy w2 row) : w.grownBy w2 row :=
  ⟨k.os.trans h.os, k.tape.trans h.tape, k.output.trans h.output, Nat.le_trans h.size k.size, fun i hi hr => (k.block i (Nat.lt_of_lt_of_le hi h.size) hr).trans (h.block i hi hr)⟩
theorem grow_low {B : Nat} {w W W' : World} {G : Nat} (h : Below B w W) (k : W.grownBy W' (some G)) (hB : B ≤ G ∧ B ≤ W.heap.size) : Below B w W' :=
  ⟨k.os.trans h.os, k.tape.trans h.tape, k.output.trans h.output, Nat.le_trans h.size k.size, fun i hi => (k.block i (by omega) (by simp; omega)).trans (h.block i hi)⟩
end Go.Proofs.YtagmnociflkhcaaGreat.Bx16
namespace Go.Proofs.YtagmnociflkhcaaGreat.INums13
open Go.ChangeShapes Go.WideShapes Go.ChangeAt Go.RowKit BMem Bks SPuts11 SNums13
open IBalsFit (St one_more)
open Bals (T3 el3)
open Tup5 (T5 el5)
open Tup8 (T8 el8)
set_option maxRecDepth 100000 in
set_option maxHeartbeats 8000000 in
theorem iNums (w : World) (x : Bx) (h : Rd w x) (ha : ∀ i, i < x.b.bs.length → -1000000000000000 ≤ (el3 x.b.bs i).2.2 ∧ (el3 x.b.bs i).2.2 ≤ 1000000000000000) :
    Calls Tryz.prog 155 #[.agg #[.slice (some ⟨x.ga, 0, none⟩) x.b.ac.length x.ca, .slice (some ⟨x.gi, 0, none⟩) x.b.ic.length x.ci, .slice (some ⟨x.gb, 0, none⟩) x.b.bs.length x.cb, .slice (some ⟨x.gl, 0, none⟩) x.b.ls.length x.cl, .slice (some ⟨x.gt, 0, none⟩) x.b.ts.length x.ct, .int .i64 x.b.lot]] w fun e w' => ∃ g c, e = .returned (.slice (some ⟨g, 0, none⟩) (nums x.b).length c) ∧ Ints.Own w' w.heap.size g (nums x.b).length c (nums x.b) ∧ Below w.heap.size w w' := by
  have S0 := hide (St.start h 40)
  have XB := hide (show ((x.ga < w.heap.size ∧ x.gi < w.heap.size) ∧ x.gb < w.heap.size) from ⟨⟨h.la, h.li⟩, h.lb⟩)
  have na := h.na
  have ni := h.ni
  have nb := h.nb
  have nl := h.nl
  have nt := h.nt
  have HA := hide ha
  clear h ha
  go_enter Tryz.func155, Tryz.ntmps155
  have s0 := (unhide S0).c.c0
  go_wp2
  clear s0
  generalize hW : (w.alloc (.cells #[.slice (some ⟨x.ga, 0, none⟩) x.b.ac.length x.ca, .slice (some ⟨x.gi, 0, none⟩) x.b.ic.length x.ci, .slice (some ⟨x.gb, 0, none⟩) x.b.bs.length x.cb, .slice (some ⟨x.gl, 0, none⟩) x.b.ls.length x.cl, .slice (some ⟨x.gt, 0, none⟩) x.b.ts.length x.ct, .int .i64 x.b.lot] 40)) = W0 at *
  have ws : W0.heap.size = w.heap.size + 1 := by rw [← hW]; simp
  have O0 := hide (show Ints.Own (W0.alloc (.cells #[.int .i64 x.b.ac.length] 3)) W0.heap.size (w.heap.size + 1) 1 1 [(x.b.ac.length : Int)] from by rw [← ws]; exact World.ownsRow_lit W0 #[.int .i64 x.b.ac.length] 1 (Nat.le_refl _) (by decide) rfl)
  have B0 := hide (one_more W0 (.cells #[.int .i64 x.b.ac.length] 3))
  clear hW
  generalize hA : [(x.b.ac.length : Int)] = A0 at *
  have HA0 := hide hA
  clear hA
  go_loopw [3, 5, 21] (fun l _ i wr => ∃ (k g c n : Nat), i = .int .i64 k ∧ k ≤ x.b.ac.length ∧ l = .slice (some ⟨g, 0, none⟩) n c ∧ n ≤ 1 + 2 * k ∧ Hid (Ints.Own wr W0.heap.size g n c (A0 ++ (x.b.ac.take k).flatMap row2)) ∧ Hid (Below W0.heap.size W0 wr)) (fun _ _ i _ => x.b.ac.length - (intOf i).toNat)
  case atStart => exact ⟨0, _, _, _, rfl, by omega, rfl, by omega, hide (by simpa using unhide O0), B0⟩
  case round =>
    clear O0 B0
    obtain ⟨k, g, c, n, rfl, hk, rfl, nk, HO, HB⟩ := hrel
    have bs := (unhide HB).size
    have og := (unhide HO).lt
    have S1 := hide ((unhide S0).step (unhide HB))
    have cf := (unhide S1).c.c0
    by_cases t : k < x.b.ac.length
    · have kt : (k : Int) < x.b.ac.length := by omega
      have d := (unhide S1).r.ra k t
      have lg := (unhide S1).r.la
      have NX := hide (flat_more (f := row2) ((0, 0) : Int × Int) t)
      change Hid (_ = _ ++ row2 (Chart.el x.b.ac k)) at NX
      change wr.cell? ⟨x.ga, k * 2, none⟩ = some (.int .i64 (Chart.el x.b.ac k).1) ∧ wr.cell? ⟨x.ga, k * 2 + 1, none⟩ = some (.int .i64 (Chart.el x.b.ac k).2) at d
      generalize Chart.el x.b.ac k = p at *
      obtain ⟨p0, p1⟩ := p
      obtain ⟨d0, d1⟩ := d
      have LL := hide (lit2 (wr.alloc (.cells #[.int .i64 p0, .int .i64 p1] 143)) p0 p1)
      rw [show (wr.alloc (.cells #[.int .i64 p0, .int .i64 p1] 143)).heap.size = wr.heap.size + 1 by simp] at LL
      go_wp2_with (first | (at_builtin; refine wp_catI _ rfl _ _ rfl W0.heap.size g n c 2 _ [p0, p1] (wr.heap.size + 1) 2 rfl rfl (own_allocI (own_allocI (unhide HO) _) _) rfl (unhide LL) (by omega) (by simp; omega) ?_) | go_in)
      intro g9 c9 u9 o9 gr9 loc9
      have O9 := hide o9
      have B9 := hide ((((unhide HB).alloc bs (.cells #[.int .i64 p0, .int .i64 p1] 143)).alloc (by simp; omega) (.cells #[.int .i64 p0, .int .i64 p1] 3)).grown gr9 (by simp; omega) (fun j hj => by cases hj; exact og.1))
      clear o9 gr9 loc9
      go_wp2
      go_roundw
      case rel => exact ⟨k + 1, g9, c9, n + 2, by go_num, by omega, rfl, by omega, hide (by rw [unhide NX]; first | exact unhide O9 | (rw [ws]; exact unhide O9) | (rw [← List.append_assoc]; exact unhide O9) | (rw [← List.append_assoc, ws]; exact unhide O9)), B9⟩
      case measure => simp [intOf]; omega
    · have e : k = x.b.ac.length := by omega
      subst e
      have O := unhide HO
      rw [List.take_length] at O
      have HO := hide O
      clear O hk t
      have cg := (unhide S1).c.c1
      go_wp2_with (first | (at_builtin; refine wp_catI _ rfl _ _ rfl W0.heap.size g n c 1 _ [(x.b.ic.length : Int)] _ 1 rfl rfl (own_allocI (unhide HO) _) rfl (lit1 _ _) (by omega) (by simp; omega) ?_) | go_in)
      intro g9 c9 u9 o9 gr9 loc9
      have O1 := hide (show Ints.Own u9 W0.heap.size g9 (n + 1) c9 (A0 ++ x.b.ac.flatMap row2 ++ [(x.b.ic.length : Int)]) from by first | exact o9 | (rw [List.append_assoc]; exact o9) | (rw [ws]; exact o9) | (rw [ws, List.append_assoc]; exact o9))
      have B1 := hide (((unhide HB).alloc bs (.cells #[.int .i64 (x.b.ic.length : Int)] 3)).grown gr9 (by simp; omega) (fun j hj => by cases hj; exact og.1))
      have n9 : n + 1 ≤ 1 + 2 * 1048576 + 1 := by omega
      clear o9 gr9 loc9 HO HB S1 cf cg bs og
      generalize hA : A0 ++ x.b.ac.flatMap row2 ++ [(x.b.ic.length : Int)] = A1 at *
      have HA1 := hide hA
      clear hA
      have cn := ((unhide S0).step (unhide B1)).c.c1
      go_wp2
      clear cn
      go_loopw [3, 7, 42] (fun l _ i wr => ∃ (k g c n : Nat), i = .int .i64 k ∧ k ≤ x.b.ic.length ∧ l = .slice (some ⟨g, 0, none⟩) n c ∧ n ≤ 1 + 2 * 1048576 + 1 + 2 * k ∧ Hid (Ints.Own wr W0.heap.size g n c (A1 ++ (x.b.ic.take k).flatMap row2)) ∧ Hid (Below W0.heap.size W0 wr)) (fun _ _ i _ => x.b.ic.length - (intOf i).toNat)
      case atStart => exact ⟨0, _, _, _, rfl, by omega, rfl, by omega, hide (by simpa using unhide O1), B1⟩
      case round =>
        clear O1 B1
        obtain ⟨k, g, c, n, rfl, hk, rfl, nk, HO, HB⟩ := hrel
        have bs := (unhide HB).size
        have og := (unhide HO).lt
        have S1 := hide ((unhide S0).step (unhide HB))
        have cf := (unhide S1).c.c1
        by_cases t : k < x.b.ic.length
        · have kt : (k : Int) < x.b.ic.length := by omega
          have d := (unhide S1).r.ri k t
          have lg := (unhide S1).r.li
          have NX := hide (flat_more (f := row2) ((0, 0) : Int × Int) t)
          change Hid (_ = _ ++ row2 (Chart.el x.b.ic k)) at NX
          change wr.cell? ⟨x.gi, k * 2, none⟩ = some (.int .i64 (Chart.el x.b.ic k).1) ∧ wr.cell? ⟨x.gi, k * 2 + 1, none⟩ = some (.int .i64 (Chart.el x.b.ic k).2) at d
          generalize Chart.el x.b.ic k = p at *
          obtain ⟨p0, p1⟩ := p
          obtain ⟨d0, d1⟩ := d
          have LL := hide (lit2 (wr.alloc (.cells #[.int .i64 p0, .int .i64 p1] 144)) p0 p1)
          rw [show (wr.alloc (.cells #[.int .i64 p0, .int .i64 p1] 144)).heap.size = wr.heap.size + 1 by simp] at LL
          go_wp2_with (first | (at_builtin; refine wp_catI _ rfl _ _ rfl W0.heap.size g n c 2 _ [p0, p1] (wr.heap.size + 1) 2 rfl rfl (own_allocI (own_allocI (unhide HO) _) _) rfl (unhide LL) (by omega) (by simp; omega) ?_) | go_in)
          intro g9 c9 u9 o9 gr9 loc9
          have O9 := hide o9
          have B9 := hide ((((unhide HB).alloc bs (.cells #[.int .i64 p0, .int .i64 p1] 144)).alloc (by simp; omega) (.cells #[.int .i64 p0, .int .i64 p1] 3)).grown gr9 (by simp; omega) (fun j hj => by cases hj; exact og.1))
          clear o9 gr9 loc9
          go_wp2
          go_roundw
          case rel => exact ⟨k + 1, g9, c9, n + 2, by go_num, by omega, rfl, by omega, hide (by rw [unhide NX]; first | exact unhide O9 | (rw [ws]; exact unhide O9) | (rw [← List.append_assoc]; exact unhide O9) | (rw [← List.append_assoc, ws]; exact unhide O9)), B9⟩
          case measure => simp [intOf]; omega
        · have e : k = x.b.ic.length := by omega
          subst e
          have O := unhide HO
          rw [List.take_length] at O
          have HO := hide O
          clear O hk t
          have cg := (unhide S1).c.c2
          go_wp2_with (first | (at_builtin; refine wp_catI _ rfl _ _ rfl W0.heap.size g n c 1 _ [(x.b.bs.length : Int)] _ 1 rfl rfl (own_allocI (unhide HO) _) rfl (lit1 _ _) (by omega) (by simp; omega) ?_) | go_in)
          intro g9 c9 u9 o9 gr9 loc9
          have O2 := hide (show Ints.Own u9 W0.heap.size g9 (n + 1) c9 (A1 ++ x.b.ic.flatMap row2 ++ [(x.b.bs.length : Int)]) from by first | exact o9 | (rw [List.append_assoc]; exact o9) | (rw [ws]; exact o9) | (rw [ws, List.append_assoc]; exact o9))
          have B2 := hide (((unhide HB).alloc bs (.cells #[.int .i64 (x.b.bs.length : Int)] 3)).grown gr9 (by simp; omega) (fun j hj => by cases hj; exact og.1))
          have n9 : n + 1 ≤ 1 + 2 * 1048576 + 1 + 2 * 1048576 + 1 := by omega
          clear o9 gr9 loc9 HO HB S1 cf cg bs og
          generalize hA : A1 ++ x.b.ic.flatMap row2 ++ [(x.b.bs.length : Int)] = A2 at *
          have HA2 := hide hA
          clear hA
          have cn := ((unhide S0).step (unhide B2)).c.c2
          go_wp2
          clear cn
          go_loopw [3, 9, 63] (fun l _ i wr => ∃ (k g c n : Nat), i = .int .i64 k ∧ k ≤ x.b.bs.length ∧ l = .slice (some ⟨g, 0, none⟩) n c ∧ n ≤ 1 + 2 * 1048576 + 1 + 2 * 1048576 + 1 + 3 * k ∧ Hid (Ints.Own wr W0.heap.size g n c (A2 ++ (x.b.bs.take k).flatMap row3)) ∧ Hid (Below W0.heap.size W0 wr)) (fun _ _ i _ => x.b.bs.length - (intOf i).toNat)
          case atStart => exact ⟨0, _, _, _, rfl, by omega, rfl, by omega, hide (by simpa using unhide O2), B2⟩
          case round =>
            clear O2 B2
            obtain ⟨k, g, c, n, rfl, hk, rfl, nk, HO, HB⟩ := hrel
            have bs := (unhide HB).size
            have og := (unhide HO).lt
            have S1 := hide ((unhide S0).step (unhide HB))
            have cf := (unhide S1).c.c2
            by_cases t : k < x.b.bs.length
            · have kt : (k : Int) < x.b.bs.length := by omega
              have d := (unhide S1).r.rb k t
              have lg := (unhide S1).r.lb
              have NX := hide (flat_more (f := row3) ((0, 0, 0) : T3) t)
              change Hid (_ = _ ++ row3 (el3 x.b.bs k)) at NX
              have am := (unhide HA) k t
              change wr.cell? ⟨x.gb, k * 3, none⟩ = some (.int .i64 (el3 x.b.bs k).1) ∧ wr.cell? ⟨x.gb, k * 3 + 1, none⟩ = some (.int .i64 (el3 x.b.bs k).2.1) ∧ wr.cell? ⟨x.gb, k * 3 + 2, none⟩ = some (.int .i64 (el3 x.b.bs k).2.2) at d
              generalize el3 x.b.bs k = p at *
              obtain ⟨p0, p1, p2⟩ := p
              obtain ⟨d0, d1, d2⟩ := d
              have am1 : wrap64 (p2 + 1000000000000000) = p2 + 1000000000000000 := by rw [wrap64]; simp only at am; omega
              have am2 : IntKind.i64.wrap (p2 + 1000000000000000) = p2 + 1000000000000000 := by rw [IntKind.wrap_i64]; simp only at am; omega
              have LL := hide (lit3 (wr.alloc (.cells #[.int .i64 p0, .int .i64 p1, .int .i64 p2] 146)) p0 p1 (p2 + 1000000000000000))
              rw [show (wr.alloc (.cells #[.int .i64 p0, .int .i64 p1, .int .i64 p2] 146)).heap.size = wr.heap.size + 1 by simp] at LL
              go_wp2_with (first | (at_builtin; refine wp_catI _ rfl _ _ rfl W0.heap.size g n c 3 _ [p0, p1, (p2 + 1000000000000000)] (wr.heap.size + 1) 3 rfl rfl (own_allocI (own_allocI (unhide HO) _) _) rfl (unhide LL) (by omega) (by simp; omega) ?_) | go_in)
              intro g9 c9 u9 o9 gr9 loc9
              have O9 := hide o9
              have B9 := hide ((((unhide HB).alloc bs (.cells #[.int .i64 p0, .int .i64 p1, .int .i64 p2] 146)).alloc (by simp; omega) (.cells #[.int .i64 p0, .int .i64 p1, .int .i64 (p2 + 1000000000000000)] 3)).grown gr9 (by simp; omega) (fun j hj => by cases hj; exact og.1))
              clear o9 gr9 loc9
              go_wp2
              go_roundw
              case rel => exact ⟨k + 1, g9, c9, n + 3, by go_num, by omega, rfl, by omega, hide (by rw [unhide NX]; first | exact unhide O9 | (rw [ws]; exact unhide O9) | (rw [← List.append_assoc]; exact unhide O9) | (rw [← List.append_assoc, ws]; exact unhide O9)), B9⟩
              case measure => simp [intOf]; omega
            · have e : k = x.b.bs.length := by omega
              subst e
              have O := unhide HO
              rw [List.take_length] at O
              have HO := hide O
              clear O hk t
              have cg := (unhide S1).c.c3
              go_wp2_with (first | (at_builtin; refine wp_catI _ rfl _ _ rfl W0.heap.size g n c 1 _ [(x.b.ls.length : Int)] _ 1 rfl rfl (own_allocI (unhide HO) _) rfl (lit1 _ _) (by omega) (by simp; omega) ?_) | go_in)
              intro g9 c9 u9 o9 gr9 loc9
              have O3 := hide (show Ints.Own u9 W0.heap.size g9 (n + 1) c9 (A2 ++ x.b.bs.flatMap row3 ++ [(x.b.ls.length : Int)]) from by first | exact o9 | (rw [List.append_assoc]; exact o9) | (rw [ws]; exact o9) | (rw [ws, List.append_assoc]; exact o9))
              have B3 := hide (((unhide HB).alloc bs (.cells #[.int .i64 (x.b.ls.length : Int)] 3)).grown gr9 (by simp; omega) (fun j hj => by cases hj; exact og.1))
              have n9 : n + 1 ≤ 1 + 2 * 1048576 + 1 + 2 * 1048576 + 1 + 3 * 1048576 + 1 := by omega
              clear o9 gr9 loc9 HO HB S1 cf cg bs og
              generalize hA : A2 ++ x.b.bs.flatMap row3 ++ [(x.b.ls.length : Int)] = A3 at *
              have HA3 := hide hA
              clear hA
              have cn := ((unhide S0).step (unhide B3)).c.c3
              go_wp2
              clear cn
              go_loopw [3, 11, 87] (fun l _ i wr => ∃ (k g c n : Nat), i = .int .i64 k ∧ k ≤ x.b.ls.length ∧ l = .slice (some ⟨g, 0, none⟩) n c ∧ n ≤ 1 + 2 * 1048576 + 1 + 2 * 1048576 + 1 + 3 * 1048576 + 1 + 5 * k ∧ Hid (Ints.Own wr W0.heap.size g n c (A3 ++ (x.b.ls.take k).flatMap row5)) ∧ Hid (Below W0.heap.size W0 wr)) (fun _ _ i _ => x.b.ls.length - (intOf i).toNat)
              case atStart => exact ⟨0, _, _, _, rfl, by omega, rfl, by omega, hide (by simpa using unhide O3), B3⟩
              case round =>
                clear O3 B3
                obtain ⟨k, g, c, n, rfl, hk, rfl, nk, HO, HB⟩ := hrel
                have bs := (unhide HB).size
                have og := (unhide HO).lt
                have S1 := hide ((unhide S0).step (unhide HB))
                have cf := (unhide S1).c.c3
                by_cases t : k < x.b.ls.length
                · have kt : (k : Int) < x.b.ls.length := by omega
                  have d := (unhide S1).r.rl k t
                  have lg := (unhide S1).r.ll
                  have NX := hide (flat_more (f := row5) ((0, 0, 0, 0, 0) : T5) t)
                  change Hid (_ = _ ++ row5 (el5 x.b.ls k)) at NX
                  change wr.cell? ⟨x.gl, k * 5, none⟩ = some (.int .i64 (el5 x.b.ls k).1) ∧ wr.cell? ⟨x.gl, k * 5 + 1, none⟩ = some (.int .i64 (el5 x.b.ls k).2.1) ∧ wr.cell? ⟨x.gl, k * 5 + 2, none⟩ = some (.int .i64 (el5 x.b.ls k).2.2.1) ∧ wr.cell? ⟨x.gl, k * 5 + 3, none⟩ = some (.int .i64 (el5 x.b.ls k).2.2.2.1) ∧ wr.cell? ⟨x.gl, k * 5 + 4, none⟩ = some (.int .i64 (el5 x.b.ls k).2.2.2.2) at d
                  generalize el5 x.b.ls k = p at *
                  obtain ⟨p0, p1, p2, p3, p4⟩ := p
                  obtain ⟨d0, d1, d2, d3, d4⟩ := d
                  have LL := hide (lit5 (wr.alloc (.cells #[.int .i64 p0, .int .i64 p1, .int .i64 p2, .int .i64 p3, .int .i64 p4] 148)) p0 p1 p2 p3 p4)
                  rw [show (wr.alloc (.cells #[.int .i64 p0, .int .i64 p1, .int .i64 p2, .int .i64 p3, .int .i64 p4] 148)).heap.size = wr.heap.size + 1 by simp] at LL
                  go_wp2_with (first | (at_builtin; refine wp_catI _ rfl _ _ rfl W0.heap.size g n c 5 _ [p0, p1, p2, p3, p4] (wr.heap.size + 1) 5 rfl rfl (own_allocI (own_allocI (unhide HO) _) _) rfl (unhide LL) (by omega) (by simp; omega) ?_) | go_in)
                  intro g9 c9 u9 o9 gr9 loc9
                  have O9 := hide o9
                  have B9 := hide ((((unhide HB).alloc bs (.cells #[.int .i64 p0, .int .i64 p1, .int .i64 p2, .int .i64 p3, .int .i64 p4] 148)).alloc (by simp; omega) (.cells #[.int .i64 p0, .int .i64 p1, .int .i64 p2, .int .i64 p3, .int .i64 p4] 3)).grown gr9 (by simp; omega) (fun j hj => by cases hj; exact og.1))
                  clear o9 gr9 loc9
                  go_wp2
                  go_roundw
                  case rel => exact ⟨k + 1, g9, c9, n + 5, by go_num, by omega, rfl, by omega, hide (by rw [unhide NX]; first | exact unhide O9 | (rw [ws]; exact unhide O9) | (rw [← List.append_assoc]; exact unhide O9) | (rw [← List.append_assoc, ws]; exact unhide O9)), B9⟩
                  case measure => simp [intOf]; omega
                · have e : k = x.b.ls.length := by omega
                  subst e
                  have O := unhide HO
                  rw [List.take_length] at O
                  have HO := hide O
                  clear O hk t
                  have cg := (unhide S1).c.c4
                  go_wp2_with (first | (at_builtin; refine wp_catI _ rfl _ _ rfl W0.heap.size g n c 1 _ [(x.b.ts.length : Int)] _ 1 rfl rfl (own_allocI (unhide HO) _) rfl (lit1 _ _) (by omega) (by simp; omega) ?_) | go_in)
                  intro g9 c9 u9 o9 gr9 loc9
                  have O4 := hide (show Ints.Own u9 W0.heap.size g9 (n + 1) c9 (A3 ++ x.b.ls.flatMap row5 ++ [(x.b.ts.length : Int)]) from by first | exact o9 | (rw [List.append_assoc]; exact o9) | (rw [ws]; exact o9) | (rw [ws, List.append_assoc]; exact o9))
                  have B4 := hide (((unhide HB).alloc bs (.cells #[.int .i64 (x.b.ts.length : Int)] 3)).grown gr9 (by simp; omega) (fun j hj => by cases hj; exact og.1))
                  have n9 : n + 1 ≤ 1 + 2 * 1048576 + 1 + 2 * 1048576 + 1 + 3 * 1048576 + 1 + 5 * 1048576 + 1 := by omega
                  clear o9 gr9 loc9 HO HB S1 cf cg bs og
                  generalize hA : A3 ++ x.b.ls.flatMap row5 ++ [(x.b.ts.length : Int)] = A4 at *
                  have HA4 := hide hA
                  clear hA
                  have cn := ((unhide S0).step (unhide B4)).c.c4
                  go_wp2
                  clear cn
                  go_loopw [3, 13, 114] (fun l _ i wr => ∃ (k g c n : Nat), i = .int .i64 k ∧ k ≤ x.b.ts.length ∧ l = .slice (some ⟨g, 0, none⟩) n c ∧ n ≤ 1 + 2 * 1048576 + 1 + 2 * 1048576 + 1 + 3 * 1048576 + 1 + 5 * 1048576 + 1 + 8 * k ∧ Hid (Ints.Own wr W0.heap.size g n c (A4 ++ (x.b.ts.take k).flatMap row8)) ∧ Hid (Below W0.heap.size W0 wr)) (fun _ _ i _ => x.b.ts.length - (intOf i).toNat)
                  case atStart => exact ⟨0, _, _, _, rfl, by omega, rfl, by omega, hide (by simpa using unhide O4), B4⟩
                  case round =>
                    clear O4 B4
                    obtain ⟨k, g, c, n, rfl, hk, rfl, nk, HO, HB⟩ := hrel
                    have bs := (unhide HB).size
                    have og := (unhide HO).lt
                    have S1 := hide ((unhide S0).step (unhide HB))
                    have cf := (unhide S1).c.c4
                    by_cases t : k < x.b.ts.length
                    · have kt : (k : Int) < x.b.ts.length := by omega
                      have d := (unhide S1).r.rt k t
                      have lg := (unhide S1).r.lt
                      have NX := hide (flat_more (f := row8) ((0, 0, 0, 0, 0, 0, 0, 0) : T8) t)
                      change Hid (_ = _ ++ row8 (el8 x.b.ts k)) at NX
                      change wr.cell? ⟨x.gt, k * 8, none⟩ = some (.int .i64 (el8 x.b.ts k).1) ∧ wr.cell? ⟨x.gt, k * 8 + 1, none⟩ = some (.int .i64 (el8 x.b.ts k).2.1) ∧ wr.cell? ⟨x.gt, k * 8 + 2, none⟩ = some (.int .i64 (el8 x.b.ts k).2.2.1) ∧ wr.cell? ⟨x.gt, k * 8 + 3, none⟩ = some (.int .i64 (el8 x.b.ts k).2.2.2.1) ∧ wr.cell? ⟨x.gt, k * 8 + 4, none⟩ = some (.int .i64 (el8 x.b.ts k).2.2.2.2.1) ∧ wr.cell? ⟨x.gt, k * 8 + 5, none⟩ = some (.int .i64 (el8 x.b.ts k).2.2.2.2.2.1) ∧ wr.cell? ⟨x.gt, k * 8 + 6, none⟩ = some (.int .i64 (el8 x.b.ts k).2.2.2.2.2.2.1) ∧ wr.cell? ⟨x.gt, k * 8 + 7, none⟩ = some (.int .i64 (el8 x.b.ts k).2.2.2.2.2.2.2) at d
                      generalize el8 x.b.ts k = p at *
                      obtain ⟨p0, p1, p2, p3, p4, p5, p6, p7⟩ := p
                      obtain ⟨d0, d1, d2, d3, d4, d5, d6, d7⟩ := d
                      have LL := hide (lit8 (wr.alloc (.cells #[.int .i64 p0, .int .i64 p1, .int .i64 p2, .int .i64 p3, .int .i64 p4, .int .i64 p5, .int .i64 p6, .int .i64 p7] 141)) p0 p1 p2 p3 p4 p5 p6 p7)
                      rw [show (wr.alloc (.cells #[.int .i64 p0, .int .i64 p1, .int .i64 p2, .int .i64 p3, .int .i64 p4, .int .i64 p5, .int .i64 p6, .int .i64 p7] 141)).heap.size = wr.heap.size + 1 by simp] at LL
                      go_wp2_with (first | (at_builtin; refine wp_catI _ rfl _ _ rfl W0.heap.size g n c 8 _ [p0, p1, p2, p3, p4, p5, p6, p7] (wr.heap.size + 1) 8 rfl rfl (own_allocI (own_allocI (unhide HO) _) _) rfl (unhide LL) (by omega) (by simp; omega) ?_) | go_in)
                      intro g9 c9 u9 o9 gr9 loc9
                      have O9 := hide o9
                      have B9 := hide ((((unhide HB).alloc bs (.cells #[.int .i64 p0, .int .i64 p1, .int .i64 p2, .int .i64 p3, .int .i64 p4, .int .i64 p5, .int .i64 p6, .int .i64 p7] 141)).alloc (by simp; omega) (.cells #[.int .i64 p0, .int .i64 p1, .int .i64 p2, .int .i64 p3, .int .i64 p4, .int .i64 p5, .int .i64 p6, .int .i64 p7] 3)).grown gr9 (by simp; omega) (fun j hj => by cases hj; exact og.1))
                      clear o9 gr9 loc9
                      go_wp2
                      go_roundw
                      case rel => exact ⟨k + 1, g9, c9, n + 8, by go_num, by omega, rfl, by omega, hide (by rw [unhide NX]; first | exact unhide O9 | (rw [ws]; exact unhide O9) | (rw [← List.append_assoc]; exact unhide O9) | (rw [← List.append_assoc, ws]; exact unhide O9)), B9⟩
                      case measure => simp [intOf]; omega
                    · have e : k = x.b.ts.length := by omega
                      subst e
                      have O := unhide HO
                      rw [List.take_length] at O
                      have HO := hide O
                      clear O hk t
                      have cg := (unhide S1).c.c5
                      go_wp2_with (first | (at_builtin; refine wp_catI _ rfl _ _ rfl W0.heap.size g n c 1 _ [x.b.lot] _ 1 rfl rfl (own_allocI (unhide HO) _) rfl (lit1 _ _) (by omega) (by simp; omega) ?_) | go_in)
                      intro g9 c9 u9 o9 gr9 loc9
                      have O9 := hide o9
                      have B9 := hide (((unhide HB).alloc bs (.cells #[.int .i64 x.b.lot] 3)).grown gr9 (by simp; omega) (fun j hj => by cases hj; exact og.1))
                      clear o9 gr9 loc9
                      go_wp2
                      go_ret
                      have E : A4 ++ x.b.ts.flatMap row8 ++ [x.b.lot] = nums x.b := by rw [← unhide HA4, ← unhide HA3, ← unhide HA2, ← unhide HA1, ← unhide HA0]; rfl
                      have O : Ints.Own u9 W0.heap.size g9 (n + 1) c9 (A4 ++ x.b.ts.flatMap row8 ++ [x.b.lot]) := by first | exact unhide O9 | (rw [List.append_assoc]; exact unhide O9) | (rw [ws]; exact unhide O9) | (rw [ws, List.append_assoc]; exact unhide O9)
                      rw [E] at O
                      have l := O.len
                      refine ⟨g9, c9, ?_, ?_, ((unhide S0).b.trans ((unhide B9).mono (by omega)))⟩
                      · rw [l]; rfl
                      · rw [l]; exact O.mono (by omega)
end Go.Proofs.YtagmnociflkhcaaGreat.INums13
namespace Go.Proofs.YtagmnociflkhcaaGreat.IIndex8
open Go.ChangeShapes Go.WideShapes Go.ChangeAt Go.RowKit BMem Bks IRead
open Lots (Says says_of NoOk)
open Tup8 (T8 el8 At8 Holds8)
def FirstAt8 (xs : List T8) (p : T8 → Bool) (r : Int) : Prop := (r = -1 ∧ ∀ x ∈ xs, p x = false) ∨ (0 ≤ r ∧ ∃ x ∈ xs, p x = true)
set_option maxRecDepth 100000 in
set_option maxHeartbeats 1000000 in
theorem iIndexF8 (w : World) (g n cap K : Nat) (caps : Array Value) (xs : List T8) (p : T8 → Bool) (hl : xs.length = n) (h20 : n ≤ 1048576) (hg : g < w.heap.size) (h : At8 w g xs)
    (hK : ∀ (args : Array Value) (u : World), (callFunc K args).run Tryz.prog u = .ok (.enter K args) u) (hf : ∀ (u : World) (y : T8), Below w.heap.size w u → Calls Tryz.prog K (#[.agg #[.int .i64 y.1, .int .i64 y.2.1, .int .i64 y.2.2.1, .int .i64 y.2.2.2.1, .int .i64 y.2.2.2.2.1, .int .i64 y.2.2.2.2.2.1, .int .i64 y.2.2.2.2.2.2.1, .int .i64 y.2.2.2.2.2.2.2]] ++ caps) u fun e u' => e = .returned (.bool (p y)) ∧ Below u.heap.size u u') :
    Calls Tryz.prog 193 #[.slice (some ⟨g, 0, none⟩) n cap, .func (.func K) #[] caps] w fun e w' => ∃ r, FirstAt8 xs p r ∧ e = .returned (.int .i64 r) ∧ Below w.heap.size w w' := by
  have H := hide h
  have HF := hide hf
  have HL := hide hl
  clear h hf hl
  go_enter Tryz.func193, Tryz.ntmps193
  go_wp2_with fail
  go_loopw [8] (fun i wr => ∃ (k : Nat), k ≤ n ∧ i = .int .i64 k ∧ (∀ j, j < k → p (el8 xs j) = false) ∧ Below w.heap.size w wr) (fun i _ => n - (intOf i).toNat)
  case atStart => exact ⟨0, by omega, rfl, fun j hj => by omega, Below.refl _ _⟩
  case round =>
    obtain ⟨k, hk, rfl, hn, hb⟩ := hrel
    have HB := hide hb
    have HN := hide hn
    by_cases t : k < n
    · obtain ⟨c0, c1, c2, c3, c4, c5, c6, c7⟩ := ((unhide H).below hb hg) k (by rw [unhide HL]; exact t)
      have hM : el8 xs k ∈ xs := by
        simp [el8, List.getD, unhide HL, t]
      have HM := hide hM
      clear hb hn hM
      generalize hy : el8 xs k = y at *
      have HY := hide hy
      clear hy
      go_wp2_with fail
      refine ((unhide HF) _ y (unhide HB)).mono ?_
      rintro e w1 ⟨rfl, b1⟩
      have B1 := hide (next (unhide HB) b1)
      clear b1 c0 c1 c2 c3 c4 c5 c6 c7
      cases hp : p y
      · go_wp2
        go_roundw
        case rel => exact ⟨k + 1, by omega, by go_num, fun j hj => by
          by_cases e : j = k
          · subst e; rw [unhide HY]; exact hp
          · exact (unhide HN) j (by omega), unhide B1⟩
        case measure => simp [intOf]; omega
      · go_wp2
        go_ret
        exact ⟨k, .inr ⟨by omega, y, unhide HM, hp⟩, rfl, unhide B1⟩
    · clear hb hn
      have hkn : k = n := by omega
      have E0 := hide (show ∀ x ∈ xs, p x = false from fun x hx => by
        obtain ⟨j, hj, rfl⟩ := List.getElem_of_mem hx
        have := (unhide HN) j (by rw [unhide HL] at hj; omega)
        simpa [el8, List.getD, hj] using this)
      clear hkn
      go_wp2
      go_ret
      exact ⟨-1, .inl ⟨rfl, unhide E0⟩, rfl, unhide HB⟩
set_option maxRecDepth 100000 in
theorem iContainsF8 (w : World) (g n cap K : Nat) (caps : Array Value) (xs : List T8) (p : T8 → Bool) (b : Bool) (hl : xs.length = n) (h20 : n ≤ 1048576) (hg : g < w.heap.size) (h : At8 w g xs)
    (hK : ∀ (args : Array Value) (u : World), (callFunc K args).run Tryz.prog u = .ok (.enter K args) u) (hf : ∀ (u : World) (y : T8), Below w.heap.size w u → Calls Tryz.prog K (#[.agg #[.int .i64 y.1, .int .i64 y.2.1, .int .i64 y.2.2.1, .int .i64 y.2.2.2.1, .int .i64 y.2.2.2.2.1, .int .i64 y.2.2.2.2.2.1, .int .i64 y.2.2.2.2.2.2.1, .int .i64 y.2.2.2.2.2.2.2]] ++ caps) u fun e u' => e = .returned (.bool (p y)) ∧ Below u.heap.size u u') (hb : Says b (∃ x ∈ xs, p x = true)) :
    Calls Tryz.prog 172 #[.slice (some ⟨g, 0, none⟩) n cap, .func (.func K) #[] caps] w fun e w' => e = .returned (.bool b) ∧ Below w.heap.size w w' := by
  have H := hide h
  have HF := hide hf
  have HL := hide hl
  have T := hide hb
  clear h hf hl hb
  go_enter Tryz.func172, Tryz.ntmps172
  go_wp2_with fail
  refine (iIndexF8 _ g n cap K caps xs p (unhide HL) h20 hg (unhide H) hK (unhide HF)).mono ?_
  rintro e w1 ⟨r, hr, rfl, b1⟩
  have B1 := hide b1
  have hd : decide (0 ≤ r) = b := by
    rcases hr with ⟨rfl, hr⟩ | ⟨h0, hr⟩
    · rw [(unhide T).not (fun ⟨x, hx, e⟩ => by rw [hr x hx] at e; cases e)]; rfl
    · rw [(unhide T).of hr]; exact decide_eq_true h0
  clear b1 hr
  go_wp2
  go_ret
  exact ⟨rfl, unhide B1⟩
end Go.Proofs.YtagmnociflkhcaaGreat.IIndex8
namespace Go.Proofs.YtagmnociflkhcaaGreat.ITradesFit
open Go.ChangeShapes Go.WideShapes Go.ChangeAt Go.RowKit BMem Bks IRead IHave ITrade ILists IBalsFit IIndex8
open Lots (Says says_of NoOk)
open Tup8 (T8 el8 At8 Holds8)
set_option maxRecDepth 100000 in
set_option maxHeartbeats 4000000 in
theorem iTradeFits (w : World) (x : Bx) (y0 y1 y2 y3 y4 y5 y6 y7 : Int) (b : Bool) (h : Rd w x) (ha : Chart.Right 20 4 x.b.ac) (hi : Chart.Right 8 2 x.b.ic) (hb : Says b (TradeFit x.b (y0, y1, y2, y3, y4, y5, y6, y7))) :
    Calls Tryz.prog 174 #[.agg #[.slice (some ⟨x.ga, 0, none⟩) x.b.ac.length x.ca, .slice (some ⟨x.gi, 0, none⟩) x.b.ic.length x.ci, .slice (some ⟨x.gb, 0, none⟩) x.b.bs.length x.cb, .slice (some ⟨x.gl, 0, none⟩) x.b.ls.length x.cl, .slice (some ⟨x.gt, 0, none⟩) x.b.ts.length x.ct, .int .i64 x.b.lot], .agg #[.int .i64 y0, .int .i64 y1, .int .i64 y2, .int .i64 y3, .int .i64 y4, .int .i64 y5, .int .i64 y6, .int .i64 y7]] w fun e w' => e = .returned (.bool b) ∧ Below w.heap.size w w' := by
  have T := hide hb
  have LA := hide ha
  have LI := hide hi
  have FIT := hide (show TradeFit x.b (y0, y1, y2, y3, y4, y5, y6, y7) ↔ kindOf x.b.ac y1 = 1 ∧ kindOf x.b.ac y2 = 1 ∧ kindOf x.b.ic y3 = 2 ∧ kindOf x.b.ic y5 = 1 from Iff.rfl)
  have S1 := hide ((St.start h 40).step (one_more (w.alloc (.cells #[.slice (some ⟨x.ga, 0, none⟩) x.b.ac.length x.ca, .slice (some ⟨x.gi, 0, none⟩) x.b.ic.length x.ci, .slice (some ⟨x.gb, 0, none⟩) x.b.bs.length x.cb, .slice (some ⟨x.gl, 0, none⟩) x.b.ls.length x.cl, .slice (some ⟨x.gt, 0, none⟩) x.b.ts.length x.ct, .int .i64 x.b.lot] 40)) (.cells #[.int .i64 y0, .int .i64 y1, .int .i64 y2, .int .i64 y3, .int .i64 y4, .int .i64 y5, .int .i64 y6, .int .i64 y7] 141)))
  clear hb ha hi h
  obtain ⟨b1, h1⟩ := says_of (kindOf x.b.ac y1 = 1)
  obtain ⟨b2, h2⟩ := says_of (kindOf x.b.ac y2 = 1)
  obtain ⟨b3, h3⟩ := says_of (kindOf x.b.ic y3 = 2)
  obtain ⟨b4, h4⟩ := says_of (kindOf x.b.ic y5 = 1)
  have H1 := hide h1
  have H2 := hide h2
  have H3 := hide h3
  have H4 := hide h4
  clear h1 h2 h3 h4
  go_enter Tryz.func174, Tryz.ntmps174
  go_wp2_with fail
  refine (iHolder _ x y1 b1 (unhide S1).r (unhide LA) (unhide H1)).mono ?_
  rintro e w1 ⟨rfl, bb⟩
  have S2 := hide ((unhide S1).step bb)
  have f2 : w1.cell? ⟨w.heap.size + 1, 2, none⟩ = some (.int .i64 y2) := (bb.cell (p := ⟨w.heap.size + 1, 2, none⟩) (by simp)).trans (by simp)
  have f3 : w1.cell? ⟨w.heap.size + 1, 3, none⟩ = some (.int .i64 y3) := (bb.cell (p := ⟨w.heap.size + 1, 3, none⟩) (by simp)).trans (by simp)
  have f5 : w1.cell? ⟨w.heap.size + 1, 5, none⟩ = some (.int .i64 y5) := (bb.cell (p := ⟨w.heap.size + 1, 5, none⟩) (by simp)).trans (by simp)
  have z1 : w.heap.size + 1 < w1.heap.size := by have := bb.size; simp at this; omega
  clear bb
  cases b1
  · have F := hide ((unhide T).not (fun hh => (unhide H1).no ((unhide FIT).1 hh).1))
    clear FIT T
    go_wp2
    go_ret
    exact ⟨by rw [unhide F]; rfl, (unhide S2).b⟩
  obtain ⟨c0, c1, c2, c3, c4, c5⟩ := (unhide S2).c
  go_wp2_with fail
  refine (iHolder _ x y2 b2 (unhide S2).r (unhide LA) (unhide H2)).mono ?_
  rintro e w2 ⟨rfl, bb⟩
  have S3 := hide ((unhide S2).step bb)
  replace f2 : w2.cell? ⟨w.heap.size + 1, 2, none⟩ = some (.int .i64 y2) := (bb.cell (p := ⟨w.heap.size + 1, 2, none⟩) z1).trans f2
  replace f3 : w2.cell? ⟨w.heap.size + 1, 3, none⟩ = some (.int .i64 y3) := (bb.cell (p := ⟨w.heap.size + 1, 3, none⟩) z1).trans f3
  replace f5 : w2.cell? ⟨w.heap.size + 1, 5, none⟩ = some (.int .i64 y5) := (bb.cell (p := ⟨w.heap.size + 1, 5, none⟩) z1).trans f5
  have z2 : w.heap.size + 1 < w2.heap.size := Nat.lt_of_lt_of_le z1 bb.size
  clear bb c0 c1 c2 c3 c4 c5
  cases b2
  · have F := hide ((unhide T).not (fun hh => (unhide H2).no ((unhide FIT).1 hh).2.1))
    clear FIT T
    go_wp2
    go_ret
    exact ⟨by rw [unhide F]; rfl, (unhide S3).b⟩
  obtain ⟨c0, c1, c2, c3, c4, c5⟩ := (unhide S3).c
  go_wp2_with fail
  refine (iPaper _ x y3 b3 (unhide S3).r (unhide LI) (unhide H3)).mono ?_
  rintro e w3 ⟨rfl, bb⟩
  have S4 := hide ((unhide S3).step bb)
  replace f5 : w3.cell? ⟨w.heap.size + 1, 5, none⟩ = some (.int .i64 y5) := (bb.cell (p := ⟨w.heap.size + 1, 5, none⟩) z2).trans f5
  clear bb c0 c1 c2 c3 c4 c5 f2 f3
  cases b3
  · have F := hide ((unhide T).not (fun hh => (unhide H3).no ((unhide FIT).1 hh).2.2.1))
    clear FIT T
    go_wp2
    go_ret
    exact ⟨by rw [unhide F]; rfl, (unhide S4).b⟩
  obtain ⟨c0, c1, c2, c3, c4, c5⟩ := (unhide S4).c
  go_wp2_with fail
  refine (iCash _ x y5 b4 (unhide S4).r (unhide LI) (unhide H4)).mono ?_
  rintro e w4 ⟨rfl, bb⟩
  have S5 := hide ((unhide S4).step bb)
  clear bb c0 c1 c2 c3 c4 c5
  have G := hide (show b = b4 from by
    cases b4
    · exact (unhide T).not (fun hh => (unhide H4).no ((unhide FIT).1 hh).2.2.2)
    · exact (unhide T).of ((unhide FIT).2 ⟨(unhide H1).yes, (unhide H2).yes, (unhide H3).yes, (unhide H4).yes⟩))
  clear FIT T
  go_wp2
  go_ret
  exact ⟨by rw [unhide G]; rfl, (unhide S5).b⟩
noncomputable def unfitB (b : Bk) (t : T8) : Bool := @decide (¬ TradeFit b t) (Classical.propDecidable _)
theorem unfit_says (b : Bk) (t : T8) : Says (!(unfitB b t)) (TradeFit b t) := by
  unfold unfitB
  by_cases h : TradeFit b t
  · rw [@decide_eq_false _ (Classical.propDecidable _) (fun n : ¬ TradeFit b t => n h)]
    exact ⟨fun _ => h, fun _ => rfl⟩
  · rw [@decide_eq_true _ (Classical.propDecidable _) h]
    exact ⟨fun e => Bool.noConfusion e, fun e => absurd e h⟩
set_option maxRecDepth 100000 in
theorem iUnfit (w : World) (x : Bx) (g : Nat) (y : T8) (h : Rd w x) (hgs : g < w.heap.size) (hc : Cl w g x) (ha : Chart.Right 20 4 x.b.ac) (hi : Chart.Right 8 2 x.b.ic) :
    Calls Tryz.prog 173 (#[.agg #[.int .i64 y.1, .int .i64 y.2.1, .int .i64 y.2.2.1, .int .i64 y.2.2.2.1, .int .i64 y.2.2.2.2.1, .int .i64 y.2.2.2.2.2.1, .int .i64 y.2.2.2.2.2.2.1, .int .i64 y.2.2.2.2.2.2.2]] ++ #[.pointer (some ⟨g, 0, none⟩)]) w fun e w' => e = .returned (.bool (unfitB x.b y)) ∧ Below w.heap.size w w' := by
  obtain ⟨y0, y1, y2, y3, y4, y5, y6, y7⟩ := y
  show Calls Tryz.prog 173 #[.agg #[.int .i64 y0, .int .i64 y1, .int .i64 y2, .int .i64 y3, .int .i64 y4, .int .i64 y5, .int .i64 y6, .int .i64 y7], .pointer (some ⟨g, 0, none⟩)] w _
  have T := hide (unfit_says x.b (y0, y1, y2, y3, y4, y5, y6, y7))
  generalize unfitB x.b (y0, y1, y2, y3, y4, y5, y6, y7) = b at *
  have B0 := hide (one_more w (.cells #[.int .i64 y0, .int .i64 y1, .int .i64 y2, .int .i64 y3, .int .i64 y4, .int .i64 y5, .int .i64 y6, .int .i64 y7] 141))
  have H := hide (h.below (unhide B0))
  have LA := hide ha
  have LI := hide hi
  obtain ⟨c0, c1, c2, c3, c4, c5⟩ := hc.below (unhide B0) hgs
  clear h ha hi
  go_enter Tryz.func173, Tryz.ntmps173
  go_wp2_with fail
  refine (iTradeFits _ x y0 y1 y2 y3 y4 y5 y6 y7 (!b) (unhide H) (unhide LA) (unhide LI) (unhide T)).mono ?_
  rintro e w1 ⟨rfl, b1⟩
  have B1 := hide (next (unhide B0) b1)
  clear b1
  go_wp2
  go_ret
  exact ⟨by simp, unhide B1⟩
set_option maxRecDepth 100000 in
theorem iTradesFit (w : World) (x : Bx) (b : Bool) (h : Rd w x) (hl : Lists x.b) (hb : Says b (TradesFit x.b)) :
    Calls Tryz.prog 159 #[.agg #[.slice (some ⟨x.ga, 0, none⟩) x.b.ac.length x.ca, .slice (some ⟨x.gi, 0, none⟩) x.b.ic.length x.ci, .slice (some ⟨x.gb, 0, none⟩) x.b.bs.length x.cb, .slice (some ⟨x.gl, 0, none⟩) x.b.ls.length x.cl, .slice (some ⟨x.gt, 0, none⟩) x.b.ts.length x.ct, .int .i64 x.b.lot]] w fun e w' => e = .returned (.bool b) ∧ Below w.heap.size w w' := by
  have T := hide (show Says (!b) (∃ t ∈ x.b.ts, unfitB x.b t = true) from by
    cases b
    · refine ⟨fun _ => ?_, fun _ => rfl⟩
      have := hb.no
      refine Classical.byContradiction fun hn => this fun k hk => ?_
      refine (unfit_says x.b (el8 x.b.ts k)).1 ?_
      cases e : unfitB x.b (el8 x.b.ts k)
      · rfl
      · exact absurd ⟨_, Tup8.getD_mem hk, e⟩ hn
    · refine ⟨fun e => Bool.noConfusion e, fun ⟨t, ht, e⟩ => ?_⟩
      obtain ⟨k, hk, rfl⟩ := Tup8.mem_getD ht
      have := (unfit_says x.b (el8 x.b.ts k)).2 (hb.yes k hk)
      rw [e] at this
      cases this)
  have LA := hide hl.1
  have LI := hide hl.2.1
  have S0 := hide (St.start h 40)
  have nt := h.nt
  have lt := h.lt
  clear hb hl h
  go_enter Tryz.func159, Tryz.ntmps159
  go_wp2_with fail
  refine (iContainsF8 _ x.gt _ x.ct 173 #[.pointer (some ⟨w.heap.size, 0, none⟩)] x.b.ts (unfitB x.b) (!b) rfl nt (by simp; omega) (unhide S0).r.rt (fun _ _ => enters Tryz.func173 (by kernel_rfl) rfl _ _) (fun u y bu => iUnfit u x w.heap.size y ((unhide S0).r.below bu) (Nat.lt_of_lt_of_le (unhide S0).s bu.size) ((unhide S0).c.below bu (by simp)) (unhide LA) (unhide LI)) (unhide T)).mono ?_
  rintro e w1 ⟨rfl, b1⟩
  have B1 := hide ((unhide S0).step b1).b
  clear b1
  go_wp2
  go_ret
  exact ⟨by simp, unhide B1⟩
end Go.Proofs.YtagmnociflkhcaaGreat.ITradesFit
namespace Go.Proofs.YtagmnociflkhcaaGreat.VOB
open Go.ChangeShapes Go.WideShapes Go.ChangeAt Go.RowKit
open ByteH (Own At)
def Ob (w : World) (base : Nat) (a : Option Addr) (n cap : Nat) (xs : List Int) : Prop := w.ownsRow base 5 1 (.slice a n cap) n (xs.map (Value.int .u8))
theorem Ob.of {w : World} {base g n cap : Nat} {xs : List Int} (h : Own w base g n cap xs) : Ob w base (some ⟨g, 0, none⟩) n cap xs := h
theorem Ob.nil (w : World) (base : Nat) : Ob w base none 0 0 [] := World.ownsRow_nil w base _ _
section
variable {w w' : World} {base n cap : Nat} {a : Option Addr} {xs : List Int}
theorem Ob.len (h : Ob w base a n cap xs) : xs.length = n := by have := h.1; simpa using this
theorem Ob.either (h : Ob w base a n cap xs) : (a = none ∧ n = 0 ∧ xs = []) ∨ ∃ g, a = some ⟨g, 0, none⟩ ∧ Own w base g n cap xs := by
  have hl := h.len
  rcases h.2 with ⟨h1, _⟩ | ⟨g, c, cur, h1, _⟩
  · have : a = none ∧ n = 0 ∧ cap = 0 := by simpa using h1
    obtain ⟨rfl, rfl, rfl⟩ := this
    exact .inl ⟨rfl, rfl, List.eq_nil_of_length_eq_zero hl⟩
  · have : a = some ⟨g, 0, none⟩ ∧ cap = c := by simpa using h1
    obtain ⟨rfl, rfl⟩ := this
    exact .inr ⟨g, rfl, h⟩
def Btw (lo hi : Nat) (a : Option Addr) : Prop := ∀ x, a = some x → lo ≤ x.block ∧ x.block < hi
theorem Ob.btw (h : Ob w base a n cap xs) : Btw base w.heap.size a := by
  intro x hx
  rcases h.either with ⟨rfl, _⟩ | ⟨g, rfl, o⟩
  · cases hx
  · cases hx; exact o.lt
theorem Btw.mono {lo hi lo' hi' : Nat} (h : Btw lo hi a) (h1 : lo' ≤ lo) (h2 : hi ≤ hi') : Btw lo' hi' a := fun x hx => ⟨Nat.le_trans h1 (h x hx).1, Nat.lt_of_lt_of_le (h x hx).2 h2⟩
theorem Ob.mono {base' : Nat} (h : Ob w base a n cap xs) (hb : base' ≤ base) : Ob w base' a n cap xs := by
  rcases h.either with ⟨rfl, rfl, rfl⟩ | ⟨g, rfl, o⟩
  · refine ⟨h.1, ?_⟩
    rcases h.2 with h | ⟨g, c, cur, h1, _⟩
    · exact .inl h
    · simp at h1
  · exact o.mono hb
theorem Ob.below {B : Nat} (h : Ob w base a n cap xs) (k : Below B w w') (hb : Btw 0 B a) : Ob w' base a n cap xs := by
  rcases h.either with ⟨rfl, rfl, rfl⟩ | ⟨g, rfl, o⟩
  · refine ⟨h.1, ?_⟩
    rcases h.2 with h | ⟨g, c, cur, h1, _⟩
    · exact .inl h
    · simp at h1
  · exact o.below k (hb _ rfl).2
theorem Ob.step (h : Ob w base a n cap xs) (k : Below w.heap.size w w') : Ob w' base a n cap xs := h.below k (h.btw.mono (Nat.zero_le _) (Nat.le_refl _))
theorem Ob.kept {row : Option Nat} (h : Ob w base a n cap xs) (k : w.grownBy w' row) (hr : ∀ x, a = some x → some x.block ≠ row) : Ob w' base a n cap xs := by
  rcases h.either with ⟨rfl, rfl, rfl⟩ | ⟨g, rfl, o⟩
  · refine ⟨h.1, ?_⟩
    rcases h.2 with h | ⟨g, c, cur, h1, _⟩
    · exact .inl h
    · simp at h1
  · exact o.kept k (hr _ rfl)
end
def Rd (w : World) (a : Option Addr) (xs : List Int) : Prop := xs = [] ∨ ∃ g, a = some ⟨g, 0, none⟩ ∧ g < w.heap.size ∧ At w g xs
theorem Ob.rd {w : World} {base n cap : Nat} {a : Option Addr} {xs : List Int} (h : Ob w base a n cap xs) : Rd w a xs := by
  rcases h.either with ⟨rfl, rfl, rfl⟩ | ⟨g, rfl, o⟩
  · exact .inl rfl
  · exact .inr ⟨g, rfl, o.lt.2, o.at⟩
theorem Rd.below {w w' : World} {a : Option Addr} {xs : List Int} (h : Rd w a xs) (k : Below w.heap.size w w') : Rd w' a xs := by
  rcases h with h | ⟨g, e, hl, hc⟩
  · exact .inl h
  · exact .inr ⟨g, e, Nat.lt_of_lt_of_le hl k.size, hc.below k hl⟩
end Go.Proofs.YtagmnociflkhcaaGreat.VOB
namespace Go.Proofs.YtagmnociflkhcaaGreat.IPuts11
open Go.ChangeShapes Go.WideShapes Go.ChangeAt Go.RowKit SBytes SPut11 SPuts11
open ByteH (Own At)
set_option maxRecDepth 100000 in
set_option maxHeartbeats 4000000 in
theorem iForm (w : World) (base g0 c0 n0 : Nat) (p0 : List Int) (x0 : Int) (h0 : 0 ≤ x0) (hx : x0 ≤ 9223372036854775807) (hn : n0 ≤ 100000000) (hb : base ≤ w.heap.size) (ho : Own w base g0 n0 c0 p0) :
    Calls Tryz.prog 110 #[.slice (some ⟨g0, 0, none⟩) n0 c0, .int .i64 x0] w fun e w' => ∃ g c, e = .returned (.slice (some ⟨g, 0, none⟩) (n0 + (numF x0.toNat).length) c) ∧ Own w' base g (n0 + (numF x0.toNat).length) c (p0 ++ numF x0.toNat) ∧ Below base w w' := by
  have O0 := hide (show Own w base g0 (n0 + ([] : List Int).length) c0 (p0 ++ []) from by simpa using ho)
  have B0 := hide (Below.refl base w)
  have L := hide (numF_nine (x := x0.toNat) (by omega))
  obtain ⟨r, hr⟩ : ∃ r, Hid (numF x0.toNat = r) := ⟨_, rfl⟩
  rw [unhide hr] at L ⊢
  have S0 := hide (show ([] : List Int) ++ numF x0.toNat = r from unhide hr)
  clear hr ho
  go_enter Tryz.func110, Tryz.ntmps110
  go_wp2
  go_loopw [0, 1] (fun l a wr => ∃ (x : Int) (p : List Int) (g c n : Nat), a = .int .i64 x ∧ l = .slice (some ⟨g, 0, none⟩) n c ∧ n = n0 + p.length ∧ 0 ≤ x ∧ x ≤ 9223372036854775807 ∧ Hid (p ++ numF x.toNat = r) ∧ Hid (Own wr base g n c (p0 ++ p)) ∧ Hid (Below base w wr)) (fun _ a _ => (intOf a).toNat)
  case atStart => exact ⟨x0, [], g0, c0, n0, rfl, rfl, by simp, h0, hx, S0, O0, B0⟩
  case round =>
    clear O0 B0 S0 hx h0
    obtain ⟨x, p, g, c, n, rfl, rfl, hnp, x1, x2, HR, HO, HB⟩ := hrel
    have bs := (unhide HB).size
    have pl : p.length ≤ 9 := by have a := unhide L; rw [← unhide HR] at a; simp at a; omega
    have nl : n ≤ 100000009 := by omega
    have HN := hide hnp
    have og := (unhide HO).lt
    have HX := hide (And.intro x1 x2)
    clear hnp
    by_cases t : 127 < x
    · have N := hide (show (p ++ [x % 128 + 128]) ++ numF (x / 128).toNat = r from by
        rw [← unhide HR, numF_more (x := x.toNat) (by omega), List.append_assoc]
        have e1 : ((x.toNat % 128 + 128 : Nat) : Int) = x % 128 + 128 := by omega
        have e2 : x.toNat / 128 = (x / 128).toNat := by omega
        rw [e1, e2]; rfl)
      clear HR x1 x2
      go_wp2_with (first | (at_builtin; refine wp_catB _ rfl _ _ rfl base g n c 1 (p0 ++ p) [x % 128 + 128] wr.heap.size 0 1 rfl rfl (own_alloc (unhide HO) _) rfl (lit_one _ _) (by omega) (by simp; omega) ?_) | go_in)
      intro g5 c5 w5 o5 gr5 loc5
      have O5 := hide o5
      have B5 := hide (((unhide HB).alloc (by omega) (.cells #[.int .u8 (x % 128 + 128)] 5)).grown gr5 (by simp; omega) (fun j hj => by cases hj; exact og.1))
      clear o5 gr5 loc5
      go_wp2
      go_roundw
      case rel =>
        have xx := unhide HX
        exact ⟨x / 128, p ++ [x % 128 + 128], g5, c5, n + 1, by simp, rfl, by have := unhide HN; simp; omega, by omega, by omega, N, O5, B5⟩
      case measure =>
        have xx := unhide HX
        simp [intOf]
        omega
    · have N := hide (show p ++ [x] = r from by
        rw [← unhide HR, numF_last (x := x.toNat) (by omega)]
        have e1 : ((x.toNat : Nat) : Int) = x := by omega
        rw [e1])
      clear HR
      go_wp2_with (first | (at_builtin; refine wp_catB _ rfl _ _ rfl base g n c 1 (p0 ++ p) [x] wr.heap.size 0 1 rfl rfl (own_alloc (unhide HO) _) rfl (lit_one _ _) (by omega) (by simp; omega) ?_) | go_in)
      intro g5 c5 w5 o5 gr5 loc5
      have O5 := hide o5
      have B5 := hide (((unhide HB).alloc (by omega) (.cells #[.int .u8 x] 5)).grown gr5 (by simp; omega) (fun j hj => by cases hj; exact og.1))
      clear o5 gr5 loc5
      go_wp2
      go_ret
      have e := unhide N
      have e1 : n0 + r.length = n + 1 := by rw [← e, unhide HN]; simp; omega
      exact ⟨g5, c5, by rw [e1]; rfl, by rw [e1, ← e]; exact unhide O5, unhide B5⟩
set_option maxRecDepth 100000 in
set_option maxHeartbeats 4000000 in
theorem iPutNums (w : World) (gl cl : Nat) (xs : List Int) (h20 : xs.length ≤ 1048576) (hg : gl < w.heap.size) (hr : Ints.At w gl xs) (hi : ∀ i, i < xs.length → xs.getD i 0 ≤ 9223372036854775807) :
    Calls Tryz.prog 68 #[.slice (some ⟨gl, 0, none⟩) xs.length cl] w fun e w' => ∃ a c, e = .returned (.slice a (numsB xs).length c) ∧ VOB.Ob w' w.heap.size a (numsB xs).length c (numsB xs) ∧ Below w.heap.size w w' := by
  have O0 := hide (lit0 w w.heap.size (Nat.le_refl _) rfl)
  have B0 := hide (one_more w (.cells #[] 5))
  have R := hide hr
  have HI := hide hi
  have HG := hide hg
  obtain ⟨r, hq⟩ : ∃ r, Hid (numsB xs = r) := ⟨_, rfl⟩
  rw [unhide hq]
  clear hr hi hg
  go_enter Tryz.func68, Tryz.ntmps68
  go_wp2
  go_loopw [3, 5, 9] (fun l _ a wr => ∃ (k g c n : Nat), a = .int .i64 k ∧ k ≤ xs.length ∧ l = .slice (some ⟨g, 0, none⟩) n c ∧ n ≤ 9 * k ∧ Hid (n = ((xs.take k).flatMap numB).length) ∧ Hid (∀ i, i < k → 0 ≤ xs.getD i 0) ∧ Hid (Own wr w.heap.size g n c ((xs.take k).flatMap numB)) ∧ Hid (Below w.heap.size w wr)) (fun _ _ a _ => xs.length - (intOf a).toNat)
  case atStart => exact ⟨0, w.heap.size, 0, 0, rfl, by omega, rfl, by omega, hide (by simp), hide (fun i h => absurd h (by omega)), hide (by simpa using unhide O0), B0⟩
  case round =>
    clear O0 B0
    obtain ⟨k, g, c, n, rfl, hk, rfl, nk, HN, HP, HO, HB⟩ := hrel
    have bs := (unhide HB).size
    by_cases t : k < xs.length
    · have d := (((unhide R).below (unhide HB) (unhide HG)) k t)
      have NX := hide (flat_next t)
      have HX := hide ((unhide HI) k t)
      have SG := hide (show 0 ≤ xs.getD k 0 → ∀ i, i < k + 1 → 0 ≤ xs.getD i 0 from fun h i hi => by
        by_cases e : i = k
        · subst e; exact h
        · exact (unhide HP) i (by omega))
      have BAD := hide (show xs.getD k 0 < 0 → r = [] from fun h => by rw [← unhide hq]; exact if_neg (fun a => by have := a k t; omega))
      clear HP
      generalize xs.getD k 0 = y at *
      have kx : (k : Int) < xs.length := by omega
      by_cases y0 : y < 0
      · have e := (unhide BAD) y0
        subst e
        have O5 := hide (lit0 wr w.heap.size bs rfl)
        have B5 := hide ((unhide HB).alloc bs (.cells #[] 5))
        clear BAD SG NX HX hq HI R
        go_wp2
        go_ret
        exact ⟨_, 0, rfl, .of (unhide O5), unhide B5⟩
      · have S1 := hide ((unhide SG) (by omega))
        have NB := hide (numB_pos (x := y) (by omega))
        have nine := numB_nine (unhide HX)
        rw [unhide NB] at nine
        have y1 : 0 ≤ y := by omega
        have FM := hide (iForm wr w.heap.size g c n _ y y1 (unhide HX) (by omega) bs (unhide HO))
        clear BAD SG
        go_wp2_with fail
        refine (unhide FM).mono ?_
        rintro e u ⟨g5, c5, rfl, o5, b5⟩
        have O5 := hide o5
        have B5 := hide ((unhide HB).trans b5)
        clear o5 b5 FM HO
        go_wp2
        go_roundw
        case rel => exact ⟨k + 1, g5, c5, n + (numF y.toNat).length, by go_num, by omega, rfl, by omega, hide (by rw [unhide NX, List.length_append, ← unhide HN, unhide NB]), S1, hide (by rw [unhide NX, unhide NB]; exact unhide O5), B5⟩
        case measure => simp [intOf]; omega
    · have e : k = xs.length := by omega
      subst e
      have E := hide (show xs.flatMap numB = r from by rw [← unhide hq]; exact (if_pos (unhide HP)).symm)
      have N := unhide HN
      have O := unhide HO
      rw [List.take_length] at N O
      rw [unhide E] at N O
      have O5 := hide O
      have N5 := hide N
      clear N O HN HO HP
      go_wp2
      go_ret
      have e := unhide N5
      subst e
      exact ⟨_, c, rfl, .of (unhide O5), unhide HB⟩
end Go.Proofs.YtagmnociflkhcaaGreat.IPuts11
namespace Go.Proofs.YtagmnociflkhcaaGreat.IPut11
open Go.ChangeShapes Go.WideShapes Go.ChangeAt Go.RowKit SBytes SPut11 SPuts11
theorem nums_one (x : Int) : numsB [x] = numB x := by
  unfold numsB
  by_cases h : x < 0
  · rw [if_neg (fun a => by have := a 0 (by simp); simp at this; omega)]
    exact (if_pos h).symm
  · rw [if_pos (fun i hi => by
      have : i = 0 := by simpa using hi
      subst this
      simp
      omega)]
    simp
theorem Ob.rebase {w : World} {base base' n cap : Nat} {a : Option Addr} {xs : List Int} (h : VOB.Ob w base a n cap xs) (hb : base' ≤ base) : VOB.Ob w base' a n cap xs := h.mono hb
set_option maxRecDepth 100000 in
theorem iPutNum (w : World) (x : Int) (hx : x ≤ 9223372036854775807) :
    Calls Tryz.prog 31 #[.int .i64 x] w fun e w' => ∃ a c, e = .returned (.slice a (numB x).length c) ∧ VOB.Ob w' w.heap.size a (numB x).length c (numB x) ∧ Below w.heap.size w w' := by
  have B0 := hide (one_more w (.cells #[.int .i64 x] 3))
  have M := hide (IPuts11.iPutNums (w.alloc (.cells #[.int .i64 x] 3)) w.heap.size 1 [x] (by simp) (by simp) (fun i hi => by
    have : i = 0 := by simpa using hi
    subst this
    simp) (fun i hi => by
    have : i = 0 := by simpa using hi
    subst this
    simpa using hx))
  rw [nums_one] at M
  generalize numB x = ws at *
  generalize hn : ws.length = nw at *
  have NW := hide hn
  clear hn
  go_enter Tryz.func31, Tryz.ntmps31
  go_wp2_with fail
  refine (unhide M).mono ?_
  rintro e u ⟨a, c, rfl, o, b⟩
  have O := hide o
  have B := hide ((unhide B0).trans (b.mono (by simp)))
  clear o b M B0
  go_wp2
  go_ret
  exact ⟨a, c, rfl, (unhide O).mono (by simp), unhide B⟩
end Go.Proofs.YtagmnociflkhcaaGreat.IPut11
namespace Go.Proofs.YtagmnociflkhcaaGreat.ICheck11
open Go.ChangeShapes Go.WideShapes Go.ChangeAt Go.RowKit SBytes
def AtBO (w : World) (g o : Nat) (xs : List Int) : Prop := ∀ i, i < xs.length → w.cell? ⟨g, o + i, none⟩ = some (.int .u8 (xs.getD i 0)) ∧ 0 ≤ xs.getD i 0 ∧ xs.getD i 0 ≤ 255
theorem AtBO.of {w : World} {g : Nat} {xs : List Int} (h : AtB w g xs) : AtBO w g 0 xs := fun i hi => by rw [Nat.zero_add]; exact h i hi
theorem AtBO.below {w w' : World} {g o B : Nat} {xs : List Int} (h : AtBO w g o xs) (k : Below B w w') (hg : g < B) : AtBO w' g o xs := fun i hi => ⟨(k.cell (p := ⟨g, o + i, none⟩) hg).trans (h i hi).1, (h i hi).2⟩
set_option maxRecDepth 100000 in
set_option maxHeartbeats 4000000 in
theorem iCheckO (w : World) (g o cap : Nat) (xs : List Int) (h20 : xs.length ≤ 1048576) (hr : AtBO w g o xs) :
    Calls Tryz.prog 109 #[.slice (some ⟨g, o, none⟩) xs.length cap] w fun e w' => e = .returned (.int .i64 (65536 * (chk xs xs.length).2 + (chk xs xs.length).1)) ∧ w' = w := by
  have R := hide hr
  clear hr
  go_enter Tryz.func109, Tryz.ntmps109
  go_wp2
  go_loopw [3, 4, 6, 9] (fun a b _ i wr => ∃ (k : Nat) (x y : Int), k ≤ xs.length ∧ i = .int .i64 k ∧ a = .int .i64 x ∧ b = .int .i64 y ∧ Hid ((x, y) = chk xs k) ∧ wr = w) (fun _ _ _ i _ => xs.length - (intOf i).toNat)
  case atStart => exact ⟨0, 0, 0, by omega, rfl, rfl, rfl, rfl, rfl⟩
  case round =>
    obtain ⟨k, x, y, hk, rfl, rfl, rfl, HC, rfl⟩ := hrel
    have q := chk_in xs k
    rw [← unhide HC] at q
    obtain ⟨q0, q1, q2, q3⟩ := q
    simp only at q0 q1 q2 q3
    by_cases t : k < xs.length
    · obtain ⟨d, d0, d1⟩ := (unhide R) k t
      have N := hide (show ((x + xs.getD k 0 + 1) % 65535, (y + (x + xs.getD k 0 + 1) % 65535) % 65535) = chk xs (k + 1) from by simp only [chk]; rw [← unhide HC]; rfl)
      clear HC
      generalize xs.getD k 0 = v at *
      have a1 : wrap64 (x + v) = x + v := by rw [wrap64]; omega
      have a2 : wrap64 (x + v + 1) = x + v + 1 := by rw [wrap64]; omega
      have a3 : (x + v + 1).tmod 65535 = (x + v + 1) % 65535 := tmod_pos _ (by omega)
      have m1 : 0 ≤ (x + v + 1) % 65535 ∧ (x + v + 1) % 65535 < 65535 := by omega
      generalize (x + v + 1) % 65535 = m at *
      have a4 : wrap64 m = m := by rw [wrap64]; omega
      have a5 : wrap64 (y + m) = y + m := by rw [wrap64]; omega
      have a6 : (y + m).tmod 65535 = (y + m) % 65535 := tmod_pos _ (by omega)
      have m2 : 0 ≤ (y + m) % 65535 ∧ (y + m) % 65535 < 65535 := by omega
      generalize (y + m) % 65535 = n at *
      have a7 : wrap64 n = n := by rw [wrap64]; omega
      have a8 : wrap64 v = v := by rw [wrap64]; omega
      go_wp2
      go_roundw
      case rel => exact ⟨k + 1, m, n, by omega, by go_num, by simp [a1, a2, a3, a4], by simp [a1, a2, a3, a4, a5, a6, a7], N, trivial⟩
      case measure => simp [intOf]; omega
    · have e : k = xs.length := by omega
      subst e
      have a1 : wrap64 (65536 * y) = 65536 * y := by rw [wrap64]; omega
      have a2 : wrap64 (65536 * y + x) = 65536 * y + x := by rw [wrap64]; omega
      have c1 : x = (chk xs xs.length).1 := congrArg Prod.fst (unhide HC)
      have c2 : y = (chk xs xs.length).2 := congrArg Prod.snd (unhide HC)
      have C1 := hide c1
      have C2 := hide c2
      clear c1 c2
      go_wp2
      go_ret
      exact ⟨by rw [← unhide C1, ← unhide C2]; simp [a1, a2], rfl⟩
end Go.Proofs.YtagmnociflkhcaaGreat.ICheck11
namespace Go.Proofs.YtagmnociflkhcaaGreat.ISum11
open Go.ChangeShapes Go.WideShapes Go.ChangeAt Go.RowKit SBytes SPut11
theorem chkB_in (xs : List Int) : 0 ≤ chkB xs ∧ chkB xs ≤ 4294967295 := by
  have := chk_in xs xs.length
  unfold chkB
  omega
def laid (n : Int) (k : Nat) : Array Value := #[.int .u8 (if 0 < k then n % 256 else 0), .int .u8 (if 1 < k then n / 256 % 256 else 0), .int .u8 (if 2 < k then n / 65536 % 256 else 0), .int .u8 (if 3 < k then n / 16777216 % 256 else 0)]
set_option maxRecDepth 100000 in
set_option maxHeartbeats 4000000 in
theorem iSum (w : World) (gl o cl : Nat) (xs : List Int) (h20 : xs.length ≤ 1048576) (hg : gl < w.heap.size) (hr : ICheck11.AtBO w gl o xs) :
    Calls Tryz.prog 66 #[.slice (some ⟨gl, o, none⟩) xs.length cl] w fun e w' => e = .returned (.agg #[.int .u8 (chkB xs % 256), .int .u8 (chkB xs / 256 % 256), .int .u8 (chkB xs / 65536 % 256), .int .u8 (chkB xs / 16777216 % 256)]) ∧ Below w.heap.size w w' := by
  have CK := hide (fun u h => ICheck11.iCheckO u gl o cl xs h20 h)
  have R := hide hr
  have CI := hide (show 0 ≤ 65536 * (chk xs xs.length).2 + (chk xs xs.length).1 ∧ 65536 * (chk xs xs.length).2 + (chk xs xs.length).1 ≤ 4294967295 from chkB_in xs)
  have E := hide (show chkB xs = 65536 * (chk xs xs.length).2 + (chk xs xs.length).1 from rfl)
  rw [unhide E]
  clear hr E
  generalize 65536 * (chk xs xs.length).2 + (chk xs xs.length).1 = n at *
  obtain ⟨n0, n1⟩ := unhide CI
  go_enter Tryz.func66, Tryz.ntmps66
  go_wp2_with fail
  refine ((unhide CK) _ ((unhide R).below (one_more _ _) hg)).mono ?_
  rintro e u ⟨rfl, rfl⟩
  go_wp2
  go_loopw [5, 9] (fun _ i wr => ∃ k : Nat, k ≤ 4 ∧ i = .int .i64 k ∧ wr = (w.alloc (.cells #[.int .u8 0, .int .u8 0, .int .u8 0, .int .u8 0] 107)).alloc (.cells (laid n k) 107)) (fun _ i _ => 4 - (intOf i).toNat)
  case atStart => exact ⟨0, by omega, rfl, rfl⟩
  case round =>
    obtain ⟨k, hk, rfl, rfl⟩ := hrel
    have : k = 0 ∨ k = 1 ∨ k = 2 ∨ k = 3 ∨ k = 4 := by omega
    rcases this with rfl | rfl | rfl | rfl | rfl
    · simp only [laid]
      go_wp2
      go_roundw
      case rel => exact ⟨1, by omega, rfl, by first | rfl | simp⟩
      case measure => simp [intOf]
    · simp only [laid]
      go_wp2
      go_roundw
      case rel => exact ⟨2, by omega, rfl, by first | rfl | simp⟩
      case measure => simp [intOf]
    · simp only [laid]
      go_wp2
      go_roundw
      case rel => exact ⟨3, by omega, rfl, by first | rfl | simp⟩
      case measure => simp [intOf]
    · simp only [laid]
      go_wp2
      go_roundw
      case rel => exact ⟨4, by omega, rfl, by
        have e : n / 16777216 % 256 = n / 16777216 := by omega
        simp [e]⟩
      case measure => simp [intOf]
    · simp only [laid]
      go_wp2
      go_returns
      exact ⟨rfl, (one_more _ _).trans ((Below.refl _ _).alloc (by simp) _)⟩
end Go.Proofs.YtagmnociflkhcaaGreat.ISum11
namespace Go.Proofs.YtagmnociflkhcaaGreat.ConB11
open Go.ChangeShapes Go.WideShapes Go.ChangeAt Go.RowKit SBytes SPut11
open ByteH (Own At info8)
def OwnV (w : World) (base : Nat) (v : Value) (xs : List Int) : Prop := w.ownsRow base 5 1 v xs.length (xs.map (Value.int .u8))
theorem OwnV.nil (w : World) (base : Nat) : OwnV w base (.slice none 0 0) [] := ⟨rfl, .inl ⟨rfl, rfl⟩⟩
theorem OwnV.lt {w : World} {base : Nat} {v : Value} {xs : List Int} (h : OwnV w base v xs) : ∀ g, v.ownBlock = some g → base ≤ g ∧ g < w.heap.size := fun g hg => World.ownsRow.lt h g hg
theorem OwnV.ob {w : World} {base : Nat} {v : Value} {xs : List Int} (h : OwnV w base v xs) : ∃ a c, v = .slice a xs.length c ∧ VOB.Ob w base a xs.length c xs := by
  have h' := h
  rcases h.2 with ⟨rfl, h2⟩ | ⟨g, c, cur, rfl, _⟩
  · obtain rfl : xs = [] := List.eq_nil_of_length_eq_zero h2
    exact ⟨none, 0, rfl, h'⟩
  · exact ⟨_, c, rfl, h'⟩
theorem AtO.below {w w' : World} {g o B : Nat} {xs : List Int} (h : AtO w g o xs) (k : Below B w w') (hg : g < B) : AtO w' g o xs := fun i hi => (k.cell (p := ⟨g, o + i, none⟩) hg).trans (h i hi)
theorem wp_catV (u : World) {ops : Array Oper} {rest : List Oper} {o : Oper} {a : Act} {Q : Exit → Act → World → Prop} (hgd : o.guard = none) (s x : Operand)
    (ho : o.op = .call { callee := .builtin .append, args := #[s, x], argTypes := #[63, 63] }) (base m : Nat) (v : Value) (ps qs : List Int) (vb off c : Nat)
    (hs : a.eval s = v) (hx : a.eval x = .slice (some ⟨vb, off, none⟩) m c) (hown : OwnV u base v ps) (hl : qs.length = m) (hv : AtO u vb off qs) (hn : ps.length + m ≤ 1048576) (hb : base ≤ u.heap.size)
    (h : ∀ v' w', OwnV w' base v' (ps ++ qs) → u.grownBy w' v.ownBlock → (v'.ownBlock = v.ownBlock ∨ v'.ownBlock = some u.heap.size) → wpList Tryz.prog ops Q rest (a.put o.dst v') w') : wpList Tryz.prog ops Q (o :: rest) a u := by
  obtain ⟨i0, hi, hz0, hz1, hz2⟩ := info_parts info8
  refine wpList_append_own_at u hgd s x 63 ho base 5 i0 (.int .u8 0) 1 1 Tryz.underlying63 hi hz0 hz1 hz2 rfl (by decide) v ps.length _ hs hown ⟨vb, off, none⟩ m c (qs.map (Value.int .u8)) hx (by simp [hl]) (fun j v hj => by
    have hj' : j < qs.length := by
      have := (List.getElem?_eq_some_iff.1 hj).1
      simpa using this
    have := hv j hj'
    rw [Addr.add_lit, this]
    rw [← hj]
    simp [List.getD, hj']) (by intro u hu; obtain ⟨y, _, rfl⟩ := List.mem_map.1 hu; simp [Value.oneCell']) (by unfold maxLen; omega) (by omega) hb ?_
  intro v' w' own' gr' nil' loc'
  refine h v' w' ?_ gr' loc'
  unfold OwnV
  rw [List.map_append, List.length_append, hl]
  exact own'
set_option maxRecDepth 100000 in
theorem grow_none (w : World) : Calls Tryz.prog 67 #[.slice none 0 0, .int .i64 0] w fun e w' => e = .returned (.slice none 0 0) ∧ Below w.heap.size w w' := by
  go_enter Tryz.func67, Tryz.ntmps67
  go_wp2
  go_ret
  exact ⟨rfl, Below.refl _ _⟩
set_option maxRecDepth 100000 in
theorem grow_some (w : World) (k : Nat) (h0 : 0 < k) (h20 : k ≤ 1048576) : Calls Tryz.prog 67 #[.slice none 0 0, .int .i64 k] w fun e w' => ∃ v, e = .returned v ∧ OwnV w' w.heap.size v [] ∧ Below w.heap.size w w' := by
  obtain ⟨i0, hi, hz0, hz1, hz2⟩ := info_parts info8
  have kp : (0 : Int) < (k : Int) := by omega
  have hold : (Builtin.firstCells i0.size 0 (.slice none 0 0)).run Tryz.prog w.drew = .ok ([] : List Value).toArray w.drew := run_firstCells_none _ _ _ _ _
  obtain ⟨G, hG⟩ : ∃ G, G = grownCap w k 0 5 := ⟨_, rfl⟩
  have hG1 : k ≤ G := by rw [hG]; exact grownCap_ge w _ _ _
  have hG2 : G ≤ maxLen := by rw [hG]; exact grownCap_le_maxLen w _ _ _ (by unfold maxLen; omega)
  obtain ⟨ROW, hROW⟩ : ∃ ROW : Array Value, ROW = ([] : List Value).toArray ++ Builtin.zeroCells (Value.int .u8 0).cells k ++ Builtin.zeroCells (Value.int .u8 0).cells (G - k) := ⟨_, rfl⟩
  have hrz : ∀ ty, (Builtin.append_ #[63, 3] ty #[.slice none 0 0, .int .i64 (k : Int)]).run Tryz.prog w = .ok (.slice (some ⟨w.heap.size, 0, none⟩) k G) (w.drew.alloc (.cells ROW 5)) := fun ty => by
    have h := Lib.run_append_grow_zeros w 63 3 ty 5 i0 _ .i64 .i64 Tryz.underlying63 Tryz.underlying3 hi hz0 none 0 0 [] hold k h0 (by rw [hz1]; decide) (by omega) (by omega) (by rw [hz2]; omega) (by rw [hz2]; exact growslice_fits (by omega) (by omega))
    rw [Nat.zero_add, ← hG, ← hROW] at h
    exact h
  have hRs : ROW.size = G * 1 := by
    rw [hROW]
    simp [Builtin.zeroCells, Value.cells]
    try omega
  have OV := hide (show OwnV (w.drew.alloc (.cells ROW 5)) w.heap.size (.slice (some ⟨w.heap.size, 0, none⟩) 0 G) [] from ⟨rfl, .inr ⟨w.heap.size, G, ROW, rfl, Nat.le_refl _, heap_alloc_new w.drew _, Nat.zero_le _, hG2, hRs, by simp⟩⟩)
  have BB := hide (show Below w.heap.size w (w.drew.alloc (.cells ROW 5)) from (Below.refl _ _).drew.alloc (Nat.le_refl _) _)
  have G63 : (G : Int) ≤ 9223372036854775807 := by unfold maxLen at hG2; omega
  clear hold hROW hRs hG hi hz0 hz1 hz2
  go_enter Tryz.func67, Tryz.ntmps67
  go_wp2_with (first | (at_builtin; refine Lib.wpList_append_run _ rfl _ _ _ _ rfl _ _ rfl rfl _ _ (hrz _) ?_) | go_in)
  go_ret
  exact ⟨_, rfl, unhide OV, unhide BB⟩
set_option maxRecDepth 100000 in
set_option maxHeartbeats 4000000 in
theorem iConcat (w : World) (b g1 o1 n1 c1 g2 o2 n2 c2 g3 o3 n3 c3 : Nat) (p1 p2 p3 : List Int) (l1 : p1.length = n1) (l2 : p2.length = n2) (l3 : p3.length = n3) (h20 : n1 + n2 + n3 ≤ 1048576)
    (hb : b < w.heap.size) (q1 : g1 < w.heap.size) (q2 : g2 < w.heap.size) (q3 : g3 < w.heap.size) (a1 : AtO w g1 o1 p1) (a2 : AtO w g2 o2 p2) (a3 : AtO w g3 o3 p3)
    (s1 : w.cell? ⟨b, 0, none⟩ = some (.slice (some ⟨g1, o1, none⟩) n1 c1)) (s2 : w.cell? ⟨b, 1, none⟩ = some (.slice (some ⟨g2, o2, none⟩) n2 c2)) (s3 : w.cell? ⟨b, 2, none⟩ = some (.slice (some ⟨g3, o3, none⟩) n3 c3)) :
    Calls Tryz.prog 30 #[.slice (some ⟨b, 0, none⟩) 3 3] w fun e w' => ∃ v, e = .returned v ∧ OwnV w' w.heap.size v (p1 ++ (p2 ++ p3)) ∧ Below w.heap.size w w' := by
  have A1 := hide a1
  have A2 := hide a2
  have A3 := hide a3
  clear a1 a2 a3
  go_enter Tryz.func30, Tryz.ntmps30
  go_wp2
  go_loop [3, 5, 11] (fun q _ j => ∃ (k : Nat) (z : Int), j = .int .i64 k ∧ q = .int .i64 z ∧ ((k = 0 ∧ z = 0) ∨ (k = 1 ∧ z = (n1 : Int)) ∨ (k = 2 ∧ z = (n1 : Int) + (n2 : Int)) ∨ (k = 3 ∧ z = (n1 : Int) + (n2 : Int) + (n3 : Int)))) (fun _ _ j => 3 - (intOf j).toNat)
  case atStart => exact ⟨0, 0, rfl, rfl, .inl ⟨rfl, rfl⟩⟩
  case round =>
    obtain ⟨k, z, rfl, rfl, hk⟩ := hrel
    rcases hk with ⟨rfl, rfl⟩ | ⟨rfl, rfl⟩ | ⟨rfl, rfl⟩ | ⟨rfl, rfl⟩
    · go_wp2
      go_round
      case rel => exact ⟨1, (n1 : Int), by go_num, by go_num, .inr (.inl ⟨rfl, rfl⟩)⟩
      case measure => simp [intOf]
    · go_wp2
      go_round
      case rel => exact ⟨2, (n1 : Int) + (n2 : Int), by go_num, by go_num, .inr (.inr (.inl ⟨rfl, rfl⟩))⟩
      case measure => simp [intOf]
    · go_wp2
      go_round
      case rel => exact ⟨3, (n1 : Int) + (n2 : Int) + (n3 : Int), by go_num, by go_num, .inr (.inr (.inr ⟨rfl, rfl⟩))⟩
      case measure => simp [intOf]
    · have GR := hide (show Calls Tryz.prog 67 #[.slice none 0 0, .int .i64 ((n1 : Int) + (n2 : Int) + (n3 : Int))] w fun e w' => ∃ v, e = .returned v ∧ OwnV w' w.heap.size v [] ∧ Below w.heap.size w w' from by
        by_cases z : n1 + n2 + n3 = 0
        · rw [show (n1 : Int) + (n2 : Int) + (n3 : Int) = 0 by omega]
          exact (grow_none w).mono fun _ _ ⟨he, hb⟩ => ⟨_, he, OwnV.nil _ _, hb⟩
        · have := grow_some w (n1 + n2 + n3) (by omega) h20
          rw [show ((n1 + n2 + n3 : Nat) : Int) = (n1 : Int) + (n2 : Int) + (n3 : Int) by omega] at this
          exact this)
      go_wp2_with fail
      refine (unhide GR).mono ?_
      rintro e w1 ⟨v, rfl, ov, b1⟩
      have OV := hide ov
      have B1 := hide b1
      clear ov b1 GR
      go_wp2
      go_loopw [6, 8, 27] (fun x _ j wr => ∃ (k : Nat) (v : Value) (out : List Int), j = .int .i64 k ∧ v = x ∧ Hid (OwnV wr w.heap.size v out) ∧ Hid (Below w.heap.size w wr) ∧ ((k = 0 ∧ out = []) ∨ (k = 1 ∧ p1 = out) ∨ (k = 2 ∧ out = p1 ++ p2) ∨ (k = 3 ∧ out = p1 ++ (p2 ++ p3)))) (fun _ _ j _ => 3 - (intOf j).toNat)
      case atStart => exact ⟨0, v, [], rfl, rfl, OV, B1, .inl ⟨rfl, rfl⟩⟩
      case round =>
      clear OV B1
      obtain ⟨k, v, out, rfl, rfl, OV, HB, hk⟩ := hrel
      rcases hk with ⟨rfl, rfl⟩ | ⟨rfl, rfl⟩ | ⟨rfl, rfl⟩ | ⟨rfl, rfl⟩
      · have s : wr.cell? ⟨b, 0, none⟩ = some (.slice (some ⟨g1, o1, none⟩) n1 c1) := ((unhide HB).cell (p := ⟨b, 0, none⟩) hb).trans s1
        have A := hide (AtO.below (unhide A1) (unhide HB) q1)
        have bs := (unhide HB).size
        have LN := hide (show ([] : List Int).length + n1 ≤ 1048576 from by (try simp); omega)
        go_wp2_with (first | (at_builtin; refine wp_catV _ rfl _ _ rfl w.heap.size n1 v ([] : List Int) p1 g1 o1 c1 rfl rfl (unhide OV) l1 (unhide A) (unhide LN) bs ?_) | go_in)
        intro v5 w5 ov5 gr5 loc5
        have O5 := hide (show OwnV w5 w.heap.size v5 (p1) from by have := ov5; exact this)
        have B5 := hide ((unhide HB).grown gr5 bs (fun j hj => ((unhide OV).lt j hj).1))
        clear ov5 gr5 loc5 A s
        go_wp2
        go_roundw
        case rel => exact ⟨1, v5, p1, by go_num, rfl, O5, B5, .inr (.inl ⟨rfl, rfl⟩)⟩
        case measure => simp [intOf]
      · have s : wr.cell? ⟨b, 1, none⟩ = some (.slice (some ⟨g2, o2, none⟩) n2 c2) := ((unhide HB).cell (p := ⟨b, 1, none⟩) hb).trans s2
        have A := hide (AtO.below (unhide A2) (unhide HB) q2)
        have bs := (unhide HB).size
        have LN := hide (show (p1).length + n2 ≤ 1048576 from by (try simp); omega)
        go_wp2_with (first | (at_builtin; refine wp_catV _ rfl _ _ rfl w.heap.size n2 v (p1) p2 g2 o2 c2 rfl rfl (unhide OV) l2 (unhide A) (unhide LN) bs ?_) | go_in)
        intro v5 w5 ov5 gr5 loc5
        have O5 := hide (show OwnV w5 w.heap.size v5 (p1 ++ p2) from by have := ov5; exact this)
        have B5 := hide ((unhide HB).grown gr5 bs (fun j hj => ((unhide OV).lt j hj).1))
        clear ov5 gr5 loc5 A s
        go_wp2
        go_roundw
        case rel => exact ⟨2, v5, p1 ++ p2, by go_num, rfl, O5, B5, .inr (.inr (.inl ⟨rfl, rfl⟩))⟩
        case measure => simp [intOf]
      · have s : wr.cell? ⟨b, 2, none⟩ = some (.slice (some ⟨g3, o3, none⟩) n3 c3) := ((unhide HB).cell (p := ⟨b, 2, none⟩) hb).trans s3
        have A := hide (AtO.below (unhide A3) (unhide HB) q3)
        have bs := (unhide HB).size
        have LN := hide (show (p1 ++ p2).length + n3 ≤ 1048576 from by (try simp); omega)
        go_wp2_with (first | (at_builtin; refine wp_catV _ rfl _ _ rfl w.heap.size n3 v (p1 ++ p2) p3 g3 o3 c3 rfl rfl (unhide OV) l3 (unhide A) (unhide LN) bs ?_) | go_in)
        intro v5 w5 ov5 gr5 loc5
        have O5 := hide (show OwnV w5 w.heap.size v5 (p1 ++ (p2 ++ p3)) from by first | exact ov5 | (have := ov5; rw [List.append_assoc] at this; exact this))
        have B5 := hide ((unhide HB).grown gr5 bs (fun j hj => ((unhide OV).lt j hj).1))
        clear ov5 gr5 loc5 A s
        go_wp2
        go_roundw
        case rel => exact ⟨3, v5, p1 ++ (p2 ++ p3), by go_num, rfl, O5, B5, .inr (.inr (.inr ⟨rfl, rfl⟩))⟩
        case measure => simp [intOf]
      · go_wp2
        go_ret
        exact ⟨_, rfl, unhide OV, unhide HB⟩
end Go.Proofs.YtagmnociflkhcaaGreat.ConB11
