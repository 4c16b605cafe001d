/- Texts of one proof, one behind the other: STrd, SBk, SIssue, TBox, STell, LawT, LegApp, SCarryP, SLegs, ITakeBk, Concat3, SSettle, ISet. -/
import Derived.Test.YtpkgkekonhgonaaGreatDoorRows
import Derived.Test.YtpkgkekonhgonaaGreatDoorCards
import Derived.Test.YtpkgkekonhgonaaGreatDoorTie
import Derived.Test.YtpkgkekonhgonaaGreatDoorNA1
import Derived.Test.YtpkgkekonhgonaaGreatDoorNA2
import Derived.Test.YtpkgkekonhgonaaGreatDoorNL3
import Derived.Test.YtpkgkekonhgonaaGreatDoorNL4
import Derived.Test.YtpkgkekonhgonaaGreatDoorNL5
import Derived.Test.YtpkgkekonhgonaaGreatDoorNL6
import Derived.Maps.AppendAt
import Derived.Deep.AppendLies
import Derived.Deep.RegionHeld3
import Derived.Lib.AppendZerosOnto
import Derived.Lib.AppendZeros
set_option linter.unusedVariables false
set_option linter.unusedSimpArgs false
namespace Go.Proofs.YtpkgkekonhgonaaGreatDoor.STrd
open Go.ChangeShapes Go.WideShapes Go.ChangeAt Go.RowKit BMem Bks ILists IBalsFit Ans Trd
open Lots (Says says_of NoOk)
open Tup8 (T8 el8)
set_option maxRecDepth 100000 in
set_option maxHeartbeats 4000000 in
theorem sFind (w : World) (x : Bx) (no : Int) (h : Rd w x) :
    Calls Tryz.prog 76 #[.agg #[.slice (some ⟨x.ga, 0, none⟩) x.b.ac.length x.ca, .slice (some ⟨x.gi, 0, none⟩) x.b.ic.length x.ci, .slice (some ⟨x.gb, 0, none⟩) x.b.bs.length x.cb, .slice (some ⟨x.gl, 0, none⟩) x.b.ls.length x.cl, .slice (some ⟨x.gt, 0, none⟩) x.b.ts.length x.ct, .int .i64 x.b.lot], .int .i64 no] w fun e w' => ∃ r, FoundAt x.b.ts no r ∧ e = .returned (.int .i64 r) ∧ Below w.heap.size w w' := by
  have S0 := hide (St.start h 40)
  have nt := h.nt
  clear h
  go_enter Tryz.func76, Tryz.ntmps76
  go_wp2
  go_loopw [5] (fun i wr => ∃ (k : Nat), k ≤ x.b.ts.length ∧ i = .int .i64 k ∧ St w wr x ∧ Hid (∀ j, j < k → (el8 x.b.ts j).1 ≠ no)) (fun i _ => x.b.ts.length - (intOf i).toNat)
  case atStart => exact ⟨0, by omega, rfl, unhide S0, hide (fun i hi => absurd hi (by omega))⟩
  case round =>
    obtain ⟨k, hk, rfl, hS, HG⟩ := hrel
    clear S0
    obtain ⟨c0, c1, c2, c3, c4, c5⟩ := hS.c
    by_cases t : k < x.b.ts.length
    · obtain ⟨d0, d1, d2, d3, d4, d5, d6, d7⟩ := (hS.r.rt k t)
      have S1 := hide hS
      obtain ⟨y, hy⟩ : ∃ y, Hid ((el8 x.b.ts k).1 = y) := ⟨_, rfl⟩
      rw [unhide hy] at d0
      clear hS d1 d2 d3 d4 d5 d6 d7
      by_cases q : y = no
      · have F := hide (show FoundAt x.b.ts no k from .inl ⟨k, ⟨t, (unhide hy).trans q, unhide HG⟩, rfl⟩)
        have hq : (y == no) = true := by simp [q]
        clear q hy HG
        go_wp2
        go_ret
        exact ⟨k, unhide F, rfl, (unhide S1).b⟩
      · have G := hide (show ∀ j, j < k + 1 → (el8 x.b.ts j).1 ≠ no from fun j hj => by
          by_cases e : j = k
          · subst e; rw [unhide hy]; exact q
          · exact (unhide HG) j (by omega))
        have hq : (y == no) = false := by simp [q]
        clear q hy HG
        go_wp2
        go_roundw
        case rel => exact ⟨k + 1, by omega, by go_num, unhide S1, G⟩
        case measure => simp [intOf]; omega
    · have F := hide (show FoundAt x.b.ts no (-1) from .inr ⟨fun j hj => (unhide HG) j (by omega), rfl⟩)
      have S1 := hide hS
      clear hS HG
      go_wp2
      go_ret
      exact ⟨-1, unhide F, rfl, (unhide S1).b⟩
set_option maxRecDepth 100000 in
set_option maxHeartbeats 4000000 in
theorem sOpenAt (w : World) (x : Bx) (no : Int) (h : Rd w x) :
    Calls Tryz.prog 26 #[.agg #[.slice (some ⟨x.ga, 0, none⟩) x.b.ac.length x.ca, .slice (some ⟨x.gi, 0, none⟩) x.b.ic.length x.ci, .slice (some ⟨x.gb, 0, none⟩) x.b.bs.length x.cb, .slice (some ⟨x.gl, 0, none⟩) x.b.ls.length x.cl, .slice (some ⟨x.gt, 0, none⟩) x.b.ts.length x.ct, .int .i64 x.b.lot], .int .i64 no] w fun e w' => ∃ r c, OpenAt x.b.ts no r c ∧ e = .returned (.tuple #[.int .i64 r, .int .i64 c]) ∧ Below w.heap.size w w' := by
  have S0 := hide (St.start h 40)
  have nt := h.nt
  clear h
  go_enter Tryz.func26, Tryz.ntmps26
  go_wp2_with fail
  refine (sFind _ x no (unhide S0).r).mono ?_
  rintro e w1 ⟨r, hf, rfl, bb⟩
  have S1 := hide ((unhide S0).step bb)
  clear bb S0
  obtain ⟨c0, c1, c2, c3, c4, c5⟩ := (unhide S1).c
  rcases hf with ⟨k, hk, rfl⟩ | ⟨hn, rfl⟩
  · have t := hk.1
    obtain ⟨d0, d1, d2, d3, d4, d5, d6, d7⟩ := ((unhide S1).r.rt k t)
    have K := hide hk
    obtain ⟨y, hy⟩ : ∃ y, Hid ((el8 x.b.ts k).2.2.2.2.2.2.2 = y) := ⟨_, rfl⟩
    rw [unhide hy] at d7
    clear hk d0 d1 d2 d3 d4 d5 d6
    by_cases q : y = 1
    · have F := hide (show OpenAt x.b.ts no k 0 from .inr ⟨k, unhide K, rfl, .inr ⟨(unhide hy).trans q, rfl⟩⟩)
      have hq : (y != 1) = false := by simp [q]
      clear q hy
      go_wp2
      go_ret2
      exact ⟨k, 0, unhide F, rfl, (unhide S1).b⟩
    · have F := hide (show OpenAt x.b.ts no k 6 from .inr ⟨k, unhide K, rfl, .inl ⟨by rw [unhide hy]; exact q, rfl⟩⟩)
      have hq : (y != 1) = true := by simp [q]
      clear q hy
      go_wp2
      go_ret2
      exact ⟨k, 6, unhide F, rfl, (unhide S1).b⟩
  · have F := hide (show OpenAt x.b.ts no (-1) 3 from .inl ⟨hn, rfl, rfl⟩)
    clear hn
    go_wp2
    go_ret2
    exact ⟨-1, 3, unhide F, rfl, (unhide S1).b⟩
end Go.Proofs.YtpkgkekonhgonaaGreatDoor.STrd
namespace Go.Proofs.YtpkgkekonhgonaaGreatDoor.SBk
open Go.ChangeShapes Go.WideShapes Go.ChangeAt Go.RowKit BMem Bks ILists BHelp Ans
open IBalsFit (one_more)
open ILotsFit (below_of_drew)
open Lots (Says says_of NoOk)
open Bals (T3)
open Tup5 (T5)
/-- Books in a variable, and the answer's variable behind it. -/
structure SV (w W : World) (x : Bx) : Prop where
  x : Box W w.heap.size w.heap.size (.slice (some ⟨x.ga, 0, none⟩) x.b.ac.length x.ca) (.slice (some ⟨x.gi, 0, none⟩) x.b.ic.length x.ci) (.slice (some ⟨x.gb, 0, none⟩) x.b.bs.length x.cb) (.slice (some ⟨x.gl, 0, none⟩) x.b.ls.length x.cl) (.slice (some ⟨x.gt, 0, none⟩) x.b.ts.length x.ct) (.int .i64 x.b.lot)
  v : Box W w.heap.size (w.heap.size + 1) (.slice none 0 0) (.slice none 0 0) (.slice none 0 0) (.slice none 0 0) (.slice none 0 0) (.int .i64 0)
  b : Below w.heap.size w W
theorem SV.start (w : World) (x : Bx) : SV w ((w.alloc (.cells #[.slice (some ⟨x.ga, 0, none⟩) x.b.ac.length x.ca, .slice (some ⟨x.gi, 0, none⟩) x.b.ic.length x.ci, .slice (some ⟨x.gb, 0, none⟩) x.b.bs.length x.cb, .slice (some ⟨x.gl, 0, none⟩) x.b.ls.length x.cl, .slice (some ⟨x.gt, 0, none⟩) x.b.ts.length x.ct, .int .i64 x.b.lot] 40)).alloc (.cells #[.slice none 0 0, .slice none 0 0, .slice none 0 0, .slice none 0 0, .slice none 0 0, .int .i64 0] 40)) x :=
  ⟨World.ownsRow.alloc (Box.made (w := w) (base := w.heap.size) (g := w.heap.size) _ _ _ _ _ _ (Nat.le_refl _) rfl) _, Box.made _ _ _ _ _ _ (by simp) (by simp), ((Below.refl w.heap.size w).alloc (Nat.le_refl _) _).alloc (by simp) _⟩
theorem SV.step {w W W' : World} {x : Bx} (h : SV w W x) (k : Below W.heap.size W W') : SV w W' x := by
  have l := h.v.lt
  exact ⟨h.x.below k (by omega), h.v.below k (by omega), h.b.trans (k.mono h.b.size)⟩
end Go.Proofs.YtpkgkekonhgonaaGreatDoor.SBk
namespace Go.Proofs.YtpkgkekonhgonaaGreatDoor.SIssue
open Go.ChangeShapes Go.WideShapes Go.ChangeAt Go.RowKit BMem Bks ILists BHelp Ans SBk
open IBalsFit (one_more)
open Lots (Says says_of NoOk)
open Quieter (Near near_is quiet_near)
open Bals (T3)
open Tup5 (T5)
theorem SR.grown {w W W' : World} {x : Bx} {p : Nat} (H : Rd w x) (h : SR w W x) (k : W.grownBy W' (some p)) (hp : w.heap.size + 1 < p) : SR w W' x := by
  have b : Below w.heap.size w W' := h.b.grown k h.b.size (fun j e => by injection e; omega)
  have n0 : some w.heap.size ≠ some p := fun e => by injection e; omega
  exact ⟨H.below b, ⟨k.cell h.c.c0 n0, k.cell h.c.c1 n0, k.cell h.c.c2 n0, k.cell h.c.c3 n0, k.cell h.c.c4 n0, k.cell h.c.c5 n0⟩, h.v.kept k (fun e => by injection e; omega), b⟩
theorem ne_true {a b : Int} (h : a ≠ b) : (a != b) = true := by simpa using h
end Go.Proofs.YtpkgkekonhgonaaGreatDoor.SIssue
namespace Go.Proofs.YtpkgkekonhgonaaGreatDoor.TBox
open Go.ChangeShapes Go.WideShapes Go.ChangeAt Go.RowKit BMem Bks ILists BHelp Ans Trd
open Tup8 (T8 el8 Own8)
/-- The variable in block g holds the trade p. -/
def Box8 (w : World) (base g : Nat) (p : T8) : Prop := w.ownsRow base 64 8 (.slice (some ⟨g, 0, none⟩) 1 1) 1 [.int .i64 p.1, .int .i64 p.2.1, .int .i64 p.2.2.1, .int .i64 p.2.2.2.1, .int .i64 p.2.2.2.2.1, .int .i64 p.2.2.2.2.2.1, .int .i64 p.2.2.2.2.2.2.1, .int .i64 p.2.2.2.2.2.2.2]
theorem Box8.made {w : World} {base g : Nat} (p : T8) (hb : base ≤ w.heap.size) (hg : g = w.heap.size) : Box8 (w.alloc (.cells #[.int .i64 p.1, .int .i64 p.2.1, .int .i64 p.2.2.1, .int .i64 p.2.2.2.1, .int .i64 p.2.2.2.2.1, .int .i64 p.2.2.2.2.2.1, .int .i64 p.2.2.2.2.2.2.1, .int .i64 p.2.2.2.2.2.2.2] 64)) base g p := by
  subst hg
  exact World.ownsRow_lit w #[.int .i64 p.1, .int .i64 p.2.1, .int .i64 p.2.2.1, .int .i64 p.2.2.2.1, .int .i64 p.2.2.2.2.1, .int .i64 p.2.2.2.2.2.1, .int .i64 p.2.2.2.2.2.2.1, .int .i64 p.2.2.2.2.2.2.2] 1 hb (by decide) rfl
section
variable {w w' : World} {base g : Nat} {p : T8}
theorem Box8.lt (h : Box8 w base g p) : base ≤ g ∧ g < w.heap.size := World.ownsRow.lt h g rfl
theorem Box8.free (h : Box8 w base g p) (i : Nat) : w.frozen? ⟨g, i, none⟩ = false := World.ownsRow.frozenAt h i
theorem Box8.c0 (h : Box8 w base g p) : w.cell? ⟨g, 0, none⟩ = some (.int .i64 p.1) := (World.ownsRow.cellAt h 0 (by omega)).trans rfl
theorem Box8.c1 (h : Box8 w base g p) : w.cell? ⟨g, 1, none⟩ = some (.int .i64 p.2.1) := (World.ownsRow.cellAt h 1 (by omega)).trans rfl
theorem Box8.c2 (h : Box8 w base g p) : w.cell? ⟨g, 2, none⟩ = some (.int .i64 p.2.2.1) := (World.ownsRow.cellAt h 2 (by omega)).trans rfl
theorem Box8.c3 (h : Box8 w base g p) : w.cell? ⟨g, 3, none⟩ = some (.int .i64 p.2.2.2.1) := (World.ownsRow.cellAt h 3 (by omega)).trans rfl
theorem Box8.c4 (h : Box8 w base g p) : w.cell? ⟨g, 4, none⟩ = some (.int .i64 p.2.2.2.2.1) := (World.ownsRow.cellAt h 4 (by omega)).trans rfl
theorem Box8.c5 (h : Box8 w base g p) : w.cell? ⟨g, 5, none⟩ = some (.int .i64 p.2.2.2.2.2.1) := (World.ownsRow.cellAt h 5 (by omega)).trans rfl
theorem Box8.below {B : Nat} (h : Box8 w base g p) (k : Below B w w') (hg : g < B) : Box8 w' base g p := by
  refine ⟨h.1, ?_⟩
  rcases h.2 with ⟨h1, _⟩ | ⟨g', c, cur, h1, h2, h3, h4⟩
  · simp at h1
  · obtain ⟨e, _⟩ : g = g' ∧ 1 = c := by simpa using h1
    subst e
    exact Or.inr ⟨g, c, cur, h1, h2, by rw [k.block g hg]; exact h3, h4⟩
theorem Box8.kept {row : Option Nat} (h : Box8 w base g p) (k : w.grownBy w' row) (hne : some g ≠ row) : Box8 w' base g p := World.ownsRow.kept h k (Or.inr hne)
theorem Box8.alloc (h : Box8 w base g p) (o : Obj) : Box8 (w.alloc o) base g p := World.ownsRow.alloc h o
end
end Go.Proofs.YtpkgkekonhgonaaGreatDoor.TBox
namespace Go.Proofs.YtpkgkekonhgonaaGreatDoor.STell
open Go.ChangeShapes Go.WideShapes Go.ChangeAt Go.RowKit BMem Bks ILists IBalsFit Ans Trd TBox
open Lots (Says says_of NoOk)
open Tup8 (T8 el8)
/-- The books that were handed in, in their box, and a trade's variable behind it. -/
structure SR8 (w W : World) (x : Bx) : Prop where
  r : Rd W x
  c : Cl W w.heap.size x
  v : Box8 W w.heap.size (w.heap.size + 1) (0, 0, 0, 0, 0, 0, 0, 0)
  b : Below w.heap.size w W
theorem SR8.start {w : World} {x : Bx} (h : Rd w x) : SR8 w ((w.alloc (.cells #[.slice (some ⟨x.ga, 0, none⟩) x.b.ac.length x.ca, .slice (some ⟨x.gi, 0, none⟩) x.b.ic.length x.ci, .slice (some ⟨x.gb, 0, none⟩) x.b.bs.length x.cb, .slice (some ⟨x.gl, 0, none⟩) x.b.ls.length x.cl, .slice (some ⟨x.gt, 0, none⟩) x.b.ts.length x.ct, .int .i64 x.b.lot] 40)).alloc (.cells #[.int .i64 0, .int .i64 0, .int .i64 0, .int .i64 0, .int .i64 0, .int .i64 0, .int .i64 0, .int .i64 0] 64)) x :=
  ⟨(h.alloc _).alloc _, (boxed w x 40).below (one_more _ _) (by simp), Box8.made (0, 0, 0, 0, 0, 0, 0, 0) (by simp) (by simp), ((Below.refl w.heap.size w).alloc (Nat.le_refl _) _).alloc (by simp) _⟩
theorem SR8.step {w W W' : World} {x : Bx} (h : SR8 w W x) (k : Below W.heap.size W W') : SR8 w W' x := by
  have l := h.v.lt
  exact ⟨h.r.below k, h.c.below k (by omega), h.v.below k (by omega), h.b.trans (k.mono h.b.size)⟩
/-- The numbers of the open trades of books that are right. -/
def IsOpens (b : Bk) (lo hi : Int) (xs : List Int) : Prop := (Ok b ∧ xs = openT lo hi b.ts) ∨ (¬ Ok b ∧ xs = [])
theorem IsOpens.same {b : Bk} {lo hi : Int} {xs ys : List Int} (h : IsOpens b lo hi xs) (k : IsOpens b lo hi ys) : xs = ys := by
  rcases h with ⟨h1, rfl⟩ | ⟨h1, rfl⟩ <;> rcases k with ⟨k1, rfl⟩ | ⟨k1, rfl⟩ <;> first | rfl | exact absurd h1 k1 | exact absurd k1 h1
end Go.Proofs.YtpkgkekonhgonaaGreatDoor.STell
namespace Go.Proofs.YtpkgkekonhgonaaGreatDoor.LawT
open Go.ChangeShapes Go.WideShapes Go.ChangeAt Go.RowKit BMem Bks BHelp BkEq LawB
open Ints (Own At marks marks_len marks_getD)
theorem LB.grown {w W W' : World} {y : Ix} {g : Nat} (H : RdI w y) (h : LB w W y) (k : W.grownBy W' (some g)) (hg : w.heap.size < g) : LB w W' y := by
  have b : Below w.heap.size w W' := h.b.grown k h.b.size (fun j e => by injection e; omega)
  have n0 : some w.heap.size ≠ some g := fun e => by injection e; omega
  exact ⟨H.below b, ⟨k.cell h.c.c0 n0, k.cell h.c.c1 n0, k.cell h.c.c2 n0, k.cell h.c.c3 n0, k.cell h.c.c4 n0, k.cell h.c.c5 n0⟩, b, Nat.lt_of_lt_of_le h.s k.size⟩
/-- A list of numbers behind marks on books in which it does not lie. -/
theorem own_turn {W W' : World} {base g n c : Nat} {xs : List Int} {x : Bx} (h : Own W base g n c xs) (k : Turn x W W') (ne : (∃ N, g < N ∧ Lo x N) ∨ ∃ N, N ≤ g ∧ Up x N) : Own W' base g n c xs := by
  have l := h.lt.2
  have e : W'.heap[g]? = W.heap[g]? := by
    refine k.block g l ?_ ?_ ?_ ?_ ?_
    all_goals
      rcases ne with ⟨N, a, b⟩ | ⟨N, a, b⟩
      · unfold Lo at b; omega
      · unfold Up at b; omega
  refine ⟨h.1, ?_⟩
  rcases h.2 with ⟨h1, _⟩ | ⟨g', c', cur, h1, h2, h3, h4⟩
  · simp at h1
  · obtain ⟨e', _⟩ : g = g' ∧ c = c' := by simpa using h1
    subst e'
    exact Or.inr ⟨g, c', cur, h1, h2, by rw [e]; exact h3, h4⟩
end Go.Proofs.YtpkgkekonhgonaaGreatDoor.LawT
namespace Go.Proofs.YtpkgkekonhgonaaGreatDoor.LegApp
open Go.ChangeShapes Go.WideShapes Go.ChangeAt Go.RowKit Bals Triples
theorem info2 : (Tryz.prog.info? 67).map (fun i => (i.zero, i.size, i.bytes)) = some (some (.agg #[.int .i64 0, .int .i64 0, .int .i64 0]), 3, 24) := by kernel_rfl
theorem wp_app (u : World) {ops : Array Oper} {rest : List Oper} {o : Oper} {a : Act} {Q : Exit → Act → World → Prop} (hgd : o.guard = none) (s x : Operand)
    (ho : o.op = .call { callee := .builtin .append, args := #[s, x], argTypes := #[31, 31] }) (base g n cap : Nat) (ps : List T3) (vb : Nat) (p q r : Int)
    (hs : a.eval s = .slice (some ⟨g, 0, none⟩) n cap) (hx : a.eval x = .slice (some ⟨vb, 0, none⟩) 1 1) (hown : Own3 67 u base g n cap ps) (hv : Holds3 u vb 0 (p, q, r)) (hn : n ≤ 1048576) (hb : base ≤ u.heap.size)
    (h : ∀ g' c' w', Own3 67 w' base g' (n + 1) c' (ps ++ [(p, q, r)]) → u.grownBy w' (some g) → (g' = g ∨ g' = u.heap.size) → wpList Tryz.prog ops Q rest (a.put o.dst (.slice (some ⟨g', 0, none⟩) (n + 1) c')) w') : wpList Tryz.prog ops Q (o :: rest) a u := by
  obtain ⟨i0, hi, hz0, hz1, hz2⟩ := info_parts info2
  have hat : At3 u vb [(p, q, r)] := by
    intro i hi
    obtain rfl : i = 0 := by simpa using hi
    exact hv
  refine wpList_append_own_at u hgd s x 31 ho base 67 i0 (.agg #[.int .i64 0, .int .i64 0, .int .i64 0]) 3 24 Tryz.underlying31 hi hz0 hz1 hz2 rfl (by decide) _ n _ hs hown ⟨vb, 0, none⟩ 1 1 (flat3 [(p, q, r)]) hx rfl hat.cells (fun u hu => flat3_one u _ hu) (by unfold maxLen; omega) (by omega) hb ?_
  intro v' w' own' gr' nil' loc'
  obtain ⟨g', c', rfl, o'⟩ := own3_of_row (n' := n + 1) (ps := ps ++ [(p, q, r)]) own' rfl (by rw [flat3_append]) (by rw [nil']; simp)
  exact h g' c' w' o' gr' (by simpa [Value.ownBlock] using loc')
end Go.Proofs.YtpkgkekonhgonaaGreatDoor.LegApp
namespace Go.Proofs.YtpkgkekonhgonaaGreatDoor.SCarryP
open Go.ChangeShapes Go.WideShapes Go.ChangeAt Go.RowKit BMem Bks ILists BHelp Ans SBk
open SIssue (ne_true)
open IBalsFit (one_more)
open Lots (Says says_of NoOk)
open Bals (T3)
open Tup5 (T5)
open Tup8 (T8 el8)
open Trd (legsT)
theorem pair_formed0 {a c i q : Int} (ha : NoOk a) (hc : NoOk c) (hi : NoOk i) (q1 : 0 ≤ q) (q2 : q ≤ 1000000000000000) : ∀ p ∈ pairL a c i q, NoOk p.1 ∧ NoOk p.2.1 ∧ Bals.Amt p.2.2 := by
  intro p hp
  simp only [pairL, List.mem_cons, List.not_mem_nil, or_false] at hp
  rcases hp with rfl | rfl
  · exact ⟨ha, hi, by unfold Bals.Amt; simp; omega⟩
  · exact ⟨hc, hi, by unfold Bals.Amt; simp; omega⟩
theorem legs_formed {t : T8} (h : TOne t) : Bals.Formed (legsT t) := by
  obtain ⟨h1, h2, h3, h4, h5, h6, h7, h8, h9⟩ := h
  have a := pair_formed0 h2 h3 h5 h8.1 h8.2
  have b := pair_formed0 h3 h2 h4 (by omega) h7.2
  refine ⟨by simp [legsT, pairL], fun k hk => ?_⟩
  have m : Bals.el3 (legsT t) k ∈ legsT t := Bals.getD_mem hk
  rcases List.mem_append.1 m with m | m
  · exact a _ m
  · exact b _ m
end Go.Proofs.YtpkgkekonhgonaaGreatDoor.SCarryP
namespace Go.Proofs.YtpkgkekonhgonaaGreatDoor.SLegs
open Go.ChangeShapes Go.WideShapes Go.ChangeAt Go.RowKit BMem Bks ILists Trd
open Bals (T3)
open Tup8 (T8 el8)
open Triples (Own3 At3 flat3 flat3_len flat3_one flat3_append own3_of_row)
/-- Two legs as a list of the call's own. -/
theorem own_pair (w : World) (a c i q : Int) : Own3 67 (w.alloc (.cells #[.int .i64 a, .int .i64 i, .int .i64 (-q), .int .i64 c, .int .i64 i, .int .i64 q] 67)) w.heap.size w.heap.size 2 2 (pairL a c i q) :=
  World.ownsRow_lit w #[.int .i64 a, .int .i64 i, .int .i64 (-q), .int .i64 c, .int .i64 i, .int .i64 q] 2 (Nat.le_refl _) (by decide) rfl
set_option maxRecDepth 100000 in
theorem sPairO (w : World) (a c i q : Int) (q1 : 0 ≤ q) (q2 : q ≤ 1000000000000000) :
    Calls Tryz.prog 77 #[.int .i64 a, .int .i64 c, .int .i64 i, .int .i64 q] w fun e w' => ∃ g, e = .returned (.slice (some ⟨g, 0, none⟩) 2 2) ∧ Own3 67 w' w.heap.size g 2 2 (pairL a c i q) ∧ Below w.heap.size w w' := by
  have A := hide (own_pair w a c i q)
  go_enter Tryz.func77, Tryz.ntmps77
  go_wp2
  go_ret
  exact ⟨w.heap.size, rfl, unhide A, (Below.refl _ _).alloc (Nat.le_refl _) _⟩
/-- A whole list of legs appended to another one, at a step of a region that draws its order. -/
theorem step_cat3 (u : World) {ops : Array Oper} {o : Oper} {a : Act} {K : Act → World → Prop} {Q : Exit → Act → World → Prop} {E : Prop} (hgd : o.guard = none) (s x : Operand)
    (ho : o.op = .call { callee := .builtin .append, args := #[s, x], argTypes := #[31, 31] }) (base g n cap m : Nat) (ps qs : List T3) (vb c : Nat)
    (hs : a.eval s = .slice (some ⟨g, 0, none⟩) n cap) (hx : a.eval x = .slice (some ⟨vb, 0, none⟩) m c) (hown : Own3 67 u base g n cap ps) (hl : qs.length = m) (hv : At3 u vb qs) (hn : n + m ≤ 1048576) (hb : base ≤ u.heap.size)
    (h : ∀ g' c' w', Own3 67 w' base g' (n + m) c' (ps ++ qs) → u.grownBy w' (some g) → (g' = g ∨ g' = u.heap.size) → K (a.put o.dst (.slice (some ⟨g', 0, none⟩) (n + m) c')) w') : if Region.wanted o (yielded ops a.tmps) = true then Oper.wp Tryz.prog o a u K Q else E := by
  obtain ⟨i0, hi, hz0, hz1, hz2⟩ := info_parts LegApp.info2
  have hw : Region.wanted o (yielded ops a.tmps) = true := by simp [Region.wanted, hgd]
  rw [if_pos hw]
  obtain ⟨v', w', hr, own', gr', nil', loc'⟩ := run_append_own_at (P := Tryz.prog) u base 31 o.type 67 i0 (.agg #[.int .i64 0, .int .i64 0, .int .i64 0]) 3 24 Tryz.underlying31 hi hz0 hz1 hz2 rfl (by decide) (.slice (some ⟨g, 0, none⟩) n cap) n (flat3 ps) hown ⟨vb, 0, none⟩ m c (flat3 qs) (by rw [flat3_len, hl]) hv.cells (fun u hu => flat3_one u _ hu) (by unfold maxLen; omega) (by omega) hb
  unfold Oper.wp execOp
  simp only [ho, resolve, invoke, builtin, Sem.run_bind, Sem.run_pure, Result.andThen_ok, List.map_toArray, List.map_cons, List.map_nil, hs, hx, hr]
  obtain ⟨g', c', rfl, o'⟩ := own3_of_row (n' := n + m) (ps := ps ++ qs) own' rfl (by rw [flat3_append]) (by rw [nil']; simp)
  exact h g' c' w' o' gr' (by simpa [Value.ownBlock] using loc')
/-- The cells of a trade's box that a legs' maker reads. -/
def Six8 (w : World) (g : Nat) (b s p q c r : Int) : Prop := w.cell? ⟨g, 1, none⟩ = some (.int .i64 b) ∧ w.cell? ⟨g, 2, none⟩ = some (.int .i64 s) ∧ w.cell? ⟨g, 3, none⟩ = some (.int .i64 p) ∧ w.cell? ⟨g, 4, none⟩ = some (.int .i64 q) ∧ w.cell? ⟨g, 5, none⟩ = some (.int .i64 c) ∧ w.cell? ⟨g, 6, none⟩ = some (.int .i64 r)
theorem Six8.below {w w' : World} {g B : Nat} {b s p q c r : Int} (h : Six8 w g b s p q c r) (k : Below B w w') (hg : g < B) : Six8 w' g b s p q c r :=
  ⟨(k.cell (p := ⟨g, 1, none⟩) hg).trans h.1, (k.cell (p := ⟨g, 2, none⟩) hg).trans h.2.1, (k.cell (p := ⟨g, 3, none⟩) hg).trans h.2.2.1, (k.cell (p := ⟨g, 4, none⟩) hg).trans h.2.2.2.1, (k.cell (p := ⟨g, 5, none⟩) hg).trans h.2.2.2.2.1, (k.cell (p := ⟨g, 6, none⟩) hg).trans h.2.2.2.2.2⟩
set_option maxRecDepth 100000 in
set_option maxHeartbeats 4000000 in
theorem sLegs (w : World) (n b s p q c r st : Int) (q1 : 0 ≤ q) (q2 : q ≤ 1000000000000000) (r1 : 0 ≤ r) (r2 : r ≤ 1000000000000000) :
    Calls Tryz.prog 28 #[.agg #[.int .i64 n, .int .i64 b, .int .i64 s, .int .i64 p, .int .i64 q, .int .i64 c, .int .i64 r, .int .i64 st]] w fun e w' => ∃ g cap, e = .returned (.slice (some ⟨g, 0, none⟩) 4 cap) ∧ Own3 67 w' w.heap.size g 4 cap (legsT (n, b, s, p, q, c, r, st)) ∧ Below w.heap.size w w' := by
  have B0 := hide (show Below w.heap.size w (w.alloc (.cells #[.int .i64 n, .int .i64 b, .int .i64 s, .int .i64 p, .int .i64 q, .int .i64 c, .int .i64 r, .int .i64 st] 64)) from (Below.refl _ _).alloc (Nat.le_refl _) _)
  have C0 := hide (show Six8 (w.alloc (.cells #[.int .i64 n, .int .i64 b, .int .i64 s, .int .i64 p, .int .i64 q, .int .i64 c, .int .i64 r, .int .i64 st] 64)) w.heap.size b s p q c r from by simp [Six8])
  have z0 : w.heap.size < (w.alloc (.cells #[.int .i64 n, .int .i64 b, .int .i64 s, .int .i64 p, .int .i64 q, .int .i64 c, .int .i64 r, .int .i64 st] 64)).heap.size := by simp
  have M1 := trivial
  go_enter Tryz.func28, Tryz.ntmps28
  go_wp2_with fail
  generalize w.alloc (.cells #[.int .i64 n, .int .i64 b, .int .i64 s, .int .i64 p, .int .i64 q, .int .i64 c, .int .i64 r, .int .i64 st] 64) = w1 at *
  have K4 := unhide C0
  unfold Six8 at K4
  go_region_held3 (fun w' => w'.cell? ⟨w.heap.size, 1, none⟩ = some (.int .i64 b) ∧ w'.cell? ⟨w.heap.size, 2, none⟩ = some (.int .i64 s) ∧ w'.cell? ⟨w.heap.size, 3, none⟩ = some (.int .i64 p) ∧ w'.cell? ⟨w.heap.size, 4, none⟩ = some (.int .i64 q) ∧ w'.cell? ⟨w.heap.size, 5, none⟩ = some (.int .i64 c) ∧ w'.cell? ⟨w.heap.size, 6, none⟩ = some (.int .i64 r)) (first | exact K4 | exact K5 | exact K6 | exact K7)
    (first | (go_at_call 77; clear M1; refine (sPairO w1.drew b s c r r1 r2).mono ?_; rintro e u1 ⟨g1, rfl, o1, bb⟩; have bW := hide (show Below w1.heap.size w1 u1 from ILotsFit.below_of_drew bb); have K5 := (unhide C0).below (unhide bW) z0; unfold Six8 at K5; have O1 := hide (show Own3 67 u1 w1.heap.size g1 2 2 (pairL b s c r) from o1); have z1 := (unhide bW).size; clear bb o1) | (go_at_call 77; refine (sPairO u1 s b p q q1 q2).mono ?_; rintro e u2 ⟨g2, rfl, o2, bb2⟩; have bX := hide ((unhide bW).trans (bb2.mono z1)); have K6 := (unhide C0).below (unhide bX) z0; unfold Six8 at K6; have O2 := hide o2; have O3 := hide ((unhide O1).below bb2 (unhide O1).lt.2); have z2 := bb2.size; clear bb2 o2) | (refine step_cat3 _ (by rfl) _ _ (by rfl) w1.heap.size g1 2 2 2 (pairL b s c r) (pairL s b p q) g2 2 (by rfl) (by rfl) (by exact unhide O3) (by rfl) (by exact (unhide O2).at) (by omega) (by omega) ?_; intro g3 c3 w3 o3 gr3 loc3; have g1l := (unhide O3).lt.1; have BZ := hide ((unhide bX).grown gr3 (by omega) (fun j hj => by cases hj; exact g1l)); have K7 := (unhide C0).below (unhide BZ) z0; unfold Six8 at K7; have O4 := hide o3; clear o3 gr3 loc3))
  go_wp2
  go_ret
  exact ⟨g3, c3, rfl, (unhide O4).rebase (by have := (unhide O4).lt.1; omega), (unhide B0).trans ((unhide BZ).mono (by omega))⟩
end Go.Proofs.YtpkgkekonhgonaaGreatDoor.SLegs
namespace Go.Proofs.YtpkgkekonhgonaaGreatDoor.ITakeBk
open Go.ChangeShapes Go.WideShapes Go.ChangeAt Go.RowKit BMem Bks ILists BHelp Ans ICopied ICmdB IHave SBk
open IBalsFit (one_more all_one)
open Lots (Says says_of NoOk)
open Bals (T3)
open Tup5 (T5)
open Concat5 (OwnV)
open ILotsFit (below_of_drew)
/-- Books of the call's own whose list of lots is v, which may be nothing at all. -/
structure OwL (w : World) (base : Nat) (x : Bx) (v : Value) : Prop where
  oa : Pairs.Own 111 w base x.ga x.b.ac.length x.ca x.b.ac
  oi : Pairs.Own 114 w base x.gi x.b.ic.length x.ci x.b.ic
  ob : Triples.Own3 70 w base x.gb x.b.bs.length x.cb x.b.bs
  ol : OwnV 120 w base v x.b.ls
  ot : Tup8.Own8 64 w base x.gt x.b.ts.length x.ct x.b.ts
theorem OwL.of {w : World} {base : Nat} {x : Bx} (h : Ow w base x) : OwL w base x (.slice (some ⟨x.gl, 0, none⟩) x.b.ls.length x.cl) := ⟨h.oa, h.oi, h.ob, Concat5.OwnV.of h.ol, h.ot⟩
theorem OwL.below {w w' : World} {base B : Nat} {x : Bx} {v : Value} (h : OwL w base x v) (k : Below B w w') (hB : w.heap.size ≤ B) : OwL w' base x v :=
  ⟨h.oa.below k (by have := h.oa.lt; omega), h.oi.below k (by have := h.oi.lt; omega), h.ob.below k (by have := h.ob.lt; omega), h.ol.below k (fun g hg => by have := h.ol.lt g hg; omega), h.ot.below k (by have := h.ot.lt; omega)⟩
/-- The variable of x, whose list of lots is v. -/
def VarL (w : World) (base g : Nat) (x : Bx) (v : Value) : Prop := Box w base g (.slice (some ⟨x.ga, 0, none⟩) x.b.ac.length x.ca) (.slice (some ⟨x.gi, 0, none⟩) x.b.ic.length x.ci) (.slice (some ⟨x.gb, 0, none⟩) x.b.bs.length x.cb) v (.slice (some ⟨x.gt, 0, none⟩) x.b.ts.length x.ct) (.int .i64 x.b.lot)
theorem VarL.any {w : World} {base g : Nat} {x : Bx} {ao : Option Addr} {n k : Nat} (h : VarL w base g x (.slice ao n k)) : AnyBox w base g := ⟨_, _, _, _, _, _, _, _, _, _, _, _, _, _, _, _, h⟩
end Go.Proofs.YtpkgkekonhgonaaGreatDoor.ITakeBk
namespace Go.Proofs.YtpkgkekonhgonaaGreatDoor.Concat3
open Go.ChangeShapes Go.WideShapes Go.ChangeAt Go.RowKit Triples
open Bals (T3)
open LegApp (info2)
/-- A list of the call's own, or nothing at all. -/
def OwnV (e : TypeId) (w : World) (base : Nat) (v : Value) (ps : List T3) : Prop := w.ownsRow base e 3 v ps.length (flat3 ps)
theorem OwnV.cases {e : TypeId} {w : World} {base : Nat} {v : Value} {ps : List T3} (h : OwnV e w base v ps) : (v = .slice none 0 0 ∧ ps = []) ∨ ∃ g c, v = .slice (some ⟨g, 0, none⟩) ps.length c ∧ Own3 e w base g ps.length c ps := by
  rcases h.2 with ⟨h1, h2⟩ | ⟨g, c, cur, h1, h2⟩
  · exact .inl ⟨h1, List.eq_nil_of_length_eq_zero h2⟩
  · refine .inr ⟨g, c, h1, ?_⟩
    have h' : w.ownsRow base e 3 v ps.length (flat3 ps) := h
    rw [h1] at h'
    exact h'
theorem OwnV.of {e : TypeId} {w : World} {base g n c : Nat} {ps : List T3} (h : Own3 e w base g n c ps) : OwnV e w base (.slice (some ⟨g, 0, none⟩) n c) ps := by
  unfold OwnV
  rw [h.len]
  exact h
theorem OwnV.nil (e : TypeId) (w : World) (base : Nat) : OwnV e w base (.slice none 0 0) [] := ⟨rfl, .inl ⟨rfl, rfl⟩⟩
theorem OwnV.lt {e : TypeId} {w : World} {base : Nat} {v : Value} {ps : List T3} (h : OwnV e w base v ps) : ∀ g, v.ownBlock = some g → base ≤ g ∧ g < w.heap.size := fun g hg => World.ownsRow.lt h g hg
theorem OwnV.below {e : TypeId} {w w' : World} {base B : Nat} {v : Value} {ps : List T3} (h : OwnV e w base v ps) (k : Below B w w') (hB : ∀ g, v.ownBlock = some g → g < B) : OwnV e w' base v ps := by
  rcases h.cases with ⟨rfl, rfl⟩ | ⟨g, c, rfl, o⟩
  · exact OwnV.nil _ _ _
  · exact OwnV.of (o.below k (hB g rfl))
theorem OwnV.kept {e : TypeId} {w w' : World} {base : Nat} {row : Option Nat} {v : Value} {ps : List T3} (h : OwnV e w base v ps) (k : w.grownBy w' row) (hne : ∀ g, v.ownBlock = some g → row ≠ some g) : OwnV e w' base v ps := by
  rcases h.cases with ⟨rfl, rfl⟩ | ⟨g, c, rfl, o⟩
  · exact OwnV.nil _ _ _
  · exact OwnV.of (o.kept k (fun e => hne g rfl e.symm))
theorem OwnV.rebase {e : TypeId} {w : World} {base base' : Nat} {v : Value} {ps : List T3} (h : OwnV e w base v ps) (hb : base' ≤ base) : OwnV e w base' v ps := by
  rcases h.cases with ⟨rfl, rfl⟩ | ⟨g, c, rfl, o⟩
  · exact OwnV.nil _ _ _
  · exact OwnV.of (o.rebase (Nat.le_trans hb o.lt.1))
/-- A list appended to another one, which may be nothing. -/
theorem wp_catV (u : World) {ops : Array Oper} {rest : List Oper} {o : Oper} {a : Act} {Q : Exit → Act → World → Prop} (hgd : o.guard = none) (s x : Operand)
    (ho : o.op = .call { callee := .builtin .append, args := #[s, x], argTypes := #[31, 31] }) (base m : Nat) (v : Value) (ps qs : List T3) (vb c : Nat)
    (hs : a.eval s = v) (hx : a.eval x = .slice (some ⟨vb, 0, none⟩) m c) (hown : OwnV 67 u base v ps) (hl : qs.length = m) (hv : At3 u vb qs) (hn : ps.length + m ≤ 1048576) (hb : base ≤ u.heap.size)
    (h : ∀ v' w', OwnV 67 w' base v' (ps ++ qs) → u.grownBy w' v.ownBlock → (v'.ownBlock = v.ownBlock ∨ v'.ownBlock = some u.heap.size) → wpList Tryz.prog ops Q rest (a.put o.dst v') w') : wpList Tryz.prog ops Q (o :: rest) a u := by
  obtain ⟨i0, hi, hz0, hz1, hz2⟩ := info_parts info2
  refine wpList_append_own_at u hgd s x 31 ho base 67 i0 (.agg #[.int .i64 0, .int .i64 0, .int .i64 0]) 3 24 Tryz.underlying31 hi hz0 hz1 hz2 rfl (by decide) v ps.length _ hs hown ⟨vb, 0, none⟩ m c (flat3 qs) hx (by rw [flat3_len, hl]) hv.cells (fun u hu => flat3_one u _ hu) (by unfold maxLen; omega) (by omega) hb ?_
  intro v' w' own' gr' nil' loc'
  refine h v' w' ?_ gr' loc'
  unfold OwnV
  rw [flat3_append, List.length_append, hl]
  exact own'
set_option maxRecDepth 100000 in
theorem grow_some (w : World) (k : Nat) (h0 : 0 < k) (h20 : k ≤ 1048576) : Calls Tryz.prog 166 #[.slice none 0 0, .int .i64 k] w fun e w' => ∃ v, e = .returned v ∧ OwnV 67 w' w.heap.size v [] ∧ Below w.heap.size w w' := by
  obtain ⟨i0, hi, hz0, hz1, hz2⟩ := info_parts info2
  have kp : (0 : Int) < (k : Int) := by omega
  have hold : (Builtin.firstCells i0.size 0 (.slice none 0 0)).run Tryz.prog w.drew = .ok ([] : List Value).toArray w.drew := run_firstCells_none _ _ _ _ _
  obtain ⟨G, hG⟩ : ∃ G, G = grownCap w k 0 67 := ⟨_, rfl⟩
  have hG1 : k ≤ G := by rw [hG]; exact grownCap_ge w _ _ _
  have hG2 : G ≤ maxLen := by rw [hG]; exact grownCap_le_maxLen w _ _ _ (by unfold maxLen; omega)
  obtain ⟨ROW, hROW⟩ : ∃ ROW : Array Value, ROW = ([] : List Value).toArray ++ Builtin.zeroCells (Value.agg #[.int .i64 0, .int .i64 0, .int .i64 0]).cells k ++ Builtin.zeroCells (Value.agg #[.int .i64 0, .int .i64 0, .int .i64 0]).cells (G - k) := ⟨_, rfl⟩
  have hrz : ∀ ty, (Builtin.append_ #[31, 3] ty #[.slice none 0 0, .int .i64 (k : Int)]).run Tryz.prog w = .ok (.slice (some ⟨w.heap.size, 0, none⟩) k G) (w.drew.alloc (.cells ROW 67)) := fun ty => by
    have h := Lib.run_append_grow_zeros w 31 3 ty 67 i0 _ .i64 .i64 Tryz.underlying31 Tryz.underlying3 hi hz0 none 0 0 [] hold k h0 (by rw [hz1]; decide) (by omega) (by omega) (by rw [hz2]; omega) (by rw [hz2]; exact growslice_fits (by omega) (by omega))
    rw [Nat.zero_add, ← hG, ← hROW] at h
    exact h
  have hRs : ROW.size = G * 3 := by
    rw [hROW]
    simp [Builtin.zeroCells, Value.cells]
    omega
  have OV := hide (show OwnV 67 (w.drew.alloc (.cells ROW 67)) w.heap.size (.slice (some ⟨w.heap.size, 0, none⟩) 0 G) [] from ⟨rfl, .inr ⟨w.heap.size, G, ROW, rfl, Nat.le_refl _, heap_alloc_new w.drew _, Nat.zero_le _, hG2, hRs, by simp [flat3]⟩⟩)
  have BB := hide (show Below w.heap.size w (w.drew.alloc (.cells ROW 67)) from (Below.refl _ _).drew.alloc (Nat.le_refl _) _)
  have G63 : (G : Int) ≤ 9223372036854775807 := by unfold maxLen at hG2; omega
  clear hold hROW hRs hG hi hz0 hz1 hz2
  go_enter Tryz.func166, Tryz.ntmps166
  go_wp2_with (first | (at_builtin; refine Lib.wpList_append_run _ rfl _ _ _ _ rfl _ _ rfl rfl _ _ (hrz _) ?_) | go_in)
  go_ret
  exact ⟨_, rfl, unhide OV, unhide BB⟩
set_option maxRecDepth 100000 in
set_option maxHeartbeats 4000000 in
theorem iConcat (w : World) (b g1 n1 c1 g2 n2 c2 : Nat) (p1 p2 : List T3) (l1 : p1.length = n1) (l2 : p2.length = n2) (h20 : n1 + n2 ≤ 1048576) (h0 : 0 < n1 + n2)
    (hb : b < w.heap.size) (q1 : g1 < w.heap.size) (q2 : g2 < w.heap.size) (a1 : At3 w g1 p1) (a2 : At3 w g2 p2)
    (s1 : w.cell? ⟨b, 0, none⟩ = some (.slice (some ⟨g1, 0, none⟩) n1 c1)) (s2 : w.cell? ⟨b, 1, none⟩ = some (.slice (some ⟨g2, 0, none⟩) n2 c2)) :
    Calls Tryz.prog 132 #[.slice (some ⟨b, 0, none⟩) 2 2] w fun e w' => ∃ g c, e = .returned (.slice (some ⟨g, 0, none⟩) (p1 ++ p2).length c) ∧ Own3 67 w' w.heap.size g (p1 ++ p2).length c (p1 ++ p2) ∧ Below w.heap.size w w' := by
  have A1 := hide a1
  have A2 := hide a2
  clear a1 a2
  go_enter Tryz.func132, Tryz.ntmps132
  go_wp2
  go_loop [3, 5, 11] (fun q _ j => ∃ (k : Nat) (z : Int), j = .int .i64 k ∧ q = .int .i64 z ∧ ((k = 0 ∧ z = 0) ∨ (k = 1 ∧ z = (n1 : Int)) ∨ (k = 2 ∧ z = (n1 : Int) + (n2 : Int)))) (fun _ _ j => 2 - (intOf j).toNat)
  case atStart => exact ⟨0, 0, rfl, rfl, .inl ⟨rfl, rfl⟩⟩
  case round =>
    obtain ⟨k, z, rfl, rfl, hk⟩ := hrel
    rcases hk with ⟨rfl, rfl⟩ | ⟨rfl, rfl⟩ | ⟨rfl, rfl⟩
    · go_wp2
      go_round
      case rel => exact ⟨1, (n1 : Int), by go_num, by go_num, .inr (.inl ⟨rfl, rfl⟩)⟩
      case measure => simp [intOf]
    · go_wp2
      go_round
      case rel => exact ⟨2, (n1 : Int) + (n2 : Int), by go_num, by go_num, .inr (.inr ⟨rfl, rfl⟩)⟩
      case measure => simp [intOf]
    · have GR := hide (show Calls Tryz.prog 166 #[.slice none 0 0, .int .i64 ((n1 : Int) + (n2 : Int))] w fun e w' => ∃ v, e = .returned v ∧ OwnV 67 w' w.heap.size v [] ∧ Below w.heap.size w w' from by
        have := grow_some w (n1 + n2) h0 h20
        rw [show ((n1 + n2 : Nat) : Int) = (n1 : Int) + (n2 : Int) by omega] at this
        exact this)
      go_wp2_with fail
      refine (unhide GR).mono ?_
      rintro e w1 ⟨v, rfl, ov, b1⟩
      have OV := hide ov
      have B1 := hide b1
      clear ov b1 GR
      go_wp2
      go_loopw [6, 8, 27] (fun x _ j wr => ∃ (k : Nat) (v : Value) (out : List T3), j = .int .i64 k ∧ v = x ∧ Hid (OwnV 67 wr w.heap.size v out) ∧ Hid (Below w.heap.size w wr) ∧ ((k = 0 ∧ out = []) ∨ (k = 1 ∧ p1 = out) ∨ (k = 2 ∧ out = p1 ++ p2))) (fun _ _ j _ => 2 - (intOf j).toNat)
      case atStart => exact ⟨0, v, [], rfl, rfl, OV, B1, .inl ⟨rfl, rfl⟩⟩
      case round =>
      clear OV B1
      obtain ⟨k, v, out, rfl, rfl, OV, HB, hk⟩ := hrel
      rcases hk with ⟨rfl, rfl⟩ | ⟨rfl, rfl⟩ | ⟨rfl, rfl⟩
      · have s : wr.cell? ⟨b, 0, none⟩ = some (.slice (some ⟨g1, 0, none⟩) n1 c1) := ((unhide HB).cell (p := ⟨b, 0, none⟩) hb).trans s1
        have A := hide ((unhide A1).below (unhide HB) q1)
        have bs := (unhide HB).size
        have LN := hide (show ([] : List T3).length + n1 ≤ 1048576 from by (try simp); omega)
        go_wp2_with (first | (at_builtin; refine wp_catV _ rfl _ _ rfl w.heap.size n1 v ([] : List T3) p1 g1 c1 rfl rfl (unhide OV) l1 (unhide A) (unhide LN) bs ?_) | go_in)
        intro v5 w5 ov5 gr5 loc5
        have O5 := hide (show OwnV 67 w5 w.heap.size v5 (p1) from by have := ov5; exact this)
        have B5 := hide ((unhide HB).grown gr5 bs (fun j hj => ((unhide OV).lt j hj).1))
        clear ov5 gr5 loc5 A s
        go_wp2
        go_roundw
        case rel => exact ⟨1, v5, p1, by go_num, rfl, O5, B5, .inr (.inl ⟨rfl, rfl⟩)⟩
        case measure => simp [intOf]
      · have s : wr.cell? ⟨b, 1, none⟩ = some (.slice (some ⟨g2, 0, none⟩) n2 c2) := ((unhide HB).cell (p := ⟨b, 1, none⟩) hb).trans s2
        have A := hide ((unhide A2).below (unhide HB) q2)
        have bs := (unhide HB).size
        have LN := hide (show (p1).length + n2 ≤ 1048576 from by (try simp); omega)
        go_wp2_with (first | (at_builtin; refine wp_catV _ rfl _ _ rfl w.heap.size n2 v (p1) p2 g2 c2 rfl rfl (unhide OV) l2 (unhide A) (unhide LN) bs ?_) | go_in)
        intro v5 w5 ov5 gr5 loc5
        have O5 := hide (show OwnV 67 w5 w.heap.size v5 (p1 ++ p2) from by have := ov5; exact this)
        have B5 := hide ((unhide HB).grown gr5 bs (fun j hj => ((unhide OV).lt j hj).1))
        clear ov5 gr5 loc5 A s
        go_wp2
        go_roundw
        case rel => exact ⟨2, v5, p1 ++ p2, by go_num, rfl, O5, B5, .inr (.inr ⟨rfl, rfl⟩)⟩
        case measure => simp [intOf]
      · rcases (unhide OV).cases with ⟨_, e⟩ | ⟨g, c, e, o⟩
        · have h2 : (p1 ++ p2).length = 0 := by rw [e]; rfl
          rw [List.length_append] at h2
          omega
        · subst e
          have O := hide o
          clear o
          go_wp2
          go_ret
          exact ⟨g, c, rfl, unhide O, unhide HB⟩
end Go.Proofs.YtpkgkekonhgonaaGreatDoor.Concat3
namespace Go.Proofs.YtpkgkekonhgonaaGreatDoor.SSettle
open Go.ChangeShapes Go.WideShapes Go.ChangeAt Go.RowKit BMem Bks ILists BHelp Ans SBk Trd TBox
open IBalsFit (one_more)
open Lots (Says says_of NoOk)
open Tup8 (T8 el8 Own8)
open SIssue (ne_true)
open SCarryP (legs_formed)
theorem posted_ts {b b' : Bk} {ls : List Bals.T3} {c : Int} (h : IsPosted b ls b' c) : b'.ts = b.ts := by
  obtain ⟨qs, pc, hp, ⟨_, rfl, _⟩ | ⟨_, rfl, _⟩ | ⟨_, rfl, _⟩ | ⟨_, rfl, _⟩⟩ := h
  all_goals rfl
end Go.Proofs.YtpkgkekonhgonaaGreatDoor.SSettle
namespace Go.Proofs.YtpkgkekonhgonaaGreatDoor.ISet
open Go.ChangeShapes Go.WideShapes Go.ChangeAt Go.RowKit BMem Bks ILists BHelp Ans ICopied ICmdB IHave SBk ITakeBk ICmdW Trd
open SIssue (ne_true)
open IBalsFit (one_more all_one)
open ITrade (at_new)
open Lots (Says says_of NoOk)
open Bals (T3)
open Tup8 (T8 el8)
open Triples (Own3 At3)
open SLegs (Six8)
open SCarryP (legs_formed)
/-- What settling a trade t makes of books. -/
def SetP (b : Bk) (t : T8) (way : Int) (b' : Bk) (gain c : Int) : Prop :=
  ∃ b1 c1, IsPosted b (legsT t) b1 c1 ∧ ((c1 ≠ 0 ∧ c = c1) ∨ (c1 = 0 ∧ ∃ b2 k2 c2, IsTake b1 t.2.2.1 t.2.2.2.1 t.2.2.2.2.1 way b2 k2 c2 ∧ ((c2 ≠ 0 ∧ c = c2) ∨ (c2 = 0 ∧ IsOpen b2 t.2.1 t.2.2.2.1 t.2.2.2.2.1 t.2.2.2.2.2.2.1 b' c ∧ gain = IntKind.i64.wrap (t.2.2.2.2.2.2.1 - k2)))))
theorem take_ts {b b' : Bk} {a i q way k c : Int} (h : IsTake b a i q way b' k c) : b'.ts = b.ts := by
  rcases h with ⟨_, rfl, _⟩ | ⟨_, rfl, _⟩ <;> rfl
theorem open_ts {b b' : Bk} {a i q k c : Int} (h : IsOpen b a i q k b' c) : b'.ts = b.ts := by
  rcases h with ⟨_, rfl, _⟩ | ⟨_, rfl, _⟩ <;> rfl
theorem SetP.ts {b b' : Bk} {t : T8} {way gain : Int} (h : SetP b t way b' gain 0) : b'.ts = b.ts := by
  obtain ⟨b1, c1, hp, ⟨h1, h2⟩ | ⟨rfl, b2, k2, c2, ht, ⟨h1, h2⟩ | ⟨rfl, ho, _⟩⟩⟩ := h
  · exact absurd h2.symm h1
  · exact absurd h2.symm h1
  · exact (open_ts ho).trans ((take_ts ht).trans (SSettle.posted_ts hp))
theorem SetP.not {b b' : Bk} {no way gain c : Int} {k : Nat} (h : SetP b (el8 b.ts k) way b' gain c) (hc : c ≠ 0) (hk : IsAt b.ts no k) (hs : (el8 b.ts k).2.2.2.2.2.2.2 = 1) : IsSettle b no way b 0 c := by
  obtain ⟨b1, c1, hp, ⟨h1, h2⟩ | ⟨rfl, b2, k2, c2, ht, ⟨h1, h2⟩ | ⟨rfl, ho, hg⟩⟩⟩ := h
  · exact .inr ⟨k, hk, .inr ⟨hs, b1, c1, hp, .inl ⟨h1, rfl, rfl, h2⟩⟩⟩
  · exact .inr ⟨k, hk, .inr ⟨hs, b1, 0, hp, .inr ⟨rfl, b2, k2, c2, ht, .inl ⟨h1, rfl, rfl, h2⟩⟩⟩⟩
  · exact .inr ⟨k, hk, .inr ⟨hs, b1, 0, hp, .inr ⟨rfl, b2, k2, 0, ht, .inr ⟨rfl, b', c, ho, .inl ⟨hc, rfl, rfl, rfl⟩⟩⟩⟩⟩
set_option maxRecDepth 100000 in
theorem iGivenO (w : World) (a c i q : Int) (q1 : 0 ≤ q) (q2 : q ≤ 1000000000000000) :
    Calls Tryz.prog 133 #[.int .i64 a, .int .i64 c, .int .i64 i, .int .i64 q] w fun e w' => ∃ g, e = .returned (.slice (some ⟨g, 0, none⟩) 2 2) ∧ Own3 67 w' w.heap.size g 2 2 (pairL a c i q) ∧ Below w.heap.size w w' := by
  have A := hide (SLegs.own_pair w a c i q)
  go_enter Tryz.func133, Tryz.ntmps133
  go_wp2
  go_ret
  exact ⟨w.heap.size, rfl, unhide A, (Below.refl _ _).alloc (Nat.le_refl _) _⟩
set_option maxRecDepth 100000 in
set_option maxHeartbeats 8000000 in
theorem iLegs (u : World) (n b s p q c r st : Int) (q1 : 0 ≤ q) (q2 : q ≤ 1000000000000000) (r1 : 0 ≤ r) (r2 : r ≤ 1000000000000000) :
    Calls Tryz.prog 91 #[.agg #[.int .i64 n, .int .i64 b, .int .i64 s, .int .i64 p, .int .i64 q, .int .i64 c, .int .i64 r, .int .i64 st]] u fun e u' => ∃ g3 c3, e = .returned (.slice (some ⟨g3, 0, none⟩) 4 c3) ∧ Own3 67 u' u.heap.size g3 4 c3 (pairL b s c r ++ pairL s b p q) ∧ Below u.heap.size u u' := by
  have C0 := hide (show Six8 (u.alloc (.cells #[.int .i64 n, .int .i64 b, .int .i64 s, .int .i64 p, .int .i64 q, .int .i64 c, .int .i64 r, .int .i64 st] 64)) u.heap.size b s p q c r from by simp [Six8])
  have z0 : u.heap.size < (u.alloc (.cells #[.int .i64 n, .int .i64 b, .int .i64 s, .int .i64 p, .int .i64 q, .int .i64 c, .int .i64 r, .int .i64 st] 64)).heap.size := by simp
  have B0 := hide (one_more u (.cells #[.int .i64 n, .int .i64 b, .int .i64 s, .int .i64 p, .int .i64 q, .int .i64 c, .int .i64 r, .int .i64 st] 64))
  have M1 := trivial
  go_enter Tryz.func91, Tryz.ntmps91
  go_wp2_with fail
  generalize u.alloc (.cells #[.int .i64 n, .int .i64 b, .int .i64 s, .int .i64 p, .int .i64 q, .int .i64 c, .int .i64 r, .int .i64 st] 64) = w1 at *
  have K4 := unhide C0
  unfold Six8 at K4
  go_region_held3 (fun w' => w'.cell? ⟨u.heap.size, 1, none⟩ = some (.int .i64 b) ∧ w'.cell? ⟨u.heap.size, 2, none⟩ = some (.int .i64 s) ∧ w'.cell? ⟨u.heap.size, 3, none⟩ = some (.int .i64 p) ∧ w'.cell? ⟨u.heap.size, 4, none⟩ = some (.int .i64 q) ∧ w'.cell? ⟨u.heap.size, 5, none⟩ = some (.int .i64 c) ∧ w'.cell? ⟨u.heap.size, 6, none⟩ = some (.int .i64 r)) (first | exact K4 | exact K5 | exact K6 | exact K7 | exact K8)
    (first | (go_at_call 133; clear M1; refine (iGivenO w1.drew b s c r r1 r2).mono ?_; rintro e u1 ⟨g1, rfl, o1, bb⟩; have bW := hide (show Below w1.heap.size w1 u1 from ILotsFit.below_of_drew bb); have K5 := (unhide C0).below (unhide bW) z0; unfold Six8 at K5; have O1 := hide (show Own3 67 u1 w1.heap.size g1 2 2 (pairL b s c r) from o1); have z1 := (unhide bW).size; clear bb o1) | (go_at_call 133; refine (iGivenO u1 s b p q q1 q2).mono ?_; rintro e u2 ⟨g2, rfl, o2, bb2⟩; have bX := hide ((unhide bW).trans (bb2.mono z1)); have K6 := (unhide C0).below (unhide bX) z0; unfold Six8 at K6; have K7 := (unhide C0).below ((unhide bX).alloc (unhide bX).size (.cells #[.slice (some ⟨g1, 0, none⟩) 2 2, .slice (some ⟨g2, 0, none⟩) 2 2] 31)) z0; unfold Six8 at K7; have O2 := hide o2; have O3 := hide ((unhide O1).below bb2 (unhide O1).lt.2); have z2 := bb2.size; clear bb2 o2) | (go_at_call 132; refine (Concat3.iConcat _ u2.heap.size g1 2 2 g2 2 2 (pairL b s c r) (pairL s b p q) rfl rfl (by omega) (by omega) (by simp) (by have := (unhide O3).lt.2; simp; omega) (by have := (unhide O2).lt.2; simp; omega) ((unhide O3).alloc _).at ((unhide O2).alloc _).at (by simp) (by simp)).mono ?_; rintro e u3 ⟨g3, c3, rfl, o3, bb3⟩; have bY := hide (Below.trans ((unhide bX).alloc (unhide bX).size _) (bb3.mono (by simp; omega))); have K8 := (unhide C0).below (unhide bY) z0; unfold Six8 at K8; have O4 := hide o3; have z3 := (unhide bY).size; clear bb3 o3))
  clear K4 K5 K6 K7 K8
  have B9 := hide ((unhide B0).trans ((unhide bY).mono (Nat.le_of_lt z0)))
  have O9 := hide ((unhide O4).rebase (base' := u.heap.size) (by have := (unhide O4).lt.1; simp at this; omega))
  go_wp2
  go_ret
  exact ⟨g3, c3, rfl, unhide O9, unhide B9⟩
end Go.Proofs.YtpkgkekonhgonaaGreatDoor.ISet
