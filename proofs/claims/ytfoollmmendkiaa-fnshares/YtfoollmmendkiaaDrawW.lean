/- Contracts of the drawing functions of the model for weights and totals: the cursor over the bytes that came in, a list of at most 41 numbers, and a total, whatever the bytes are. -/
import Derived.Test.YtfoollmmendkiaaDraw
import Derived.Test.YtfoollmmendkiaaSOrder
namespace Go.Proofs.Ytfoollmmendkiaa.DrawW
open Go.ChangeShapes Go.WideShapes Go.ChangeAt Go.RowKit Plain Draw
open Ints (Own info3)
open SOrder (own_of_row' one_cell one_one lit0)
set_option linter.unusedSimpArgs false
set_option linter.unusedVariables false

theorem laid (w : World) (a : Option Addr) (len cap : Nat) (x : Int) (hx : In64 x) :
    Cur w (w.alloc (Obj.cells #[Value.slice a len cap, Value.int IntKind.i64 0, Value.int IntKind.i64 x] 64)) w.heap.size a len cap := by
  refine ⟨(Below.refl _ _).alloc (Nat.le_refl _) _, Nat.le_refl _, by simp, ?_, ⟨0, by omega, ?_⟩, ⟨x, ?_, hx⟩, ?_, ?_⟩
  · rw [World.cell?_alloc_at _ _ _ _ rfl]; rfl
  · rw [World.cell?_alloc_at _ _ _ _ rfl]; rfl
  · rw [World.cell?_alloc_at _ _ _ _ rfl]; rfl
  · rw [World.frozen?_alloc_at _ _ _ _ rfl]
  · rw [World.frozen?_alloc_at _ _ _ _ rfl]

set_option maxRecDepth 100000 in
theorem new (w : World) (a : Option Addr) (len cap : Nat) (hl : len ≤ 1048576) (hcode : CodeAt w a len) :
    Calls Try.prog 35 #[.slice a len cap] w fun e w' => ∃ c, e = .returned (.pointer (some ⟨c, 0, none⟩)) ∧ Cur w w' c a len cap := by
  go_enter Try.func35, Try.ntmps35
  go_wp2
  go_loop [3, 4] (fun h i => ∃ (k : Nat) (x : Int), k ≤ len ∧ i = .int .i64 k ∧ h = .int .i64 x ∧ 0 ≤ x ∧ x ≤ 1073741823)
    (fun _ i => len - (intOf i).toNat)
  case atStart => exact ⟨0, 11029 + len, by omega, rfl, rfl, by omega, by omega⟩
  case round =>
    obtain ⟨k, x, hk, rfl, rfl, x0, x1⟩ := hrel
    by_cases t : k < len
    · rcases hcode with hz | ⟨b, off, zs, rfl, hb, hcell⟩
      · omega
      obtain ⟨k1, k2, k3⟩ := hcell k t
      generalize zs.getD k 0 = z at k1 k2 k3
      clear hcell
      by_cases s : k < 4000
      · go_wp2
        go_round
        case rel => exact ⟨k + 1, _, by omega, by go_num, rfl, by rw [i64_and30]; omega, by rw [i64_and30]; omega⟩
        case measure => simp [intOf]; omega
      · go_wp2
        go_ret
        exact ⟨_, rfl, laid w _ len cap x (by unfold In64; omega)⟩
    · go_wp2
      go_ret
      exact ⟨_, rfl, laid w _ len cap x (by unfold In64; omega)⟩

set_option maxRecDepth 100000 in
theorem pick (w0 w : World) (c : Nat) (a : Option Addr) (len cap s m : Nat) (ks : Nat → Int) (hl : len ≤ 1048576) (hcode : CodeAt w0 a len) (h : Cur w0 w c a len cap) (m0 : 1 ≤ m) (m1 : m ≤ 1048576) (hs : s < w.heap.size) (hc : s ≠ c)
    (hk : ∀ j, j < m → w.cell? ⟨s, j, none⟩ = some (.int .i64 (ks j))) :
    Calls Try.prog 49 #[.pointer (some ⟨c, 0, none⟩), .slice (some ⟨s, 0, none⟩) m m] w fun e w' => (∃ j, j < m ∧ e = .returned (.int .i64 (ks j))) ∧ Moved w0 w w' c a len cap := by
  go_enter Try.func49, Try.ntmps49
  go_wp2_with fail
  refine (below w0 w c a len cap m hl hcode h (by omega)).mono ?_
  rintro e w1 ⟨⟨x, x0, x1, rfl⟩, h1, o1⟩
  obtain ⟨k, rfl⟩ := Int.eq_ofNat_of_zero_le x0
  have hc1 := (o1.cell (p := ⟨s, k, none⟩) hs hc).trans (hk k (by omega))
  clear hk
  go_wp2
  go_ret
  exact ⟨⟨k, by omega, rfl⟩, h1, o1⟩

/-- A new block beside the cursor. -/
theorem Cur.alloc {w0 w : World} {c : Nat} {a : Option Addr} {len cap : Nat} (h : Cur w0 w c a len cap) (cs : Array Value) (t : TypeId) : Cur w0 (w.alloc (.cells cs t)) c a len cap := by
  obtain ⟨bel, lo, hi, cb, ⟨i, hi1, ci⟩, ⟨y, ch, hy⟩, f1, f2⟩ := h
  have f (o : Nat) : (w.alloc (.cells cs t)).frozen? ⟨c, o, none⟩ = w.frozen? ⟨c, o, none⟩ := frozen?_alloc_cells _ _ _ _
  refine ⟨bel.alloc bel.size _, lo, by simp; omega, ?_, ⟨i, hi1, ?_⟩, ⟨y, ?_, hy⟩, (f 1).trans f1, (f 2).trans f2⟩
  · rw [World.cell?_alloc_past _ _ _ hi]; exact cb
  · rw [World.cell?_alloc_past _ _ _ hi]; exact ci
  · rw [World.cell?_alloc_past _ _ _ hi]; exact ch

theorem Only.alloc {c : Nat} {u w : World} (h : Only c u w) (o : Obj) : Only c u (w.alloc o) := by
  refine ⟨by simp; have := h.1; omega, fun k hk hc => ?_⟩
  rw [Below.heap_alloc _ _ _ (Nat.lt_of_lt_of_le hk h.1)]
  exact h.2 k hk hc

theorem Moved.alloc {w0 w : World} {c : Nat} {a : Option Addr} {len cap : Nat} (h : Cur w0 w c a len cap) (cs : Array Value) (t : TypeId) : Moved w0 w (w.alloc (.cells cs t)) c a len cap :=
  ⟨Cur.alloc h cs t, Only.alloc (Only.refl c w) _⟩

/-- A list beside the cursor stays as it is when the cursor moves. -/
theorem own_only {w w' : World} {base g n cap c : Nat} {xs : List Int} (h : Own w base g n cap xs) (o : Only c w w') (hne : g ≠ c) : Own w' base g n cap xs := by
  refine ⟨h.1, ?_⟩
  have hlt := h.lt.2
  rcases h.2 with ⟨z, _⟩ | ⟨g', c', cur, z, h2, h3, h4⟩
  · simp at z
  · obtain ⟨e, _⟩ : g = g' ∧ cap = c' := by simpa using z
    subst e
    exact Or.inr ⟨g, c', cur, z, h2, by rw [o.2 g hlt hne]; exact h3, h4⟩

/-- The cursor stays as it is when another list grows. -/
theorem cur_grown {w0 w w' : World} {c g : Nat} {a : Option Addr} {len cap : Nat} (h : Cur w0 w c a len cap) (k : w.grownBy w' (some g)) (hg : w0.heap.size ≤ g) (hne : g ≠ c) : Cur w0 w' c a len cap := by
  obtain ⟨bel, lo, hi, cb, ⟨i, hi1, ci⟩, ⟨y, ch, hy⟩, f1, f2⟩ := h
  have e : w'.heap[c]? = w.heap[c]? := k.block c hi (by simpa using Ne.symm hne)
  have ec (o : Nat) : w'.cell? ⟨c, o, none⟩ = w.cell? ⟨c, o, none⟩ := World.cell?_of_block (w := w) e
  have ef (o : Nat) : w'.frozen? ⟨c, o, none⟩ = w.frozen? ⟨c, o, none⟩ := World.frozen?_of_block (w := w) e
  exact ⟨bel.grown k bel.size (by simpa using hg), lo, Nat.lt_of_lt_of_le hi k.size, (ec 0).trans cb, ⟨i, hi1, (ec 1).trans ci⟩, ⟨y, (ec 2).trans ch, hy⟩, (ef 1).trans f1, (ef 2).trans f2⟩

/-- A list that has a number is not the cursor. -/
theorem own_ne {w0 w : World} {c base g n cap : Nat} {xs : List Int} {a : Option Addr} {len cap' : Nat} (h : Own w base g n cap xs) (hn : 0 < n) (hc : Cur w0 w c a len cap') : g ≠ c := by
  intro e
  subst e
  have k := h.at 0 (by rw [h.len]; exact hn)
  rw [hc.cb] at k
  simp at k

/-- Three numbers, four numbers: to pick one of them. -/
def of3 (x y z : Int) (j : Nat) : Int := if j = 0 then x else if j = 1 then y else z
def of4 (x y z u : Int) (j : Nat) : Int := if j = 0 then x else if j = 1 then y else if j = 2 then z else u

theorem of3_cells (w : World) (t : TypeId) (x y z : Int) (j : Nat) (hj : j < 3) : (w.alloc (Obj.cells #[Value.int .i64 x, Value.int .i64 y, Value.int .i64 z] t)).cell? ⟨w.heap.size, j, none⟩ = some (.int .i64 (of3 x y z j)) := by
  rw [World.cell?_alloc_at _ _ _ _ rfl]
  match j, hj with
  | 0, _ => rfl
  | 1, _ => rfl
  | 2, _ => rfl
theorem of4_cells (w : World) (t : TypeId) (x y z u : Int) (j : Nat) (hj : j < 4) : (w.alloc (Obj.cells #[Value.int .i64 x, Value.int .i64 y, Value.int .i64 z, Value.int .i64 u] t)).cell? ⟨w.heap.size, j, none⟩ = some (.int .i64 (of4 x y z u j)) := by
  rw [World.cell?_alloc_at _ _ _ _ rfl]
  match j, hj with
  | 0, _ => rfl
  | 1, _ => rfl
  | 2, _ => rfl
  | 3, _ => rfl

set_option maxRecDepth 100000 in
theorem drawTotal (w0 w : World) (c : Nat) (a : Option Addr) (len cap : Nat) (hl : len ≤ 1048576) (hcode : CodeAt w0 a len) (h : Cur w0 w c a len cap) :
    Calls Try.prog 37 #[.pointer (some ⟨c, 0, none⟩)] w fun e w' => (∃ x : Int, e = .returned (.int .i64 x)) ∧ Moved w0 w w' c a len cap := by
  go_enter Try.func37, Try.ntmps37
  go_wp2_with fail
  refine (once w0 w c a len cap 8 hl hcode h (by omega)).mono ?_
  rintro e w1 ⟨⟨t, rfl⟩, h1⟩
  cases t
  · go_wp2_with fail
    refine (below w0 w1 c a len cap 1000 hl hcode h1.1 (by omega)).mono ?_
    rintro e w2 ⟨⟨y, y0, y1, rfl⟩, h2⟩
    go_wp2
    go_ret
    exact ⟨⟨_, rfl⟩, Moved.trans h1 h2⟩
  · go_wp2_with fail
    have hi1 := h1.1.hi
    refine (pick w0 _ c a len cap w1.heap.size 4 (of4 0 (-1) 1000000000000000 1000000000000001) hl hcode (Cur.alloc h1.1 _ _) (by omega) (by omega) (by simp) (by omega) (of4_cells w1 3 _ _ _ _)).mono ?_
    rintro e w2 ⟨⟨j, hj, rfl⟩, h2⟩
    have hm := Moved.trans (Moved.trans h1 (Moved.alloc h1.1 _ 3)) h2
    generalize of4 0 (-1) 1000000000000000 1000000000000001 j = y at *
    clear h2 h1
    go_wp2
    go_ret
    exact ⟨⟨y, rfl⟩, hm⟩

end Go.Proofs.Ytfoollmmendkiaa.DrawW
