/- Contracts of the drawing functions of the model for numbers: the cursor over the bytes that came in, and an amount or what is none, whatever the bytes are. -/
import Derived.Test.YthgpimkclpkapaaDraw
namespace Go.Proofs.Ythgpimkclpkapaa.DrawN
open Go.ChangeShapes Go.WideShapes Go.ChangeAt Go.RowKit Plain Draw
set_option linter.unusedVariables false

theorem laid (w : World) (a : Option Addr) (len cap : Nat) (x : Int) (hx : In64 x) :
    Cur w (w.alloc (Obj.cells #[Value.slice a len cap, Value.int IntKind.i64 0, Value.int IntKind.i64 x] 50)) w.heap.size a len cap := by
  refine ⟨(Below.refl _ _).alloc (Nat.le_refl _) _, Nat.le_refl _, by simp, ?_, ⟨0, by omega, ?_⟩, ⟨x, ?_, hx⟩, ?_, ?_⟩
  · rw [World.cell?_alloc_at _ _ _ _ rfl]; rfl
  · rw [World.cell?_alloc_at _ _ _ _ rfl]; rfl
  · rw [World.cell?_alloc_at _ _ _ _ rfl]; rfl
  · rw [World.frozen?_alloc_at _ _ _ _ rfl]
  · rw [World.frozen?_alloc_at _ _ _ _ rfl]

set_option maxRecDepth 100000 in
theorem new (w : World) (a : Option Addr) (len cap : Nat) (hl : len ≤ 1048576) (hcode : CodeAt w a len) :
    Calls Try.prog 19 #[.slice a len cap] w fun e w' => ∃ c, e = .returned (.pointer (some ⟨c, 0, none⟩)) ∧ Cur w w' c a len cap := by
  go_enter Try.func19, Try.ntmps19
  go_wp2
  go_loop [3, 4] (fun h i => ∃ (k : Nat) (x : Int), k ≤ len ∧ i = .int .i64 k ∧ h = .int .i64 x ∧ 0 ≤ x ∧ x ≤ 1073741823)
    (fun _ i => len - (intOf i).toNat)
  case atStart => exact ⟨0, 11029 + len, by omega, rfl, rfl, by omega, by omega⟩
  case round =>
    obtain ⟨k, x, hk, rfl, rfl, x0, x1⟩ := hrel
    by_cases t : k < len
    · rcases hcode with hz | ⟨b, off, zs, rfl, hb, hcell⟩
      · omega
      obtain ⟨k1, k2, k3⟩ := hcell k t
      generalize zs.getD k 0 = z at k1 k2 k3
      clear hcell
      by_cases s : k < 4000
      · go_wp2
        go_round
        case rel => exact ⟨k + 1, _, by omega, by go_num, rfl, by rw [i64_and30]; omega, by rw [i64_and30]; omega⟩
        case measure => simp [intOf]; omega
      · go_wp2
        go_ret
        exact ⟨_, rfl, laid w _ len cap x (by unfold In64; omega)⟩
    · go_wp2
      go_ret
      exact ⟨_, rfl, laid w _ len cap x (by unfold In64; omega)⟩

set_option maxRecDepth 100000 in
theorem pick (w0 w : World) (c : Nat) (a : Option Addr) (len cap s m : Nat) (ks : Nat → Int) (hl : len ≤ 1048576) (hcode : CodeAt w0 a len) (h : Cur w0 w c a len cap) (m0 : 1 ≤ m) (m1 : m ≤ 1048576) (hs : s < w.heap.size) (hc : s ≠ c)
    (hk : ∀ j, j < m → w.cell? ⟨s, j, none⟩ = some (.int .i64 (ks j))) :
    Calls Try.prog 33 #[.pointer (some ⟨c, 0, none⟩), .slice (some ⟨s, 0, none⟩) m m] w fun e w' => (∃ j, j < m ∧ e = .returned (.int .i64 (ks j))) ∧ Moved w0 w w' c a len cap := by
  go_enter Try.func33, Try.ntmps33
  go_wp2_with fail
  refine (below w0 w c a len cap m hl hcode h (by omega)).mono ?_
  rintro e w1 ⟨⟨x, x0, x1, rfl⟩, h1, o1⟩
  obtain ⟨k, rfl⟩ := Int.eq_ofNat_of_zero_le x0
  have hc1 := (o1.cell (p := ⟨s, k, none⟩) hs hc).trans (hk k (by omega))
  clear hk
  go_wp2
  go_ret
  exact ⟨⟨k, by omega, rfl⟩, h1, o1⟩

/-- The nine numbers that an amount is picked from. -/
def nine (j : Nat) : Int := ([0, 1, -1, 1000000000000000, -1000000000000000, 1000000000000001, -1000000000000001, 9223372036854775807, -9223372036854775808] : List Int).getD j 0

theorem nine_in (j : Nat) : In64 (nine j) := by
  unfold nine In64
  match j with
  | 0 => decide
  | 1 => decide
  | 2 => decide
  | 3 => decide
  | 4 => decide
  | 5 => decide
  | 6 => decide
  | 7 => decide
  | 8 => decide
  | n + 9 => simp

theorem nine_cells (w : World) (t : TypeId) (j : Nat) (hj : j < 9) :
    (w.alloc (Obj.cells #[Value.int IntKind.i64 0, Value.int IntKind.i64 1, Value.int IntKind.i64 (-1), Value.int IntKind.i64 1000000000000000, Value.int IntKind.i64 (-1000000000000000), Value.int IntKind.i64 1000000000000001, Value.int IntKind.i64 (-1000000000000001), Value.int IntKind.i64 9223372036854775807, Value.int IntKind.i64 (-9223372036854775808)] t)).cell? ⟨w.heap.size, j, none⟩ = some (.int .i64 (nine j)) := by
  rw [World.cell?_alloc_at _ _ _ _ rfl]
  match j, hj with
  | 0, _ => rfl
  | 1, _ => rfl
  | 2, _ => rfl
  | 3, _ => rfl
  | 4, _ => rfl
  | 5, _ => rfl
  | 6, _ => rfl
  | 7, _ => rfl
  | 8, _ => rfl

/-- A new block beside the cursor. -/
theorem Cur.alloc {w0 w : World} {c : Nat} {a : Option Addr} {len cap : Nat} (h : Cur w0 w c a len cap) (cs : Array Value) (t : TypeId) : Cur w0 (w.alloc (.cells cs t)) c a len cap := by
  obtain ⟨bel, lo, hi, cb, ⟨i, hi1, ci⟩, ⟨y, ch, hy⟩, f1, f2⟩ := h
  have f (o : Nat) : (w.alloc (.cells cs t)).frozen? ⟨c, o, none⟩ = w.frozen? ⟨c, o, none⟩ := frozen?_alloc_cells _ _ _ _
  refine ⟨bel.alloc bel.size _, lo, by simp; omega, ?_, ⟨i, hi1, ?_⟩, ⟨y, ?_, hy⟩, (f 1).trans f1, (f 2).trans f2⟩
  · rw [World.cell?_alloc_past _ _ _ hi]; exact cb
  · rw [World.cell?_alloc_past _ _ _ hi]; exact ci
  · rw [World.cell?_alloc_past _ _ _ hi]; exact ch

theorem Only.alloc {c : Nat} {u w : World} (h : Only c u w) (o : Obj) : Only c u (w.alloc o) := by
  refine ⟨by simp; have := h.1; omega, fun k hk hc => ?_⟩
  rw [Below.heap_alloc _ _ _ (Nat.lt_of_lt_of_le hk h.1)]
  exact h.2 k hk hc

theorem Moved.alloc {w0 w : World} {c : Nat} {a : Option Addr} {len cap : Nat} (h : Cur w0 w c a len cap) (cs : Array Value) (t : TypeId) : Moved w0 w (w.alloc (.cells cs t)) c a len cap :=
  ⟨Cur.alloc h cs t, Only.alloc (Only.refl c w) _⟩

set_option maxRecDepth 100000 in
theorem drawAmount (w0 w : World) (c : Nat) (a : Option Addr) (len cap : Nat) (hl : len ≤ 1048576) (hcode : CodeAt w0 a len) (h : Cur w0 w c a len cap) :
    Calls Try.prog 20 #[.pointer (some ⟨c, 0, none⟩)] w fun e w' => (∃ x : Int, In64 x ∧ e = .returned (.int .i64 x)) ∧ Moved w0 w w' c a len cap := by
  go_enter Try.func20, Try.ntmps20
  go_wp2_with fail
  refine (below w0 w c a len cap 8 hl hcode h (by omega)).mono ?_
  rintro e w1 ⟨⟨x, x0, x1, rfl⟩, h1, o1⟩
  by_cases t0 : x = 0
  · subst t0
    go_wp2_with fail
    have ha := Cur.alloc h1 #[Value.int IntKind.i64 0, Value.int IntKind.i64 1, Value.int IntKind.i64 (-1), Value.int IntKind.i64 1000000000000000, Value.int IntKind.i64 (-1000000000000000), Value.int IntKind.i64 1000000000000001, Value.int IntKind.i64 (-1000000000000001), Value.int IntKind.i64 9223372036854775807, Value.int IntKind.i64 (-9223372036854775808)] 3
    have hi1 := h1.hi
    refine (pick w0 _ c a len cap w1.heap.size 9 nine hl hcode ha (by omega) (by omega) (by simp) (by omega) (nine_cells w1 3)).mono ?_
    rintro e w2 ⟨⟨j, hj, rfl⟩, h2⟩
    have hn := nine_in j
    have hm := Moved.trans (Moved.trans ⟨h1, o1⟩ (Moved.alloc h1 _ 3)) h2
    generalize nine j = y at *
    clear ha h2 h1 o1
    go_wp2
    go_ret
    exact ⟨⟨y, hn, rfl⟩, hm⟩
  have b0 : (x == 0) = false := by simpa using t0
  by_cases t1 : x = 1
  · subst t1
    go_wp2_with fail
    refine (below w0 w1 c a len cap 2000000000 hl hcode h1 (by omega)).mono ?_
    rintro e w2 ⟨⟨y, y0, y1, rfl⟩, h2⟩
    go_wp2
    go_ret
    exact ⟨⟨_, by unfold In64; omega, rfl⟩, Moved.trans ⟨h1, o1⟩ h2⟩
  have b1 : (x == 1) = false := by simpa using t1
  by_cases t2 : x = 2
  · subst t2
    go_wp2_with fail
    refine (below w0 w1 c a len cap 5000 hl hcode h1 (by omega)).mono ?_
    rintro e w2 ⟨⟨y, y0, y1, rfl⟩, h2⟩
    go_wp2
    go_ret
    exact ⟨⟨_, by unfold In64; omega, rfl⟩, Moved.trans ⟨h1, o1⟩ h2⟩
  have b2 : (x == 2) = false := by simpa using t2
  by_cases t3 : x = 3
  · subst t3
    go_wp2_with fail
    refine (below w0 w1 c a len cap 60000000 hl hcode h1 (by omega)).mono ?_
    rintro e w2 ⟨⟨y, y0, y1, rfl⟩, h2⟩
    go_wp2
    go_ret
    exact ⟨⟨_, by unfold In64; omega, rfl⟩, Moved.trans ⟨h1, o1⟩ h2⟩
  have b3 : (x == 3) = false := by simpa using t3
  go_wp2_with fail
  refine (below w0 w1 c a len cap 1000 hl hcode h1 (by omega)).mono ?_
  rintro e w2 ⟨⟨y, y0, y1, rfl⟩, h2⟩
  go_wp2
  go_ret
  exact ⟨⟨_, by unfold In64; omega, rfl⟩, Moved.trans ⟨h1, o1⟩ h2⟩

set_option maxRecDepth 100000 in
theorem drawTwo (w : World) (a : Option Addr) (len cap : Nat) (hl : len ≤ 1048576) (hcode : CodeAt w a len) :
    Calls Try.prog 28 #[.slice a len cap] w fun e w' => (∃ x y : Int, In64 x ∧ In64 y ∧ e = .returned (.tuple #[.int .i64 x, .int .i64 y])) ∧ Below w.heap.size w w' := by
  go_enter Try.func28, Try.ntmps28
  go_wp2_with fail
  refine (new w a len cap hl hcode).mono ?_
  rintro e w1 ⟨c, rfl, h1⟩
  go_wp2_with fail
  refine (drawAmount w w1 c a len cap hl hcode h1).mono ?_
  rintro e w2 ⟨⟨x, hx, rfl⟩, h2, _⟩
  go_wp2_with fail
  refine (drawAmount w w2 c a len cap hl hcode h2).mono ?_
  rintro e w3 ⟨⟨y, hy, rfl⟩, h3, _⟩
  go_wp2
  go_ret2
  exact ⟨⟨x, y, hx, hy, rfl⟩, h3.bel⟩

set_option maxRecDepth 100000 in
theorem drawDivFloor (w : World) (a : Option Addr) (len cap : Nat) (hl : len ≤ 1048576) (hcode : CodeAt w a len) :
    Calls Try.prog 10 #[.slice a len cap] w fun e w' => (∃ x y : Int, In64 x ∧ In64 y ∧ e = .returned (.tuple #[.int .i64 x, .int .i64 y])) ∧ Below w.heap.size w w' := by
  go_enter Try.func10, Try.ntmps10
  go_wp2_with fail
  refine (drawTwo w a len cap hl hcode).mono ?_
  rintro e w1 ⟨⟨x, y, hx, hy, rfl⟩, h1⟩
  go_wp2
  go_ret2
  exact ⟨⟨x, y, hx, hy, rfl⟩, h1⟩

theorem tmod_in (x : Int) : -1000000000000000 < x.tmod 1000000000000000 ∧ x.tmod 1000000000000000 < 1000000000000000 :=
  ⟨Int.lt_tmod_of_pos x (by decide), Int.tmod_lt_of_pos x (by decide)⟩

theorem sizes (x : Int) (w : World) (h : In64 x) : Calls Try.prog 22 #[.int .i64 (x.tmod 1000000000000000)] w fun e w' => (∃ y : Int, In64 y ∧ e = .returned (.int .i64 y)) ∧ w' = w := by
  obtain ⟨h1, h2⟩ := tmod_in x
  generalize x.tmod 1000000000000000 = z at *
  by_cases t : z < 0
  · go_enter Try.func22, Try.ntmps22
    go_wp2
    go_ret
    exact ⟨⟨_, by unfold In64; omega, rfl⟩, rfl⟩
  · go_enter Try.func22, Try.ntmps22
    go_wp2
    go_ret
    exact ⟨⟨_, by unfold In64; omega, rfl⟩, rfl⟩

set_option maxRecDepth 100000 in
theorem drawMulDiv (w : World) (a : Option Addr) (len cap : Nat) (hl : len ≤ 1048576) (hcode : CodeAt w a len) :
    Calls Try.prog 6 #[.slice a len cap] w fun e w' => (∃ x y z : Int, In64 x ∧ In64 y ∧ In64 z ∧ e = .returned (.tuple #[.int .i64 x, .int .i64 y, .int .i64 z])) ∧ Below w.heap.size w w' := by
  go_enter Try.func6, Try.ntmps6
  go_wp2_with fail
  refine (new w a len cap hl hcode).mono ?_
  rintro e w1 ⟨c, rfl, h1⟩
  go_wp2_with fail
  refine (drawAmount w w1 c a len cap hl hcode h1).mono ?_
  rintro e w2 ⟨⟨x, hx, rfl⟩, h2, _⟩
  go_wp2_with fail
  refine (drawAmount w w2 c a len cap hl hcode h2).mono ?_
  rintro e w3 ⟨⟨y, hy, rfl⟩, h3, _⟩
  go_wp2_with fail
  refine (drawAmount w w3 c a len cap hl hcode h3).mono ?_
  rintro e w4 ⟨⟨z, hz, rfl⟩, h4, _⟩
  go_wp2_with fail
  refine (once w w4 c a len cap 5 hl hcode h4 (by omega)).mono ?_
  rintro e w5 ⟨⟨t, rfl⟩, h5, _⟩
  have h5' := h5.bel
  clear h5 h4 h3 h2 h1
  cases t
  · go_wp2_with fail
    refine (sizes x _ hx).mono ?_
    rintro e w' ⟨⟨x', hx', rfl⟩, rfl⟩
    go_wp2_with fail
    refine (sizes y _ hy).mono ?_
    rintro e w' ⟨⟨y', hy', rfl⟩, rfl⟩
    go_wp2_with fail
    refine (sizes z _ hz).mono ?_
    rintro e w' ⟨⟨z', hz', rfl⟩, rfl⟩
    go_wp2
    go_ret3
    exact ⟨⟨x', y', z', hx', hy', hz', rfl⟩, h5'⟩
  · go_wp2
    go_ret3
    exact ⟨⟨x, y, z, hx, hy, hz, rfl⟩, h5'⟩

end Go.Proofs.Ythgpimkclpkapaa.DrawN
