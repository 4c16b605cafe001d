/- Contracts of the drawing functions of the model: whatever bytes come in, a cursor over them is laid in memory of the call's own, and each drawing step returns some number within its bounds, moves the cursor, and turns nothing that was there before the law was called. -/
import Derived.Test.YtejbbhjhinkcdaaPairs
namespace Go.Proofs.Ytejbbhjhinkcdaa.Draw
open Go.ChangeShapes Go.WideShapes Go.ChangeAt Go.RowKit Pairs
set_option linter.unusedVariables false

/-- The bytes that came in, as cells of the world in which the law began. -/
def CodeAt (w : World) (a : Option Addr) (len : Nat) : Prop :=
  len = 0 ∨ ∃ (b off : Nat) (zs : List Int), a = some ⟨b, off, none⟩ ∧ b < w.heap.size ∧ ∀ i, i < len → w.cell? ⟨b, off + i, none⟩ = some (.int .u8 (zs.getD i 0)) ∧ 0 ≤ zs.getD i 0 ∧ zs.getD i 0 ≤ 255

theorem CodeAt.below {w w' : World} {a : Option Addr} {len : Nat} (h : CodeAt w a len) (k : Below w.heap.size w w') : CodeAt w' a len := by
  rcases h with h | ⟨b, off, zs, rfl, hb, hc⟩
  · exact Or.inl h
  · exact Or.inr ⟨b, off, zs, rfl, Nat.lt_of_lt_of_le hb k.size, fun i hi => ⟨(k.cell (p := ⟨b, off + i, none⟩) hb).trans (hc i hi).1, (hc i hi).2⟩⟩

theorem set_grown (w : World) (p : Addr) (v : Value) : w.grownBy (w.setCell p v) (some p.block) :=
  ⟨rfl, rfl, rfl, by simp [World.setCell], fun k _ hk => Below.heap_setCell _ _ _ _ (fun e => hk (by rw [e]))⟩

/-- A number of 64 bits with a sign. -/
def In64 (x : Int) : Prop := -9223372036854775808 ≤ x ∧ x ≤ 9223372036854775807

/-- The cursor, in a block of the call's own. -/
structure Cur (w0 w : World) (c : Nat) (a : Option Addr) (len cap : Nat) : Prop where
  bel : Below w0.heap.size w0 w
  lo : w0.heap.size ≤ c
  hi : c < w.heap.size
  cb : w.cell? ⟨c, 0, none⟩ = some (.slice a len cap)
  ci : ∃ i : Nat, i ≤ len ∧ w.cell? ⟨c, 1, none⟩ = some (.int .i64 i)
  ch : ∃ h : Int, w.cell? ⟨c, 2, none⟩ = some (.int .i64 h) ∧ In64 h
  f1 : w.frozen? ⟨c, 1, none⟩ = false
  f2 : w.frozen? ⟨c, 2, none⟩ = false

theorem in64_wrap (n : Int) : In64 (wrap64 n) := by unfold In64 wrap64; omega

theorem i64_and255 (n : Int) : bits BinOp.and IntKind.i64 n 255 = n % 256 := by
  have h1 : (BitVec.ofInt 64 255).toNat = 2 ^ 8 - 1 := by decide
  have key : (BitVec.ofInt 64 n &&& BitVec.ofInt 64 255).toNat = (n % ((2 ^ 64 : Nat) : Int)).toNat % 2 ^ 8 := by
    rw [BitVec.toNat_and, BitVec.toNat_ofInt, h1, Nat.and_two_pow_sub_one_eq_mod]
  show IntKind.i64.wrap ((BitVec.ofInt 64 n &&& BitVec.ofInt 64 255).toNat : Nat) = n % 256
  rw [key, IntKind.wrap_i64]
  omega

theorem i64_and30 (n : Int) : bits BinOp.and IntKind.i64 n 1073741823 = n % 1073741824 := by
  have h1 : (BitVec.ofInt 64 1073741823).toNat = 2 ^ 30 - 1 := by decide
  have key : (BitVec.ofInt 64 n &&& BitVec.ofInt 64 1073741823).toNat = (n % ((2 ^ 64 : Nat) : Int)).toNat % 2 ^ 30 := by
    rw [BitVec.toNat_and, BitVec.toNat_ofInt, h1, Nat.and_two_pow_sub_one_eq_mod]
  show IntKind.i64.wrap ((BitVec.ofInt 64 n &&& BitVec.ofInt 64 1073741823).toNat : Nat) = n % 1073741824
  rw [key, IntKind.wrap_i64]
  omega

/-- From w to w' no block has turned but the one numbered c. -/
def Only (c : Nat) (w w' : World) : Prop := w.heap.size ≤ w'.heap.size ∧ ∀ k, k < w.heap.size → k ≠ c → w'.heap[k]? = w.heap[k]?

theorem Only.refl (c : Nat) (w : World) : Only c w w := ⟨Nat.le_refl _, fun _ _ _ => rfl⟩
theorem Only.trans {c : Nat} {u v w : World} (h : Only c u v) (k : Only c v w) : Only c u w :=
  ⟨Nat.le_trans h.1 k.1, fun i hi hc => (k.2 i (Nat.lt_of_lt_of_le hi h.1) hc).trans (h.2 i hi hc)⟩
theorem Only.drew {c : Nat} {u w : World} (h : Only c u w) : Only c u w.drew := h
theorem Only.setCell {c : Nat} {u w : World} (h : Only c u w) (o : Nat) (v : Value) : Only c u (w.setCell ⟨c, o, none⟩ v) := by
  refine ⟨by simpa [World.setCell] using h.1, fun k hk hc => ?_⟩
  rw [Below.heap_setCell _ _ _ _ hc]
  exact h.2 k hk hc
theorem Only.cell {c : Nat} {w w' : World} (h : Only c w w') {p : Addr} (hp : p.block < w.heap.size) (hc : p.block ≠ c) : w'.cell? p = w.cell? p :=
  World.cell?_of_block (w := w) (h.2 p.block hp hc)

theorem Cur.drew {w0 w : World} {c : Nat} {a : Option Addr} {len cap : Nat} (h : Cur w0 w c a len cap) : Cur w0 w.drew c a len cap :=
  ⟨h.bel.drew, h.lo, h.hi, h.cb, h.ci, h.ch, h.f1, h.f2⟩

theorem Cur.setH {w0 w : World} {c : Nat} {a : Option Addr} {len cap : Nat} (h : Cur w0 w c a len cap) (x : Int) (hx : In64 x) : Cur w0 (w.setCell ⟨c, 2, none⟩ (.int .i64 x)) c a len cap := by
  obtain ⟨bel, lo, hi, cb, ⟨i, hi1, ci⟩, ⟨y, ch, hy⟩, f1, f2⟩ := h
  refine ⟨bel.setCell lo _, lo, by simpa [World.setCell] using hi, ?_, ⟨i, hi1, ?_⟩, ⟨x, ?_, hx⟩, ?_, ?_⟩
  · exact (World.cell?_setCell_other _ _ _ _ (by simp)).trans cb
  · exact (World.cell?_setCell_other _ _ _ _ (by simp)).trans ci
  · exact World.cell?_setCell_same _ _ _ ch
  · rw [World.frozen?_setCell]; exact f1
  · rw [World.frozen?_setCell]; exact f2

theorem Cur.setI {w0 w : World} {c : Nat} {a : Option Addr} {len cap : Nat} (h : Cur w0 w c a len cap) (i : Nat) (hi' : i ≤ len) : Cur w0 (w.setCell ⟨c, 1, none⟩ (.int .i64 i)) c a len cap := by
  obtain ⟨bel, lo, hi, cb, ⟨j, hi1, ci⟩, ⟨y, ch, hy⟩, f1, f2⟩ := h
  refine ⟨bel.setCell lo _, lo, by simpa [World.setCell] using hi, ?_, ⟨i, hi', ?_⟩, ⟨y, ?_, hy⟩, ?_, ?_⟩
  · exact (World.cell?_setCell_other _ _ _ _ (by simp)).trans cb
  · exact World.cell?_setCell_same _ _ _ ci
  · exact (World.cell?_setCell_other _ _ _ _ (by simp)).trans ch
  · rw [World.frozen?_setCell]; exact f1
  · rw [World.frozen?_setCell]; exact f2

set_option maxRecDepth 100000 in
theorem byte (w0 w : World) (c : Nat) (a : Option Addr) (len cap : Nat) (hl : len ≤ 1048576) (hcode : CodeAt w0 a len) (h : Cur w0 w c a len cap) :
    Calls Try.prog 40 #[.pointer (some ⟨c, 0, none⟩)] w fun e w' => (∃ x : Int, 0 ≤ x ∧ x ≤ 255 ∧ e = .returned (.int .i64 x)) ∧ Cur w0 w' c a len cap ∧ Only c w w' := by
  have h' := hide h
  obtain ⟨bel, lo, hi, cb, ⟨i, hi1, ci⟩, ⟨x, ch, hx⟩, f1, f2⟩ := h
  by_cases t : i < len
  · rcases hcode with hz | ⟨b, off, zs, rfl, hb, hcell⟩
    · omega
    obtain ⟨k1, k2, k3⟩ := hcell i t
    rw [← bel.cell (p := ⟨b, off + i, none⟩) hb] at k1
    generalize zs.getD i 0 = z at k1 k2 k3
    have hne : ¬ b = c := by omega
    clear hcell
    go_enter Try.func40, Try.ntmps40
    go_wp2
    go_region
    go_wp2
    go_region
    go_wp2
    go_region
    go_wp2
    go_ret
    refine ⟨⟨_, ?_, ?_, rfl⟩, ?_, ?_⟩
    · rw [i64_and255]; omega
    · rw [i64_and255]; omega
    · exact (((((unhide h').setH _ (in64_wrap _)).setI (i + 1) (by omega)).drew).drew).drew
    · exact ((((Only.refl c w).setCell 2 _).setCell 1 _).drew.drew).drew
  · go_enter Try.func40, Try.ntmps40
    go_wp2
    go_region
    go_wp2
    go_region
    go_wp2
    go_ret
    refine ⟨⟨_, ?_, ?_, rfl⟩, ?_, ?_⟩
    · rw [i64_and255]; omega
    · rw [i64_and255]; omega
    · exact (((unhide h').setH _ (in64_wrap _)).drew).drew
    · exact (((Only.refl c w).setCell 2 _).drew).drew

/-- What a drawing step leaves: the cursor, and all else as it was. -/
def Moved (w0 w w' : World) (c : Nat) (a : Option Addr) (len cap : Nat) : Prop := Cur w0 w' c a len cap ∧ Only c w w'

theorem Moved.trans {w0 u v w : World} {c : Nat} {a : Option Addr} {len cap : Nat} (h : Moved w0 u v c a len cap) (k : Moved w0 v w c a len cap) : Moved w0 u w c a len cap :=
  ⟨k.1, h.2.trans k.2⟩

set_option maxRecDepth 100000 in
theorem below_small (w0 w : World) (c : Nat) (a : Option Addr) (len cap : Nat) (n : Int) (hl : len ≤ 1048576) (hcode : CodeAt w0 a len) (h : Cur w0 w c a len cap) (n0 : 1 ≤ n) (n1 : n ≤ 256) :
    Calls Try.prog 21 #[.pointer (some ⟨c, 0, none⟩), .int .i64 n] w fun e w' => (∃ x : Int, 0 ≤ x ∧ x < n ∧ e = .returned (.int .i64 x)) ∧ Moved w0 w w' c a len cap := by
  go_enter Try.func21, Try.ntmps21
  go_wp2_with fail
  refine (byte w0 w c a len cap hl hcode h).mono ?_
  rintro e w1 ⟨⟨x, x0, x1, rfl⟩, h1, o1⟩
  go_wp2
  go_ret
  refine ⟨⟨_, ?_, ?_, rfl⟩, h1, o1⟩
  · exact Int.emod_nonneg _ (by omega)
  · exact Int.emod_lt_of_pos _ (by omega)

set_option maxRecDepth 100000 in
theorem below_big (w0 w : World) (c : Nat) (a : Option Addr) (len cap : Nat) (n : Int) (hl : len ≤ 1048576) (hcode : CodeAt w0 a len) (h : Cur w0 w c a len cap) (n0 : 257 ≤ n) :
    Calls Try.prog 21 #[.pointer (some ⟨c, 0, none⟩), .int .i64 n] w fun e w' => (∃ x : Int, 0 ≤ x ∧ x < n ∧ e = .returned (.int .i64 x)) ∧ Moved w0 w w' c a len cap := by
  go_enter Try.func21, Try.ntmps21
  go_wp2_with fail
  refine (byte w0 w c a len cap hl hcode h).mono ?_
  rintro e w1 ⟨⟨x1, x10, x11, rfl⟩, h1, o1⟩
  go_wp2_with fail
  refine (byte w0 w1 c a len cap hl hcode h1).mono ?_
  rintro e w2 ⟨⟨x2, x20, x21, rfl⟩, h2, o2⟩
  go_wp2_with fail
  refine (byte w0 w2 c a len cap hl hcode h2).mono ?_
  rintro e w3 ⟨⟨x3, x30, x31, rfl⟩, h3, o3⟩
  go_wp2_with fail
  refine (byte w0 w3 c a len cap hl hcode h3).mono ?_
  rintro e w4 ⟨⟨x4, x40, x41, rfl⟩, h4, o4⟩
  go_wp2
  go_ret
  refine ⟨⟨_, ?_, ?_, rfl⟩, h4, ((o1.trans o2).trans o3).trans o4⟩
  · exact Int.emod_nonneg _ (by omega)
  · exact Int.emod_lt_of_pos _ (by omega)

/-- A number below n. -/
theorem below (w0 w : World) (c : Nat) (a : Option Addr) (len cap : Nat) (n : Int) (hl : len ≤ 1048576) (hcode : CodeAt w0 a len) (h : Cur w0 w c a len cap) (n0 : 1 ≤ n) :
    Calls Try.prog 21 #[.pointer (some ⟨c, 0, none⟩), .int .i64 n] w fun e w' => (∃ x : Int, 0 ≤ x ∧ x < n ∧ e = .returned (.int .i64 x)) ∧ Moved w0 w w' c a len cap := by
  by_cases k : n ≤ 256
  · exact below_small w0 w c a len cap n hl hcode h n0 k
  · exact below_big w0 w c a len cap n hl hcode h (by omega)

set_option maxRecDepth 100000 in
theorem once (w0 w : World) (c : Nat) (a : Option Addr) (len cap : Nat) (n : Int) (hl : len ≤ 1048576) (hcode : CodeAt w0 a len) (h : Cur w0 w c a len cap) (n0 : 1 ≤ n) :
    Calls Try.prog 33 #[.pointer (some ⟨c, 0, none⟩), .int .i64 n] w fun e w' => (∃ t : Bool, e = .returned (.bool t)) ∧ Moved w0 w w' c a len cap := by
  go_enter Try.func33, Try.ntmps33
  go_wp2_with fail
  refine (below w0 w c a len cap n hl hcode h n0).mono ?_
  rintro e w1 ⟨⟨x, x0, x1, rfl⟩, h1⟩
  go_wp2
  go_ret
  exact ⟨⟨_, rfl⟩, h1⟩

theorem laid (w : World) (a : Option Addr) (len cap : Nat) (x : Int) (hx : In64 x) :
    Cur w (w.alloc (Obj.cells #[Value.slice a len cap, Value.int IntKind.i64 0, Value.int IntKind.i64 x] 62)) w.heap.size a len cap := by
  refine ⟨(Below.refl _ _).alloc (Nat.le_refl _) _, Nat.le_refl _, by simp, ?_, ⟨0, by omega, ?_⟩, ⟨x, ?_, hx⟩, ?_, ?_⟩
  · rw [World.cell?_alloc_at _ _ _ _ rfl]; rfl
  · rw [World.cell?_alloc_at _ _ _ _ rfl]; rfl
  · rw [World.cell?_alloc_at _ _ _ _ rfl]; rfl
  · rw [World.frozen?_alloc_at _ _ _ _ rfl]
  · rw [World.frozen?_alloc_at _ _ _ _ rfl]

set_option maxRecDepth 100000 in
theorem new (w : World) (a : Option Addr) (len cap : Nat) (hl : len ≤ 1048576) (hcode : CodeAt w a len) :
    Calls Try.prog 19 #[.slice a len cap] w fun e w' => ∃ c, e = .returned (.pointer (some ⟨c, 0, none⟩)) ∧ Cur w w' c a len cap := by
  go_enter Try.func19, Try.ntmps19
  go_wp2
  go_loop [3, 4] (fun h i => ∃ (k : Nat) (x : Int), k ≤ len ∧ i = .int .i64 k ∧ h = .int .i64 x ∧ 0 ≤ x ∧ x ≤ 1073741823)
    (fun _ i => len - (intOf i).toNat)
  case atStart => exact ⟨0, 11029 + len, by omega, rfl, rfl, by omega, by omega⟩
  case round =>
    obtain ⟨k, x, hk, rfl, rfl, x0, x1⟩ := hrel
    by_cases t : k < len
    · rcases hcode with hz | ⟨b, off, zs, rfl, hb, hcell⟩
      · omega
      obtain ⟨k1, k2, k3⟩ := hcell k t
      generalize zs.getD k 0 = z at k1 k2 k3
      clear hcell
      by_cases s : k < 4000
      · go_wp2
        go_round
        case rel => exact ⟨k + 1, _, by omega, by go_num, rfl, by rw [i64_and30]; omega, by rw [i64_and30]; omega⟩
        case measure => simp [intOf]; omega
      · go_wp2
        go_ret
        exact ⟨_, rfl, laid w _ len cap x (by unfold In64; omega)⟩
    · go_wp2
      go_ret
      exact ⟨_, rfl, laid w _ len cap x (by unfold In64; omega)⟩

set_option maxRecDepth 100000 in
theorem pick (w0 w : World) (c : Nat) (a : Option Addr) (len cap s m : Nat) (ks : Nat → Int) (hl : len ≤ 1048576) (hcode : CodeAt w0 a len) (h : Cur w0 w c a len cap) (m0 : 1 ≤ m) (m1 : m ≤ 1048576) (hs : s < w.heap.size) (hc : s ≠ c)
    (hk : ∀ j, j < m → w.cell? ⟨s, j, none⟩ = some (.int .i64 (ks j))) :
    Calls Try.prog 39 #[.pointer (some ⟨c, 0, none⟩), .slice (some ⟨s, 0, none⟩) m m] w fun e w' => (∃ j, j < m ∧ e = .returned (.int .i64 (ks j))) ∧ Moved w0 w w' c a len cap := by
  go_enter Try.func39, Try.ntmps39
  go_wp2_with fail
  refine (below w0 w c a len cap m hl hcode h (by omega)).mono ?_
  rintro e w1 ⟨⟨x, x0, x1, rfl⟩, h1, o1⟩
  obtain ⟨k, rfl⟩ := Int.eq_ofNat_of_zero_le x0
  have hc1 := (o1.cell (p := ⟨s, k, none⟩) hs hc).trans (hk k (by omega))
  clear hk
  go_wp2
  go_ret
  exact ⟨⟨k, by omega, rfl⟩, h1, o1⟩

/-- A new block beside the cursor. -/
theorem Cur.alloc {w0 w : World} {c : Nat} {a : Option Addr} {len cap : Nat} (h : Cur w0 w c a len cap) (cs : Array Value) (t : TypeId) : Cur w0 (w.alloc (.cells cs t)) c a len cap := by
  obtain ⟨bel, lo, hi, cb, ⟨i, hi1, ci⟩, ⟨y, ch, hy⟩, f1, f2⟩ := h
  have f (o : Nat) : (w.alloc (.cells cs t)).frozen? ⟨c, o, none⟩ = w.frozen? ⟨c, o, none⟩ := frozen?_alloc_cells _ _ _ _
  refine ⟨bel.alloc bel.size _, lo, by simp; omega, ?_, ⟨i, hi1, ?_⟩, ⟨y, ?_, hy⟩, (f 1).trans f1, (f 2).trans f2⟩
  · rw [World.cell?_alloc_past _ _ _ hi]; exact cb
  · rw [World.cell?_alloc_past _ _ _ hi]; exact ci
  · rw [World.cell?_alloc_past _ _ _ hi]; exact ch

theorem Only.alloc {c : Nat} {u w : World} (h : Only c u w) (o : Obj) : Only c u (w.alloc o) := by
  refine ⟨by simp; have := h.1; omega, fun k hk hc => ?_⟩
  rw [Below.heap_alloc _ _ _ (Nat.lt_of_lt_of_le hk h.1)]
  exact h.2 k hk hc

theorem Moved.alloc {w0 w : World} {c : Nat} {a : Option Addr} {len cap : Nat} (h : Cur w0 w c a len cap) (cs : Array Value) (t : TypeId) : Moved w0 w (w.alloc (.cells cs t)) c a len cap :=
  ⟨Cur.alloc h cs t, Only.alloc (Only.refl c w) _⟩

/-- A list beside the cursor stays as it is when the cursor moves. -/
theorem own_only {e : TypeId} {w w' : World} {base g n cap c : Nat} {xs : List (Int × Int)} (h : Own e w base g n cap xs) (o : Only c w w') (hne : g ≠ c) : Own e w' base g n cap xs := by
  refine ⟨h.1, ?_⟩
  have hlt := h.lt.2
  rcases h.2 with ⟨z, _⟩ | ⟨g', c', cur, z, h2, h3, h4⟩
  · simp at z
  · obtain ⟨e, _⟩ : g = g' ∧ cap = c' := by simpa using z
    subst e
    exact Or.inr ⟨g, c', cur, z, h2, by rw [o.2 g hlt hne]; exact h3, h4⟩

/-- The cursor stays as it is when another list grows. -/
theorem cur_grown {w0 w w' : World} {c g : Nat} {a : Option Addr} {len cap : Nat} (h : Cur w0 w c a len cap) (k : w.grownBy w' (some g)) (hg : w0.heap.size ≤ g) (hne : g ≠ c) : Cur w0 w' c a len cap := by
  obtain ⟨bel, lo, hi, cb, ⟨i, hi1, ci⟩, ⟨y, ch, hy⟩, f1, f2⟩ := h
  have e : w'.heap[c]? = w.heap[c]? := k.block c hi (by simpa using Ne.symm hne)
  have ec (o : Nat) : w'.cell? ⟨c, o, none⟩ = w.cell? ⟨c, o, none⟩ := World.cell?_of_block (w := w) e
  have ef (o : Nat) : w'.frozen? ⟨c, o, none⟩ = w.frozen? ⟨c, o, none⟩ := World.frozen?_of_block (w := w) e
  exact ⟨bel.grown k bel.size (by simpa using hg), lo, Nat.lt_of_lt_of_le hi k.size, (ec 0).trans cb, ⟨i, hi1, (ec 1).trans ci⟩, ⟨y, (ec 2).trans ch, hy⟩, (ef 1).trans f1, (ef 2).trans f2⟩

/-- The cursor stays as it is behind a call that turns nothing of what was there. -/
theorem cur_below {w0 w w' : World} {c : Nat} {a : Option Addr} {len cap : Nat} (h : Cur w0 w c a len cap) (k : Below w.heap.size w w') : Cur w0 w' c a len cap := by
  obtain ⟨bel, lo, hi, cb, ⟨i, hi1, ci⟩, ⟨y, ch, hy⟩, f1, f2⟩ := h
  exact ⟨Pairs.next bel k, lo, Nat.lt_of_lt_of_le hi k.size, (k.cell (p := ⟨c, 0, none⟩) hi).trans cb, ⟨i, hi1, (k.cell (p := ⟨c, 1, none⟩) hi).trans ci⟩, ⟨y, (k.cell (p := ⟨c, 2, none⟩) hi).trans ch, hy⟩,
    (k.frozen (p := ⟨c, 1, none⟩) hi).trans f1, (k.frozen (p := ⟨c, 2, none⟩) hi).trans f2⟩

theorem own_ne {w0 w : World} {c base g n cap : Nat} {e : TypeId} {xs : List (Int × Int)} {a : Option Addr} {len cap' : Nat} (h : Own e w base g n cap xs) (hn : 0 < n) (hc : Cur w0 w c a len cap') : g ≠ c := by
  intro e
  subst e
  have k := (h.at 0 (by rw [h.len]; exact hn)).1
  rw [hc.cb] at k
  simp at k

/-- Three numbers, four numbers: to pick one of them. -/
def of3 (x y z : Int) (j : Nat) : Int := if j = 0 then x else if j = 1 then y else z
def of4 (x y z u : Int) (j : Nat) : Int := if j = 0 then x else if j = 1 then y else if j = 2 then z else u

theorem of3_cells (w : World) (t : TypeId) (x y z : Int) (j : Nat) (hj : j < 3) : (w.alloc (Obj.cells #[Value.int .i64 x, Value.int .i64 y, Value.int .i64 z] t)).cell? ⟨w.heap.size, j, none⟩ = some (.int .i64 (of3 x y z j)) := by
  rw [World.cell?_alloc_at _ _ _ _ rfl]
  match j, hj with
  | 0, _ => rfl
  | 1, _ => rfl
  | 2, _ => rfl
theorem of4_cells (w : World) (t : TypeId) (x y z u : Int) (j : Nat) (hj : j < 4) : (w.alloc (Obj.cells #[Value.int .i64 x, Value.int .i64 y, Value.int .i64 z, Value.int .i64 u] t)).cell? ⟨w.heap.size, j, none⟩ = some (.int .i64 (of4 x y z u j)) := by
  rw [World.cell?_alloc_at _ _ _ _ rfl]
  match j, hj with
  | 0, _ => rfl
  | 1, _ => rfl
  | 2, _ => rfl
  | 3, _ => rfl

end Go.Proofs.Ytejbbhjhinkcdaa.Draw
