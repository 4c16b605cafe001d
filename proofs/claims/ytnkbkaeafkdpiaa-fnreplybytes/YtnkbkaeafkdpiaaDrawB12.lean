/- Contracts of the model's DrawReplyPack and DrawReplyRead. -/
import Derived.Test.YtnkbkaeafkdpiaaDraw11
import Derived.Test.YtnkbkaeafkdpiaaSRead12
import Derived.Test.YtnkbkaeafkdpiaaLaw12
namespace Go.Proofs.Ytnkbkaeafkdpiaa.DrawB12
open Go.ChangeShapes Go.WideShapes Go.ChangeAt Go.RowKit SBytes SPut11 SPuts11 SPack12 SRead12 Draw11
open Draw (CodeAt Cur Only Moved below once new pick byte)
set_option linter.unusedVariables false
set_option linter.unusedSimpArgs false

/-- The nine numbers that an amount is picked from. -/
def nine (j : Nat) : Int := ([0, 1, -1, 1000000000000000, -1000000000000000, 1000000000000001, -1000000000000001, 9223372036854775807, -9223372036854775808] : List Int).getD j 0

theorem nine_cells (w : World) (t : TypeId) (j : Nat) (hj : j < 9) :
    (w.alloc (Obj.cells #[Value.int IntKind.i64 0, Value.int IntKind.i64 1, Value.int IntKind.i64 (-1), Value.int IntKind.i64 1000000000000000, Value.int IntKind.i64 (-1000000000000000), Value.int IntKind.i64 1000000000000001, Value.int IntKind.i64 (-1000000000000001), Value.int IntKind.i64 9223372036854775807, Value.int IntKind.i64 (-9223372036854775808)] t)).cell? ⟨w.heap.size, j, none⟩ = some (.int .i64 (nine j)) := by
  rw [World.cell?_alloc_at _ _ _ _ rfl]
  match j, hj with
  | 0, _ => rfl
  | 1, _ => rfl
  | 2, _ => rfl
  | 3, _ => rfl
  | 4, _ => rfl
  | 5, _ => rfl
  | 6, _ => rfl
  | 7, _ => rfl
  | 8, _ => rfl

set_option maxRecDepth 100000 in
theorem drawAmount (w0 w : World) (c : Nat) (a : Option Addr) (len cap : Nat) (hl : len ≤ 1048576) (hcode : CodeAt w0 a len) (h : Cur w0 w c a len cap) :
    Calls Try.prog 32 #[.pointer (some ⟨c, 0, none⟩)] w fun e w' => (∃ x : Int, e = .returned (.int .i64 x)) ∧ Moved w0 w w' c a len cap := by
  go_enter Try.func32, Try.ntmps32
  go_wp2_with fail
  refine (below w0 w c a len cap 8 hl hcode h (by omega)).mono ?_
  rintro e w1 ⟨⟨x, x0, x1, rfl⟩, h1⟩
  by_cases t0 : x = 0
  · subst t0
    go_wp2_with fail
    have hi1 := h1.1.hi
    refine (pick w0 _ c a len cap w1.heap.size 9 nine hl hcode (Draw.Cur.alloc h1.1 _ _) (by omega) (by omega) (by simp) (by omega) (nine_cells w1 3)).mono ?_
    rintro e w2 ⟨⟨j, hj, rfl⟩, h2⟩
    have hm := Moved.trans (moved_alloc h1 _ 3) h2
    generalize nine j = y at *
    clear h2 h1
    go_wp2
    go_ret
    exact ⟨⟨y, rfl⟩, hm⟩
  have b0 : (x == 0) = false := by simpa using t0
  by_cases t1 : x = 1
  · subst t1
    go_wp2_with fail
    refine (below w0 w1 c a len cap 2000000000 hl hcode h1.1 (by omega)).mono ?_
    rintro e w2 ⟨⟨y, y0, y1, rfl⟩, h2⟩
    go_wp2
    go_ret
    exact ⟨⟨_, rfl⟩, Moved.trans h1 h2⟩
  have b1 : (x == 1) = false := by simpa using t1
  by_cases t2 : x = 2
  · subst t2
    go_wp2_with fail
    refine (below w0 w1 c a len cap 5000 hl hcode h1.1 (by omega)).mono ?_
    rintro e w2 ⟨⟨y, y0, y1, rfl⟩, h2⟩
    go_wp2
    go_ret
    exact ⟨⟨_, rfl⟩, Moved.trans h1 h2⟩
  have b2 : (x == 2) = false := by simpa using t2
  by_cases t3 : x = 3
  · subst t3
    go_wp2_with fail
    refine (below w0 w1 c a len cap 60000000 hl hcode h1.1 (by omega)).mono ?_
    rintro e w2 ⟨⟨y, y0, y1, rfl⟩, h2⟩
    go_wp2
    go_ret
    exact ⟨⟨_, rfl⟩, Moved.trans h1 h2⟩
  have b3 : (x == 3) = false := by simpa using t3
  go_wp2_with fail
  refine (below w0 w1 c a len cap 1000 hl hcode h1.1 (by omega)).mono ?_
  rintro e w2 ⟨⟨y, y0, y1, rfl⟩, h2⟩
  go_wp2
  go_ret
  exact ⟨⟨_, rfl⟩, Moved.trans h1 h2⟩

/-- Bytes are bytes. -/
def By (xs : List Int) : Prop := ∀ x ∈ xs, 0 ≤ x ∧ x ≤ 255

/-- The first bytes of a list of the call's own. -/
theorem own_take {w : World} {base g n cap : Nat} {xs : List Int} (h : ByteH.Own w base g n cap xs) (m : Nat) (hm : m ≤ n) : ByteH.Own w base g m cap (xs.take m) := by
  have hl := h.len
  refine ⟨by simp; omega, ?_⟩
  rcases h.2 with ⟨z, _⟩ | ⟨g', c', cur, z, h2, h3, h4, h5, h6, h7⟩
  · simp at z
  · obtain ⟨e, f⟩ : g = g' ∧ cap = c' := by simpa using z
    subst e f
    refine .inr ⟨g, cap, cur, rfl, h2, h3, by omega, h5, h6, ?_⟩
    have := congrArg (List.take (m * 1)) h7
    rw [List.take_take] at this
    rw [show min (m * 1) (n * 1) = m * 1 by omega] at this
    rw [this, List.map_take, Nat.mul_one]

theorem by_numB {x : Int} (h : x ≤ 9223372036854775807) : By (numB x) := by
  intro y hy
  unfold numB at hy
  split at hy
  · simp at hy
  · exact numF_in 8 x.toNat (by omega) y hy

theorem by_pack (c v : Int) : By (packR c v) := by
  unfold packR
  split
  · next h =>
    intro y hy
    rcases List.mem_append.1 hy with hy | hy
    · exact by_numB (by have := h.1; omega) y hy
    · exact by_numB (by have := h.2; simp only [Amt] at this; omega) y hy
  · intro y hy; simp at hy

theorem pack_le (c v : Int) : (packR c v).length ≤ 18 := by
  unfold packR
  split
  · next h =>
    have a := numB_nine (x := c) (by have := h.1; omega)
    have b := numB_nine (x := v + 1000000000000000) (by have := h.2; simp only [Amt] at this; omega)
    simp
    omega
  · simp

/-- The eight bytes that one is picked from. -/
def ks8 (j : Nat) : Int := ([0, 1, 2, 11, 12, 127, 128, 255] : List Int).getD j 0
theorem ks8_in (j : Nat) : 0 ≤ ks8 j ∧ ks8 j ≤ 255 := by
  unfold ks8
  by_cases h : j < 8
  · have : j = 0 ∨ j = 1 ∨ j = 2 ∨ j = 3 ∨ j = 4 ∨ j = 5 ∨ j = 6 ∨ j = 7 := by omega
    rcases this with rfl | rfl | rfl | rfl | rfl | rfl | rfl | rfl <;> simp [List.getD]
  · unfold List.getD
    rw [List.getElem?_eq_none (by simp; omega)]
    simp

theorem by_set {xs : List Int} (h : By xs) (i : Nat) {y : Int} (hy : 0 ≤ y ∧ y ≤ 255) : By (xs.set i y) := by
  intro z hz
  rcases List.mem_or_eq_of_mem_set hz with a | a
  · exact h z a
  · rw [a]; exact hy

theorem by_take {xs : List Int} (h : By xs) (i : Nat) : By (xs.take i) := fun z hz => h z (List.mem_of_mem_take hz)

theorem own_cap {w : World} {base g n cap : Nat} {xs : List Int} (h : ByteH.Own w base g n cap xs) : n ≤ cap := by
  rcases h.2 with ⟨h1, _⟩ | ⟨g', c, cur, h1, _, _, h2, _⟩
  · simp at h1
  · have : g = g' ∧ cap = c := by simpa using h1
    rw [this.2]
    exact h2

set_option maxRecDepth 100000 in
set_option maxHeartbeats 4000000 in
theorem drawB (w0 w : World) (c : Nat) (a : Option Addr) (len cap g n k : Nat) (xs : List Int) (hl : len ≤ 1048576) (hcode : CodeAt w0 a len) (h : Cur w0 w c a len cap) (ho : ByteH.Own w w0.heap.size g n k xs) (hb : By xs) (hn : n ≤ 19) (hk : n ≤ k) (gne : g ≠ c) :
    Calls Try.prog 39 #[.pointer (some ⟨c, 0, none⟩), .slice (some ⟨g, 0, none⟩) n k] w fun e w' => ∃ (ys : List Int) (g' k' : Nat), e = .returned (.slice (some ⟨g', 0, none⟩) ys.length k') ∧ ByteH.Own w' w0.heap.size g' ys.length k' ys ∧ ys.length ≤ 20 ∧ By ys ∧ Below w0.heap.size w0 w' := by
  have HC := hide hcode
  have C := hide h
  have O := hide ho
  have BY := hide hb
  have LN := hide ho.len
  clear hcode h ho hb
  by_cases z : n = 0
  · have np : ¬ (0 : Int) < n := by omega
    clear z
    go_enter Try.func39, Try.ntmps39
    go_wp2_with fail
    refine (once w0 _ c a len cap 9 hl (unhide HC) (unhide C) (by omega)).mono ?_
    rintro e v5 ⟨⟨tb, rfl⟩, h5⟩
    replace O := hide (bytes_only (unhide O) h5.2 gne)
    replace C := hide h5.1
    clear h5
    cases tb
    · go_wp2_with fail
      refine (once w0 _ c a len cap 9 hl (unhide HC) (unhide C) (by omega)).mono ?_
      rintro e v9 ⟨⟨tb, rfl⟩, h9⟩
      replace O := hide (bytes_only (unhide O) h9.2 gne)
      replace C := hide h9.1
      clear h9
      cases tb
      · go_wp2
        go_ret
        exact ⟨xs, g, k, by rw [unhide LN]; rfl, by rw [unhide LN]; exact unhide O, by rw [unhide LN]; omega, unhide BY, (unhide C).bel⟩
      · have hs := (unhide C).bel.size
        have og := (unhide O).lt
        go_wp2_with (first | (at_builtin; refine wp_catB _ rfl _ _ rfl w0.heap.size g n k 1 xs [0] v9.heap.size 0 1 rfl rfl (own_alloc (unhide O) _) rfl (lit_one _ _) (by omega) (by simp; omega) ?_) | go_in)
        intro g8 c8 v8 o8 gr8 _
        have B8 := hide (((unhide C).bel.alloc hs (.cells #[.int .u8 0] 5)).grown gr8 (by simp; omega) (fun j hj => by cases hj; exact og.1))
        have O8 := hide o8
        clear gr8 o8
        go_wp2
        go_ret
        have el : (xs ++ [0]).length = n + 1 := by rw [List.length_append, unhide LN]; rfl
        exact ⟨xs ++ [0], g8, c8, by rw [el]; rfl, by rw [el]; exact unhide O8, by rw [el]; omega, fun z hz => by
          rcases List.mem_append.1 hz with h | h
          · exact (unhide BY) z h
          · simp at h; omega, unhide B8⟩
    · have n1 : wrap64 ((n : Int) + 1) = n + 1 := by rw [wrap64]; omega
      go_wp2_with fail
      refine (below w0 _ c a len cap (n + 1) hl (unhide HC) (unhide C) (by omega)).mono ?_
      rintro e v6 ⟨⟨m, m0, m1, rfl⟩, h6⟩
      obtain ⟨m, rfl⟩ : ∃ q : Nat, m = q := ⟨m.toNat, by omega⟩
      have mn : m ≤ n := by omega
      replace O := hide (own_take (bytes_only (unhide O) h6.2 gne) m mn)
      replace C := hide h6.1
      replace BY := hide (by_take (unhide BY) m)
      replace LN := hide (show (xs.take m).length = m from by rw [List.length_take, unhide LN]; omega)
      have kc : (m : Int) ≤ k := by omega
      clear h6 n1 m0 m1
      go_wp2_with fail
      refine (once w0 _ c a len cap 9 hl (unhide HC) (unhide C) (by omega)).mono ?_
      rintro e v9 ⟨⟨tb, rfl⟩, h9⟩
      replace O := hide (bytes_only (unhide O) h9.2 gne)
      replace C := hide h9.1
      clear h9
      cases tb
      · go_wp2
        go_ret
        exact ⟨(xs.take m), g, k, by rw [unhide LN]; rfl, by rw [unhide LN]; exact unhide O, by rw [unhide LN]; omega, unhide BY, (unhide C).bel⟩
      · have hs := (unhide C).bel.size
        have og := (unhide O).lt
        go_wp2_with (first | (at_builtin; refine wp_catB _ rfl _ _ rfl w0.heap.size g m k 1 (xs.take m) [0] v9.heap.size 0 1 rfl rfl (own_alloc (unhide O) _) rfl (lit_one _ _) (by omega) (by simp; omega) ?_) | go_in)
        intro g8 c8 v8 o8 gr8 _
        have B8 := hide (((unhide C).bel.alloc hs (.cells #[.int .u8 0] 5)).grown gr8 (by simp; omega) (fun j hj => by cases hj; exact og.1))
        have O8 := hide o8
        clear gr8 o8
        go_wp2
        go_ret
        have el : ((xs.take m) ++ [0]).length = m + 1 := by rw [List.length_append, unhide LN]; rfl
        exact ⟨(xs.take m) ++ [0], g8, c8, by rw [el]; rfl, by rw [el]; exact unhide O8, by rw [el]; omega, fun z hz => by
          rcases List.mem_append.1 hz with h | h
          · exact (unhide BY) z h
          · simp at h; omega, unhide B8⟩
  have np : (0 : Int) < n := by omega
  go_enter Try.func39, Try.ntmps39
  go_wp2_with fail
  refine (once w0 _ c a len cap 3 hl (unhide HC) (unhide C) (by omega)).mono ?_
  rintro e v1 ⟨⟨tb, rfl⟩, h1⟩
  replace O := hide (bytes_only (unhide O) h1.2 gne)
  replace C := hide h1.1
  clear h1
  cases tb
  · go_wp2_with fail
    refine (once w0 _ c a len cap 9 hl (unhide HC) (unhide C) (by omega)).mono ?_
    rintro e v5 ⟨⟨tb, rfl⟩, h5⟩
    replace O := hide (bytes_only (unhide O) h5.2 gne)
    replace C := hide h5.1
    clear h5
    cases tb
    · go_wp2_with fail
      refine (once w0 _ c a len cap 9 hl (unhide HC) (unhide C) (by omega)).mono ?_
      rintro e v9 ⟨⟨tb, rfl⟩, h9⟩
      replace O := hide (bytes_only (unhide O) h9.2 gne)
      replace C := hide h9.1
      clear h9
      cases tb
      · go_wp2
        go_ret
        exact ⟨xs, g, k, by rw [unhide LN]; rfl, by rw [unhide LN]; exact unhide O, by rw [unhide LN]; omega, unhide BY, (unhide C).bel⟩
      · have hs := (unhide C).bel.size
        have og := (unhide O).lt
        go_wp2_with (first | (at_builtin; refine wp_catB _ rfl _ _ rfl w0.heap.size g n k 1 xs [0] v9.heap.size 0 1 rfl rfl (own_alloc (unhide O) _) rfl (lit_one _ _) (by omega) (by simp; omega) ?_) | go_in)
        intro g8 c8 v8 o8 gr8 _
        have B8 := hide (((unhide C).bel.alloc hs (.cells #[.int .u8 0] 5)).grown gr8 (by simp; omega) (fun j hj => by cases hj; exact og.1))
        have O8 := hide o8
        clear gr8 o8
        go_wp2
        go_ret
        have el : (xs ++ [0]).length = n + 1 := by rw [List.length_append, unhide LN]; rfl
        exact ⟨xs ++ [0], g8, c8, by rw [el]; rfl, by rw [el]; exact unhide O8, by rw [el]; omega, fun z hz => by
          rcases List.mem_append.1 hz with h | h
          · exact (unhide BY) z h
          · simp at h; omega, unhide B8⟩
    · have n1 : wrap64 ((n : Int) + 1) = n + 1 := by rw [wrap64]; omega
      go_wp2_with fail
      refine (below w0 _ c a len cap (n + 1) hl (unhide HC) (unhide C) (by omega)).mono ?_
      rintro e v6 ⟨⟨m, m0, m1, rfl⟩, h6⟩
      obtain ⟨m, rfl⟩ : ∃ q : Nat, m = q := ⟨m.toNat, by omega⟩
      have mn : m ≤ n := by omega
      replace O := hide (own_take (bytes_only (unhide O) h6.2 gne) m mn)
      replace C := hide h6.1
      replace BY := hide (by_take (unhide BY) m)
      replace LN := hide (show (xs.take m).length = m from by rw [List.length_take, unhide LN]; omega)
      have kc : (m : Int) ≤ k := by omega
      clear h6 n1 m0 m1
      go_wp2_with fail
      refine (once w0 _ c a len cap 9 hl (unhide HC) (unhide C) (by omega)).mono ?_
      rintro e v9 ⟨⟨tb, rfl⟩, h9⟩
      replace O := hide (bytes_only (unhide O) h9.2 gne)
      replace C := hide h9.1
      clear h9
      cases tb
      · go_wp2
        go_ret
        exact ⟨(xs.take m), g, k, by rw [unhide LN]; rfl, by rw [unhide LN]; exact unhide O, by rw [unhide LN]; omega, unhide BY, (unhide C).bel⟩
      · have hs := (unhide C).bel.size
        have og := (unhide O).lt
        go_wp2_with (first | (at_builtin; refine wp_catB _ rfl _ _ rfl w0.heap.size g m k 1 (xs.take m) [0] v9.heap.size 0 1 rfl rfl (own_alloc (unhide O) _) rfl (lit_one _ _) (by omega) (by simp; omega) ?_) | go_in)
        intro g8 c8 v8 o8 gr8 _
        have B8 := hide (((unhide C).bel.alloc hs (.cells #[.int .u8 0] 5)).grown gr8 (by simp; omega) (fun j hj => by cases hj; exact og.1))
        have O8 := hide o8
        clear gr8 o8
        go_wp2
        go_ret
        have el : ((xs.take m) ++ [0]).length = m + 1 := by rw [List.length_append, unhide LN]; rfl
        exact ⟨(xs.take m) ++ [0], g8, c8, by rw [el]; rfl, by rw [el]; exact unhide O8, by rw [el]; omega, fun z hz => by
          rcases List.mem_append.1 hz with h | h
          · exact (unhide BY) z h
          · simp at h; omega, unhide B8⟩
  · go_wp2_with fail
    refine (below w0 _ c a len cap n hl (unhide HC) (unhide C) (by omega)).mono ?_
    rintro e v2 ⟨⟨i, i0, i1, rfl⟩, h2⟩
    obtain ⟨i, rfl⟩ : ∃ q : Nat, i = q := ⟨i.toNat, by omega⟩
    replace O := hide (bytes_only (unhide O) h2.2 gne)
    replace C := hide h2.1
    clear h2
    have ch := (unhide C).hi
    go_wp2_with fail
    refine (pick w0 _ c a len cap v2.heap.size 8 ks8 hl (unhide HC) (Draw.Cur.alloc (unhide C) _ _) (by omega) (by omega) (by simp) (by omega) (fun j hj => ?_)).mono ?_
    · have : j = 0 ∨ j = 1 ∨ j = 2 ∨ j = 3 ∨ j = 4 ∨ j = 5 ∨ j = 6 ∨ j = 7 := by omega
      rcases this with rfl | rfl | rfl | rfl | rfl | rfl | rfl | rfl <;> simp [ks8, List.getD]
    rintro e v3 ⟨⟨j, hj, rfl⟩, h3⟩
    replace O := hide (bytes_only (own_alloc (unhide O) (.cells #[.int .i64 0, .int .i64 1, .int .i64 2, .int .i64 11, .int .i64 12, .int .i64 127, .int .i64 128, .int .i64 255] 3)) h3.2 gne)
    replace C := hide h3.1
    have K8 := ks8_in j
    clear h3
    generalize ks8 j = y at *
    have il : i < n := by omega
    have cc := (unhide O).at i (by rw [unhide LN]; exact il)
    have cf := (unhide O).free i
    have st := (unhide O).set i y
    have og := (unhide O).lt
    replace O := hide st.1
    replace C := hide (Draw.cur_grown (unhide C) st.2 og.1 gne)
    replace BY := hide (by_set (unhide BY) i K8)
    replace LN := hide (show (xs.set i y).length = n from by rw [List.length_set]; exact unhide LN)
    have e8 : IntKind.u8.wrap y = y := by rw [IntKind.wrap_u8]; omega
    clear st
    go_wp2_with fail
    clear e8 cc cf K8 il i0 i1 og
    generalize v3.setCell ⟨g, i, none⟩ (.int .u8 y) = v4 at *
    generalize xs.set i y = ys at *
    refine (once w0 _ c a len cap 9 hl (unhide HC) (unhide C) (by omega)).mono ?_
    rintro e v5 ⟨⟨tb, rfl⟩, h5⟩
    replace O := hide (bytes_only (unhide O) h5.2 gne)
    replace C := hide h5.1
    clear h5
    cases tb
    · go_wp2_with fail
      refine (once w0 _ c a len cap 9 hl (unhide HC) (unhide C) (by omega)).mono ?_
      rintro e v9 ⟨⟨tb, rfl⟩, h9⟩
      replace O := hide (bytes_only (unhide O) h9.2 gne)
      replace C := hide h9.1
      clear h9
      cases tb
      · go_wp2
        go_ret
        exact ⟨ys, g, k, by rw [unhide LN]; rfl, by rw [unhide LN]; exact unhide O, by rw [unhide LN]; omega, unhide BY, (unhide C).bel⟩
      · have hs := (unhide C).bel.size
        have og := (unhide O).lt
        go_wp2_with (first | (at_builtin; refine wp_catB _ rfl _ _ rfl w0.heap.size g n k 1 ys [0] v9.heap.size 0 1 rfl rfl (own_alloc (unhide O) _) rfl (lit_one _ _) (by omega) (by simp; omega) ?_) | go_in)
        intro g8 c8 v8 o8 gr8 _
        have B8 := hide (((unhide C).bel.alloc hs (.cells #[.int .u8 0] 5)).grown gr8 (by simp; omega) (fun j hj => by cases hj; exact og.1))
        have O8 := hide o8
        clear gr8 o8
        go_wp2
        go_ret
        have el : (ys ++ [0]).length = n + 1 := by rw [List.length_append, unhide LN]; rfl
        exact ⟨ys ++ [0], g8, c8, by rw [el]; rfl, by rw [el]; exact unhide O8, by rw [el]; omega, fun z hz => by
          rcases List.mem_append.1 hz with h | h
          · exact (unhide BY) z h
          · simp at h; omega, unhide B8⟩
    · have n1 : wrap64 ((n : Int) + 1) = n + 1 := by rw [wrap64]; omega
      go_wp2_with fail
      refine (below w0 _ c a len cap (n + 1) hl (unhide HC) (unhide C) (by omega)).mono ?_
      rintro e v6 ⟨⟨m, m0, m1, rfl⟩, h6⟩
      obtain ⟨m, rfl⟩ : ∃ q : Nat, m = q := ⟨m.toNat, by omega⟩
      have mn : m ≤ n := by omega
      replace O := hide (own_take (bytes_only (unhide O) h6.2 gne) m mn)
      replace C := hide h6.1
      replace BY := hide (by_take (unhide BY) m)
      replace LN := hide (show (ys.take m).length = m from by rw [List.length_take, unhide LN]; omega)
      have kc : (m : Int) ≤ k := by omega
      clear h6 n1 m0 m1
      go_wp2_with fail
      refine (once w0 _ c a len cap 9 hl (unhide HC) (unhide C) (by omega)).mono ?_
      rintro e v9 ⟨⟨tb, rfl⟩, h9⟩
      replace O := hide (bytes_only (unhide O) h9.2 gne)
      replace C := hide h9.1
      clear h9
      cases tb
      · go_wp2
        go_ret
        exact ⟨(ys.take m), g, k, by rw [unhide LN]; rfl, by rw [unhide LN]; exact unhide O, by rw [unhide LN]; omega, unhide BY, (unhide C).bel⟩
      · have hs := (unhide C).bel.size
        have og := (unhide O).lt
        go_wp2_with (first | (at_builtin; refine wp_catB _ rfl _ _ rfl w0.heap.size g m k 1 (ys.take m) [0] v9.heap.size 0 1 rfl rfl (own_alloc (unhide O) _) rfl (lit_one _ _) (by omega) (by simp; omega) ?_) | go_in)
        intro g8 c8 v8 o8 gr8 _
        have B8 := hide (((unhide C).bel.alloc hs (.cells #[.int .u8 0] 5)).grown gr8 (by simp; omega) (fun j hj => by cases hj; exact og.1))
        have O8 := hide o8
        clear gr8 o8
        go_wp2
        go_ret
        have el : ((ys.take m) ++ [0]).length = m + 1 := by rw [List.length_append, unhide LN]; rfl
        exact ⟨(ys.take m) ++ [0], g8, c8, by rw [el]; rfl, by rw [el]; exact unhide O8, by rw [el]; omega, fun z hz => by
          rcases List.mem_append.1 hz with h | h
          · exact (unhide BY) z h
          · simp at h; omega, unhide B8⟩

set_option maxRecDepth 100000 in
set_option maxHeartbeats 4000000 in
theorem drawRP (w : World) (a : Option Addr) (len cap : Nat) (hl : len ≤ 1048576) (hcode : CodeAt w a len) :
    Calls Try.prog 9 #[.slice a len cap] w fun e w' => ∃ x y : Int, e = .returned (.agg #[.int .i64 x, .int .i64 y]) ∧ Below w.heap.size w w' := by
  have HC := hide hcode
  have b0 := one_more w (.cells #[.int .i64 0, .int .i64 0] 25)
  have X0 := hide (B2.made (t := 25) (w := w) (base := w.heap.size) (.int .i64 0) (.int .i64 0) (Nat.le_refl _) rfl)
  have HC0 := hide (hcode.below b0)
  have B0 := hide b0
  clear hcode b0
  go_enter Try.func9, Try.ntmps9
  go_wp2_with fail
  refine (new _ a len cap hl (unhide HC0)).mono ?_
  rintro e u1 ⟨c, rfl, h1⟩
  have C := hide h1
  clear h1
  go_wp2_with fail
  refine (below _ _ c a len cap 11 hl (unhide HC0) (unhide C) (by omega)).mono ?_
  rintro e u2 ⟨⟨x, x0, x1, rfl⟩, h2⟩
  replace C := hide h2.1
  clear h2
  go_wp2_with fail
  refine (below _ _ c a len cap 20 hl (unhide HC0) (unhide C) (by omega)).mono ?_
  rintro e u3 ⟨⟨y, y0, y1, rfl⟩, h3⟩
  replace C := hide h3.1
  clear h3 x0 x1 y0 y1
  go_wp2_with fail
  refine (drawAmount _ _ c a len cap hl (unhide HC0) (unhide C)).mono ?_
  rintro e u4 ⟨⟨z, rfl⟩, h4⟩
  replace C := hide h4.1
  have X4 := hide ((unhide X0).below (unhide C).bel (unhide X0).lt.2)
  have B4 := hide ((unhide B0).trans ((unhide C).bel.mono (unhide B0).size))
  clear h4
  have p0 := (unhide X4).c0
  have p1 := (unhide X4).c1
  have f0 := (unhide X4).free 0
  have f1 := (unhide X4).free 1
  go_wp2
  refine bodyPost_ret (v := .agg #[.int .i64 _, .int .i64 z]) (by simp [results, Try.results9, go_sem, p0, p1]; rfl) rfl ⟨_, _, rfl, ?_⟩
  exact ((unhide B4).setCell (p := ⟨w.heap.size, 0, none⟩) (by simp) _).setCell (p := ⟨w.heap.size, 1, none⟩) (by simp) _

set_option maxRecDepth 100000 in
set_option maxHeartbeats 4000000 in
theorem drawRR (w : World) (a : Option Addr) (len cap : Nat) (hl : len ≤ 1048576) (hcode : CodeAt w a len) :
    Calls Try.prog 13 #[.slice a len cap] w fun e w' => ∃ (ys : List Int) (g k : Nat), e = .returned (.slice (some ⟨g, 0, none⟩) ys.length k) ∧ ByteH.Own w' w.heap.size g ys.length k ys ∧ ys.length ≤ 20 ∧ By ys ∧ Below w.heap.size w w' := by
  have HC := hide hcode
  clear hcode
  go_enter Try.func13, Try.ntmps13
  go_wp2_with fail
  refine (new w a len cap hl (unhide HC)).mono ?_
  rintro e u1 ⟨c, rfl, h1⟩
  have C := hide h1
  clear h1
  go_wp2_with fail
  refine (below w _ c a len cap 9 hl (unhide HC) (unhide C) (by omega)).mono ?_
  rintro e u2 ⟨⟨x, x0, x1, rfl⟩, h2⟩
  replace C := hide h2.1
  clear h2 x0 x1
  go_wp2_with fail
  refine (drawAmount w _ c a len cap hl (unhide HC) (unhide C)).mono ?_
  rintro e u3 ⟨⟨z, rfl⟩, h3⟩
  replace C := hide h3.1
  clear h3
  go_wp2_with fail
  refine (sReplyPack _ x _).mono ?_
  rintro e u4 ⟨g4, k4, rfl, o4, bb⟩
  have LC := hide (unhide C).bel.size
  have CH := hide (unhide C).hi
  replace C := hide (Draw.cur_below (unhide C) bb)
  have G4 := hide (show g4 ≠ c from by have := (unhide CH); have := o4.lt; omega)
  have BY := hide (by_pack x (z.tmod 100000))
  have PL := hide (pack_le x (z.tmod 100000))
  have O4 := hide o4
  have KC := hide (own_cap o4)
  clear bb o4
  generalize packR x (z.tmod 100000) = ps at *
  generalize decide (RpOk x (z.tmod 100000)) = b at *
  cases b with
  | false =>
    have hs := (unhide C).bel.size
    have LT := hide (show ByteH.Own (u4.alloc (.cells #[.int .u8 0] 5)) w.heap.size u4.heap.size 1 1 [0] from World.ownsRow_lit u4 #[.int .u8 0] 1 hs (by decide) rfl)
    have ch := (unhide C).hi
    go_wp2_with fail
    refine (drawB w _ c a len cap u4.heap.size 1 1 [0] hl (unhide HC) (Draw.Cur.alloc (unhide C) _ _) (unhide LT) (fun y hy => by simp at hy; omega) (by omega) (by omega) (by omega)).mono ?_
    rintro e u5 ⟨ys, g5, k5, rfl, o5, l5, y5, b5⟩
    have O5 := hide o5
    have Y5 := hide y5
    have B5 := hide b5
    clear o5 y5 b5
    go_wp2
    go_ret
    exact ⟨ys, g5, k5, rfl, unhide O5, l5, unhide Y5, unhide B5⟩
  | true =>
    go_wp2_with fail
    refine (drawB w _ c a len cap g4 ps.length k4 ps hl (unhide HC) (unhide C) ((unhide O4).mono (unhide LC)) (unhide BY) (Nat.le_trans (unhide PL) (by omega)) (unhide KC) (unhide G4)).mono ?_
    rintro e u5 ⟨ys, g5, k5, rfl, o5, l5, y5, b5⟩
    have O5 := hide o5
    have Y5 := hide y5
    have B5 := hide b5
    clear o5 y5 b5
    go_wp2
    go_ret
    exact ⟨ys, g5, k5, rfl, unhide O5, l5, unhide Y5, unhide B5⟩

end Go.Proofs.Ytnkbkaeafkdpiaa.DrawB12
