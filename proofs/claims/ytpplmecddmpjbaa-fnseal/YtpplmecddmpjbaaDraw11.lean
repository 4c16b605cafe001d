/- Contracts of the model's DrawPutNums and DrawSeal: lists in memory of the call's own, whatever the bytes are. -/
import Derived.Test.YtpplmecddmpjbaaDraw
import Derived.Test.YtpplmecddmpjbaaSPuts11
namespace Go.Proofs.Ytpplmecddmpjbaa.Draw11
open Go.ChangeShapes Go.WideShapes Go.ChangeAt Go.RowKit SBytes SPut11 SPuts11
open Draw (CodeAt Cur Only Moved below once new pick byte)
set_option linter.unusedVariables false
set_option linter.unusedSimpArgs false

theorem ints_only {w w' : World} {base g n cap c : Nat} {xs : List Int} (h : Ints.Own w base g n cap xs) (o : Only c w w') (hne : g ≠ c) : Ints.Own w' base g n cap xs := by
  refine ⟨h.1, ?_⟩
  have hlt := h.lt.2
  rcases h.2 with ⟨z, _⟩ | ⟨g', c', cur, z, h2, h3, h4⟩
  · simp at z
  · obtain ⟨e, _⟩ : g = g' ∧ cap = c' := by simpa using z
    subst e
    exact Or.inr ⟨g, c', cur, z, h2, by rw [o.2 g hlt hne]; exact h3, h4⟩

theorem bytes_only {w w' : World} {base g n cap c : Nat} {xs : List Int} (h : ByteH.Own w base g n cap xs) (o : Only c w w') (hne : g ≠ c) : ByteH.Own w' base g n cap xs := by
  refine ⟨h.1, ?_⟩
  have hlt := h.lt.2
  rcases h.2 with ⟨z, _⟩ | ⟨g', c', cur, z, h2, h3, h4⟩
  · simp at z
  · obtain ⟨e, _⟩ : g = g' ∧ cap = c' := by simpa using z
    subst e
    exact Or.inr ⟨g, c', cur, z, h2, by rw [o.2 g hlt hne]; exact h3, h4⟩

section
variable {w0 w u v : World} {c g : Nat} {a : Option Addr} {len cap : Nat}
theorem moved_start (h : Cur w0 w c a len cap) : Moved w0 w w c a len cap := ⟨h, Only.refl c w⟩
theorem moved_below (h : Moved w0 w u c a len cap) (k : Below u.heap.size u v) : Moved w0 w v c a len cap :=
  ⟨Draw.cur_below h.1 k, Nat.le_trans h.2.1 k.size, fun i hi hc => (k.block i (Nat.lt_of_lt_of_le hi h.2.1)).trans (h.2.2 i hi hc)⟩
theorem moved_alloc (h : Moved w0 w u c a len cap) (cs : Array Value) (t : TypeId) : Moved w0 w (u.alloc (.cells cs t)) c a len cap := moved_below h ((Below.refl _ _).alloc (Nat.le_refl _) _)
theorem moved_grown (h : Moved w0 w u c a len cap) (k : u.grownBy v (some g)) (hc : c < w.heap.size) (hg : w.heap.size ≤ g) (h0 : w0.heap.size ≤ w.heap.size) : Moved w0 w v c a len cap :=
  ⟨Draw.cur_grown h.1 k (Nat.le_trans h0 hg) (by omega), Nat.le_trans h.2.1 k.size, fun i hi hne => (k.block i (Nat.lt_of_lt_of_le hi h.2.1) (by simp; omega)).trans (h.2.2 i hi hne)⟩
end

set_option maxRecDepth 100000 in
theorem size (w : World) (a : Option Addr) (len cap : Nat) (m : Int) (hl : len ≤ 1048576) (m0 : 2 ≤ m) (m1 : m ≤ 1000) :
    Calls Try.prog 18 #[.slice a len cap, .int .i64 m] w fun e w' => ∃ x : Int, 2 ≤ x ∧ x ≤ m ∧ e = .returned (.int .i64 x) ∧ w' = w := by
  have e1 : ((len : Int)).tdiv 20 = (len : Int) / 20 := Int.tdiv_eq_ediv_of_nonneg (by omega)
  have e2 : wrap64 ((len : Int) / 20) = (len : Int) / 20 := by rw [wrap64]; omega
  have e3 : wrap64 (2 + (len : Int) / 20) = 2 + (len : Int) / 20 := by rw [wrap64]; omega
  by_cases h : m < 2 + (len : Int) / 20
  · go_enter Try.func18, Try.ntmps18
    go_wp2
    go_ret
    exact ⟨m, m0, Int.le_refl _, rfl, rfl⟩
  · go_enter Try.func18, Try.ntmps18
    go_wp2
    go_ret
    exact ⟨2 + (len : Int) / 20, by omega, by omega, by simp [e1, e2, e3], rfl⟩

/-- The fourteen numbers that one is picked from. -/
def ks (x y : Int) (j : Nat) : Int := ([0, 1, 127, 128, 255, 16383, 16384, 2097151, 2097152, -1, 9223372036854775807, 72057594037927935, x, y] : List Int).getD j 0

theorem ks_in (x y : Int) (hx : 0 ≤ x ∧ x < 1000000) (hy : 0 ≤ y ∧ y < 300) (j : Nat) : -1 ≤ ks x y j ∧ ks x y j ≤ 9223372036854775807 := by
  unfold ks
  by_cases h : j < 14
  · have : j = 0 ∨ j = 1 ∨ j = 2 ∨ j = 3 ∨ j = 4 ∨ j = 5 ∨ j = 6 ∨ j = 7 ∨ j = 8 ∨ j = 9 ∨ j = 10 ∨ j = 11 ∨ j = 12 ∨ j = 13 := by omega
    rcases this with rfl | rfl | rfl | rfl | rfl | rfl | rfl | rfl | rfl | rfl | rfl | rfl | rfl | rfl <;> simp [List.getD] <;> omega
  · unfold List.getD
    rw [List.getElem?_eq_none (by simp; omega)]
    simp

set_option maxRecDepth 100000 in
set_option maxHeartbeats 4000000 in
theorem drawNum (w0 w : World) (c : Nat) (a : Option Addr) (len cap : Nat) (hl : len ≤ 1048576) (hcode : CodeAt w0 a len) (h : Cur w0 w c a len cap) :
    Calls Try.prog 19 #[.pointer (some ⟨c, 0, none⟩)] w fun e w' => (∃ x : Int, -1 ≤ x ∧ x ≤ 9223372036854775807 ∧ e = .returned (.int .i64 x)) ∧ Moved w0 w w' c a len cap := by
  have H0 := hide h
  have HC := hide hcode
  clear h hcode
  go_enter Try.func19, Try.ntmps19
  go_wp2_with fail
  refine (below w0 _ c a len cap 1000000 hl (unhide HC) (unhide H0) (by omega)).mono ?_
  rintro e w1 ⟨⟨x, x0, x1, rfl⟩, h1⟩
  have H1 := hide h1
  clear h1
  go_wp2_with fail
  refine (below w0 _ c a len cap 300 hl (unhide HC) (unhide H1).1 (by omega)).mono ?_
  rintro e w2 ⟨⟨y, y0, y1, rfl⟩, h2⟩
  have H2 := hide (Moved.trans (unhide H1) h2)
  have K := hide (ks_in x y ⟨x0, x1⟩ ⟨y0, y1⟩)
  clear h2 H1 x0 x1 y0 y1
  have hc := (unhide H2).1.hi
  go_wp2_with fail
  refine (pick w0 _ c a len cap w2.heap.size 14 (ks x y) hl (unhide HC) (Draw.Cur.alloc (unhide H2).1 _ _) (by omega) (by omega) (by simp) (by omega) (fun j hj => ?_)).mono ?_
  · have : j = 0 ∨ j = 1 ∨ j = 2 ∨ j = 3 ∨ j = 4 ∨ j = 5 ∨ j = 6 ∨ j = 7 ∨ j = 8 ∨ j = 9 ∨ j = 10 ∨ j = 11 ∨ j = 12 ∨ j = 13 := by omega
    rcases this with rfl | rfl | rfl | rfl | rfl | rfl | rfl | rfl | rfl | rfl | rfl | rfl | rfl | rfl <;> simp [ks, List.getD]
  rintro e w3 ⟨⟨j, hj, rfl⟩, h3⟩
  have H3 := hide (Moved.trans (Moved.trans (unhide H2) (Draw.Moved.alloc (unhide H2).1 _ _)) h3)
  clear h3
  have kj := (unhide K) j
  go_wp2
  go_ret
  exact ⟨⟨_, kj.1, kj.2, rfl⟩, unhide H3⟩

set_option maxRecDepth 100000 in
set_option maxHeartbeats 4000000 in
/-- What is drawn for PutNums. -/
theorem drawPuts (w : World) (a : Option Addr) (len cap : Nat) (hl : len ≤ 1048576) (hcode : CodeAt w a len) :
    Calls Try.prog 6 #[.slice a len cap] w fun e w' => ∃ (xs : List Int) (g c : Nat), e = .returned (.slice (some ⟨g, 0, none⟩) xs.length c) ∧ Ints.Own w' w.heap.size g xs.length c xs ∧ xs.length ≤ 9 ∧ (∀ x ∈ xs, x ≤ 9223372036854775807) ∧ Below w.heap.size w w' := by
  have HC := hide hcode
  clear hcode
  go_enter Try.func6, Try.ntmps6
  go_wp2_with fail
  refine (new w a len cap hl (unhide HC)).mono ?_
  rintro e w1 ⟨c, rfl, h1⟩
  have H1 := hide (moved_alloc (moved_start h1) #[] 3)
  have hc := h1.hi
  have hs := h1.bel.size
  have O1 := hide (lit0I w1 w1.heap.size (Nat.le_refl _) rfl)
  clear h1
  go_wp2_with fail
  refine (size _ a len cap 9 hl (by omega) (by omega)).mono ?_
  rintro e w2 ⟨m, m0, m1, rfl, rfl⟩
  have e0 : wrap64 (m + 1) = m + 1 := by rw [wrap64]; omega
  have M := hide (And.intro m0 m1)
  clear m0 m1
  go_wp2_with fail
  refine (below w _ c a len cap (m + 1) hl (unhide HC) (unhide H1).1 (by have := unhide M; omega)).mono ?_
  rintro e w2 ⟨⟨n, n0, n1, rfl⟩, h2⟩
  have H2 := hide (Moved.trans (unhide H1) h2)
  have O2 := hide (ints_only (unhide O1) h2.2 (by omega))
  clear h2 H1 O1 e0
  obtain ⟨n, rfl⟩ : ∃ k : Nat, n = k := ⟨n.toNat, by omega⟩
  have n9 : n ≤ 9 := by have := unhide M; omega
  clear M n0 n1
  go_wp2
  go_loopw [4, 6] (fun l i wr => ∃ (k : Nat) (xs : List Int) (g cS : Nat), k ≤ n ∧ i = .int .i64 (k : Int) ∧ l = .slice (some ⟨g, 0, none⟩) xs.length cS ∧ xs.length ≤ k ∧ Hid (∀ x ∈ xs, x ≤ 9223372036854775807) ∧ Hid (Ints.Own wr w1.heap.size g xs.length cS xs) ∧ Hid (Moved w w1 wr c a len cap)) (fun _ i _ => n - (intOf i).toNat)
  case atStart => exact ⟨0, [], w1.heap.size, 0, by omega, rfl, rfl, by simp, hide (by simp), O2, H2⟩
  case round =>
    clear O2 H2
    obtain ⟨k, xs, g, cS, hk, rfl, rfl, hx, HX, HO, HM⟩ := hrel
    have gl := (unhide HO).lt.1
    have gne : g ≠ c := by omega
    by_cases t : k < n
    · have ki : (k : Int) < n := by omega
      go_wp2_with fail
      refine (drawNum w _ c a len cap hl (unhide HC) (unhide HM).1).mono ?_
      rintro e w5 ⟨⟨x, x0, x1, rfl⟩, h5⟩
      have O5 := hide (ints_only (unhide HO) h5.2 gne)
      have M5 := hide (Moved.trans (unhide HM) h5)
      clear h5
      have AP : ∀ (y : Int) (u : World), y ≤ 9223372036854775807 → Hid (Ints.Own u w1.heap.size g xs.length cS xs) → Hid (Moved w w1 u c a len cap) → Hid (∀ x ∈ xs ++ [y], x ≤ 9223372036854775807) := fun y u hy _ _ => hide (fun z hz => by
        rcases List.mem_append.1 hz with h | h
        · exact (unhide HX) z h
        · simp at h; omega)
      by_cases x2 : x < 0
      · have xe : x = -1 := by omega
        subst xe
        clear x0 x1 x2
        go_wp2_with fail
        refine (once w _ c a len cap 4 hl (unhide HC) (unhide M5).1 (by omega)).mono ?_
        rintro e w6 ⟨⟨tb, rfl⟩, h6⟩
        have O6 := hide (ints_only (unhide O5) h6.2 gne)
        have M6 := hide (Moved.trans (unhide M5) h6)
        clear h6
        have s6 := (unhide M6).2.1
        cases tb
        · have A := AP 1 w6 (by omega) O6 M6
          have O7 := hide (own_allocI (unhide O6) (.cells #[.int .i64 1] 3))
          have M7 := hide (moved_alloc (unhide M6) #[.int .i64 1] 3)
          go_wp2_with (first | (at_builtin; refine wp_appI _ rfl _ _ rfl w1.heap.size g xs.length cS xs w6.heap.size 1 rfl rfl (unhide O7) (by simp) (by omega) (by simp; omega) ?_) | go_in)
          intro g8 c8 w8 o8 gr8 _
          have M8 := hide (moved_grown (unhide M7) gr8 hc gl hs)
          have el : (xs ++ [(1 : Int)]).length = xs.length + 1 := by simp
          have O8 := hide o8
          clear gr8 o8 AP
          go_wp2
          go_roundw
          case rel => exact ⟨k + 1, xs ++ [1], g8, c8, by omega, by go_num, by rw [el], by rw [el]; omega, A, hide (by rw [el]; exact unhide O8), M8⟩
          case measure => simp [intOf]; omega
        · have A := AP (-1) w6 (by omega) O6 M6
          have O7 := hide (own_allocI (unhide O6) (.cells #[.int .i64 (-1)] 3))
          have M7 := hide (moved_alloc (unhide M6) #[.int .i64 (-1)] 3)
          go_wp2_with (first | (at_builtin; refine wp_appI _ rfl _ _ rfl w1.heap.size g xs.length cS xs w6.heap.size (-1) rfl rfl (unhide O7) (by simp) (by omega) (by simp; omega) ?_) | go_in)
          intro g8 c8 w8 o8 gr8 _
          have M8 := hide (moved_grown (unhide M7) gr8 hc gl hs)
          have el : (xs ++ [(-1 : Int)]).length = xs.length + 1 := by simp
          have O8 := hide o8
          clear gr8 o8 AP
          go_wp2
          go_roundw
          case rel => exact ⟨k + 1, xs ++ [-1], g8, c8, by omega, by go_num, by rw [el], by rw [el]; omega, A, hide (by rw [el]; exact unhide O8), M8⟩
          case measure => simp [intOf]; omega
      · have A := AP x w5 x1 O5 M5
        have O7 := hide (own_allocI (unhide O5) (.cells #[.int .i64 x] 3))
        have M7 := hide (moved_alloc (unhide M5) #[.int .i64 x] 3)
        have s6 := (unhide M5).2.1
        go_wp2_with (first | (at_builtin; refine wp_appI _ rfl _ _ rfl w1.heap.size g xs.length cS xs w5.heap.size x rfl rfl (unhide O7) (by simp) (by omega) (by simp; omega) ?_) | go_in)
        intro g8 c8 w8 o8 gr8 _
        have M8 := hide (moved_grown (unhide M7) gr8 hc gl hs)
        have el : (xs ++ [x]).length = xs.length + 1 := by simp
        have O8 := hide o8
        clear gr8 o8 AP
        go_wp2
        go_roundw
        case rel => exact ⟨k + 1, xs ++ [x], g8, c8, by omega, by go_num, by rw [el], by rw [el]; omega, A, hide (by rw [el]; exact unhide O8), M8⟩
        case measure => simp [intOf]; omega
    · go_wp2
      go_ret
      exact ⟨xs, g, cS, rfl, (unhide HO).mono hs, by omega, unhide HX, (unhide HM).1.bel⟩

end Go.Proofs.Ytpplmecddmpjbaa.Draw11
