/- Deeds: the laws' own helpers on them, a deed that came in, and what DeedOk answers, the model's and the program's. -/
import Derived.Test.YtkaomecmhphjpaaLots
import Derived.Deep.RegionHeld3
import Derived.Deep.Slices
import Derived.Deep.Strs
import Derived.ChangeSlices
namespace Go.Proofs.Ytkaomecmhphjpaa.Deed18
open Go.ChangeShapes Go.WideShapes Go.ChangeAt Go.RowKit
open Lots (Says says_of)
set_option linter.unusedVariables false
set_option linter.unusedSimpArgs false

theorem hide {p : Prop} (h : p) : Hid p := h
theorem unhide {p : Prop} (h : Hid p) : p := h
theorem one_more (w : World) (o : Obj) : Below w.heap.size w (w.alloc o) := (Below.refl _ _).alloc (Nat.le_refl _) _

theorem struct_cells4 {H : Type} {enc : TypeId × Value → H} {P : Program} {w : World} {base : Nat} {spare : Nat → Bool} {held : Bool} {e : TypeId} {f0 f1 f2 f3 : Field} {fuel : Nat} {cs : List Value} {x : DataW H × List MemPlace}
    (he : P.underlying e = some (.struct #[f0, f1, f2, f3])) (hc : (P.cellsOf e == 4 && P.cellsOf f0.type == 1 && P.cellsOf f1.type == 1 && P.cellsOf f2.type == 1 && P.cellsOf f3.type == 1 && f0.offset == 0 && f1.offset == 1 && f2.offset == 2 && f3.offset == 3) = true)
    (h : DataW.trod enc P w base spare held fuel e cs = some x) : ∃ v0 v1 v2 v3 k x0 x1 x2 x3, cs = [v0, v1, v2, v3] ∧ DataW.trod enc P w base spare held k f0.type [v0] = some x0 ∧ DataW.trod enc P w base spare held k f1.type [v1] = some x1 ∧ DataW.trod enc P w base spare held k f2.type [v2] = some x2 ∧ DataW.trod enc P w base spare held k f3.type [v3] = some x3 := by
  simp at hc
  obtain ⟨⟨⟨⟨⟨⟨⟨⟨ce, k0⟩, k1⟩, k2⟩, k3⟩, o0⟩, o1⟩, o2⟩, o3⟩ := hc
  obtain ⟨xs, k, _, _, hl, hlen, hf⟩ := DataW.trod_struct he h
  rw [ce] at hl
  match xs, hlen, cs, hl with
  | [y0, y1, y2, y3], _, [v0, v1, v2, v3], _ =>
    have g0 := hf 0 f0 rfl
    have g1 := hf 1 f1 rfl
    have g2 := hf 2 f2 rfl
    have g3 := hf 3 f3 rfl
    simp [o0, k0] at g0
    simp [o1, k1] at g1
    simp [o2, k2] at g2
    simp [o3, k3] at g3
    exact ⟨v0, v1, v2, v3, k, _, _, _, _, rfl, g0, g1, g2, g3⟩

set_option maxRecDepth 100000 in
theorem open_deed {H : Type} {enc : TypeId × Value → H} {w : World} {base b0' : Nat} {spare : Nat → Bool} {held : Bool} {r : Reach} {v : Value} {d : DataW H} {p : List MemPlace}
    (hv : Value.okWide Try.prog w r b0' 23 v) (h : DataW.Trod enc Try.prog w base spare held 23 v d p) : ∃ k s a c, v = .agg #[.int .i64 k, .string s, .int .i64 a, .int .i64 c] ∧ s.size ≤ 9223372036854775807 := by
  obtain ⟨cs, rfl, _⟩ := okWide_struct Try.underlying23 hv
  obtain ⟨fuel, hf⟩ := h
  obtain ⟨v0, v1, v2, v3, k, x0, x1, x2, x3, e, g0, g1, g2, g3⟩ := struct_cells4 (cs := cs.toList) Try.underlying23 (by kernel_rfl) (by simpa [Value.cells] using hf)
  obtain ⟨z, q, _⟩ := DataW.trod_int Try.underlying3 g0
  obtain ⟨s, q1, _, m1⟩ := DataW.trod_string Try.underlying9 g1
  obtain ⟨a, q2, _⟩ := DataW.trod_int Try.underlying3 g2
  obtain ⟨c, q3, _⟩ := DataW.trod_int Try.underlying3 g3
  simp at q q1 q2 q3
  subst q q1 q2 q3
  exact ⟨z, s, a, c, congrArg Value.agg (Array.ext' e), by unfold maxLen at m1; exact m1⟩

/-- A deed as memory holds it. -/
abbrev Dv (k : Int) (s : ByteArray) (a c : Int) : Value := .agg #[.int .i64 k, .string s, .int .i64 a, .int .i64 c]

/-- What a deed may have, by its kind. -/
def DdOk (k : Int) (s : ByteArray) (a c : Int) : Prop :=
  (k = 1 ∧ s.size ≤ 200 ∧ a = 0 ∧ c = 0) ∨ ((k = 2 ∨ k = 6) ∧ s = ByteArray.empty ∧ a = 0 ∧ c = 0) ∨ (k = 3 ∧ s = ByteArray.empty ∧ a = 0 ∧ 0 ≤ c ∧ c ≤ 60000) ∨
  (k = 4 ∧ s.size ≤ 200 ∧ a = 0 ∧ 0 ≤ c ∧ c ≤ 60000) ∨ (k = 5 ∧ s = ByteArray.empty ∧ 0 ≤ a ∧ a ≤ 4 ∧ 0 ≤ c ∧ c ≤ 60000)

/-- How much a deed holds. -/
theorem szDd (w : World) (k : Int) (s : ByteArray) (a c : Int) (hm : s.size ≤ 9223372036854775807) :
    Calls Try.prog 4 #[Dv k s a c, .int .i64 1048576] w fun e w' => ∃ r, e = .returned (.int .i64 r) ∧ (r = -1 ∨ (0 ≤ r ∧ s.size ≤ 1048576)) ∧ Below w.heap.size w w' := by
  have h2 : wrap64 (1048576 - (s.size : Int)) = 1048576 - (s.size : Int) := by rw [wrap64]; omega
  have B := hide (one_more w (.cells #[.int .i64 k, .string s, .int .i64 a, .int .i64 c] 23))
  by_cases h : (s.size : Int) ≤ 1048576
  · have h1 : (0 : Int) ≤ 1048576 - (s.size : Int) := by omega
    go_enter Try.func4, Try.ntmps4
    go_wp2
    go_ret
    exact ⟨_, rfl, .inr ⟨h1, by omega⟩, unhide B⟩
  · have h1 : 1048576 - (s.size : Int) < 0 := by omega
    go_enter Try.func4, Try.ntmps4
    go_wp2
    go_ret
    exact ⟨_, rfl, .inl rfl, unhide B⟩

set_option maxRecDepth 100000 in
set_option maxHeartbeats 4000000 in
/-- A copy of a deed that came in. -/
theorem toDd (w : World) (k : Int) (s : ByteArray) (a c : Int) :
    Calls Try.prog 6 #[Dv k s a c] w fun e w' => e = .returned (Dv k s a c) ∧ Below w.heap.size w w' := by
  have F : ∀ W1, W1 = w.alloc (.cells #[.int .i64 k, .string s, .int .i64 a, .int .i64 c] 23) → ∀ W2, W2 = W1.alloc (.cells #[.int .i64 k, .string s, .int .i64 a, .int .i64 c] 26) →
      Below w.heap.size w (W2.alloc (.cells #[.int .i64 k, .string s, .int .i64 a, .int .i64 c] 26)) := by
    intro W1 h1 W2 h2
    have b1 : Below w.heap.size w W1 := by rw [h1]; exact one_more _ _
    have b2 : Below W1.heap.size W1 W2 := by rw [h2]; exact one_more _ _
    exact (b1.trans (b2.mono b1.size)).trans ((one_more _ _).mono (Nat.le_trans b1.size b2.size))
  have G := hide (F _ rfl _ rfl)
  clear F
  go_enter Try.func6, Try.ntmps6
  go_wp2
  exact bodyPost_ret (v := Dv k s a c) (by simp [results, Try.results6, go_sem]) rfl ⟨rfl, unhide G⟩

theorem two (w : World) (x y : Obj) : Below w.heap.size w ((w.alloc x).alloc y) :=
  (one_more w x).trans ((one_more (w.alloc x) y).mono (one_more w x).size)

/-- Whether a number lies between two. -/
theorem sIn (w : World) (x lo hi : Int) : Calls Try.prog 8 #[.int .i64 x, .int .i64 lo, .int .i64 hi] w fun e w' => e = .returned (.bool (decide (lo ≤ x ∧ x ≤ hi))) ∧ w' = w := by
  by_cases h1 : lo ≤ x
  · by_cases h2 : x ≤ hi
    · have e : decide (lo ≤ x ∧ x ≤ hi) = true := by simp [h1, h2]
      rw [e]
      clear e
      go_enter Try.func8, Try.ntmps8
      go_wp2
      go_ret
      exact ⟨rfl, rfl⟩
    · have e : decide (lo ≤ x ∧ x ≤ hi) = false := by simp [h2]
      rw [e]
      clear e
      go_enter Try.func8, Try.ntmps8
      go_wp2
      go_ret
      exact ⟨rfl, rfl⟩
  · have e : decide (lo ≤ x ∧ x ≤ hi) = false := by simp [h1]
    rw [e]
    clear e
    go_enter Try.func8, Try.ntmps8
    go_wp2
    go_ret
    exact ⟨rfl, rfl⟩

theorem toList_nil {s : ByteArray} (h : s.toList = []) : s = ByteArray.empty := by
  rw [ByteArray.toList_eq] at h
  obtain ⟨d⟩ := s
  simp at h
  subst h
  rfl

set_option maxRecDepth 100000 in
theorem sDeedOk5 (w : World) (s : ByteArray) (a c : Int) (b : Bool) (hm : s.size ≤ 9223372036854775807) (hb : Says b (DdOk 5 s a c)) : Calls Try.prog 5 #[Dv 5 s a c] w fun e w' => e = .returned (.bool b) ∧ Below w.heap.size w w' := by
  by_cases h0 : 0 ≤ a
  case neg =>
    have e : b = false := hb.not (by unfold DdOk; first | omega | (simp [h0]; done) | (simp; omega))
    subst e
    clear hb
    go_enter Try.func5, Try.ntmps5
    go_wp2_with fail
    refine (sIn _ _ 0 60000).mono ?_; rintro e u ⟨rfl, rfl⟩
    go_wp2_with fail
    refine (sIn _ _ 0 4).mono ?_; rintro e u ⟨rfl, rfl⟩
    go_wp2
    go_ret
    exact ⟨rfl, two _ _ _⟩
  by_cases h1 : a ≤ 4
  case neg =>
    have e : b = false := hb.not (by unfold DdOk; first | omega | (simp [h1]; done) | (simp; omega))
    subst e
    clear hb
    go_enter Try.func5, Try.ntmps5
    go_wp2_with fail
    refine (sIn _ _ 0 60000).mono ?_; rintro e u ⟨rfl, rfl⟩
    go_wp2_with fail
    refine (sIn _ _ 0 4).mono ?_; rintro e u ⟨rfl, rfl⟩
    go_wp2
    go_ret
    exact ⟨rfl, two _ _ _⟩
  by_cases h2 : 0 ≤ c
  case neg =>
    have e : b = false := hb.not (by unfold DdOk; first | omega | (simp [h2]; done) | (simp; omega))
    subst e
    clear hb
    go_enter Try.func5, Try.ntmps5
    go_wp2_with fail
    refine (sIn _ _ 0 60000).mono ?_; rintro e u ⟨rfl, rfl⟩
    go_wp2_with fail
    refine (sIn _ _ 0 4).mono ?_; rintro e u ⟨rfl, rfl⟩
    go_wp2
    go_ret
    exact ⟨rfl, two _ _ _⟩
  by_cases h3 : c ≤ 60000
  case neg =>
    have e : b = false := hb.not (by unfold DdOk; first | omega | (simp [h3]; done) | (simp; omega))
    subst e
    clear hb
    go_enter Try.func5, Try.ntmps5
    go_wp2_with fail
    refine (sIn _ _ 0 60000).mono ?_; rintro e u ⟨rfl, rfl⟩
    go_wp2_with fail
    refine (sIn _ _ 0 4).mono ?_; rintro e u ⟨rfl, rfl⟩
    go_wp2
    go_ret
    exact ⟨rfl, two _ _ _⟩
  by_cases h4 : s = ByteArray.empty
  case neg =>
    have qh4 : ¬ s.toList = [] := fun q => h4 (toList_nil q)
    have e : b = false := hb.not (by unfold DdOk; first | omega | (simp [h4]; done) | (simp; omega))
    subst e
    clear hb
    go_enter Try.func5, Try.ntmps5
    go_wp2_with fail
    refine (sIn _ _ 0 60000).mono ?_; rintro e u ⟨rfl, rfl⟩
    go_wp2_with fail
    refine (sIn _ _ 0 4).mono ?_; rintro e u ⟨rfl, rfl⟩
    go_wp2
    go_ret
    exact ⟨rfl, two _ _ _⟩
  subst h4
  have e : b = true := hb.of (by unfold DdOk; first | omega | (simp; done) | (simp; omega))
  subst e
  clear hb
  go_enter Try.func5, Try.ntmps5
  go_wp2_with fail
  refine (sIn _ _ 0 60000).mono ?_; rintro e u ⟨rfl, rfl⟩
  go_wp2_with fail
  refine (sIn _ _ 0 4).mono ?_; rintro e u ⟨rfl, rfl⟩
  go_wp2
  go_ret
  exact ⟨rfl, two _ _ _⟩

set_option maxRecDepth 100000 in
theorem sDeedOk1 (w : World) (s : ByteArray) (a c : Int) (b : Bool) (hm : s.size ≤ 9223372036854775807) (hb : Says b (DdOk 1 s a c)) : Calls Try.prog 5 #[Dv 1 s a c] w fun e w' => e = .returned (.bool b) ∧ Below w.heap.size w w' := by
  by_cases h0 : (s.size : Int) ≤ 200
  case neg =>
    have e : b = false := hb.not (by unfold DdOk; first | omega | (simp [h0]; done) | (simp; omega))
    subst e
    clear hb
    go_enter Try.func5, Try.ntmps5
    go_wp2_with fail
    refine (sIn _ _ 0 60000).mono ?_; rintro e u ⟨rfl, rfl⟩
    go_wp2
    go_ret
    exact ⟨rfl, two _ _ _⟩
  by_cases h1 : a = 0
  case neg =>
    have e : b = false := hb.not (by unfold DdOk; first | omega | (simp [h1]; done) | (simp; omega))
    subst e
    clear hb
    go_enter Try.func5, Try.ntmps5
    go_wp2_with fail
    refine (sIn _ _ 0 60000).mono ?_; rintro e u ⟨rfl, rfl⟩
    go_wp2
    go_ret
    exact ⟨rfl, two _ _ _⟩
  subst h1
  by_cases h2 : c = 0
  case neg =>
    have e : b = false := hb.not (by unfold DdOk; first | omega | (simp [h2]; done) | (simp; omega))
    subst e
    clear hb
    go_enter Try.func5, Try.ntmps5
    go_wp2_with fail
    refine (sIn _ _ 0 60000).mono ?_; rintro e u ⟨rfl, rfl⟩
    go_wp2
    go_ret
    exact ⟨rfl, two _ _ _⟩
  subst h2
  have e : b = true := hb.of (by unfold DdOk; first | omega | (simp; done) | (simp; omega))
  subst e
  clear hb
  go_enter Try.func5, Try.ntmps5
  go_wp2_with fail
  refine (sIn _ _ 0 60000).mono ?_; rintro e u ⟨rfl, rfl⟩
  go_wp2
  go_ret
  exact ⟨rfl, two _ _ _⟩

set_option maxRecDepth 100000 in
theorem sDeedOk2 (w : World) (s : ByteArray) (a c : Int) (b : Bool) (hm : s.size ≤ 9223372036854775807) (hb : Says b (DdOk 2 s a c)) : Calls Try.prog 5 #[Dv 2 s a c] w fun e w' => e = .returned (.bool b) ∧ Below w.heap.size w w' := by
  by_cases h0 : s = ByteArray.empty
  case neg =>
    have qh0 : ¬ s.toList = [] := fun q => h0 (toList_nil q)
    have e : b = false := hb.not (by unfold DdOk; first | omega | (simp [h0]; done) | (simp; omega))
    subst e
    clear hb
    go_enter Try.func5, Try.ntmps5
    go_wp2_with fail
    refine (sIn _ _ 0 60000).mono ?_; rintro e u ⟨rfl, rfl⟩
    go_wp2
    go_ret
    exact ⟨rfl, two _ _ _⟩
  subst h0
  by_cases h1 : a = 0
  case neg =>
    have e : b = false := hb.not (by unfold DdOk; first | omega | (simp [h1]; done) | (simp; omega))
    subst e
    clear hb
    go_enter Try.func5, Try.ntmps5
    go_wp2_with fail
    refine (sIn _ _ 0 60000).mono ?_; rintro e u ⟨rfl, rfl⟩
    go_wp2
    go_ret
    exact ⟨rfl, two _ _ _⟩
  subst h1
  by_cases h2 : c = 0
  case neg =>
    have e : b = false := hb.not (by unfold DdOk; first | omega | (simp [h2]; done) | (simp; omega))
    subst e
    clear hb
    go_enter Try.func5, Try.ntmps5
    go_wp2_with fail
    refine (sIn _ _ 0 60000).mono ?_; rintro e u ⟨rfl, rfl⟩
    go_wp2
    go_ret
    exact ⟨rfl, two _ _ _⟩
  subst h2
  have e : b = true := hb.of (by unfold DdOk; first | omega | (simp; done) | (simp; omega))
  subst e
  clear hb
  go_enter Try.func5, Try.ntmps5
  go_wp2_with fail
  refine (sIn _ _ 0 60000).mono ?_; rintro e u ⟨rfl, rfl⟩
  go_wp2
  go_ret
  exact ⟨rfl, two _ _ _⟩

set_option maxRecDepth 100000 in
theorem sDeedOk3 (w : World) (s : ByteArray) (a c : Int) (b : Bool) (hm : s.size ≤ 9223372036854775807) (hb : Says b (DdOk 3 s a c)) : Calls Try.prog 5 #[Dv 3 s a c] w fun e w' => e = .returned (.bool b) ∧ Below w.heap.size w w' := by
  by_cases h0 : 0 ≤ c
  case neg =>
    have e : b = false := hb.not (by unfold DdOk; first | omega | (simp [h0]; done) | (simp; omega))
    subst e
    clear hb
    go_enter Try.func5, Try.ntmps5
    go_wp2_with fail
    refine (sIn _ _ 0 60000).mono ?_; rintro e u ⟨rfl, rfl⟩
    go_wp2
    go_ret
    exact ⟨rfl, two _ _ _⟩
  by_cases h1 : c ≤ 60000
  case neg =>
    have e : b = false := hb.not (by unfold DdOk; first | omega | (simp [h1]; done) | (simp; omega))
    subst e
    clear hb
    go_enter Try.func5, Try.ntmps5
    go_wp2_with fail
    refine (sIn _ _ 0 60000).mono ?_; rintro e u ⟨rfl, rfl⟩
    go_wp2
    go_ret
    exact ⟨rfl, two _ _ _⟩
  by_cases h2 : s = ByteArray.empty
  case neg =>
    have qh2 : ¬ s.toList = [] := fun q => h2 (toList_nil q)
    have e : b = false := hb.not (by unfold DdOk; first | omega | (simp [h2]; done) | (simp; omega))
    subst e
    clear hb
    go_enter Try.func5, Try.ntmps5
    go_wp2_with fail
    refine (sIn _ _ 0 60000).mono ?_; rintro e u ⟨rfl, rfl⟩
    go_wp2
    go_ret
    exact ⟨rfl, two _ _ _⟩
  subst h2
  by_cases h3 : a = 0
  case neg =>
    have e : b = false := hb.not (by unfold DdOk; first | omega | (simp [h3]; done) | (simp; omega))
    subst e
    clear hb
    go_enter Try.func5, Try.ntmps5
    go_wp2_with fail
    refine (sIn _ _ 0 60000).mono ?_; rintro e u ⟨rfl, rfl⟩
    go_wp2
    go_ret
    exact ⟨rfl, two _ _ _⟩
  subst h3
  have e : b = true := hb.of (by unfold DdOk; first | omega | (simp; done) | (simp; omega))
  subst e
  clear hb
  go_enter Try.func5, Try.ntmps5
  go_wp2_with fail
  refine (sIn _ _ 0 60000).mono ?_; rintro e u ⟨rfl, rfl⟩
  go_wp2
  go_ret
  exact ⟨rfl, two _ _ _⟩

set_option maxRecDepth 100000 in
theorem sDeedOk4 (w : World) (s : ByteArray) (a c : Int) (b : Bool) (hm : s.size ≤ 9223372036854775807) (hb : Says b (DdOk 4 s a c)) : Calls Try.prog 5 #[Dv 4 s a c] w fun e w' => e = .returned (.bool b) ∧ Below w.heap.size w w' := by
  by_cases h0 : (s.size : Int) ≤ 200
  case neg =>
    have e : b = false := hb.not (by unfold DdOk; first | omega | (simp [h0]; done) | (simp; omega))
    subst e
    clear hb
    go_enter Try.func5, Try.ntmps5
    go_wp2_with fail
    refine (sIn _ _ 0 60000).mono ?_; rintro e u ⟨rfl, rfl⟩
    go_wp2
    go_ret
    exact ⟨rfl, two _ _ _⟩
  by_cases h1 : 0 ≤ c
  case neg =>
    have e : b = false := hb.not (by unfold DdOk; first | omega | (simp [h1]; done) | (simp; omega))
    subst e
    clear hb
    go_enter Try.func5, Try.ntmps5
    go_wp2_with fail
    refine (sIn _ _ 0 60000).mono ?_; rintro e u ⟨rfl, rfl⟩
    go_wp2
    go_ret
    exact ⟨rfl, two _ _ _⟩
  by_cases h2 : c ≤ 60000
  case neg =>
    have e : b = false := hb.not (by unfold DdOk; first | omega | (simp [h2]; done) | (simp; omega))
    subst e
    clear hb
    go_enter Try.func5, Try.ntmps5
    go_wp2_with fail
    refine (sIn _ _ 0 60000).mono ?_; rintro e u ⟨rfl, rfl⟩
    go_wp2
    go_ret
    exact ⟨rfl, two _ _ _⟩
  by_cases h3 : a = 0
  case neg =>
    have e : b = false := hb.not (by unfold DdOk; first | omega | (simp [h3]; done) | (simp; omega))
    subst e
    clear hb
    go_enter Try.func5, Try.ntmps5
    go_wp2_with fail
    refine (sIn _ _ 0 60000).mono ?_; rintro e u ⟨rfl, rfl⟩
    go_wp2
    go_ret
    exact ⟨rfl, two _ _ _⟩
  subst h3
  have e : b = true := hb.of (by unfold DdOk; first | omega | (simp; done) | (simp; omega))
  subst e
  clear hb
  go_enter Try.func5, Try.ntmps5
  go_wp2_with fail
  refine (sIn _ _ 0 60000).mono ?_; rintro e u ⟨rfl, rfl⟩
  go_wp2
  go_ret
  exact ⟨rfl, two _ _ _⟩

set_option maxRecDepth 100000 in
theorem sDeedOk6 (w : World) (s : ByteArray) (a c : Int) (b : Bool) (hm : s.size ≤ 9223372036854775807) (hb : Says b (DdOk 6 s a c)) : Calls Try.prog 5 #[Dv 6 s a c] w fun e w' => e = .returned (.bool b) ∧ Below w.heap.size w w' := by
  by_cases h0 : s = ByteArray.empty
  case neg =>
    have qh0 : ¬ s.toList = [] := fun q => h0 (toList_nil q)
    have e : b = false := hb.not (by unfold DdOk; first | omega | (simp [h0]; done) | (simp; omega))
    subst e
    clear hb
    go_enter Try.func5, Try.ntmps5
    go_wp2_with fail
    refine (sIn _ _ 0 60000).mono ?_; rintro e u ⟨rfl, rfl⟩
    go_wp2
    go_ret
    exact ⟨rfl, two _ _ _⟩
  subst h0
  by_cases h1 : a = 0
  case neg =>
    have e : b = false := hb.not (by unfold DdOk; first | omega | (simp [h1]; done) | (simp; omega))
    subst e
    clear hb
    go_enter Try.func5, Try.ntmps5
    go_wp2_with fail
    refine (sIn _ _ 0 60000).mono ?_; rintro e u ⟨rfl, rfl⟩
    go_wp2
    go_ret
    exact ⟨rfl, two _ _ _⟩
  subst h1
  by_cases h2 : c = 0
  case neg =>
    have e : b = false := hb.not (by unfold DdOk; first | omega | (simp [h2]; done) | (simp; omega))
    subst e
    clear hb
    go_enter Try.func5, Try.ntmps5
    go_wp2_with fail
    refine (sIn _ _ 0 60000).mono ?_; rintro e u ⟨rfl, rfl⟩
    go_wp2
    go_ret
    exact ⟨rfl, two _ _ _⟩
  subst h2
  have e : b = true := hb.of (by unfold DdOk; first | omega | (simp; done) | (simp; omega))
  subst e
  clear hb
  go_enter Try.func5, Try.ntmps5
  go_wp2_with fail
  refine (sIn _ _ 0 60000).mono ?_; rintro e u ⟨rfl, rfl⟩
  go_wp2
  go_ret
  exact ⟨rfl, two _ _ _⟩

set_option maxRecDepth 100000 in
/-- What the model's DeedOk answers. -/
theorem sDeedOk (w : World) (k : Int) (s : ByteArray) (a c : Int) (b : Bool) (hm : s.size ≤ 9223372036854775807) (hb : Says b (DdOk k s a c)) : Calls Try.prog 5 #[Dv k s a c] w fun e w' => e = .returned (.bool b) ∧ Below w.heap.size w w' := by
  by_cases k1 : k = 1
  · subst k1; exact sDeedOk1 w s a c b hm hb
  by_cases k2 : k = 2
  · subst k2; exact sDeedOk2 w s a c b hm hb
  by_cases k3 : k = 3
  · subst k3; exact sDeedOk3 w s a c b hm hb
  by_cases k4 : k = 4
  · subst k4; exact sDeedOk4 w s a c b hm hb
  by_cases k5 : k = 5
  · subst k5; exact sDeedOk5 w s a c b hm hb
  by_cases k6 : k = 6
  · subst k6; exact sDeedOk6 w s a c b hm hb
  have e : b = false := hb.not (by unfold DdOk; omega)
  subst e
  clear hb
  go_enter Try.func5, Try.ntmps5
  go_wp2_with fail
  refine (sIn _ _ 0 60000).mono ?_; rintro e u ⟨rfl, rfl⟩
  go_wp2
  go_ret
  exact ⟨rfl, two _ _ _⟩

theorem three (w : World) (x y z : Obj) : Below w.heap.size w (((w.alloc x).alloc y).alloc z) :=
  (two w x y).trans ((one_more _ z).mono (two w x y).size)


/-- Whether what a deed has lies in its limits. -/
theorem iLim (w : World) (k : Int) (s : ByteArray) (a c : Int) (hm : s.size ≤ 9223372036854775807) : Calls Try.prog 9 #[Dv k s a c] w fun e w' => e = .returned (.bool (decide ((s.size : Int) ≤ 200 ∧ 0 ≤ a ∧ a ≤ 4 ∧ 0 ≤ c ∧ c ≤ 60000))) ∧ w' = w.alloc (.cells #[.int .i64 k, .string s, .int .i64 a, .int .i64 c] 26) := by
  by_cases h0 : (s.size : Int) ≤ 200
  case neg =>
    have e : decide ((s.size : Int) ≤ 200 ∧ 0 ≤ a ∧ a ≤ 4 ∧ 0 ≤ c ∧ c ≤ 60000) = false := decide_eq_false (by omega)
    rw [e]
    clear e
    go_enter Try.func9, Try.ntmps9
    go_wp2
    go_ret
    exact ⟨rfl, rfl⟩
  by_cases h1 : 0 ≤ a
  case neg =>
    have e : decide ((s.size : Int) ≤ 200 ∧ 0 ≤ a ∧ a ≤ 4 ∧ 0 ≤ c ∧ c ≤ 60000) = false := decide_eq_false (by omega)
    rw [e]
    clear e
    go_enter Try.func9, Try.ntmps9
    go_wp2
    go_ret
    exact ⟨rfl, rfl⟩
  by_cases h2 : a ≤ 4
  case neg =>
    have e : decide ((s.size : Int) ≤ 200 ∧ 0 ≤ a ∧ a ≤ 4 ∧ 0 ≤ c ∧ c ≤ 60000) = false := decide_eq_false (by omega)
    rw [e]
    clear e
    go_enter Try.func9, Try.ntmps9
    go_wp2
    go_ret
    exact ⟨rfl, rfl⟩
  by_cases h3 : 0 ≤ c
  case neg =>
    have e : decide ((s.size : Int) ≤ 200 ∧ 0 ≤ a ∧ a ≤ 4 ∧ 0 ≤ c ∧ c ≤ 60000) = false := decide_eq_false (by omega)
    rw [e]
    clear e
    go_enter Try.func9, Try.ntmps9
    go_wp2
    go_ret
    exact ⟨rfl, rfl⟩
  by_cases h4 : c ≤ 60000
  case neg =>
    have e : decide ((s.size : Int) ≤ 200 ∧ 0 ≤ a ∧ a ≤ 4 ∧ 0 ≤ c ∧ c ≤ 60000) = false := decide_eq_false (by omega)
    rw [e]
    clear e
    go_enter Try.func9, Try.ntmps9
    go_wp2
    go_ret
    exact ⟨rfl, rfl⟩
  have e : decide ((s.size : Int) ≤ 200 ∧ 0 ≤ a ∧ a ≤ 4 ∧ 0 ≤ c ∧ c ≤ 60000) = true := decide_eq_true (by omega)
  rw [e]
  clear e
  go_enter Try.func9, Try.ntmps9
  go_wp2
  go_ret
  exact ⟨rfl, rfl⟩

set_option maxRecDepth 100000 in
theorem iDeedOk1 (w : World) (s : ByteArray) (a c : Int) (b : Bool) (hm : s.size ≤ 9223372036854775807) (hb : Says b (DdOk 1 s a c)) : Calls Try.prog 7 #[Dv 1 s a c] w fun e w' => e = .returned (.bool b) ∧ Below w.heap.size w w' := by
  by_cases h0 : a = 0
  case neg =>
    have e : b = false := hb.not (by unfold DdOk; first | omega | (simp [h0]; done) | (simp; omega))
    subst e
    clear hb
    go_enter Try.func7, Try.ntmps7
    go_wp2
    go_ret
    exact ⟨rfl, two _ _ _⟩
  subst h0
  by_cases h1 : c = 0
  case neg =>
    have e : b = false := hb.not (by unfold DdOk; first | omega | (simp [h1]; done) | (simp; omega))
    subst e
    clear hb
    go_enter Try.func7, Try.ntmps7
    go_wp2
    go_ret
    exact ⟨rfl, two _ _ _⟩
  subst h1
  by_cases h2 : (s.size : Int) ≤ 200
  case neg =>
    have e : b = false := hb.not (by unfold DdOk; first | omega | (simp [h2]; done) | (simp; omega))
    subst e
    clear hb
    have L := fun W => iLim W 1 s 0 0 (by first | exact hm | simp)
    have eL : decide ((s.size : Int) ≤ 200 ∧ (0 : Int) ≤ 0 ∧ (0 : Int) ≤ 4 ∧ (0 : Int) ≤ 0 ∧ (0 : Int) ≤ 60000) = false := decide_eq_false (by first | omega | (simp; done) | (simp; omega))
    rw [eL] at L
    clear eL
    go_enter Try.func7, Try.ntmps7
    go_wp2_with fail
    refine (L _).mono ?_; rintro e u ⟨rfl, rfl⟩
    go_wp2
    go_ret
    exact ⟨rfl, three _ _ _ _⟩
  have e : b = true := hb.of (by unfold DdOk; first | omega | (simp; done) | (simp; omega))
  subst e
  clear hb
  have L := fun W => iLim W 1 s 0 0 (by first | exact hm | simp)
  have eL : decide ((s.size : Int) ≤ 200 ∧ (0 : Int) ≤ 0 ∧ (0 : Int) ≤ 4 ∧ (0 : Int) ≤ 0 ∧ (0 : Int) ≤ 60000) = true := decide_eq_true (by first | omega | (simp; done) | (simp; omega))
  rw [eL] at L
  clear eL
  go_enter Try.func7, Try.ntmps7
  go_wp2_with fail
  refine (L _).mono ?_; rintro e u ⟨rfl, rfl⟩
  go_wp2
  go_ret
  exact ⟨rfl, three _ _ _ _⟩

set_option maxRecDepth 100000 in
theorem iDeedOk2 (w : World) (s : ByteArray) (a c : Int) (b : Bool) (hm : s.size ≤ 9223372036854775807) (hb : Says b (DdOk 2 s a c)) : Calls Try.prog 7 #[Dv 2 s a c] w fun e w' => e = .returned (.bool b) ∧ Below w.heap.size w w' := by
  by_cases h0 : s = ByteArray.empty
  case neg =>
    have qh0 : ¬ s.toList = [] := fun q => h0 (toList_nil q)
    have e : b = false := hb.not (by unfold DdOk; first | omega | (simp [h0]; done) | (simp; omega))
    subst e
    clear hb
    go_enter Try.func7, Try.ntmps7
    go_wp2
    go_ret
    exact ⟨rfl, two _ _ _⟩
  subst h0
  by_cases h1 : a = 0
  case neg =>
    have e : b = false := hb.not (by unfold DdOk; first | omega | (simp [h1]; done) | (simp; omega))
    subst e
    clear hb
    go_enter Try.func7, Try.ntmps7
    go_wp2
    go_ret
    exact ⟨rfl, two _ _ _⟩
  subst h1
  by_cases h2 : c = 0
  case neg =>
    have e : b = false := hb.not (by unfold DdOk; first | omega | (simp [h2]; done) | (simp; omega))
    subst e
    clear hb
    go_enter Try.func7, Try.ntmps7
    go_wp2
    go_ret
    exact ⟨rfl, two _ _ _⟩
  subst h2
  have e : b = true := hb.of (by unfold DdOk; first | omega | (simp; done) | (simp; omega))
  subst e
  clear hb
  have L := fun W => iLim W 2 ByteArray.empty 0 0 (by first | exact hm | simp)
  have eL : decide ((ByteArray.empty.size : Int) ≤ 200 ∧ (0 : Int) ≤ 0 ∧ (0 : Int) ≤ 4 ∧ (0 : Int) ≤ 0 ∧ (0 : Int) ≤ 60000) = true := decide_eq_true (by first | omega | (simp; done) | (simp; omega))
  rw [eL] at L
  clear eL
  go_enter Try.func7, Try.ntmps7
  go_wp2_with fail
  refine (L _).mono ?_; rintro e u ⟨rfl, rfl⟩
  go_wp2
  go_ret
  exact ⟨rfl, three _ _ _ _⟩

set_option maxRecDepth 100000 in
theorem iDeedOk3 (w : World) (s : ByteArray) (a c : Int) (b : Bool) (hm : s.size ≤ 9223372036854775807) (hb : Says b (DdOk 3 s a c)) : Calls Try.prog 7 #[Dv 3 s a c] w fun e w' => e = .returned (.bool b) ∧ Below w.heap.size w w' := by
  by_cases h0 : s = ByteArray.empty
  case neg =>
    have qh0 : ¬ s.toList = [] := fun q => h0 (toList_nil q)
    have e : b = false := hb.not (by unfold DdOk; first | omega | (simp [h0]; done) | (simp; omega))
    subst e
    clear hb
    go_enter Try.func7, Try.ntmps7
    go_wp2
    go_ret
    exact ⟨rfl, two _ _ _⟩
  subst h0
  by_cases h1 : a = 0
  case neg =>
    have e : b = false := hb.not (by unfold DdOk; first | omega | (simp [h1]; done) | (simp; omega))
    subst e
    clear hb
    go_enter Try.func7, Try.ntmps7
    go_wp2
    go_ret
    exact ⟨rfl, two _ _ _⟩
  subst h1
  by_cases h2 : 0 ≤ c
  case neg =>
    have e : b = false := hb.not (by unfold DdOk; first | omega | (simp [h2]; done) | (simp; omega))
    subst e
    clear hb
    have L := fun W => iLim W 3 ByteArray.empty 0 c (by first | exact hm | simp)
    have eL : decide ((ByteArray.empty.size : Int) ≤ 200 ∧ (0 : Int) ≤ 0 ∧ (0 : Int) ≤ 4 ∧ (0 : Int) ≤ c ∧ (c : Int) ≤ 60000) = false := decide_eq_false (by first | omega | (simp; done) | (simp; omega))
    rw [eL] at L
    clear eL
    go_enter Try.func7, Try.ntmps7
    go_wp2_with fail
    refine (L _).mono ?_; rintro e u ⟨rfl, rfl⟩
    go_wp2
    go_ret
    exact ⟨rfl, three _ _ _ _⟩
  by_cases h3 : c ≤ 60000
  case neg =>
    have e : b = false := hb.not (by unfold DdOk; first | omega | (simp [h3]; done) | (simp; omega))
    subst e
    clear hb
    have L := fun W => iLim W 3 ByteArray.empty 0 c (by first | exact hm | simp)
    have eL : decide ((ByteArray.empty.size : Int) ≤ 200 ∧ (0 : Int) ≤ 0 ∧ (0 : Int) ≤ 4 ∧ (0 : Int) ≤ c ∧ (c : Int) ≤ 60000) = false := decide_eq_false (by first | omega | (simp; done) | (simp; omega))
    rw [eL] at L
    clear eL
    go_enter Try.func7, Try.ntmps7
    go_wp2_with fail
    refine (L _).mono ?_; rintro e u ⟨rfl, rfl⟩
    go_wp2
    go_ret
    exact ⟨rfl, three _ _ _ _⟩
  have e : b = true := hb.of (by unfold DdOk; first | omega | (simp; done) | (simp; omega))
  subst e
  clear hb
  have L := fun W => iLim W 3 ByteArray.empty 0 c (by first | exact hm | simp)
  have eL : decide ((ByteArray.empty.size : Int) ≤ 200 ∧ (0 : Int) ≤ 0 ∧ (0 : Int) ≤ 4 ∧ (0 : Int) ≤ c ∧ (c : Int) ≤ 60000) = true := decide_eq_true (by first | omega | (simp; done) | (simp; omega))
  rw [eL] at L
  clear eL
  go_enter Try.func7, Try.ntmps7
  go_wp2_with fail
  refine (L _).mono ?_; rintro e u ⟨rfl, rfl⟩
  go_wp2
  go_ret
  exact ⟨rfl, three _ _ _ _⟩

set_option maxRecDepth 100000 in
theorem iDeedOk4 (w : World) (s : ByteArray) (a c : Int) (b : Bool) (hm : s.size ≤ 9223372036854775807) (hb : Says b (DdOk 4 s a c)) : Calls Try.prog 7 #[Dv 4 s a c] w fun e w' => e = .returned (.bool b) ∧ Below w.heap.size w w' := by
  by_cases h0 : a = 0
  case neg =>
    have e : b = false := hb.not (by unfold DdOk; first | omega | (simp [h0]; done) | (simp; omega))
    subst e
    clear hb
    go_enter Try.func7, Try.ntmps7
    go_wp2
    go_ret
    exact ⟨rfl, two _ _ _⟩
  subst h0
  by_cases h1 : (s.size : Int) ≤ 200
  case neg =>
    have e : b = false := hb.not (by unfold DdOk; first | omega | (simp [h1]; done) | (simp; omega))
    subst e
    clear hb
    have L := fun W => iLim W 4 s 0 c (by first | exact hm | simp)
    have eL : decide ((s.size : Int) ≤ 200 ∧ (0 : Int) ≤ 0 ∧ (0 : Int) ≤ 4 ∧ (0 : Int) ≤ c ∧ (c : Int) ≤ 60000) = false := decide_eq_false (by first | omega | (simp; done) | (simp; omega))
    rw [eL] at L
    clear eL
    go_enter Try.func7, Try.ntmps7
    go_wp2_with fail
    refine (L _).mono ?_; rintro e u ⟨rfl, rfl⟩
    go_wp2
    go_ret
    exact ⟨rfl, three _ _ _ _⟩
  by_cases h2 : 0 ≤ c
  case neg =>
    have e : b = false := hb.not (by unfold DdOk; first | omega | (simp [h2]; done) | (simp; omega))
    subst e
    clear hb
    have L := fun W => iLim W 4 s 0 c (by first | exact hm | simp)
    have eL : decide ((s.size : Int) ≤ 200 ∧ (0 : Int) ≤ 0 ∧ (0 : Int) ≤ 4 ∧ (0 : Int) ≤ c ∧ (c : Int) ≤ 60000) = false := decide_eq_false (by first | omega | (simp; done) | (simp; omega))
    rw [eL] at L
    clear eL
    go_enter Try.func7, Try.ntmps7
    go_wp2_with fail
    refine (L _).mono ?_; rintro e u ⟨rfl, rfl⟩
    go_wp2
    go_ret
    exact ⟨rfl, three _ _ _ _⟩
  by_cases h3 : c ≤ 60000
  case neg =>
    have e : b = false := hb.not (by unfold DdOk; first | omega | (simp [h3]; done) | (simp; omega))
    subst e
    clear hb
    have L := fun W => iLim W 4 s 0 c (by first | exact hm | simp)
    have eL : decide ((s.size : Int) ≤ 200 ∧ (0 : Int) ≤ 0 ∧ (0 : Int) ≤ 4 ∧ (0 : Int) ≤ c ∧ (c : Int) ≤ 60000) = false := decide_eq_false (by first | omega | (simp; done) | (simp; omega))
    rw [eL] at L
    clear eL
    go_enter Try.func7, Try.ntmps7
    go_wp2_with fail
    refine (L _).mono ?_; rintro e u ⟨rfl, rfl⟩
    go_wp2
    go_ret
    exact ⟨rfl, three _ _ _ _⟩
  have e : b = true := hb.of (by unfold DdOk; first | omega | (simp; done) | (simp; omega))
  subst e
  clear hb
  have L := fun W => iLim W 4 s 0 c (by first | exact hm | simp)
  have eL : decide ((s.size : Int) ≤ 200 ∧ (0 : Int) ≤ 0 ∧ (0 : Int) ≤ 4 ∧ (0 : Int) ≤ c ∧ (c : Int) ≤ 60000) = true := decide_eq_true (by first | omega | (simp; done) | (simp; omega))
  rw [eL] at L
  clear eL
  go_enter Try.func7, Try.ntmps7
  go_wp2_with fail
  refine (L _).mono ?_; rintro e u ⟨rfl, rfl⟩
  go_wp2
  go_ret
  exact ⟨rfl, three _ _ _ _⟩

set_option maxRecDepth 100000 in
theorem iDeedOk5 (w : World) (s : ByteArray) (a c : Int) (b : Bool) (hm : s.size ≤ 9223372036854775807) (hb : Says b (DdOk 5 s a c)) : Calls Try.prog 7 #[Dv 5 s a c] w fun e w' => e = .returned (.bool b) ∧ Below w.heap.size w w' := by
  by_cases h0 : s = ByteArray.empty
  case neg =>
    have qh0 : ¬ s.toList = [] := fun q => h0 (toList_nil q)
    have e : b = false := hb.not (by unfold DdOk; first | omega | (simp [h0]; done) | (simp; omega))
    subst e
    clear hb
    go_enter Try.func7, Try.ntmps7
    go_wp2
    go_ret
    exact ⟨rfl, two _ _ _⟩
  subst h0
  by_cases h1 : 0 ≤ a
  case neg =>
    have e : b = false := hb.not (by unfold DdOk; first | omega | (simp [h1]; done) | (simp; omega))
    subst e
    clear hb
    have L := fun W => iLim W 5 ByteArray.empty a c (by first | exact hm | simp)
    have eL : decide ((ByteArray.empty.size : Int) ≤ 200 ∧ (0 : Int) ≤ a ∧ (a : Int) ≤ 4 ∧ (0 : Int) ≤ c ∧ (c : Int) ≤ 60000) = false := decide_eq_false (by first | omega | (simp; done) | (simp; omega))
    rw [eL] at L
    clear eL
    go_enter Try.func7, Try.ntmps7
    go_wp2_with fail
    refine (L _).mono ?_; rintro e u ⟨rfl, rfl⟩
    go_wp2
    go_ret
    exact ⟨rfl, three _ _ _ _⟩
  by_cases h2 : a ≤ 4
  case neg =>
    have e : b = false := hb.not (by unfold DdOk; first | omega | (simp [h2]; done) | (simp; omega))
    subst e
    clear hb
    have L := fun W => iLim W 5 ByteArray.empty a c (by first | exact hm | simp)
    have eL : decide ((ByteArray.empty.size : Int) ≤ 200 ∧ (0 : Int) ≤ a ∧ (a : Int) ≤ 4 ∧ (0 : Int) ≤ c ∧ (c : Int) ≤ 60000) = false := decide_eq_false (by first | omega | (simp; done) | (simp; omega))
    rw [eL] at L
    clear eL
    go_enter Try.func7, Try.ntmps7
    go_wp2_with fail
    refine (L _).mono ?_; rintro e u ⟨rfl, rfl⟩
    go_wp2
    go_ret
    exact ⟨rfl, three _ _ _ _⟩
  by_cases h3 : 0 ≤ c
  case neg =>
    have e : b = false := hb.not (by unfold DdOk; first | omega | (simp [h3]; done) | (simp; omega))
    subst e
    clear hb
    have L := fun W => iLim W 5 ByteArray.empty a c (by first | exact hm | simp)
    have eL : decide ((ByteArray.empty.size : Int) ≤ 200 ∧ (0 : Int) ≤ a ∧ (a : Int) ≤ 4 ∧ (0 : Int) ≤ c ∧ (c : Int) ≤ 60000) = false := decide_eq_false (by first | omega | (simp; done) | (simp; omega))
    rw [eL] at L
    clear eL
    go_enter Try.func7, Try.ntmps7
    go_wp2_with fail
    refine (L _).mono ?_; rintro e u ⟨rfl, rfl⟩
    go_wp2
    go_ret
    exact ⟨rfl, three _ _ _ _⟩
  by_cases h4 : c ≤ 60000
  case neg =>
    have e : b = false := hb.not (by unfold DdOk; first | omega | (simp [h4]; done) | (simp; omega))
    subst e
    clear hb
    have L := fun W => iLim W 5 ByteArray.empty a c (by first | exact hm | simp)
    have eL : decide ((ByteArray.empty.size : Int) ≤ 200 ∧ (0 : Int) ≤ a ∧ (a : Int) ≤ 4 ∧ (0 : Int) ≤ c ∧ (c : Int) ≤ 60000) = false := decide_eq_false (by first | omega | (simp; done) | (simp; omega))
    rw [eL] at L
    clear eL
    go_enter Try.func7, Try.ntmps7
    go_wp2_with fail
    refine (L _).mono ?_; rintro e u ⟨rfl, rfl⟩
    go_wp2
    go_ret
    exact ⟨rfl, three _ _ _ _⟩
  have e : b = true := hb.of (by unfold DdOk; first | omega | (simp; done) | (simp; omega))
  subst e
  clear hb
  have L := fun W => iLim W 5 ByteArray.empty a c (by first | exact hm | simp)
  have eL : decide ((ByteArray.empty.size : Int) ≤ 200 ∧ (0 : Int) ≤ a ∧ (a : Int) ≤ 4 ∧ (0 : Int) ≤ c ∧ (c : Int) ≤ 60000) = true := decide_eq_true (by first | omega | (simp; done) | (simp; omega))
  rw [eL] at L
  clear eL
  go_enter Try.func7, Try.ntmps7
  go_wp2_with fail
  refine (L _).mono ?_; rintro e u ⟨rfl, rfl⟩
  go_wp2
  go_ret
  exact ⟨rfl, three _ _ _ _⟩

set_option maxRecDepth 100000 in
theorem iDeedOk6 (w : World) (s : ByteArray) (a c : Int) (b : Bool) (hm : s.size ≤ 9223372036854775807) (hb : Says b (DdOk 6 s a c)) : Calls Try.prog 7 #[Dv 6 s a c] w fun e w' => e = .returned (.bool b) ∧ Below w.heap.size w w' := by
  by_cases h0 : s = ByteArray.empty
  case neg =>
    have qh0 : ¬ s.toList = [] := fun q => h0 (toList_nil q)
    have e : b = false := hb.not (by unfold DdOk; first | omega | (simp [h0]; done) | (simp; omega))
    subst e
    clear hb
    go_enter Try.func7, Try.ntmps7
    go_wp2
    go_ret
    exact ⟨rfl, two _ _ _⟩
  subst h0
  by_cases h1 : a = 0
  case neg =>
    have e : b = false := hb.not (by unfold DdOk; first | omega | (simp [h1]; done) | (simp; omega))
    subst e
    clear hb
    go_enter Try.func7, Try.ntmps7
    go_wp2
    go_ret
    exact ⟨rfl, two _ _ _⟩
  subst h1
  by_cases h2 : c = 0
  case neg =>
    have e : b = false := hb.not (by unfold DdOk; first | omega | (simp [h2]; done) | (simp; omega))
    subst e
    clear hb
    go_enter Try.func7, Try.ntmps7
    go_wp2
    go_ret
    exact ⟨rfl, two _ _ _⟩
  subst h2
  have e : b = true := hb.of (by unfold DdOk; first | omega | (simp; done) | (simp; omega))
  subst e
  clear hb
  have L := fun W => iLim W 6 ByteArray.empty 0 0 (by first | exact hm | simp)
  have eL : decide ((ByteArray.empty.size : Int) ≤ 200 ∧ (0 : Int) ≤ 0 ∧ (0 : Int) ≤ 4 ∧ (0 : Int) ≤ 0 ∧ (0 : Int) ≤ 60000) = true := decide_eq_true (by first | omega | (simp; done) | (simp; omega))
  rw [eL] at L
  clear eL
  go_enter Try.func7, Try.ntmps7
  go_wp2_with fail
  refine (L _).mono ?_; rintro e u ⟨rfl, rfl⟩
  go_wp2
  go_ret
  exact ⟨rfl, three _ _ _ _⟩

set_option maxRecDepth 100000 in
/-- What the program's DeedOk answers. -/
theorem iDeedOk (w : World) (k : Int) (s : ByteArray) (a c : Int) (b : Bool) (hm : s.size ≤ 9223372036854775807) (hb : Says b (DdOk k s a c)) : Calls Try.prog 7 #[Dv k s a c] w fun e w' => e = .returned (.bool b) ∧ Below w.heap.size w w' := by
  by_cases k1 : k = 1
  · subst k1; exact iDeedOk1 w s a c b hm hb
  by_cases k2 : k = 2
  · subst k2; exact iDeedOk2 w s a c b hm hb
  by_cases k3 : k = 3
  · subst k3; exact iDeedOk3 w s a c b hm hb
  by_cases k4 : k = 4
  · subst k4; exact iDeedOk4 w s a c b hm hb
  by_cases k5 : k = 5
  · subst k5; exact iDeedOk5 w s a c b hm hb
  by_cases k6 : k = 6
  · subst k6; exact iDeedOk6 w s a c b hm hb
  have e : b = false := hb.not (by unfold DdOk; omega)
  subst e
  clear hb
  go_enter Try.func7, Try.ntmps7
  go_wp2
  go_ret
  exact ⟨rfl, two _ _ _⟩

end Go.Proofs.Ytkaomecmhphjpaa.Deed18
