/- Contracts of the program's keys: whether both numbers are numbers, and which of two stands first. -/
import Derived.Test.YtiecflifopmmoaaTriples
import Derived.Test.YtiecflifopmmoaaPairs
import Derived.Deep.RegionHeld3
import Derived.WalkSmall
import Derived.Sort.Grow
namespace Go.Proofs.Ytiecflifopmmoaa.Cmp
open Go.ChangeShapes Go.WideShapes Go.ChangeAt Go.RowKit Bals Triples
set_option linter.unusedVariables false
set_option linter.unusedSimpArgs false

def cmpI (x y : Int) : Int := if x < y then -1 else if y < x then 1 else 0

theorem isNaN (x : Int) (w : World) : Calls Try.prog 62 #[.int .i64 x] w fun e w' => e = .returned (.bool false) ∧ w' = w := by
  go_enter Try.func62, Try.ntmps62
  go_wp2
  go_ret
  exact ⟨rfl, rfl⟩

theorem compare1 (x y : Int) (w : World) : Calls Try.prog 57 #[.int .i64 x, .int .i64 y] w fun e w' => e = .returned (.int .i64 (cmpI x y)) ∧ w' = w := by
  unfold cmpI
  by_cases h : x < y
  · go_enter Try.func57, Try.ntmps57
    go_wp2_with (go_at_call 62; refine (isNaN _ _).mono ?_; rintro e w1 ⟨rfl, rfl⟩)
    go_ret
    exact ⟨by simp [h], rfl⟩
  · by_cases k : y < x
    · go_enter Try.func57, Try.ntmps57
      go_wp2_with (go_at_call 62; refine (isNaN _ _).mono ?_; rintro e w1 ⟨rfl, rfl⟩)
      go_ret
      exact ⟨by simp [h, k], rfl⟩
    · go_enter Try.func57, Try.ntmps57
      go_wp2_with (go_at_call 62; refine (isNaN _ _).mono ?_; rintro e w1 ⟨rfl, rfl⟩)
      go_ret
      exact ⟨by simp [h, k], rfl⟩

/-- The first that is not 0. -/
def orI (x y : Int) : Int := if x = 0 then y else x

theorem orL (g : Nat) (x y : Int) (w : World) (h0 : w.cell? ⟨g, 0, none⟩ = some (.int .i64 x)) (h1 : w.cell? ⟨g, 1, none⟩ = some (.int .i64 y)) :
    Calls Try.prog 56 #[.slice (some ⟨g, 0, none⟩) 2 2] w fun e w' => e = .returned (.int .i64 (orI x y)) ∧ w' = w := by
  unfold orI
  go_enter Try.func56, Try.ntmps56
  go_wp2
  go_loop [5, 8] (fun _ i => ∃ (k : Nat), i = .int .i64 k ∧ (k = 0 ∨ (k = 1 ∧ x = 0) ∨ (k = 2 ∧ x = 0 ∧ y = 0))) (fun _ i => 2 - (intOf i).toNat)
  case atStart => exact ⟨0, rfl, .inl rfl⟩
  case round =>
    obtain ⟨k, rfl, hk⟩ := hrel
    rcases hk with rfl | ⟨rfl, rfl⟩ | ⟨rfl, rfl, rfl⟩
    · by_cases z : x = 0
      · subst z
        go_wp2
        go_round
        case rel => exact ⟨1, by go_num, .inr (.inl ⟨rfl, by trivial⟩)⟩
        case measure => simp [intOf]
      · go_wp2
        go_ret
        exact ⟨by simp [z], rfl⟩
    · by_cases z : y = 0
      · subst z
        go_wp2
        go_round
        case rel => exact ⟨2, by go_num, .inr (.inr ⟨rfl, by trivial, by trivial⟩)⟩
        case measure => simp [intOf]
      · go_wp2
        go_ret
        exact ⟨by simp, rfl⟩
    · go_wp2
      go_ret
      exact ⟨by simp, rfl⟩

/-- What two keys compare to. -/
def cmpK (a i b j : Int) : Int := orI (cmpI a b) (cmpI i j)

theorem cmpK_lt (a i b j : Int) : cmpK a i b j < 0 ↔ (a < b ∨ (a = b ∧ i < j)) := by
  unfold cmpK orI cmpI
  repeat (first | split | omega)
theorem cmpK_le (a i b j : Int) : cmpK a i b j ≤ 0 ↔ ¬ (b < a ∨ (b = a ∧ j < i)) := by
  unfold cmpK orI cmpI
  repeat (first | split | omega)

theorem many_more (w : World) (o p q : Obj) : Below w.heap.size w (((w.alloc o).alloc p).alloc q) := (((Below.refl _ _).alloc (Nat.le_refl _) _).alloc (by simp) _).alloc (by simp; omega) _

theorem grow_below (w : World) (q : Nat) (os : Array Obj) : Below w.heap.size w (Go.Sort.grow (w.drewN q) os) :=
  ⟨rfl, rfl, rfl, by simp [Go.Sort.grow, World.drewN], fun k hk => by
    show (w.heap ++ os)[k]? = w.heap[k]?
    rw [Array.getElem?_append_left hk]⟩

set_option maxRecDepth 100000 in
set_option maxHeartbeats 2000000 in
theorem compareG (a i b j : Int) (w : World) : Calls Try.prog 38 #[.agg #[.int .i64 a, .int .i64 i], .agg #[.int .i64 b, .int .i64 j]] w fun e w' => e = .returned (.int .i64 (cmpK a i b j)) ∧ ∃ q os, w' = Go.Sort.grow (w.drewN q) os := by
  unfold cmpK
  go_enter Try.func38, Try.ntmps38
  go_wp2_with fail
  have hu : ∃ os, (w.alloc (.cells #[.int .i64 a, .int .i64 i] 60)).alloc (.cells #[.int .i64 b, .int .i64 j] 60) = Go.Sort.grow w os := ⟨_, by rw [Go.Sort.alloc_eq_grow, Go.Sort.alloc_eq_grow, Go.Sort.grow_grow]⟩
  have c0 : ((w.alloc (.cells #[.int .i64 a, .int .i64 i] 60)).alloc (.cells #[.int .i64 b, .int .i64 j] 60)).cell? ⟨w.heap.size, 0, none⟩ = some (.int .i64 a) := by simp
  have c1 : ((w.alloc (.cells #[.int .i64 a, .int .i64 i] 60)).alloc (.cells #[.int .i64 b, .int .i64 j] 60)).cell? ⟨w.heap.size, 1, none⟩ = some (.int .i64 i) := by simp
  have c2 : ((w.alloc (.cells #[.int .i64 a, .int .i64 i] 60)).alloc (.cells #[.int .i64 b, .int .i64 j] 60)).cell? ⟨w.heap.size + 1, 0, none⟩ = some (.int .i64 b) := by simp
  have c3 : ((w.alloc (.cells #[.int .i64 a, .int .i64 i] 60)).alloc (.cells #[.int .i64 b, .int .i64 j] 60)).cell? ⟨w.heap.size + 1, 1, none⟩ = some (.int .i64 j) := by simp
  have HU := hide hu
  clear hu
  generalize (w.alloc (.cells #[.int .i64 a, .int .i64 i] 60)).alloc (.cells #[.int .i64 b, .int .i64 j] 60) = u at *
  generalize w.heap.size + 1 = h1 at *
  generalize w.heap.size = h0 at *
  go_region_held3 (fun w' => w'.cell? ⟨h0, 0, none⟩ = some (.int .i64 a) ∧ w'.cell? ⟨h0, 1, none⟩ = some (.int .i64 i) ∧ w'.cell? ⟨h1, 0, none⟩ = some (.int .i64 b) ∧ w'.cell? ⟨h1, 1, none⟩ = some (.int .i64 j)) (go_keep)
    (first | (go_at_call 57; refine (compare1 _ _ _).mono ?_; rintro e w1 ⟨rfl, rfl⟩) | (go_at_call 56; refine (orL u.heap.size (cmpI a b) (cmpI i j) _ ?_ ?_).mono ?_; (simp); (simp); rintro e w1 ⟨rfl, rfl⟩))
  all_goals (go_wp2; go_ret)
  all_goals (obtain ⟨os, rfl⟩ := unhide HU; exact ⟨rfl, 1, _, by rw [Go.Sort.alloc_eq_grow]; exact Go.Sort.grow_grow (w.drewN 1) _ _⟩)

theorem compareK (a i b j : Int) (w : World) : Calls Try.prog 38 #[.agg #[.int .i64 a, .int .i64 i], .agg #[.int .i64 b, .int .i64 j]] w fun e w' => e = .returned (.int .i64 (cmpK a i b j)) ∧ Below w.heap.size w w' :=
  (compareG a i b j w).mono fun _ _ ⟨he, q, os, hw⟩ => ⟨he, by rw [hw]; exact grow_below w q os⟩

set_option maxRecDepth 100000 in
theorem keyOk (a i : Int) (b : Bool) (w : World) (h : Says b (NoOk a ∧ NoOk i)) : Calls Try.prog 37 #[.agg #[.int .i64 a, .int .i64 i]] w fun e w' => e = .returned (.bool b) ∧ Below w.heap.size w w' := by
  have hb : Below w.heap.size w (w.alloc (.cells #[.int .i64 a, .int .i64 i] 60)) := (Below.refl _ _).alloc (Nat.le_refl _) _
  by_cases c1 : 1 ≤ a
  · by_cases c2 : a ≤ 1000
    · by_cases c3 : 1 ≤ i
      · by_cases c4 : i ≤ 1000
        · obtain rfl : b = true := h.of ⟨⟨c1, c2⟩, c3, c4⟩
          clear h
          go_enter Try.func37, Try.ntmps37
          go_wp2
          go_ret
          exact ⟨rfl, hb⟩
        · obtain rfl : b = false := h.not (fun r => by unfold NoOk at r; omega)
          clear h
          go_enter Try.func37, Try.ntmps37
          go_wp2
          go_ret
          exact ⟨rfl, hb⟩
      · obtain rfl : b = false := h.not (fun r => by unfold NoOk at r; omega)
        clear h
        go_enter Try.func37, Try.ntmps37
        go_wp2
        go_ret
        exact ⟨rfl, hb⟩
    · obtain rfl : b = false := h.not (fun r => by unfold NoOk at r; omega)
      clear h
      go_enter Try.func37, Try.ntmps37
      go_wp2
      go_ret
      exact ⟨rfl, hb⟩
  · obtain rfl : b = false := h.not (fun r => by unfold NoOk at r; omega)
    clear h
    go_enter Try.func37, Try.ntmps37
    go_wp2
    go_ret
    exact ⟨rfl, hb⟩

theorem iAmt (x : Int) (b : Bool) (w : World) (h : Says b (Amt x)) : Calls Try.prog 39 #[.int .i64 x] w fun e w' => e = .returned (.bool b) ∧ w' = w := by
  by_cases c1 : -1000000000000000 ≤ x
  · by_cases c2 : x ≤ 1000000000000000
    · obtain rfl : b = true := h.of ⟨c1, c2⟩
      clear h
      go_enter Try.func39, Try.ntmps39
      go_wp2
      go_ret
      exact ⟨rfl, rfl⟩
    · obtain rfl : b = false := h.not (fun r => by unfold Amt at r; omega)
      clear h
      go_enter Try.func39, Try.ntmps39
      go_wp2
      go_ret
      exact ⟨rfl, rfl⟩
  · obtain rfl : b = false := h.not (fun r => by unfold Amt at r; omega)
    clear h
    go_enter Try.func39, Try.ntmps39
    go_wp2
    go_ret
    exact ⟨rfl, rfl⟩

end Go.Proofs.Ytiecflifopmmoaa.Cmp
