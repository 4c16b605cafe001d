/- Contracts of the program's keys and lots: whether their numbers are numbers, and which of two stands first. -/
import Derived.Test.YtdnpjjbphamcmaaTakes
import Derived.Deep.RegionHeld3
import Derived.WalkSmall
import Derived.Sort.Grow
import Derived.Laws.StructEq
namespace Go.Proofs.Ytdnpjjbphamcmaa.Cmp
open Go.ChangeShapes Go.WideShapes Go.ChangeAt Go.RowKit Tup5 Lots Takes
set_option linter.unusedVariables false
set_option linter.unusedSimpArgs false

def cmpI (x y : Int) : Int := if x < y then -1 else if y < x then 1 else 0

theorem isNaN (x : Int) (w : World) : Calls Try.prog 89 #[.int .i64 x] w fun e w' => e = .returned (.bool false) ∧ w' = w := by
  go_enter Try.func89, Try.ntmps89
  go_wp2
  go_ret
  exact ⟨rfl, rfl⟩

theorem compare1 (x y : Int) (w : World) : Calls Try.prog 76 #[.int .i64 x, .int .i64 y] w fun e w' => e = .returned (.int .i64 (cmpI x y)) ∧ w' = w := by
  unfold cmpI
  by_cases h : x < y
  · go_enter Try.func76, Try.ntmps76
    go_wp2_with (go_at_call 89; refine (isNaN _ _).mono ?_; rintro e w1 ⟨rfl, rfl⟩)
    go_ret
    exact ⟨by simp [h], rfl⟩
  · by_cases k : y < x
    · go_enter Try.func76, Try.ntmps76
      go_wp2_with (go_at_call 89; refine (isNaN _ _).mono ?_; rintro e w1 ⟨rfl, rfl⟩)
      go_ret
      exact ⟨by simp [h, k], rfl⟩
    · go_enter Try.func76, Try.ntmps76
      go_wp2_with (go_at_call 89; refine (isNaN _ _).mono ?_; rintro e w1 ⟨rfl, rfl⟩)
      go_ret
      exact ⟨by simp [h, k], rfl⟩

/-- The first that is not 0. -/
def orI (x y : Int) : Int := if x = 0 then y else x

theorem orL (g : Nat) (x y : Int) (w : World) (h0 : w.cell? ⟨g, 0, none⟩ = some (.int .i64 x)) (h1 : w.cell? ⟨g, 1, none⟩ = some (.int .i64 y)) :
    Calls Try.prog 75 #[.slice (some ⟨g, 0, none⟩) 2 2] w fun e w' => e = .returned (.int .i64 (orI x y)) ∧ w' = w := by
  unfold orI
  go_enter Try.func75, Try.ntmps75
  go_wp2
  go_loop [5, 8] (fun _ i => ∃ (k : Nat), i = .int .i64 k ∧ (k = 0 ∨ (k = 1 ∧ x = 0) ∨ (k = 2 ∧ x = 0 ∧ y = 0))) (fun _ i => 2 - (intOf i).toNat)
  case atStart => exact ⟨0, rfl, .inl rfl⟩
  case round =>
    obtain ⟨k, rfl, hk⟩ := hrel
    rcases hk with rfl | ⟨rfl, rfl⟩ | ⟨rfl, rfl, rfl⟩
    · by_cases z : x = 0
      · subst z
        go_wp2
        go_round
        case rel => exact ⟨1, by go_num, .inr (.inl ⟨rfl, by trivial⟩)⟩
        case measure => simp [intOf]
      · go_wp2
        go_ret
        exact ⟨by simp [z], rfl⟩
    · by_cases z : y = 0
      · subst z
        go_wp2
        go_round
        case rel => exact ⟨2, by go_num, .inr (.inr ⟨rfl, by trivial, by trivial⟩)⟩
        case measure => simp [intOf]
      · go_wp2
        go_ret
        exact ⟨by simp, rfl⟩
    · go_wp2
      go_ret
      exact ⟨by simp, rfl⟩

/-- What two keys compare to. -/
def cmpK (a i b j : Int) : Int := orI (cmpI a b) (cmpI i j)

theorem cmpK_lt (a i b j : Int) : cmpK a i b j < 0 ↔ (a < b ∨ (a = b ∧ i < j)) := by
  unfold cmpK orI cmpI
  repeat (first | split | omega)
theorem cmpK_le (a i b j : Int) : cmpK a i b j ≤ 0 ↔ ¬ (b < a ∨ (b = a ∧ j < i)) := by
  unfold cmpK orI cmpI
  repeat (first | split | omega)

theorem many_more (w : World) (o p q : Obj) : Below w.heap.size w (((w.alloc o).alloc p).alloc q) := (((Below.refl _ _).alloc (Nat.le_refl _) _).alloc (by simp) _).alloc (by simp; omega) _

theorem grow_below (w : World) (q : Nat) (os : Array Obj) : Below w.heap.size w (Go.Sort.grow (w.drewN q) os) :=
  ⟨rfl, rfl, rfl, by simp [Go.Sort.grow, World.drewN], fun k hk => by
    show (w.heap ++ os)[k]? = w.heap[k]?
    rw [Array.getElem?_append_left hk]⟩

set_option maxRecDepth 100000 in
set_option maxHeartbeats 2000000 in
theorem compareG (a i b j : Int) (w : World) : Calls Try.prog 69 #[.agg #[.int .i64 a, .int .i64 i], .agg #[.int .i64 b, .int .i64 j]] w fun e w' => e = .returned (.int .i64 (cmpK a i b j)) ∧ ∃ q os, w' = Go.Sort.grow (w.drewN q) os := by
  unfold cmpK
  go_enter Try.func69, Try.ntmps69
  go_wp2_with fail
  have hu : ∃ os, (w.alloc (.cells #[.int .i64 a, .int .i64 i] 81)).alloc (.cells #[.int .i64 b, .int .i64 j] 81) = Go.Sort.grow w os := ⟨_, by rw [Go.Sort.alloc_eq_grow, Go.Sort.alloc_eq_grow, Go.Sort.grow_grow]⟩
  have c0 : ((w.alloc (.cells #[.int .i64 a, .int .i64 i] 81)).alloc (.cells #[.int .i64 b, .int .i64 j] 81)).cell? ⟨w.heap.size, 0, none⟩ = some (.int .i64 a) := by simp
  have c1 : ((w.alloc (.cells #[.int .i64 a, .int .i64 i] 81)).alloc (.cells #[.int .i64 b, .int .i64 j] 81)).cell? ⟨w.heap.size, 1, none⟩ = some (.int .i64 i) := by simp
  have c2 : ((w.alloc (.cells #[.int .i64 a, .int .i64 i] 81)).alloc (.cells #[.int .i64 b, .int .i64 j] 81)).cell? ⟨w.heap.size + 1, 0, none⟩ = some (.int .i64 b) := by simp
  have c3 : ((w.alloc (.cells #[.int .i64 a, .int .i64 i] 81)).alloc (.cells #[.int .i64 b, .int .i64 j] 81)).cell? ⟨w.heap.size + 1, 1, none⟩ = some (.int .i64 j) := by simp
  have HU := hide hu
  clear hu
  generalize (w.alloc (.cells #[.int .i64 a, .int .i64 i] 81)).alloc (.cells #[.int .i64 b, .int .i64 j] 81) = u at *
  generalize w.heap.size + 1 = h1 at *
  generalize w.heap.size = h0 at *
  go_region_held3 (fun w' => w'.cell? ⟨h0, 0, none⟩ = some (.int .i64 a) ∧ w'.cell? ⟨h0, 1, none⟩ = some (.int .i64 i) ∧ w'.cell? ⟨h1, 0, none⟩ = some (.int .i64 b) ∧ w'.cell? ⟨h1, 1, none⟩ = some (.int .i64 j)) (go_keep)
    (first | (go_at_call 76; refine (compare1 _ _ _).mono ?_; rintro e w1 ⟨rfl, rfl⟩) | (go_at_call 75; refine (orL u.heap.size (cmpI a b) (cmpI i j) _ ?_ ?_).mono ?_; (simp); (simp); rintro e w1 ⟨rfl, rfl⟩))
  all_goals (go_wp2; go_ret)
  all_goals (obtain ⟨os, rfl⟩ := unhide HU; exact ⟨rfl, 1, _, by rw [Go.Sort.alloc_eq_grow]; exact Go.Sort.grow_grow (w.drewN 1) _ _⟩)

theorem compareK (a i b j : Int) (w : World) : Calls Try.prog 69 #[.agg #[.int .i64 a, .int .i64 i], .agg #[.int .i64 b, .int .i64 j]] w fun e w' => e = .returned (.int .i64 (cmpK a i b j)) ∧ Below w.heap.size w w' :=
  (compareG a i b j w).mono fun _ _ ⟨he, q, os, hw⟩ => ⟨he, by rw [hw]; exact grow_below w q os⟩

set_option maxRecDepth 100000 in
theorem keyOk (a i : Int) (b : Bool) (w : World) (h : Says b (NoOk a ∧ NoOk i)) : Calls Try.prog 74 #[.agg #[.int .i64 a, .int .i64 i]] w fun e w' => e = .returned (.bool b) ∧ Below w.heap.size w w' := by
  have hb : Below w.heap.size w (w.alloc (.cells #[.int .i64 a, .int .i64 i] 81)) := (Below.refl _ _).alloc (Nat.le_refl _) _
  by_cases c1 : 1 ≤ a
  · by_cases c2 : a ≤ 1000
    · by_cases c3 : 1 ≤ i
      · by_cases c4 : i ≤ 1000
        · obtain rfl : b = true := h.of ⟨⟨c1, c2⟩, c3, c4⟩
          clear h
          go_enter Try.func74, Try.ntmps74
          go_wp2
          go_ret
          exact ⟨rfl, hb⟩
        · obtain rfl : b = false := h.not (fun r => by unfold NoOk at r; omega)
          clear h
          go_enter Try.func74, Try.ntmps74
          go_wp2
          go_ret
          exact ⟨rfl, hb⟩
      · obtain rfl : b = false := h.not (fun r => by unfold NoOk at r; omega)
        clear h
        go_enter Try.func74, Try.ntmps74
        go_wp2
        go_ret
        exact ⟨rfl, hb⟩
    · obtain rfl : b = false := h.not (fun r => by unfold NoOk at r; omega)
      clear h
      go_enter Try.func74, Try.ntmps74
      go_wp2
      go_ret
      exact ⟨rfl, hb⟩
  · obtain rfl : b = false := h.not (fun r => by unfold NoOk at r; omega)
    clear h
    go_enter Try.func74, Try.ntmps74
    go_wp2
    go_ret
    exact ⟨rfl, hb⟩

theorem iAmt (x : Int) (b : Bool) (w : World) (h : Says b (Amt x)) : Calls Try.prog 37 #[.int .i64 x] w fun e w' => e = .returned (.bool b) ∧ w' = w := by
  by_cases c1 : -1000000000000000 ≤ x
  · by_cases c2 : x ≤ 1000000000000000
    · obtain rfl : b = true := h.of ⟨c1, c2⟩
      clear h
      go_enter Try.func37, Try.ntmps37
      go_wp2
      go_ret
      exact ⟨rfl, rfl⟩
    · obtain rfl : b = false := h.not (fun r => by unfold Amt at r; omega)
      clear h
      go_enter Try.func37, Try.ntmps37
      go_wp2
      go_ret
      exact ⟨rfl, rfl⟩
  · obtain rfl : b = false := h.not (fun r => by unfold Amt at r; omega)
    clear h
    go_enter Try.func37, Try.ntmps37
    go_wp2
    go_ret
    exact ⟨rfl, rfl⟩

/-- Whether two keys are one. -/
theorem eqKey (a i b j : Int) (w : World) : (Op.equalIn 10000 81 (.agg #[.int .i64 a, .int .i64 i]) (.agg #[.int .i64 b, .int .i64 j])).run Try.prog w = .ok (a == b && i == j) w := by
  have u3 := Try.underlying3
  have a3 := Try.isAgg3
  have z3 := Try.sizeOf3
  have hS : Try.prog.underlying 81 = some (.struct (Try.prog.fieldsOf 81)) := by kernel_rfl
  have hp : Try.prog.stoodInHeld 81 = false := by kernel_rfl
  rw [show (10000 : Nat) = 9999 + 1 from rfl, run_equalIn_agg w 9999 81 _ _ hS hp]
  simp only [Program.fieldsOf, Try.underlying81]
  go_simp
  by_cases h1 : a = b <;> by_cases h2 : i = j <;> simp [h1, h2]
theorem guardKey : Try.prog.eqGuardType Try.prog.depth 81 = false := by kernel_rfl

/-- The key of a lot. -/
theorem keyL (x0 x1 x2 x3 x4 : Int) (w : World) : Calls Try.prog 57 #[.agg #[.int .i64 x0, .int .i64 x1, .int .i64 x2, .int .i64 x3, .int .i64 x4]] w fun e w' => e = .returned (.agg #[.int .i64 x0, .int .i64 x1]) ∧ Below w.heap.size w w' := by
  go_enter Try.func57, Try.ntmps57
  go_wp2
  refine bodyPost_ret (v := .agg #[.int .i64 x0, .int .i64 x1]) (by simp [results, Try.results57, go_sem]) rfl ⟨rfl, by repeat (first | exact Below.refl _ _ | refine Below.alloc ?_ (by simp; try omega) _)⟩

theorem at0 {w : World} {g : Nat} {x0 x1 x2 x3 x4 : Int} (h : Holds5 w g 0 (x0, x1, x2, x3, x4)) : w.cell? ⟨g, 0, none⟩ = some (.int .i64 x0) ∧ w.cell? ⟨g, 1, none⟩ = some (.int .i64 x1) ∧ w.cell? ⟨g, 2, none⟩ = some (.int .i64 x2) ∧ w.cell? ⟨g, 3, none⟩ = some (.int .i64 x3) ∧ w.cell? ⟨g, 4, none⟩ = some (.int .i64 x4) := h

/-- What two lots compare to. -/
def cmpL (p q : T5) : Int := orI (cmpK p.1 p.2.1 q.1 q.2.1) (cmpI p.2.2.1 q.2.2.1)

theorem cmpL_lt (p q : T5) : cmpL p q < 0 ↔ Bef p q := by
  unfold cmpL cmpK orI cmpI Bef
  repeat (first | split | omega)
theorem cmpL_le (p q : T5) : cmpL p q ≤ 0 ↔ ¬ Bef q p := by
  unfold cmpL cmpK orI cmpI Bef
  repeat (first | split | omega)

set_option maxRecDepth 100000 in
set_option maxHeartbeats 2000000 in
theorem compareLot (x0 x1 x2 x3 x4 y0 y1 y2 y3 y4 : Int) (w : World) : Calls Try.prog 56 #[.agg #[.int .i64 x0, .int .i64 x1, .int .i64 x2, .int .i64 x3, .int .i64 x4], .agg #[.int .i64 y0, .int .i64 y1, .int .i64 y2, .int .i64 y3, .int .i64 y4]] w fun e w' => e = .returned (.int .i64 (cmpL (x0, x1, x2, x3, x4) (y0, y1, y2, y3, y4))) ∧ Below w.heap.size w w' := by
  unfold cmpL
  have X := hide (show Holds5 ((w.alloc (.cells #[.int .i64 x0, .int .i64 x1, .int .i64 x2, .int .i64 x3, .int .i64 x4] 40)).alloc (.cells #[.int .i64 y0, .int .i64 y1, .int .i64 y2, .int .i64 y3, .int .i64 y4] 40)) w.heap.size 0 (x0, x1, x2, x3, x4) from by unfold Holds5; simp)
  have Y := hide (show Holds5 ((w.alloc (.cells #[.int .i64 x0, .int .i64 x1, .int .i64 x2, .int .i64 x3, .int .i64 x4] 40)).alloc (.cells #[.int .i64 y0, .int .i64 y1, .int .i64 y2, .int .i64 y3, .int .i64 y4] 40)) (w.heap.size + 1) 0 (y0, y1, y2, y3, y4) from by unfold Holds5; simp)
  have B := hide (show Below w.heap.size w ((w.alloc (.cells #[.int .i64 x0, .int .i64 x1, .int .i64 x2, .int .i64 x3, .int .i64 x4] 40)).alloc (.cells #[.int .i64 y0, .int .i64 y1, .int .i64 y2, .int .i64 y3, .int .i64 y4] 40)) from ((Below.refl _ _).alloc (Nat.le_refl _) _).alloc (by simp) _)
  have hx : w.heap.size < ((w.alloc (.cells #[.int .i64 x0, .int .i64 x1, .int .i64 x2, .int .i64 x3, .int .i64 x4] 40)).alloc (.cells #[.int .i64 y0, .int .i64 y1, .int .i64 y2, .int .i64 y3, .int .i64 y4] 40)).heap.size := by simp; omega
  have hy : w.heap.size + 1 < ((w.alloc (.cells #[.int .i64 x0, .int .i64 x1, .int .i64 x2, .int .i64 x3, .int .i64 x4] 40)).alloc (.cells #[.int .i64 y0, .int .i64 y1, .int .i64 y2, .int .i64 y3, .int .i64 y4] 40)).heap.size := by simp
  go_enter Try.func56, Try.ntmps56
  go_wp2_with fail
  generalize (w.alloc (.cells #[.int .i64 x0, .int .i64 x1, .int .i64 x2, .int .i64 x3, .int .i64 x4] 40)).alloc (.cells #[.int .i64 y0, .int .i64 y1, .int .i64 y2, .int .i64 y3, .int .i64 y4] 40) = u at *
  obtain ⟨h1, H1⟩ : ∃ h1, Hid (h1 = w.heap.size + 1) := ⟨_, rfl⟩
  obtain ⟨h0, H0⟩ : ∃ h0, Hid (h0 = w.heap.size) := ⟨_, rfl⟩
  rw [← unhide H1] at hy Y ⊢
  rw [← unhide H0] at hx X ⊢
  obtain ⟨c0, c1, c2, c3, c4⟩ := at0 (unhide X)
  obtain ⟨e0, e1, e2, e3, e4⟩ := at0 (unhide Y)
  have bb : Below u.heap.size u u.drew := (Below.refl _ _).drew
  go_region_held3 (fun w' => w'.cell? ⟨h0, 0, none⟩ = some (.int .i64 x0) ∧ w'.cell? ⟨h0, 1, none⟩ = some (.int .i64 x1) ∧ w'.cell? ⟨h0, 2, none⟩ = some (.int .i64 x2) ∧ w'.cell? ⟨h0, 3, none⟩ = some (.int .i64 x3) ∧ w'.cell? ⟨h0, 4, none⟩ = some (.int .i64 x4) ∧ w'.cell? ⟨h1, 0, none⟩ = some (.int .i64 y0) ∧ w'.cell? ⟨h1, 1, none⟩ = some (.int .i64 y1) ∧ w'.cell? ⟨h1, 2, none⟩ = some (.int .i64 y2) ∧ w'.cell? ⟨h1, 3, none⟩ = some (.int .i64 y3) ∧ w'.cell? ⟨h1, 4, none⟩ = some (.int .i64 y4)) (go_keep)
    (first | (go_at_call 57; refine (keyL _ _ _ _ _ _).mono ?_; rintro e w1 ⟨rfl, n1⟩; replace bb := next bb n1; obtain ⟨c0, c1, c2, c3, c4⟩ := at0 ((unhide X).below bb hx); obtain ⟨e0, e1, e2, e3, e4⟩ := at0 ((unhide Y).below bb hy); clear n1) | (go_at_call 69; refine (compareK _ _ _ _ _).mono ?_; rintro e w1 ⟨rfl, n1⟩; replace bb := next bb n1; obtain ⟨c0, c1, c2, c3, c4⟩ := at0 ((unhide X).below bb hx); obtain ⟨e0, e1, e2, e3, e4⟩ := at0 ((unhide Y).below bb hy); clear n1) | (go_at_call 76; refine (compare1 _ _ _).mono ?_; rintro e w1 ⟨rfl, rfl⟩) | (go_at_call 75; refine (orL _ (cmpK x0 x1 y0 y1) (cmpI x2 y2) _ ?_ ?_).mono ?_; (simp); (simp); rintro e w1 ⟨rfl, rfl⟩))
  all_goals (go_wp2; go_ret)
  all_goals exact ⟨rfl, (next (unhide B) bb).alloc (next (unhide B) bb).size _⟩

set_option maxRecDepth 100000 in
set_option maxHeartbeats 2000000 in
theorem lotOk (x0 x1 x2 x3 x4 : Int) (b : Bool) (w : World) (hb : Says b (One (x0, x1, x2, x3, x4))) : Calls Try.prog 55 #[.agg #[.int .i64 x0, .int .i64 x1, .int .i64 x2, .int .i64 x3, .int .i64 x4]] w fun e w' => e = .returned (.bool b) ∧ Below w.heap.size w w' := by
  obtain ⟨b1, B1⟩ := says_of (NoOk x0 ∧ NoOk x1)
  have X := hide (show Holds5 (w.alloc (.cells #[.int .i64 x0, .int .i64 x1, .int .i64 x2, .int .i64 x3, .int .i64 x4] 40)) w.heap.size 0 (x0, x1, x2, x3, x4) from by unfold Holds5; simp)
  have B := hide (show Below w.heap.size w (w.alloc (.cells #[.int .i64 x0, .int .i64 x1, .int .i64 x2, .int .i64 x3, .int .i64 x4] 40)) from (Below.refl _ _).alloc (Nat.le_refl _) _)
  have hx : w.heap.size < (w.alloc (.cells #[.int .i64 x0, .int .i64 x1, .int .i64 x2, .int .i64 x3, .int .i64 x4] 40)).heap.size := by simp
  go_enter Try.func55, Try.ntmps55
  go_wp2_with fail
  refine (keyL x0 x1 x2 x3 x4 _).mono ?_
  rintro e w1 ⟨rfl, n1⟩
  have X1 := hide ((unhide X).below n1 hx)
  have hx1 : w.heap.size < w1.heap.size := Nat.lt_of_lt_of_le hx n1.size
  have N1 := hide (next (unhide B) n1)
  clear X B hx n1
  go_wp2_with fail
  refine (keyOk x0 x1 b1 _ B1).mono ?_
  rintro e w2 ⟨rfl, n2⟩
  obtain ⟨c0, c1, c2, c3, c4⟩ := at0 ((unhide X1).below n2 hx1)
  have N2 := hide (next (unhide N1) n2)
  clear X1 N1 n2
  cases b1
  · obtain rfl : b = false := hb.not (fun r => B1.no ⟨r.1, r.2.1⟩)
    go_wp2
    go_ret
    exact ⟨rfl, unhide N2⟩
  by_cases t0 : 1 ≤ x2
  rotate_left
  · obtain rfl : b = false := hb.not (fun r => t0 r.2.2.1.1)
    clear hb
    go_wp2
    go_ret
    exact ⟨rfl, unhide N2⟩
  by_cases t1 : x2 ≤ 1000000000
  rotate_left
  · obtain rfl : b = false := hb.not (fun r => t1 r.2.2.1.2)
    clear hb
    go_wp2
    go_ret
    exact ⟨rfl, unhide N2⟩
  by_cases t2 : 1 ≤ x3
  rotate_left
  · obtain rfl : b = false := hb.not (fun r => t2 r.2.2.2.1.1)
    clear hb
    go_wp2
    go_ret
    exact ⟨rfl, unhide N2⟩
  by_cases t3 : x3 ≤ 1000000000000000
  rotate_left
  · obtain rfl : b = false := hb.not (fun r => t3 r.2.2.2.1.2)
    clear hb
    go_wp2
    go_ret
    exact ⟨rfl, unhide N2⟩
  by_cases t4 : 0 ≤ x4
  rotate_left
  · obtain rfl : b = false := hb.not (fun r => t4 r.2.2.2.2.1)
    clear hb
    go_wp2
    go_ret
    exact ⟨rfl, unhide N2⟩
  by_cases t5 : x4 ≤ 1000000000000000
  rotate_left
  · obtain rfl : b = false := hb.not (fun r => t5 r.2.2.2.2.2)
    clear hb
    go_wp2
    go_ret
    exact ⟨by rw [decide_eq_false (show ¬ x4 ≤ 1000000000000000 by omega)]; rfl, unhide N2⟩
  obtain rfl : b = true := hb.of ⟨B1.yes.1, B1.yes.2, ⟨t0, t1⟩, ⟨t2, t3⟩, t4, t5⟩
  clear hb
  go_wp2
  go_ret
  exact ⟨rfl, unhide N2⟩

end Go.Proofs.Ytdnpjjbphamcmaa.Cmp
