/- Contracts of the program's comparison of two numbers by their rests, and of the library's small functions that it calls. Conditions: the rests lie where the comparison looks, and both numbers are among them. -/
import Derived.Test.YtdnpjjbphamcmaaOrder
import Derived.Deep.RegionHeld3
import Derived.Sort.Grow
namespace Go.Proofs.Ytdnpjjbphamcmaa.ICmp
open Go.ChangeShapes Go.WideShapes Go.ChangeAt Go.RowKit Ints Weigh Quota Order
set_option linter.unusedVariables false
set_option linter.unusedSimpArgs false

/-- Which of two numbers is the lesser one. -/
def cmp (x y : Int) : Int := if x < y then -1 else if y < x then 1 else 0

theorem iCompare (x y : Int) (w : World) : Calls Try.prog 76 #[.int .i64 x, .int .i64 y] w fun e w' => e = .returned (.int .i64 (cmp x y)) ∧ w' = w := by
  by_cases h1 : x < y
  · have e : Hid (cmp x y = -1) := by unfold Hid cmp; rw [if_pos h1]
    go_enter Try.func76, Try.ntmps76
    go_wp2
    go_ret
    exact ⟨by rw [unhide e]; rfl, rfl⟩
  · by_cases h2 : y < x
    · have e : Hid (cmp x y = 1) := by unfold Hid cmp; rw [if_neg h1, if_pos h2]
      go_enter Try.func76, Try.ntmps76
      go_wp2
      go_ret
      exact ⟨by rw [unhide e]; rfl, rfl⟩
    · have e : Hid (cmp x y = 0) := by unfold Hid cmp; rw [if_neg h1, if_neg h2]
      go_enter Try.func76, Try.ntmps76
      go_wp2
      go_ret
      exact ⟨by rw [unhide e]; rfl, rfl⟩

theorem iOr (x y : Int) (g : Nat) (w : World) (h0 : w.cell? ⟨g, 0, none⟩ = some (.int .i64 x)) (h1 : w.cell? ⟨g, 1, none⟩ = some (.int .i64 y)) :
    Calls Try.prog 75 #[.slice (some ⟨g, 0, none⟩) 2 2] w fun e w' => e = .returned (.int .i64 (if x = 0 then y else x)) ∧ w' = w := by
  go_enter Try.func75, Try.ntmps75
  go_wp2
  go_loop [8] (fun i => ∃ (k : Nat), k ≤ 2 ∧ i = .int .i64 k ∧ (1 ≤ k → x = 0) ∧ (2 ≤ k → y = 0)) (fun i => 2 - (intOf i).toNat)
  case atStart => exact ⟨0, by omega, rfl, by omega, by omega⟩
  case round =>
    obtain ⟨k, hk, rfl, p1, p2⟩ := hrel
    rcases (show k = 0 ∨ k = 1 ∨ k = 2 by omega) with rfl | rfl | rfl
    · clear p1 p2
      by_cases z : x = 0
      · subst z
        go_wp2
        go_round
        case rel => exact ⟨1, by omega, rfl, by simp, by omega⟩
        case measure => simp [intOf]
      · have zb : (x != 0) = true := by rw [bne_iff_ne]; exact z
        go_wp2
        go_ret
        exact ⟨rfl, rfl⟩
    · obtain rfl := p1 (by omega)
      clear p1 p2
      by_cases z : y = 0
      · subst z
        go_wp2
        go_round
        case rel => exact ⟨2, by omega, rfl, by simp, by simp⟩
        case measure => simp [intOf]
      · have zb : (y != 0) = true := by rw [bne_iff_ne]; exact z
        go_wp2
        go_ret
        exact ⟨rfl, rfl⟩
    · obtain rfl := p1 (by omega)
      obtain rfl := p2 (by omega)
      clear p1 p2
      go_wp2
      go_ret
      exact ⟨rfl, rfl⟩

theorem iOr' (x y z : Int) (g : Nat) (w : World) (hz : Hid (z = if x = 0 then y else x)) (h0 : w.cell? ⟨g, 0, none⟩ = some (.int .i64 x)) (h1 : w.cell? ⟨g, 1, none⟩ = some (.int .i64 y)) :
    Calls Try.prog 75 #[.slice (some ⟨g, 0, none⟩) 2 2] w fun e w' => e = .returned (.int .i64 z) ∧ w' = w := by
  rw [unhide hz]
  exact iOr x y g w h0 h1

set_option maxRecDepth 100000 in
set_option maxHeartbeats 2000000 in
theorem iCloses (W : World) (a b n g bx : Nat) (ra rb : Int) (ha : a < n) (hb : b < n) (h40 : n ≤ 1048576) (hx : W.cell? ⟨bx, 0, none⟩ = some (.slice (some ⟨g, 0, none⟩) n n)) (hra : W.cell? ⟨g, a, none⟩ = some (.int .i64 ra)) (hrb : W.cell? ⟨g, b, none⟩ = some (.int .i64 rb)) :
    Calls Try.prog 92 #[.int .i64 a, .int .i64 b, .pointer (some ⟨bx, 0, none⟩)] W fun e w' => e = .returned (.int .i64 (if cmp rb ra = 0 then cmp a b else cmp rb ra)) ∧ ∃ q os, w' = Go.Sort.grow (W.drewN q) os := by
  have i1 : (0 : Int) ≤ (a : Int) := by omega
  have i2 : (a : Int) < (n : Int) := by omega
  have i3 : (0 : Int) ≤ (b : Int) := by omega
  have i4 : (b : Int) < (n : Int) := by omega
  obtain ⟨z, hz⟩ : ∃ z, z = if cmp rb ra = 0 then cmp a b else cmp rb ra := ⟨_, rfl⟩
  rw [← hz]
  have HZ := hide hz
  clear hz
  go_enter Try.func92, Try.ntmps92
  go_wp2_with fail
  go_region_held3 (fun w' => w'.cell? ⟨bx, 0, none⟩ = some (.slice (some ⟨g, 0, none⟩) n n) ∧ w'.cell? ⟨g, a, none⟩ = some (.int .i64 ra) ∧ w'.cell? ⟨g, b, none⟩ = some (.int .i64 rb)) (go_keep)
    (first | (go_at_call 76; refine (iCompare _ _ _).mono ?_; rintro e w' ⟨rfl, rfl⟩) | (go_at_call 75; refine (iOr' _ _ z _ _ HZ (by simp) (by simp)).mono ?_; rintro e w' ⟨rfl, rfl⟩))
  all_goals go_wp2
  all_goals (go_ret; exact ⟨rfl, 1, #[_], by rw [Go.Sort.alloc_eq_grow]; rfl⟩)

end Go.Proofs.Ytdnpjjbphamcmaa.ICmp
