/- Contracts of DivFloor, the program's and the model's: at two amounts, the second not 0, the floor of the exact quotient; at all else 0 and false. -/
import Derived.Test.YthgpimkclpkapaaSmall
namespace Go.Proofs.Ythgpimkclpkapaa.Floor
open Go.ChangeShapes Go.WideShapes Go.ChangeAt Go.RowKit Wide Small
set_option linter.unusedVariables false

theorem quo_bd (a b : Int) (h : Amt a) : -1000000000000000 ≤ a.tdiv b ∧ a.tdiv b ≤ 1000000000000000 := by
  have k := Int.natAbs_tdiv_le_natAbs a b
  unfold Amt at h
  omega

theorem floor_whole (a b : Int) (h : a.tmod b = 0) : a.fdiv b = a.tdiv b := by
  rw [Int.fdiv_eq_tdiv, if_pos (Int.dvd_of_tmod_eq_zero h)]; omega

theorem floor_same (a b : Int) (h : a.tmod b ≠ 0) (s : decide (a < 0) = decide (b < 0)) (b0 : b ≠ 0) : a.fdiv b = a.tdiv b := by
  rw [Int.fdiv_eq_tdiv, if_neg (fun d => h (Int.tmod_eq_zero_of_dvd d))]
  have s' : a < 0 ↔ b < 0 := by simpa using s
  by_cases c : 0 ≤ a
  · rw [if_pos c, if_pos (by omega)]; omega
  · rw [if_neg c, if_neg (by omega), Int.sign_eq_neg_one_of_neg (by omega)]; omega

theorem floor_other (a b : Int) (h : a.tmod b ≠ 0) (s : decide (a < 0) ≠ decide (b < 0)) (b0 : b ≠ 0) : a.fdiv b = a.tdiv b - 1 := by
  rw [Int.fdiv_eq_tdiv, if_neg (fun d => h (Int.tmod_eq_zero_of_dvd d))]
  have s' : ¬ (a < 0 ↔ b < 0) := by simpa using s
  by_cases c : 0 ≤ a
  · rw [if_pos c, if_neg (by omega)]
  · rw [if_neg c, if_pos (by omega), Int.sign_eq_one_of_pos (by omega)]

set_option maxRecDepth 100000 in
theorem iDiv_yes (a b q : Int) (w : World) (ha : Amt a) (hb : Amt b) (b0 : b ≠ 0) (hq : Hid (q = a.fdiv b)) : Calls Try.prog 11 #[.int .i64 a, .int .i64 b] w fun e w' => e = .returned (.tuple #[.int .i64 q, .bool true]) ∧ Gr w w' := by
  obtain ⟨q1, q2⟩ := quo_bd a b ha
  obtain ⟨h1, h2⟩ := ha
  obtain ⟨h3, h4⟩ := hb
  have hb0 : (b == 0) = false := by simpa using b0
  by_cases z : a.tmod b = 0
  · have e := floor_whole a b z
    have z' : (a.tmod b != 0) = false := by simp [z]
    rw [← unhide hq] at e
    subst e
    clear hq
    go_enter Try.func11, Try.ntmps11
    go_wp2
    go_region
    go_wp2
    go_ret2
    exact ⟨rfl, by repeat (first | exact Gr.refl _ | apply Gr.drew)⟩
  · have z' : (a.tmod b != 0) = true := by simp [z]
    by_cases s1 : a < 0
    · have d1 : decide (a < 0) = true := by simp [s1]
      by_cases s2 : b < 0
      · have e := floor_same a b z (by simp [s1, s2]) b0
        have d2 : decide (b < 0) = true := by simp [s2]
        rw [← unhide hq] at e
        subst e
        clear hq
        go_enter Try.func11, Try.ntmps11
        go_wp2
        go_region
        go_wp2
        go_ret2
        exact ⟨rfl, by repeat (first | exact Gr.refl _ | apply Gr.drew)⟩
      · have e := floor_other a b z (by simp [s1, s2]) b0
        have d2 : decide (b < 0) = false := by simp [s2]
        rw [← unhide hq] at e
        subst e
        clear hq
        go_enter Try.func11, Try.ntmps11
        go_wp2
        go_region
        go_wp2
        go_ret2
        exact ⟨rfl, by repeat (first | exact Gr.refl _ | apply Gr.drew)⟩
    · have d1 : decide (a < 0) = false := by simp [s1]
      have em : a.tmod b = a % b := Int.tmod_eq_emod_of_nonneg (by omega)
      have z2 : (a % b != 0) = true := by rw [← em]; exact z'
      by_cases s2 : b < 0
      · have e := floor_other a b z (by simp [s1, s2]) b0
        have d2 : decide (b < 0) = true := by simp [s2]
        clear em
        rw [← unhide hq] at e
        subst e
        clear hq
        go_enter Try.func11, Try.ntmps11
        go_wp2
        go_region
        go_wp2
        go_ret2
        exact ⟨rfl, by repeat (first | exact Gr.refl _ | apply Gr.drew)⟩
      · have e := floor_same a b z (by simp [s1, s2]) b0
        have d2 : decide (b < 0) = false := by simp [s2]
        rw [Int.tdiv_eq_ediv_of_nonneg (by omega)] at e q1 q2
        clear em
        rw [← unhide hq] at e
        subst e
        clear hq
        go_enter Try.func11, Try.ntmps11
        go_wp2
        go_region
        go_wp2
        go_ret2
        exact ⟨rfl, by repeat (first | exact Gr.refl _ | apply Gr.drew)⟩

set_option maxRecDepth 100000 in
theorem iDiv_no (a b : Int) (w : World) (h : NoAmt a ∨ (Amt a ∧ NoAmt b) ∨ (Amt a ∧ Amt b ∧ b = 0)) : Calls Try.prog 11 #[.int .i64 a, .int .i64 b] w fun e w' => e = .returned (.tuple #[.int .i64 0, .bool false]) ∧ w' = w := by
  rcases h with (h | ⟨h1, h2⟩) | ⟨⟨a1, a2⟩, (h | ⟨h1, h2⟩)⟩ | ⟨⟨a1, a2⟩, ⟨b1, b2⟩, rfl⟩
  all_goals
    go_enter Try.func11, Try.ntmps11
    go_wp2
    go_ret2
    exact ⟨rfl, rfl⟩

set_option maxRecDepth 100000 in
theorem sDiv_yes (a b q : Int) (w : World) (ha : Amt a) (hb : Amt b) (b0 : b ≠ 0) (hq : Hid (q = a.fdiv b)) : Calls Try.prog 12 #[.int .i64 a, .int .i64 b] w fun e w' => e = .returned (.tuple #[.int .i64 q, .bool true]) ∧ Gr w w' := by
  obtain ⟨q1, q2⟩ := quo_bd a b ha
  obtain ⟨h1, h2⟩ := ha
  obtain ⟨h3, h4⟩ := hb
  have hb0 : (b == 0) = false := by simpa using b0
  by_cases z : a.tmod b = 0
  · have e := floor_whole a b z
    have z' : (a.tmod b != 0) = false := by simp [z]
    rw [← unhide hq] at e
    subst e
    clear hq
    go_enter Try.func12, Try.ntmps12
    go_wp2
    go_ret2
    exact ⟨rfl, by repeat (first | exact Gr.refl _ | apply Gr.drew)⟩
  · have z' : (a.tmod b != 0) = true := by simp [z]
    by_cases s1 : a < 0
    · have d1 : decide (a < 0) = true := by simp [s1]
      by_cases s2 : b < 0
      · have e := floor_same a b z (by simp [s1, s2]) b0
        have d2 : decide (b < 0) = true := by simp [s2]
        rw [← unhide hq] at e
        subst e
        clear hq
        go_enter Try.func12, Try.ntmps12
        go_wp2
        go_ret2
        exact ⟨rfl, by repeat (first | exact Gr.refl _ | apply Gr.drew)⟩
      · have e := floor_other a b z (by simp [s1, s2]) b0
        have d2 : decide (b < 0) = false := by simp [s2]
        rw [← unhide hq] at e
        subst e
        clear hq
        go_enter Try.func12, Try.ntmps12
        go_wp2
        go_ret2
        exact ⟨rfl, by repeat (first | exact Gr.refl _ | apply Gr.drew)⟩
    · have d1 : decide (a < 0) = false := by simp [s1]
      have em : a.tmod b = a % b := Int.tmod_eq_emod_of_nonneg (by omega)
      have z2 : (a % b != 0) = true := by rw [← em]; exact z'
      by_cases s2 : b < 0
      · have e := floor_other a b z (by simp [s1, s2]) b0
        have d2 : decide (b < 0) = true := by simp [s2]
        clear em
        rw [← unhide hq] at e
        subst e
        clear hq
        go_enter Try.func12, Try.ntmps12
        go_wp2
        go_ret2
        exact ⟨rfl, by repeat (first | exact Gr.refl _ | apply Gr.drew)⟩
      · have e := floor_same a b z (by simp [s1, s2]) b0
        have d2 : decide (b < 0) = false := by simp [s2]
        rw [Int.tdiv_eq_ediv_of_nonneg (by omega)] at e q1 q2
        clear em
        rw [← unhide hq] at e
        subst e
        clear hq
        go_enter Try.func12, Try.ntmps12
        go_wp2
        go_ret2
        exact ⟨rfl, by repeat (first | exact Gr.refl _ | apply Gr.drew)⟩

set_option maxRecDepth 100000 in
theorem sDiv_no (a b : Int) (w : World) (h : NoAmt a ∨ (Amt a ∧ NoAmt b) ∨ (Amt a ∧ Amt b ∧ b = 0)) : Calls Try.prog 12 #[.int .i64 a, .int .i64 b] w fun e w' => e = .returned (.tuple #[.int .i64 0, .bool false]) ∧ w' = w := by
  rcases h with (h | ⟨h1, h2⟩) | ⟨⟨a1, a2⟩, (h | ⟨h1, h2⟩)⟩ | ⟨⟨a1, a2⟩, ⟨b1, b2⟩, rfl⟩
  all_goals
    go_enter Try.func12, Try.ntmps12
    go_wp2
    go_ret2
    exact ⟨rfl, rfl⟩

end Go.Proofs.Ythgpimkclpkapaa.Floor
