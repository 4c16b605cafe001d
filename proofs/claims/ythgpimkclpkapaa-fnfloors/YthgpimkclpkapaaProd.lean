/- Contracts of MulIn, the program's and the model's: the exact product of two amounts where it is an amount; 0 and false at all else. -/
import Derived.Test.YthgpimkclpkapaaMul
namespace Go.Proofs.Ythgpimkclpkapaa.ProdC
open Go.ChangeShapes Go.WideShapes Go.ChangeAt Go.RowKit Wide Small Plain MulC
set_option linter.unusedVariables false

theorem words_of (p u : Int) (e : u = p) (h0 : 0 ≤ p) (h1 : p ≤ 1000000000000000) : Hid (0 = u / 18446744073709551616) ∧ Hid (p = u % 18446744073709551616) := by
  subst e
  constructor
  · show 0 = u / 18446744073709551616; omega
  · show u = u % 18446744073709551616; omega

/-- The product's words where it is no amount. -/
theorem words_big (u : Int) (h : 1000000000000000 < u) : ∃ H L, Hid (H = u / 18446744073709551616) ∧ Hid (L = u % 18446744073709551616) ∧ (1 ≤ H ∨ (H = 0 ∧ 1000000000000000 < L)) :=
  ⟨_, _, hide rfl, hide rfl, by omega⟩

set_option maxRecDepth 100000 in
theorem iMul_yes (a b p : Int) (w : World) (ha : Amt a) (hb : Amt b) (hp : Amt p) (h : Hid (p = a * b)) :
    Calls Try.prog 9 #[.int .i64 a, .int .i64 b] w fun e w' => e = .returned (.tuple #[.int .i64 p, .bool true]) ∧ Gr w w' := by
  obtain ⟨a1, a2⟩ := ha
  obtain ⟨b1, b2⟩ := hb
  obtain ⟨p1, p2⟩ := hp
  by_cases sa : a < 0
  · have da : decide (a < 0) = true := by simp [sa]
    by_cases sb : b < 0
    · have db : decide (b < 0) = true := by simp [sb]
      have eu : -a * -b = p := by rw [unhide h, Int.neg_mul_neg]
      have p0 : 0 ≤ p := by rw [← eu]; exact Int.mul_nonneg (by omega) (by omega)
      obtain ⟨EH, EL⟩ := words_of p _ eu p0 p2
      clear eu h
      go_enter Try.func9, Try.ntmps9
      go_wp2_with (first | (go_at_call 17; go_in) | (go_at_call 27; go_in) | fail)
      refine (product (-a) (-b) 0 p _ (by omega) (by omega) (by omega) (by omega) EH EL).mono ?_
      rintro e w1 ⟨rfl, g1⟩
      go_wp2_with fail
      refine (amount_yes p _ p0 p2).mono ?_
      rintro e w2 ⟨rfl, g2⟩
      go_wp2
      go_ret2
      exact ⟨rfl, Gr.trans g1 g2⟩
    · have db : decide (b < 0) = false := by simp [sb]
      have eu : -a * b = -p := by rw [unhide h, Int.neg_mul]
      have p0 : 0 ≤ -p := by rw [← eu]; exact Int.mul_nonneg (by omega) (by omega)
      obtain ⟨EH, EL⟩ := words_of (-p) _ eu p0 (by omega)
      clear eu h
      go_enter Try.func9, Try.ntmps9
      go_wp2_with (first | (go_at_call 17; go_in) | (go_at_call 27; go_in) | fail)
      refine (product (-a) b 0 (-p) _ (by omega) (by omega) (by omega) (by omega) EH EL).mono ?_
      rintro e w1 ⟨rfl, g1⟩
      go_wp2_with fail
      refine (amount_yes (-p) _ p0 (by omega)).mono ?_
      rintro e w2 ⟨rfl, g2⟩
      go_wp2
      go_ret2
      exact ⟨by simp, Gr.trans g1 g2⟩
  · have da : decide (a < 0) = false := by simp [sa]
    by_cases sb : b < 0
    · have db : decide (b < 0) = true := by simp [sb]
      have eu : a * -b = -p := by rw [unhide h, Int.mul_neg]
      have p0 : 0 ≤ -p := by rw [← eu]; exact Int.mul_nonneg (by omega) (by omega)
      obtain ⟨EH, EL⟩ := words_of (-p) _ eu p0 (by omega)
      clear eu h
      go_enter Try.func9, Try.ntmps9
      go_wp2_with (first | (go_at_call 17; go_in) | (go_at_call 27; go_in) | fail)
      refine (product a (-b) 0 (-p) _ (by omega) (by omega) (by omega) (by omega) EH EL).mono ?_
      rintro e w1 ⟨rfl, g1⟩
      go_wp2_with fail
      refine (amount_yes (-p) _ p0 (by omega)).mono ?_
      rintro e w2 ⟨rfl, g2⟩
      go_wp2
      go_ret2
      exact ⟨by simp, Gr.trans g1 g2⟩
    · have db : decide (b < 0) = false := by simp [sb]
      have eu : a * b = p := by rw [unhide h]
      have p0 : 0 ≤ p := by rw [← eu]; exact Int.mul_nonneg (by omega) (by omega)
      obtain ⟨EH, EL⟩ := words_of p _ eu p0 p2
      clear eu h
      go_enter Try.func9, Try.ntmps9
      go_wp2_with (first | (go_at_call 17; go_in) | (go_at_call 27; go_in) | fail)
      refine (product a b 0 p _ (by omega) (by omega) (by omega) (by omega) EH EL).mono ?_
      rintro e w1 ⟨rfl, g1⟩
      go_wp2_with fail
      refine (amount_yes p _ p0 p2).mono ?_
      rintro e w2 ⟨rfl, g2⟩
      go_wp2
      go_ret2
      exact ⟨rfl, Gr.trans g1 g2⟩

set_option maxRecDepth 100000 in
theorem iMul_no (a b p : Int) (w : World) (hp : Hid (p = a * b)) (h : Bad a b p) :
    Calls Try.prog 9 #[.int .i64 a, .int .i64 b] w fun e w' => e = .returned (.tuple #[.int .i64 0, .bool false]) ∧ Gr w w' := by
  rcases h with (h | ⟨h1, h2⟩) | ⟨⟨a1, a2⟩, (h | ⟨h1, h2⟩)⟩ | ⟨⟨a1, a2⟩, ⟨b1, b2⟩, hn⟩
  iterate 4
    · go_enter Try.func9, Try.ntmps9
      go_wp2
      go_ret2
      exact ⟨rfl, Gr.refl _⟩
  · by_cases sa : a < 0
    · have da : decide (a < 0) = true := by simp [sa]
      by_cases sb : b < 0
      · have db : decide (b < 0) = true := by simp [sb]
        have eu : -a * -b = p := by rw [unhide hp, Int.neg_mul_neg]
        have u0 : 0 ≤ -a * -b := Int.mul_nonneg (by omega) (by omega)
        have ub : 1000000000000000 < -a * -b := by unfold NoAmt at hn; omega
        obtain ⟨H, L, EH, EL, hc⟩ := words_big _ ub
        clear eu u0 ub hp hn
        rcases hc with hc | ⟨rfl, hc⟩
        · go_enter Try.func9, Try.ntmps9
          go_wp2_with (first | (go_at_call 17; go_in) | (go_at_call 27; go_in) | fail)
          refine (product (-a) (-b) H L _ (by omega) (by omega) (by omega) (by omega) EH EL).mono ?_
          rintro e w1 ⟨rfl, g1⟩
          go_wp2_with fail
          refine (amount_high H L _ hc).mono ?_
          rintro e w2 ⟨rfl, g2⟩
          go_wp2
          go_ret2
          exact ⟨rfl, Gr.trans g1 g2⟩
        · go_enter Try.func9, Try.ntmps9
          go_wp2_with (first | (go_at_call 17; go_in) | (go_at_call 27; go_in) | fail)
          refine (product (-a) (-b) 0 L _ (by omega) (by omega) (by omega) (by omega) EH EL).mono ?_
          rintro e w1 ⟨rfl, g1⟩
          go_wp2_with fail
          refine (amount_low L _ hc).mono ?_
          rintro e w2 ⟨rfl, g2⟩
          go_wp2
          go_ret2
          exact ⟨rfl, Gr.trans g1 g2⟩
      · have db : decide (b < 0) = false := by simp [sb]
        have eu : -a * b = -p := by rw [unhide hp, Int.neg_mul]
        have u0 : 0 ≤ -a * b := Int.mul_nonneg (by omega) (by omega)
        have ub : 1000000000000000 < -a * b := by unfold NoAmt at hn; omega
        obtain ⟨H, L, EH, EL, hc⟩ := words_big _ ub
        clear eu u0 ub hp hn
        rcases hc with hc | ⟨rfl, hc⟩
        · go_enter Try.func9, Try.ntmps9
          go_wp2_with (first | (go_at_call 17; go_in) | (go_at_call 27; go_in) | fail)
          refine (product (-a) b H L _ (by omega) (by omega) (by omega) (by omega) EH EL).mono ?_
          rintro e w1 ⟨rfl, g1⟩
          go_wp2_with fail
          refine (amount_high H L _ hc).mono ?_
          rintro e w2 ⟨rfl, g2⟩
          go_wp2
          go_ret2
          exact ⟨rfl, Gr.trans g1 g2⟩
        · go_enter Try.func9, Try.ntmps9
          go_wp2_with (first | (go_at_call 17; go_in) | (go_at_call 27; go_in) | fail)
          refine (product (-a) b 0 L _ (by omega) (by omega) (by omega) (by omega) EH EL).mono ?_
          rintro e w1 ⟨rfl, g1⟩
          go_wp2_with fail
          refine (amount_low L _ hc).mono ?_
          rintro e w2 ⟨rfl, g2⟩
          go_wp2
          go_ret2
          exact ⟨rfl, Gr.trans g1 g2⟩
    · have da : decide (a < 0) = false := by simp [sa]
      by_cases sb : b < 0
      · have db : decide (b < 0) = true := by simp [sb]
        have eu : a * -b = -p := by rw [unhide hp, Int.mul_neg]
        have u0 : 0 ≤ a * -b := Int.mul_nonneg (by omega) (by omega)
        have ub : 1000000000000000 < a * -b := by unfold NoAmt at hn; omega
        obtain ⟨H, L, EH, EL, hc⟩ := words_big _ ub
        clear eu u0 ub hp hn
        rcases hc with hc | ⟨rfl, hc⟩
        · go_enter Try.func9, Try.ntmps9
          go_wp2_with (first | (go_at_call 17; go_in) | (go_at_call 27; go_in) | fail)
          refine (product a (-b) H L _ (by omega) (by omega) (by omega) (by omega) EH EL).mono ?_
          rintro e w1 ⟨rfl, g1⟩
          go_wp2_with fail
          refine (amount_high H L _ hc).mono ?_
          rintro e w2 ⟨rfl, g2⟩
          go_wp2
          go_ret2
          exact ⟨rfl, Gr.trans g1 g2⟩
        · go_enter Try.func9, Try.ntmps9
          go_wp2_with (first | (go_at_call 17; go_in) | (go_at_call 27; go_in) | fail)
          refine (product a (-b) 0 L _ (by omega) (by omega) (by omega) (by omega) EH EL).mono ?_
          rintro e w1 ⟨rfl, g1⟩
          go_wp2_with fail
          refine (amount_low L _ hc).mono ?_
          rintro e w2 ⟨rfl, g2⟩
          go_wp2
          go_ret2
          exact ⟨rfl, Gr.trans g1 g2⟩
      · have db : decide (b < 0) = false := by simp [sb]
        have eu : a * b = p := by rw [unhide hp]
        have u0 : 0 ≤ a * b := Int.mul_nonneg (by omega) (by omega)
        have ub : 1000000000000000 < a * b := by unfold NoAmt at hn; omega
        obtain ⟨H, L, EH, EL, hc⟩ := words_big _ ub
        clear eu u0 ub hp hn
        rcases hc with hc | ⟨rfl, hc⟩
        · go_enter Try.func9, Try.ntmps9
          go_wp2_with (first | (go_at_call 17; go_in) | (go_at_call 27; go_in) | fail)
          refine (product a b H L _ (by omega) (by omega) (by omega) (by omega) EH EL).mono ?_
          rintro e w1 ⟨rfl, g1⟩
          go_wp2_with fail
          refine (amount_high H L _ hc).mono ?_
          rintro e w2 ⟨rfl, g2⟩
          go_wp2
          go_ret2
          exact ⟨rfl, Gr.trans g1 g2⟩
        · go_enter Try.func9, Try.ntmps9
          go_wp2_with (first | (go_at_call 17; go_in) | (go_at_call 27; go_in) | fail)
          refine (product a b 0 L _ (by omega) (by omega) (by omega) (by omega) EH EL).mono ?_
          rintro e w1 ⟨rfl, g1⟩
          go_wp2_with fail
          refine (amount_low L _ hc).mono ?_
          rintro e w2 ⟨rfl, g2⟩
          go_wp2
          go_ret2
          exact ⟨rfl, Gr.trans g1 g2⟩

theorem not_over (A B u : Int) (hA : 0 < A) (e : A * B = u) (h : u ≤ 1000000000000000) : ¬ 1000000000000000 / A < B := by
  have := (Int.le_ediv_iff_mul_le hA (a := B) (b := 1000000000000000)).2 (by rw [Int.mul_comm, e]; exact h)
  omega

theorem over (A B u : Int) (hA : 0 < A) (e : A * B = u) (h : 1000000000000000 < u) : 1000000000000000 / A < B := by
  by_cases k : B ≤ 1000000000000000 / A
  · have := (Int.le_ediv_iff_mul_le hA (a := B) (b := 1000000000000000)).1 k
    rw [Int.mul_comm, e] at this
    omega
  · omega

theorem sAbs (x X : Int) (w : World) (hx : Amt x) (h : Hid ((x < 0 ∧ X = -x) ∨ (0 ≤ x ∧ X = x))) :
    Calls Try.prog 22 #[.int .i64 x] w fun e w' => e = .returned (.int .i64 X) ∧ w' = w := by
  obtain ⟨x1, x2⟩ := hx
  rcases unhide h with ⟨k, rfl⟩ | ⟨k, rfl⟩
  · clear h
    go_enter Try.func22, Try.ntmps22
    go_wp2
    go_ret
    exact ⟨rfl, rfl⟩
  · clear h
    go_enter Try.func22, Try.ntmps22
    go_wp2
    go_ret
    exact ⟨rfl, rfl⟩

theorem abs_is (x : Int) : ∃ X, Hid ((x < 0 ∧ X = -x) ∨ (0 ≤ x ∧ X = x)) := by
  by_cases h : x < 0
  · exact ⟨-x, hide (.inl ⟨h, rfl⟩)⟩
  · exact ⟨x, hide (.inr ⟨by omega, rfl⟩)⟩

/-- The product of the sizes is the size of the product. -/
theorem abs_mul (a b p A B : Int) (ha : Hid ((a < 0 ∧ A = -a) ∨ (0 ≤ a ∧ A = a))) (hb : Hid ((b < 0 ∧ B = -b) ∨ (0 ≤ b ∧ B = b))) (h : p = a * b) : 0 ≤ A * B ∧ (A * B = p ∨ A * B = -p) := by
  rcases unhide ha with ⟨h1, rfl⟩ | ⟨h1, rfl⟩
  · rcases unhide hb with ⟨h2, rfl⟩ | ⟨h2, rfl⟩
    · exact ⟨Int.mul_nonneg (by omega) (by omega), .inl (by rw [Int.neg_mul_neg, h])⟩
    · exact ⟨Int.mul_nonneg (by omega) (by omega), .inr (by rw [Int.neg_mul, h])⟩
  · rcases unhide hb with ⟨h2, rfl⟩ | ⟨h2, rfl⟩
    · exact ⟨Int.mul_nonneg (by omega) (by omega), .inr (by rw [Int.mul_neg, h])⟩
    · exact ⟨Int.mul_nonneg (by omega) (by omega), .inl h.symm⟩

set_option maxRecDepth 100000 in
theorem sMul_yes (a b p : Int) (w : World) (ha : Amt a) (hb : Amt b) (hp : Amt p) (h : Hid (p = a * b)) :
    Calls Try.prog 18 #[.int .i64 a, .int .i64 b] w fun e w' => e = .returned (.tuple #[.int .i64 p, .bool true]) ∧ w' = w := by
  obtain ⟨a1, a2⟩ := id ha
  obtain ⟨b1, b2⟩ := id hb
  obtain ⟨p1, p2⟩ := hp
  have ep : a * b = p := (unhide h).symm
  by_cases z : a = 0
  · subst z
    rw [Int.zero_mul] at ep
    subst ep
    clear h
    go_enter Try.func18, Try.ntmps18
    go_wp2
    go_ret2
    exact ⟨rfl, rfl⟩
  · have zb : (a != 0) = true := by simp [z]
    obtain ⟨A, hA⟩ := abs_is a
    obtain ⟨B, hB⟩ := abs_is b
    obtain ⟨u0, u1⟩ := abs_mul a b p A B hA hB (unhide h)
    have A0 : 1 ≤ A := by rcases unhide hA with k | k <;> omega
    have k := not_over A B (A * B) (by omega) rfl (by omega)
    clear h u0 u1
    go_enter Try.func18, Try.ntmps18
    go_wp2_with (first | (go_at_call 29; go_in) | (go_at_call 34; go_in) | fail)
    refine (sAbs b B _ hb hB).mono ?_
    rintro e w' ⟨rfl, rfl⟩
    go_wp2_with fail
    refine (sAbs a A _ ha hA).mono ?_
    rintro e w' ⟨rfl, rfl⟩
    go_wp2
    go_ret2
    exact ⟨rfl, rfl⟩

set_option maxRecDepth 100000 in
theorem sMul_no (a b p : Int) (w : World) (hp : Hid (p = a * b)) (h : Bad a b p) :
    Calls Try.prog 18 #[.int .i64 a, .int .i64 b] w fun e w' => e = .returned (.tuple #[.int .i64 0, .bool false]) ∧ w' = w := by
  rcases h with (h | ⟨h1, h2⟩) | ⟨⟨a1, a2⟩, (h | ⟨h1, h2⟩)⟩ | ⟨ha, hb, hn⟩
  iterate 4
    · go_enter Try.func18, Try.ntmps18
      go_wp2
      go_ret2
      exact ⟨rfl, rfl⟩
  · have z : a ≠ 0 := by
      intro z
      have ep := unhide hp
      rw [z, Int.zero_mul] at ep
      unfold NoAmt at hn
      omega
    have zb : (a != 0) = true := by simp [z]
    obtain ⟨A, hA⟩ := abs_is a
    obtain ⟨B, hB⟩ := abs_is b
    obtain ⟨u0, u1⟩ := abs_mul a b p A B hA hB (unhide hp)
    have A0 : 1 ≤ A := by rcases unhide hA with k | k <;> omega
    have k := over A B (A * B) (by omega) rfl (by unfold NoAmt at hn; omega)
    clear hp u0 u1 hn
    obtain ⟨a1, a2⟩ := id ha
    obtain ⟨b1, b2⟩ := id hb
    go_enter Try.func18, Try.ntmps18
    go_wp2_with (first | (go_at_call 29; go_in) | (go_at_call 34; go_in) | fail)
    refine (sAbs b B _ hb hB).mono ?_
    rintro e w' ⟨rfl, rfl⟩
    go_wp2_with fail
    refine (sAbs a A _ ha hA).mono ?_
    rintro e w' ⟨rfl, rfl⟩
    go_wp2
    go_ret2
    exact ⟨rfl, rfl⟩

theorem bad_or (a b s : Int) : (Amt a ∧ Amt b ∧ Amt s) ∨ Bad a b s := by
  unfold Bad
  rcases amt_or a with h | h
  · rcases amt_or b with k | k
    · rcases amt_or s with l | l
      · exact .inl ⟨h, k, l⟩
      · exact .inr (.inr (.inr ⟨h, k, l⟩))
    · exact .inr (.inr (.inl ⟨h, k⟩))
  · exact .inr (.inl h)

end Go.Proofs.Ythgpimkclpkapaa.ProdC
