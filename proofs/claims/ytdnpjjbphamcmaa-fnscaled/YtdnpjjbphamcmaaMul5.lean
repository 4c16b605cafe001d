/- Contracts of MulIn and MulDiv, the program's and the model's: the exact product where it is an amount, the exact quotient and rest where the quotient is one; 0 and false at all else. -/
import Derived.Test.YtdnpjjbphamcmaaSmall
namespace Go.Proofs.Ytdnpjjbphamcmaa.MulC
open Go.ChangeShapes Go.WideShapes Go.ChangeAt Go.RowKit Wide Small Plain
set_option linter.unusedVariables false

/-- What MulDiv tells: quotient and rest where the quotient is an amount, else nothing. -/
def Tells (a b c q r : Int) (ok : Bool) : Prop :=
  (a * b / c ≤ 1000000000000000 ∧ q = a * b / c ∧ r = a * b % c ∧ ok = true) ∨ (1000000000000000 < a * b / c ∧ q = 0 ∧ r = 0 ∧ ok = false)

theorem out (a b c q r x : Int) (ok : Bool) (k : Nat) (h : Tells a b c q r ok) (hx : x = Pn a b k / c) (a0 : 0 ≤ a) (b0 : 0 ≤ b) (hc : 0 < c) (hb : 1000000000000000 < x) : q = 0 ∧ r = 0 ∧ ok = false := by
  have := Pn_le a b c k a0 b0 hc
  rcases h with h | h
  · omega
  · exact h.2

theorem fin (a b c q r x y : Int) (ok : Bool) (h : Tells a b c q r ok) (hx : x = Pn a b 0 / c) (hy : y = Pn a b 0 % c) (hb : x ≤ 1000000000000000) : q = x ∧ r = y ∧ ok = true := by
  rw [Pn_zero] at hx hy
  rcases h with h | h
  · exact ⟨h.2.1.trans hx.symm, h.2.2.1.trans hy.symm, h.2.2.2⟩
  · omega

set_option maxRecDepth 100000 in
set_option maxHeartbeats 800000 in
theorem sMD (a b c q r : Int) (ok : Bool) (w : World) (a0 : 0 ≤ a) (a1 : a ≤ 1000000000000000) (b0 : 0 ≤ b) (b1 : b ≤ 1000000000000000) (c0 : 1 ≤ c) (c1 : c ≤ 1000000000000000) (ht : Hid (Tells a b c q r ok)) :
    Calls Try.prog 53 #[.int .i64 a, .int .i64 b, .int .i64 c] w fun e w' => e = .returned (.tuple #[.int .i64 q, .int .i64 r, .bool ok]) ∧ w' = w := by
  have u0 : 0 ≤ b / c := Int.ediv_nonneg b0 (by omega)
  have u1 : b / c ≤ 1000000000000000 := Int.le_trans (Int.ediv_le_self _ b0) b1
  have v0 : 0 ≤ b % c := Int.emod_nonneg _ (by omega)
  have v1 : b % c < c := Int.emod_lt_of_pos _ (by omega)
  have S := hide (show (0 : Int) = Pn a b 51 / c ∧ (0 : Int) = Pn a b 51 % c by rw [Pn_start a b a0 a1, Int.zero_ediv, Int.zero_emod]; exact ⟨rfl, rfl⟩)
  go_enter Try.func53, Try.ntmps53
  go_wp2
  go_loop [9, 10, 11] (fun q r i => ∃ (n : Nat) (x y : Int), n ≤ 51 ∧ i = .int .i64 ((n : Int) - 1) ∧ q = .int .i64 x ∧ r = .int .i64 y ∧ 0 ≤ x ∧ x ≤ 1000000000000000 ∧ 0 ≤ y ∧ y < c ∧ Hid (x = Pn a b n / c ∧ y = Pn a b n % c))
    (fun _ _ i => (intOf i + 1).toNat)
  case atStart => exact ⟨51, 0, 0, by omega, by go_num, rfl, rfl, by omega, by omega, by omega, by omega, S⟩
  case round =>
    obtain ⟨n, x, y, hn, rfl, rfl, rfl, x0, x1, y0, y1, HD⟩ := hrel
    clear S
    by_cases hlt : 1 ≤ n
    · obtain ⟨k, rfl⟩ : ∃ k, n = k + 1 := ⟨n - 1, by omega⟩
      have D := hide (double a b c x y k (by omega) (unhide HD).1 (unhide HD).2)
      have ps := hide (Pn_step a b k)
      rcases bit a k with ⟨m0, mb⟩ | ⟨m0, mb⟩
      · have ps' := unhide ps
        rw [m0, Int.zero_mul, Int.add_zero] at ps'
        have PS := hide ps'
        clear ps ps' m0
        by_cases t : c ≤ 2 * y
        · have f := (unhide D).2 t
          rw [← unhide PS] at f
          have F := hide f
          have O := hide (out a b c q r (2 * x + 1) ok k (unhide ht) f.1 a0 b0 (by omega))
          clear f D PS HD ht
          go_wp2
          · have hb : 1000000000000000 < 2 * x + 1 := by assumption
            obtain ⟨e1, e2, e3⟩ := (unhide O) hb
            go_ret3
            exact ⟨by rw [e1, e2, e3]; rfl, rfl⟩
          · go_round
            case rel => exact ⟨k, 2 * x + 1, 2 * y - c, by omega, by go_num, rfl, rfl, by omega, by assumption, by omega, by omega, F⟩
            case measure => simp [intOf]
        · have f := (unhide D).1 (by omega)
          rw [← unhide PS] at f
          have F := hide f
          have O := hide (out a b c q r (2 * x) ok k (unhide ht) f.1 a0 b0 (by omega))
          clear f D PS HD ht
          go_wp2
          · have hb : 1000000000000000 < 2 * x := by assumption
            obtain ⟨e1, e2, e3⟩ := (unhide O) hb
            go_ret3
            exact ⟨by rw [e1, e2, e3]; rfl, rfl⟩
          · go_round
            case rel => exact ⟨k, 2 * x, 2 * y, by omega, by go_num, rfl, rfl, by omega, by assumption, by omega, by omega, F⟩
            case measure => simp [intOf]
      · have ps' := unhide ps
        rw [m0, Int.one_mul] at ps'
        have PS := hide ps'
        clear ps ps' m0
        by_cases t : c ≤ 2 * y
        · have g := (unhide D).2 t
          have h := step_add (2 * Pn a b (k + 1)) b c (2 * x + 1) (2 * y - c) (by omega) g.1 g.2
          rw [← unhide PS] at h
          have A := hide h
          clear g h D
          by_cases s : c ≤ 2 * y - c + b % c
          · have f := (unhide A).2 s
            have F := hide f
            have O := hide (out a b c q r (2 * x + 1 + b / c + 1) ok k (unhide ht) f.1 a0 b0 (by omega))
            clear f A PS HD ht
            go_wp2
            · have hb : 1000000000000000 < 2 * x + 1 + b / c + 1 := by assumption
              obtain ⟨e1, e2, e3⟩ := (unhide O) hb
              go_ret3
              exact ⟨by rw [e1, e2, e3]; rfl, rfl⟩
            · go_round
              case rel => exact ⟨k, 2 * x + 1 + b / c + 1, 2 * y - c + b % c - c, by omega, by go_num, rfl, rfl, by omega, by assumption, by omega, by omega, F⟩
              case measure => simp [intOf]
          · have f := (unhide A).1 (by omega)
            have F := hide f
            have O := hide (out a b c q r (2 * x + 1 + b / c) ok k (unhide ht) f.1 a0 b0 (by omega))
            clear f A PS HD ht
            go_wp2
            · have hb : 1000000000000000 < 2 * x + 1 + b / c := by assumption
              obtain ⟨e1, e2, e3⟩ := (unhide O) hb
              go_ret3
              exact ⟨by rw [e1, e2, e3]; rfl, rfl⟩
            · go_round
              case rel => exact ⟨k, 2 * x + 1 + b / c, 2 * y - c + b % c, by omega, by go_num, rfl, rfl, by omega, by assumption, by omega, by omega, F⟩
              case measure => simp [intOf]
        · have g := (unhide D).1 (by omega)
          have h := step_add (2 * Pn a b (k + 1)) b c (2 * x) (2 * y) (by omega) g.1 g.2
          rw [← unhide PS] at h
          have A := hide h
          clear g h D
          by_cases s : c ≤ 2 * y + b % c
          · have f := (unhide A).2 s
            have F := hide f
            have O := hide (out a b c q r (2 * x + b / c + 1) ok k (unhide ht) f.1 a0 b0 (by omega))
            clear f A PS HD ht
            go_wp2
            · have hb : 1000000000000000 < 2 * x + b / c + 1 := by assumption
              obtain ⟨e1, e2, e3⟩ := (unhide O) hb
              go_ret3
              exact ⟨by rw [e1, e2, e3]; rfl, rfl⟩
            · go_round
              case rel => exact ⟨k, 2 * x + b / c + 1, 2 * y + b % c - c, by omega, by go_num, rfl, rfl, by omega, by assumption, by omega, by omega, F⟩
              case measure => simp [intOf]
          · have f := (unhide A).1 (by omega)
            have F := hide f
            have O := hide (out a b c q r (2 * x + b / c) ok k (unhide ht) f.1 a0 b0 (by omega))
            clear f A PS HD ht
            go_wp2
            · have hb : 1000000000000000 < 2 * x + b / c := by assumption
              obtain ⟨e1, e2, e3⟩ := (unhide O) hb
              go_ret3
              exact ⟨by rw [e1, e2, e3]; rfl, rfl⟩
            · go_round
              case rel => exact ⟨k, 2 * x + b / c, 2 * y + b % c, by omega, by go_num, rfl, rfl, by omega, by assumption, by omega, by omega, F⟩
              case measure => simp [intOf]
    · obtain rfl : n = 0 := by omega
      have E := hide (fin a b c q r x y ok (unhide ht) (unhide HD).1 (unhide HD).2 x1)
      clear HD ht
      go_wp2
      obtain ⟨e1, e2, e3⟩ := unhide E
      go_ret3
      exact ⟨by rw [e1, e2, e3]; rfl, rfl⟩

/-- What is no argument of MulDiv. -/
def MDBad (a b c : Int) : Prop :=
  ¬ 0 ≤ a ∨ (0 ≤ a ∧ ¬ a ≤ 1000000000000000) ∨ ((0 ≤ a ∧ a ≤ 1000000000000000) ∧ ¬ 0 ≤ b) ∨ ((0 ≤ a ∧ a ≤ 1000000000000000) ∧ 0 ≤ b ∧ ¬ b ≤ 1000000000000000) ∨
  ((0 ≤ a ∧ a ≤ 1000000000000000) ∧ (0 ≤ b ∧ b ≤ 1000000000000000) ∧ ¬ 1 ≤ c) ∨ ((0 ≤ a ∧ a ≤ 1000000000000000) ∧ (0 ≤ b ∧ b ≤ 1000000000000000) ∧ 1 ≤ c ∧ ¬ c ≤ 1000000000000000)

theorem md_or (a b c : Int) : (0 ≤ a ∧ a ≤ 1000000000000000 ∧ 0 ≤ b ∧ b ≤ 1000000000000000 ∧ 1 ≤ c ∧ c ≤ 1000000000000000) ∨ MDBad a b c := by
  unfold MDBad; omega

set_option maxRecDepth 100000 in
theorem sMD_no (a b c : Int) (w : World) (h : MDBad a b c) :
    Calls Try.prog 53 #[.int .i64 a, .int .i64 b, .int .i64 c] w fun e w' => e = .returned (.tuple #[.int .i64 0, .int .i64 0, .bool false]) ∧ w' = w := by
  rcases h with h | ⟨h1, h2⟩ | ⟨⟨a0, a1⟩, h⟩ | ⟨⟨a0, a1⟩, h1, h2⟩ | ⟨⟨a0, a1⟩, ⟨b0, b1⟩, h⟩ | ⟨⟨a0, a1⟩, ⟨b0, b1⟩, h1, h2⟩
  all_goals
    go_enter Try.func53, Try.ntmps53
    go_wp2
    go_ret3
    exact ⟨rfl, rfl⟩

set_option maxRecDepth 100000 in
theorem iMD_no (a b c : Int) (w : World) (h : MDBad a b c) :
    Calls Try.prog 84 #[.int .i64 a, .int .i64 b, .int .i64 c] w fun e w' => e = .returned (.tuple #[.int .i64 0, .int .i64 0, .bool false]) ∧ w' = w := by
  have k : NoAmt a ∨ (Amt a ∧ NoAmt b) ∨ (Amt a ∧ Amt b ∧ NoAmt c) ∨ (Amt a ∧ Amt b ∧ Amt c ∧ a < 0) ∨ (Amt a ∧ Amt b ∧ Amt c ∧ 0 ≤ a ∧ b < 0) ∨ (Amt a ∧ Amt b ∧ Amt c ∧ 0 ≤ a ∧ 0 ≤ b ∧ c < 1) := by
    unfold Amt NoAmt; unfold MDBad at h; omega
  clear h
  rcases k with (h | ⟨h1, h2⟩) | ⟨⟨a1, a2⟩, (h | ⟨h1, h2⟩)⟩ | ⟨⟨a1, a2⟩, ⟨b1, b2⟩, (h | ⟨h1, h2⟩)⟩ | ⟨⟨a1, a2⟩, ⟨b1, b2⟩, ⟨c1, c2⟩, h⟩ | ⟨⟨a1, a2⟩, ⟨b1, b2⟩, ⟨c1, c2⟩, h, h'⟩ | ⟨⟨a1, a2⟩, ⟨b1, b2⟩, ⟨c1, c2⟩, h, h', h''⟩
  all_goals
    go_enter Try.func84, Try.ntmps84
    go_wp2
    go_ret3
    exact ⟨rfl, rfl⟩

theorem prod_bd (a b H L : Int) (a0 : 0 ≤ a) (a1 : a ≤ 1000000000000000) (b0 : 0 ≤ b) (b1 : b ≤ 1000000000000000) (hH : H = a * b / 18446744073709551616) (hL : L = a * b % 18446744073709551616) :
    0 ≤ H ∧ H ≤ 18446744073709551615 ∧ 0 ≤ L ∧ L ≤ 18446744073709551615 := by
  have := mul_bd a0 a1 b0 b1
  omega

set_option maxRecDepth 100000 in
theorem iMD (a b c q r : Int) (ok : Bool) (w : World) (a0 : 0 ≤ a) (a1 : a ≤ 1000000000000000) (b0 : 0 ≤ b) (b1 : b ≤ 1000000000000000) (c0 : 1 ≤ c) (c1 : c ≤ 1000000000000000) (ht : Hid (Tells a b c q r ok)) :
    Calls Try.prog 84 #[.int .i64 a, .int .i64 b, .int .i64 c] w fun e w' => e = .returned (.tuple #[.int .i64 q, .int .i64 r, .bool ok]) ∧ Gr w w' := by
  obtain ⟨H, hH⟩ : ∃ H, H = a * b / 18446744073709551616 := ⟨_, rfl⟩
  obtain ⟨L, hL⟩ : ∃ L, L = a * b % 18446744073709551616 := ⟨_, rfl⟩
  obtain ⟨H0, H1, L0, L1⟩ := prod_bd a b H L a0 a1 b0 b1 hH hL
  obtain ⟨l1, l2⟩ := long (a * b) c (by omega)
  rw [← hH, ← hL] at l1 l2
  obtain ⟨h, hh⟩ : ∃ h, h = H / c := ⟨_, rfl⟩
  obtain ⟨x, hx⟩ : ∃ x, x = V H L c 64 / c := ⟨_, rfl⟩
  obtain ⟨y, hy⟩ : ∃ y, y = V H L c 64 % c := ⟨_, rfl⟩
  rw [← hh, ← hx] at l1
  rw [← hy] at l2
  have h0 : 0 ≤ h := by rw [hh]; exact Int.ediv_nonneg H0 (by omega)
  have x0 : 0 ≤ x := by rw [hx]; exact Int.ediv_nonneg (V_bound H L c 64 (by omega) (by omega) L0 L1).1 (by omega)
  have y0 : 0 ≤ y := by rw [hy]; exact Int.emod_nonneg _ (by omega)
  have y1 : y < c := by rw [hy]; exact Int.emod_lt_of_pos _ (by omega)
  have t := unhide ht
  unfold Tells at t
  rw [l1, l2] at t
  have T := hide t
  have EH := hide hH
  have EL := hide hL
  have Eh := hide hh
  have Ex := hide hx
  have Ey := hide hy
  clear hH hL hh hx hy l1 l2 t ht
  by_cases z : h = 0
  · by_cases s : x ≤ 1000000000000000
    · have T2 : Hid (q = x ∧ r = y ∧ ok = true) := by
        rcases unhide T with k | k
        · exact hide ⟨by omega, k.2.2.1, k.2.2.2⟩
        · omega
      subst z
      clear T
      go_enter Try.func84, Try.ntmps84
      go_wp2_with (first | (go_at_call 37; go_in) | fail)
      refine (product a b H L _ a0 b0 a1 b1 EH EL).mono ?_
      rintro e w1 ⟨rfl, g1⟩
      go_wp2_with fail
      refine (divide H L c 0 x y _ H0 H1 L0 L1 c0 c1 Eh Ex Ey).mono ?_
      rintro e w2 ⟨rfl, g2⟩
      go_wp2_with fail
      refine (amount_yes x _ x0 s).mono ?_
      rintro e w3 ⟨rfl, g3⟩
      go_wp2
      obtain ⟨e1, e2, e3⟩ := unhide T2
      go_ret3
      exact ⟨by rw [e1, e2, e3]; rfl, Gr.trans g1 (Gr.trans g2 (Gr.trans (Gr.alloc (Gr.refl _) _ _) g3))⟩
    · have T2 : Hid (q = 0 ∧ r = 0 ∧ ok = false) := by
        rcases unhide T with k | k
        · omega
        · exact hide k.2
      subst z
      clear T
      go_enter Try.func84, Try.ntmps84
      go_wp2_with (first | (go_at_call 37; go_in) | fail)
      refine (product a b H L _ a0 b0 a1 b1 EH EL).mono ?_
      rintro e w1 ⟨rfl, g1⟩
      go_wp2_with fail
      refine (divide H L c 0 x y _ H0 H1 L0 L1 c0 c1 Eh Ex Ey).mono ?_
      rintro e w2 ⟨rfl, g2⟩
      go_wp2_with fail
      refine (amount_low x _ (by omega)).mono ?_
      rintro e w3 ⟨rfl, g3⟩
      go_wp2
      obtain ⟨e1, e2, e3⟩ := unhide T2
      go_ret3
      exact ⟨by rw [e1, e2, e3]; rfl, Gr.trans g1 (Gr.trans g2 (Gr.trans (Gr.alloc (Gr.refl _) _ _) g3))⟩
  · have T2 : Hid (q = 0 ∧ r = 0 ∧ ok = false) := by
      rcases unhide T with k | k
      · omega
      · exact hide k.2
    clear T
    go_enter Try.func84, Try.ntmps84
    go_wp2_with (first | (go_at_call 37; go_in) | fail)
    refine (product a b H L _ a0 b0 a1 b1 EH EL).mono ?_
    rintro e w1 ⟨rfl, g1⟩
    go_wp2_with fail
    refine (divide H L c h x y _ H0 H1 L0 L1 c0 c1 Eh Ex Ey).mono ?_
    rintro e w2 ⟨rfl, g2⟩
    go_wp2_with fail
    refine (amount_high h x _ (by omega)).mono ?_
    rintro e w3 ⟨rfl, g3⟩
    go_wp2
    obtain ⟨e1, e2, e3⟩ := unhide T2
    go_ret3
    exact ⟨by rw [e1, e2, e3]; rfl, Gr.trans g1 (Gr.trans g2 (Gr.trans (Gr.alloc (Gr.refl _) _ _) g3))⟩

end Go.Proofs.Ytdnpjjbphamcmaa.MulC
