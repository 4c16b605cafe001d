/- Contract of the program's LotOpen. Condition: a list of at most 2^20 lots. -/
import Derived.Test.YtdnpjjbphamcmaaSOpen
import Derived.Test.YtdnpjjbphamcmaaConcat5
import Derived.Test.YtdnpjjbphamcmaaIOf
namespace Go.Proofs.Ytdnpjjbphamcmaa.IOpen
open Go.ChangeShapes Go.WideShapes Go.ChangeAt Go.RowKit Tup5 Lots Takes Cmp IOk5 Quieter IPlace5 ICut Cat5 Concat5 SOpen IOf
set_option linter.unusedVariables false
set_option linter.unusedSimpArgs false

theorem right_one (l : T5) : Right [l] ↔ One l := by
  constructor
  · intro h
    exact (h.2.1 0 (by simp)).1
  · intro h
    refine ⟨by simp, fun i hi => ?_, fun a i => ?_⟩
    · obtain rfl : i = 0 := by simpa using hi
      exact ⟨h, fun h0 => absurd h0 (by omega)⟩
    · obtain ⟨_, _, _, h4, h5⟩ := h
      simp only [qtyOf, costOf]
      constructor
      · split <;> omega
      · split <;> omega

set_option maxRecDepth 100000 in
set_option maxHeartbeats 2000000 in
theorem iOpen (w : World) (g n cap : Nat) (ps R : List T5) (x0 x1 x2 x3 x4 : Int) (ok okl okn : Bool) (hR : Hid (R = mergeL (n + 1) ps [(x0, x1, x2, x3, x4)])) (hl : ps.length = n) (h20 : n ≤ 1048576) (hc : n ≤ cap) (hcm : cap ≤ 9223372036854775807) (hg : g < w.heap.size) (h : At5 w g ps) (hok : Says ok (Right ps)) (hkl : Says okl (One (x0, x1, x2, x3, x4))) (hkn : Says okn (Right R)) :
    Calls Try.prog 29 #[.slice (some ⟨g, 0, none⟩) n cap, .agg #[.int .i64 x0, .int .i64 x1, .int .i64 x2, .int .i64 x3, .int .i64 x4]] w fun e w' => ∃ g' c', e = .returned (.tuple #[.slice (some ⟨g', 0, none⟩) (openA ps R ok okl okn).length c', .int .i64 (openC ok okl okn)]) ∧ Own5 40 w' w.heap.size g' (openA ps R ok okl okn).length c' (openA ps R ok okl okn) ∧ Below w.heap.size w w' := by
  have RL : R.length = n + 1 := by rw [unhide hR, merge_len _ _ _ (by simp; omega), hl]; rfl
  have B0 := hide (show Below w.heap.size w (w.alloc (.cells #[.int .i64 x0, .int .i64 x1, .int .i64 x2, .int .i64 x3, .int .i64 x4] 40)) from (Below.refl _ _).alloc (Nat.le_refl _) _)
  have A0 := hide (h.below (unhide B0) hg)
  have X0 := hide (show Holds5 (w.alloc (.cells #[.int .i64 x0, .int .i64 x1, .int .i64 x2, .int .i64 x3, .int .i64 x4] 40)) w.heap.size 0 (x0, x1, x2, x3, x4) from by unfold Holds5; simp)
  have hs : w.heap.size < (w.alloc (.cells #[.int .i64 x0, .int .i64 x1, .int .i64 x2, .int .i64 x3, .int .i64 x4] 40)).heap.size := by simp
  have hg0 : g < (w.alloc (.cells #[.int .i64 x0, .int .i64 x1, .int .i64 x2, .int .i64 x3, .int .i64 x4] 40)).heap.size := by simp; omega
  clear h
  go_enter Try.func29, Try.ntmps29
  go_wp2_with fail
  generalize w.alloc (.cells #[.int .i64 x0, .int .i64 x1, .int .i64 x2, .int .i64 x3, .int .i64 x4] 40) = u at *
  refine (iOk u g n cap ps ok hl h20 hg0 (unhide A0) hok).mono ?_
  rintro e w1 ⟨rfl, b1⟩
  have B1 := hide ((unhide B0).trans (b1.mono (unhide B0).size))
  have A1 := hide ((unhide A0).below b1 hg0)
  have X1 := hide ((unhide X0).below b1 hs)
  have hs1 := Nat.lt_of_lt_of_le hs b1.size
  have hg1 := Nat.lt_of_lt_of_le hg0 b1.size
  clear b1 B0 A0 X0 hs hg0
  cases ok
  · have EE := open_bad ps R (ok := false) (okl := okl) okn (.inl rfl)
    have O1 := hide (lit50 40 w1 w.heap.size (unhide B1).size)
    have B2 := hide ((unhide B1).alloc (unhide B1).size (.cells #[] 40))
    go_wp2
    go_ret2
    rw [EE.1, EE.2]
    exact ⟨w1.heap.size, 0, rfl, unhide O1, unhide B2⟩
  obtain ⟨c0, c1, c2, c3, c4⟩ := at0 (unhide X1)
  have V1 := hide (lit51 40 w1 w1.heap.size x0 x1 x2 x3 x4 (Nat.le_refl _))
  have one := (Below.refl w1.heap.size w1).alloc (Nat.le_refl _) (.cells #[.int .i64 x0, .int .i64 x1, .int .i64 x2, .int .i64 x3, .int .i64 x4] 40)
  have A1 := hide ((unhide A1).below one hg1)
  have X1 := hide ((unhide X1).below one hs1)
  have B1 := hide ((unhide B1).alloc (unhide B1).size (.cells #[.int .i64 x0, .int .i64 x1, .int .i64 x2, .int .i64 x3, .int .i64 x4] 40))
  have hs1 := Nat.lt_of_lt_of_le hs1 one.size
  have hg1 := Nat.lt_of_lt_of_le hg1 one.size
  have HK : Says okl (Right [(x0, x1, x2, x3, x4)]) := ⟨fun e => (right_one _).2 (hkl.1 e), fun r => hkl.2 ((right_one _).1 r)⟩
  clear one
  go_wp2_with fail
  generalize w1.alloc (.cells #[.int .i64 x0, .int .i64 x1, .int .i64 x2, .int .i64 x3, .int .i64 x4] 40) = u1 at *
  obtain ⟨vb, VB⟩ : ∃ vb, Hid (vb = w1.heap.size) := ⟨_, rfl⟩
  rw [← unhide VB] at V1 ⊢
  refine (iOk u1 vb 1 1 [(x0, x1, x2, x3, x4)] okl rfl (by omega) (unhide V1).lt.2 (unhide V1).at HK).mono ?_
  rintro e w2 ⟨rfl, b2⟩
  have B2 := hide ((unhide B1).trans (b2.mono (unhide B1).size))
  have A2 := hide ((unhide A1).below b2 hg1)
  have X2 := hide ((unhide X1).below b2 hs1)
  have hs2 := Nat.lt_of_lt_of_le hs1 b2.size
  have hg2 := Nat.lt_of_lt_of_le hg1 b2.size
  clear b2 B1 A1 X1 hs1 hg1 c0 c1 c2 c3 c4 V1 HK
  cases okl
  · have EE := open_bad ps R (ok := true) (okl := false) okn (.inr rfl)
    have O1 := hide (lit50 40 w2 w.heap.size (unhide B2).size)
    have B3 := hide ((unhide B2).alloc (unhide B2).size (.cells #[] 40))
    go_wp2
    go_ret2
    rw [EE.1, EE.2]
    exact ⟨w2.heap.size, 0, rfl, unhide O1, unhide B3⟩
  have n120 := hok.yes.1
  have ASC := hide (asc_right hok.yes)
  obtain ⟨c0, c1, c2, c3, c4⟩ := at0 (unhide X2)
  go_wp2_with fail
  refine (iSearchL w2 g n cap ps x0 x1 x2 x3 x4 hl h20 hg2 (unhide A2) ASC).mono ?_
  rintro e w3 ⟨c, ff, pl, rfl, b3⟩
  have cn : c ≤ n := by have := pl.1; omega
  have OM0 := hide (open_merge (n := n + 1) pl (by omega))
  have OM := hide ((unhide hR).trans (unhide OM0))
  clear OM0
  have B3 := hide ((unhide B2).trans (b3.mono (unhide B2).size))
  have A3 := hide ((unhide A2).below b3 hg2)
  have X3 := hide ((unhide X2).below b3 hs2)
  have hs3 := Nat.lt_of_lt_of_le hs2 b3.size
  have hg3 := Nat.lt_of_lt_of_le hg2 b3.size
  clear pl b3 B2 A2 X2 hs2 hg2 c0 c1 c2 c3 c4 ASC
  obtain ⟨c0, c1, c2, c3, c4⟩ := at0 (unhide X3)
  have j1 : (c : Int) ≤ (n : Int) := by omega
  have j2 : (c : Int) ≤ (cap : Int) := by omega
  have j3 : (n : Int) ≤ (cap : Int) := by omega
  go_wp2_with fail
  by_cases ec : cap = c
  · obtain rfl : c = n := by omega
    subst ec
    go_region_held3 (fun w' => w'.cell? ⟨w.heap.size, 0, none⟩ = some (.int .i64 x0) ∧ w'.cell? ⟨w.heap.size, 1, none⟩ = some (.int .i64 x1) ∧ w'.cell? ⟨w.heap.size, 2, none⟩ = some (.int .i64 x2) ∧ w'.cell? ⟨w.heap.size, 3, none⟩ = some (.int .i64 x3) ∧ w'.cell? ⟨w.heap.size, 4, none⟩ = some (.int .i64 x4)) (go_keep)
      (first | (go_at_call 60; refine (iConcat _ (w3.heap.size + 1) g 0 cap cap w3.heap.size 0 1 1 g 0 0 0 (ps.take cap) [(x0, x1, x2, x3, x4)] (ps.drop cap) (by simp; omega) rfl (by simp; omega) (by omega) ?_ ?_ ?_ ?_ ?_ ?_ ?_ ?_ ?_ ?_).mono ?_; (simp); (simp; omega); (simp; try omega); (simp; omega); (exact o_take ((unhide A3).below (by repeat (first | exact Below.refl _ _ | refine Below.alloc ?_ (by simp; try omega) _ | refine Below.drew ?_)) hg3) cap); (intro i hi; obtain rfl : i = 0 := (by simpa using hi); unfold Holds5; simp); (exact o_nil (by simp; omega)); (simp); (simp); (simp); rintro e w4 ⟨v, rfl, ov, b4⟩; have BW4 : Below w3.heap.size w3 w4 := Below.trans (show Below w3.heap.size w3 _ from (by repeat (first | exact Below.refl _ _ | refine Below.alloc ?_ (by simp; try omega) _ | refine Below.drew ?_))) (b4.mono (by simp; omega)); obtain ⟨d0, d1, d2, d3, d4⟩ := at0 ((unhide X3).below BW4 hs3)))
    have OV := hide (show OwnV 40 w4 w.heap.size v R from by
      rw [unhide OM]
      exact ov.rebase (Nat.le_trans (unhide B3).size (by simp; try omega)))
    have B4 := hide ((unhide B3).trans (BW4.mono (unhide B3).size))
    have A4 := hide ((unhide A3).below BW4 hg3)
    have hg4 := Nat.lt_of_lt_of_le hg3 BW4.size
    clear ov b4 BW4 d0 d1 d2 d3 d4 c0 c1 c2 c3 c4 X3 A3 B3
    rcases (unhide OV).cases with ⟨_, e⟩ | ⟨g4, c4', rfl, o4⟩
    · exact absurd RL (by rw [e]; simp)
    have O4 := hide o4
    rw [RL] at O4
    clear o4 OV
    rw [RL]
    go_wp2_with fail
    refine (iOk w4 g4 (cap + 1) c4' R okn RL (by omega) (unhide O4).lt.2 (unhide O4).at hkn).mono ?_
    rintro e w5 ⟨rfl, b5⟩
    have O5 := hide ((unhide O4).below b5 (unhide O4).lt.2)
    have B5 := hide ((unhide B4).trans (b5.mono (unhide B4).size))
    have A5 := hide ((unhide A4).below b5 hg4)
    have hg5 := Nat.lt_of_lt_of_le hg4 b5.size
    clear b5 O4 B4 A4 hg4
    cases okn
    · have EA : openA ps R true true false = ps := by simp [openA]
      have EC : openC true true false = 3 := by simp [openC]
      have L1 := hide (lit50 40 w5 w.heap.size (unhide B5).size)
      have B6 := hide ((unhide B5).alloc (unhide B5).size (.cells #[] 40))
      have A6 := hide ((unhide A5).below ((Below.refl w5.heap.size w5).alloc (Nat.le_refl _) (.cells #[] 40)) hg5)
      have bs := (unhide B6).size
      go_wp2_with (first | (at_builtin; refine wp_copyO _ rfl _ _ rfl w.heap.size w5.heap.size 0 cap ps g 0 cap rfl rfl (unhide L1) hl (at_o (unhide A6)) (by omega) bs ?_) | go_in)
      intro g7 c7 w7 o7 gr7 loc7
      have O7 := hide o7
      have B7 := hide ((unhide B6).grown gr7 bs (fun j hj => by cases hj; exact (unhide L1).lt.1))
      clear o7 gr7 loc7
      go_wp2
      go_ret2
      rw [EA, EC, hl]
      exact ⟨g7, c7, rfl, unhide O7, unhide B7⟩
    · have EA : openA ps R true true true = R := by simp [openA]
      have EC : openC true true true = 0 := by simp [openC]
      go_wp2
      go_ret2
      rw [EA, EC, RL]
      exact ⟨g4, c4', rfl, unhide O5, unhide B5⟩
  · have ec2 : ¬ c = cap := fun e => ec e.symm
    go_region_held3 (fun w' => w'.cell? ⟨w.heap.size, 0, none⟩ = some (.int .i64 x0) ∧ w'.cell? ⟨w.heap.size, 1, none⟩ = some (.int .i64 x1) ∧ w'.cell? ⟨w.heap.size, 2, none⟩ = some (.int .i64 x2) ∧ w'.cell? ⟨w.heap.size, 3, none⟩ = some (.int .i64 x3) ∧ w'.cell? ⟨w.heap.size, 4, none⟩ = some (.int .i64 x4)) (go_keep)
      (first | (go_at_call 60; refine (iConcat _ (w3.heap.size + 1) g 0 c cap w3.heap.size 0 1 1 g (c * 5) (n - c) (cap - c) (ps.take c) [(x0, x1, x2, x3, x4)] (ps.drop c) (by simp; omega) rfl (by simp; omega) (by omega) ?_ ?_ ?_ ?_ ?_ ?_ ?_ ?_ ?_ ?_).mono ?_; (simp); (simp; omega); (simp; try omega); (simp; omega); (exact o_take ((unhide A3).below (by repeat (first | exact Below.refl _ _ | refine Below.alloc ?_ (by simp; try omega) _ | refine Below.drew ?_)) hg3) c); (intro i hi; obtain rfl : i = 0 := (by simpa using hi); unfold Holds5; simp); (exact o_drop ((unhide A3).below (by repeat (first | exact Below.refl _ _ | refine Below.alloc ?_ (by simp; try omega) _ | refine Below.drew ?_)) hg3) c); (simp); (simp); (simp); rintro e w4 ⟨v, rfl, ov, b4⟩; have BW4 : Below w3.heap.size w3 w4 := Below.trans (show Below w3.heap.size w3 _ from (by repeat (first | exact Below.refl _ _ | refine Below.alloc ?_ (by simp; try omega) _ | refine Below.drew ?_))) (b4.mono (by simp; omega)); obtain ⟨d0, d1, d2, d3, d4⟩ := at0 ((unhide X3).below BW4 hs3)))
    have OV := hide (show OwnV 40 w4 w.heap.size v R from by
      rw [unhide OM]
      exact ov.rebase (Nat.le_trans (unhide B3).size (by simp; try omega)))
    have B4 := hide ((unhide B3).trans (BW4.mono (unhide B3).size))
    have A4 := hide ((unhide A3).below BW4 hg3)
    have hg4 := Nat.lt_of_lt_of_le hg3 BW4.size
    clear ov b4 BW4 d0 d1 d2 d3 d4 c0 c1 c2 c3 c4 X3 A3 B3
    rcases (unhide OV).cases with ⟨_, e⟩ | ⟨g4, c4', rfl, o4⟩
    · exact absurd RL (by rw [e]; simp)
    have O4 := hide o4
    rw [RL] at O4
    clear o4 OV
    rw [RL]
    go_wp2_with fail
    refine (iOk w4 g4 (n + 1) c4' R okn RL (by omega) (unhide O4).lt.2 (unhide O4).at hkn).mono ?_
    rintro e w5 ⟨rfl, b5⟩
    have O5 := hide ((unhide O4).below b5 (unhide O4).lt.2)
    have B5 := hide ((unhide B4).trans (b5.mono (unhide B4).size))
    have A5 := hide ((unhide A4).below b5 hg4)
    have hg5 := Nat.lt_of_lt_of_le hg4 b5.size
    clear b5 O4 B4 A4 hg4
    cases okn
    · have EA : openA ps R true true false = ps := by simp [openA]
      have EC : openC true true false = 3 := by simp [openC]
      have L1 := hide (lit50 40 w5 w.heap.size (unhide B5).size)
      have B6 := hide ((unhide B5).alloc (unhide B5).size (.cells #[] 40))
      have A6 := hide ((unhide A5).below ((Below.refl w5.heap.size w5).alloc (Nat.le_refl _) (.cells #[] 40)) hg5)
      have bs := (unhide B6).size
      go_wp2_with (first | (at_builtin; refine wp_copyO _ rfl _ _ rfl w.heap.size w5.heap.size 0 n ps g 0 cap rfl rfl (unhide L1) hl (at_o (unhide A6)) (by omega) bs ?_) | go_in)
      intro g7 c7 w7 o7 gr7 loc7
      have O7 := hide o7
      have B7 := hide ((unhide B6).grown gr7 bs (fun j hj => by cases hj; exact (unhide L1).lt.1))
      clear o7 gr7 loc7
      go_wp2
      go_ret2
      rw [EA, EC, hl]
      exact ⟨g7, c7, rfl, unhide O7, unhide B7⟩
    · have EA : openA ps R true true true = R := by simp [openA]
      have EC : openC true true true = 0 := by simp [openC]
      go_wp2
      go_ret2
      rw [EA, EC, RL]
      exact ⟨g4, c4', rfl, unhide O5, unhide B5⟩

end Go.Proofs.Ytdnpjjbphamcmaa.IOpen
