/- Contract of the model's LotOpen. Condition: a list of at most 2^20 lots. -/
import Derived.Test.YtdnpjjbphamcmaaSOf
import Derived.Test.YtdnpjjbphamcmaaCat5
namespace Go.Proofs.Ytdnpjjbphamcmaa.SOpen
open Go.ChangeShapes Go.WideShapes Go.ChangeAt Go.RowKit Tup5 Lots Takes SOk5 SSplit Quieter ICut Cat5
open Cmp (at0)
set_option linter.unusedVariables false
set_option linter.unusedSimpArgs false

/-- What LotOpen answers: the list, and the code. -/
def openA (ps R : List T5) (ok okl okn : Bool) : List T5 := if ok = true ∧ okl = true then (if okn = true then R else ps) else []
def openC (ok okl okn : Bool) : Int := if ok = true ∧ okl = true then (if okn = true then 0 else 3) else 1

theorem open_bad (ps R : List T5) {ok okl : Bool} (okn : Bool) (h : ok = false ∨ okl = false) : openA ps R ok okl okn = [] ∧ openC ok okl okn = 1 := by
  unfold openA openC
  have n : ¬ (ok = true ∧ okl = true) := by rcases h with h | h <;> simp [h]
  rw [if_neg n, if_neg n]
  exact ⟨rfl, rfl⟩

theorem open_len {ps R : List T5} {ok : Bool} (okl okn : Bool) (h : Says ok (Right ps)) (hR : R.length = ps.length + 1) : (openA ps R ok okl okn).length ≤ 121 := by
  unfold openA
  split
  · rename_i c
    have r := (h.1 c.1).1
    split <;> omega
  · simp

set_option maxRecDepth 100000 in
set_option maxHeartbeats 2000000 in
theorem sOpen (w : World) (g n cap : Nat) (ps R : List T5) (x0 x1 x2 x3 x4 : Int) (ok okl okn : Bool) (hR : Hid (R = mergeL (n + 1) ps [(x0, x1, x2, x3, x4)])) (hl : ps.length = n) (h20 : n ≤ 1048576) (hg : g < w.heap.size) (h : At5 w g ps) (hok : Says ok (Right ps)) (hkl : Says okl (One (x0, x1, x2, x3, x4))) (hkn : Says okn (Right R)) :
    Calls Try.prog 30 #[.slice (some ⟨g, 0, none⟩) n cap, .agg #[.int .i64 x0, .int .i64 x1, .int .i64 x2, .int .i64 x3, .int .i64 x4]] w fun e w' => ∃ g' c', e = .returned (.tuple #[.slice (some ⟨g', 0, none⟩) (openA ps R ok okl okn).length c', .int .i64 (openC ok okl okn)]) ∧ Own5 40 w' w.heap.size g' (openA ps R ok okl okn).length c' (openA ps R ok okl okn) ∧ Below w.heap.size w w' := by
  have RL : R.length = n + 1 := by rw [unhide hR, merge_len _ _ _ (by simp; omega), hl]; rfl
  have B0 := hide (show Below w.heap.size w (w.alloc (.cells #[.int .i64 x0, .int .i64 x1, .int .i64 x2, .int .i64 x3, .int .i64 x4] 40)) from (Below.refl _ _).alloc (Nat.le_refl _) _)
  have A0 := hide (h.below (unhide B0) hg)
  have X0 := hide (show Holds5 (w.alloc (.cells #[.int .i64 x0, .int .i64 x1, .int .i64 x2, .int .i64 x3, .int .i64 x4] 40)) w.heap.size 0 (x0, x1, x2, x3, x4) from by unfold Holds5; simp)
  have hs : w.heap.size < (w.alloc (.cells #[.int .i64 x0, .int .i64 x1, .int .i64 x2, .int .i64 x3, .int .i64 x4] 40)).heap.size := by simp
  have hg0 : g < (w.alloc (.cells #[.int .i64 x0, .int .i64 x1, .int .i64 x2, .int .i64 x3, .int .i64 x4] 40)).heap.size := by simp; omega
  clear h
  go_enter Try.func30, Try.ntmps30
  go_wp2_with fail
  generalize w.alloc (.cells #[.int .i64 x0, .int .i64 x1, .int .i64 x2, .int .i64 x3, .int .i64 x4] 40) = u at *
  refine (sOk u g n cap ps ok hl h20 hg0 (unhide A0) hok).mono ?_
  rintro e w1 ⟨rfl, b1⟩
  have B1 := hide ((unhide B0).trans (b1.mono (unhide B0).size))
  have A1 := hide ((unhide A0).below b1 hg0)
  have X1 := hide ((unhide X0).below b1 hs)
  have hs1 := Nat.lt_of_lt_of_le hs b1.size
  have hg1 := Nat.lt_of_lt_of_le hg0 b1.size
  clear b1 B0 A0 X0 hs hg0
  cases ok
  · have EE := open_bad ps R (ok := false) (okl := okl) okn (.inl rfl)
    have O1 := hide (lit50 40 w1 w.heap.size (unhide B1).size)
    have B2 := hide ((unhide B1).alloc (unhide B1).size (.cells #[] 40))
    go_wp2
    go_ret2
    rw [EE.1, EE.2]
    exact ⟨w1.heap.size, 0, rfl, unhide O1, unhide B2⟩
  obtain ⟨c0, c1, c2, c3, c4⟩ := at0 (unhide X1)
  go_wp2_with fail
  refine (sRight x0 x1 x2 x3 x4 okl _ hkl).mono ?_
  rintro e w2 ⟨rfl, b2⟩
  have B2 := hide ((unhide B1).trans (b2.mono (unhide B1).size))
  have A2 := hide ((unhide A1).below b2 hg1)
  have X2 := hide ((unhide X1).below b2 hs1)
  have hs2 := Nat.lt_of_lt_of_le hs1 b2.size
  have hg2 := Nat.lt_of_lt_of_le hg1 b2.size
  clear b2 B1 A1 X1 hs1 hg1 c0 c1 c2 c3 c4
  cases okl
  · have EE := open_bad ps R (ok := true) (okl := false) okn (.inr rfl)
    have O1 := hide (lit50 40 w2 w.heap.size (unhide B2).size)
    have B3 := hide ((unhide B2).alloc (unhide B2).size (.cells #[] 40))
    go_wp2
    go_ret2
    rw [EE.1, EE.2]
    exact ⟨w2.heap.size, 0, rfl, unhide O1, unhide B3⟩
  have n120 := hok.yes.1
  obtain ⟨c0, c1, c2, c3, c4⟩ := at0 (unhide X2)
  have V3 := hide (lit51 40 w2 w2.heap.size x0 x1 x2 x3 x4 (Nat.le_refl _))
  have A3 := hide ((unhide A2).below ((Below.refl w2.heap.size w2).alloc (Nat.le_refl _) (.cells #[.int .i64 x0, .int .i64 x1, .int .i64 x2, .int .i64 x3, .int .i64 x4] 40)) hg2)
  have B3 := hide ((unhide B2).alloc (unhide B2).size (.cells #[.int .i64 x0, .int .i64 x1, .int .i64 x2, .int .i64 x3, .int .i64 x4] 40))
  have hg3 : g < (w2.alloc (.cells #[.int .i64 x0, .int .i64 x1, .int .i64 x2, .int .i64 x3, .int .i64 x4] 40)).heap.size := by simp; omega
  clear B2 X2
  go_wp2_with fail
  generalize w2.alloc (.cells #[.int .i64 x0, .int .i64 x1, .int .i64 x2, .int .i64 x3, .int .i64 x4] 40) = u3 at *
  obtain ⟨vb, VB⟩ : ∃ vb, Hid (vb = w2.heap.size) := ⟨_, rfl⟩
  rw [← unhide VB] at V3 ⊢
  refine (sMerge u3 g n cap vb 1 1 ps [(x0, x1, x2, x3, x4)] hl rfl (by omega) (by omega) hg3 (unhide V3).lt.2 (unhide A3) (unhide V3).at).mono ?_
  rw [← unhide hR]
  rintro e w4 ⟨g4, c4', rfl, o4, b4⟩
  have O4 := hide (o4.rebase (base' := w.heap.size) (Nat.le_trans (unhide B3).size o4.lt.1))
  have B4 := hide ((unhide B3).trans (b4.mono (unhide B3).size))
  have A4 := hide ((unhide A3).below b4 hg3)
  have hg4 := Nat.lt_of_lt_of_le hg3 b4.size
  clear o4 b4 V3 A3 B3 hg3
  go_wp2_with fail
  refine (sOk w4 g4 (n + 1) c4' R okn RL (by omega) (unhide O4).lt.2 (unhide O4).at hkn).mono ?_
  rintro e w5 ⟨rfl, b5⟩
  have O5 := hide ((unhide O4).below b5 (unhide O4).lt.2)
  have B5 := hide ((unhide B4).trans (b5.mono (unhide B4).size))
  have A5 := hide ((unhide A4).below b5 hg4)
  have hg5 := Nat.lt_of_lt_of_le hg4 b5.size
  clear b5 O4 B4 A4 hg4
  cases okn
  · have EA : openA ps R true true false = ps := by simp [openA]
    have EC : openC true true false = 3 := by simp [openC]
    have L1 := hide (lit50 40 w5 w.heap.size (unhide B5).size)
    have B6 := hide ((unhide B5).alloc (unhide B5).size (.cells #[] 40))
    have A6 := hide ((unhide A5).below ((Below.refl w5.heap.size w5).alloc (Nat.le_refl _) (.cells #[] 40)) hg5)
    have bs := (unhide B6).size
    go_wp2_with (first | (at_builtin; refine wp_copyO _ rfl _ _ rfl w.heap.size w5.heap.size 0 n ps g 0 cap rfl rfl (unhide L1) hl (at_o (unhide A6)) (by omega) bs ?_) | go_in)
    intro g7 c7 w7 o7 gr7 loc7
    have O7 := hide o7
    have B7 := hide ((unhide B6).grown gr7 bs (fun j hj => by cases hj; exact (unhide L1).lt.1))
    clear o7 gr7 loc7
    go_wp2
    go_ret2
    rw [EA, EC, hl]
    exact ⟨g7, c7, rfl, unhide O7, unhide B7⟩
  · have EA : openA ps R true true true = R := by simp [openA]
    have EC : openC true true true = 0 := by simp [openC]
    go_wp2
    go_ret2
    rw [EA, EC, RL]
    exact ⟨g4, c4', rfl, unhide O5, unhide B5⟩

end Go.Proofs.Ytdnpjjbphamcmaa.SOpen
