/- Contract of the model's Shares: a new list with the share of each weight, and whether there are any. Condition: a list of at most 2^20 numbers. -/
import Derived.Test.YtdnpjjbphamcmaaParts
import Derived.Test.YtdnpjjbphamcmaaSOrder
import Derived.BigRegion
namespace Go.Proofs.Ytdnpjjbphamcmaa.SShares
open Go.ChangeShapes Go.WideShapes Go.ChangeAt Go.RowKit Ints Weigh Quota Order Parts SOrder
set_option linter.unusedVariables false
set_option linter.unusedSimpArgs false

set_option maxRecDepth 100000 in
set_option maxHeartbeats 4000000 in
theorem sShares_good (w : World) (t : Int) (g n cap : Nat) (xs : List Int) (hl : xs.length = n) (hg : g < w.heap.size) (h : At w g xs) (good : Weigh.Good xs) (ht : Tot t) :
    Calls Try.prog 34 #[.int .i64 t, .slice (some ⟨g, 0, none⟩) n cap] w fun e w' => ∃ L, ∃ M : Nat, ∃ g' c, IsOrder t xs n L ∧ t - SQ t xs n = (M : Int) ∧ M < n ∧ e = .returned (.tuple #[.slice (some ⟨g', 0, none⟩) n c, .bool true]) ∧ Own w' w.heap.size g' n c (bump (wholes t xs n) L M) ∧ Below w.heap.size w w' := by
  have n40 : n ≤ 40 := by have := good.1.2; omega
  obtain ⟨M, hM, hMn⟩ := missing_nat t xs ht good
  rw [hl] at hM hMn
  have HM := hide hM
  have BD := hide (fun (k : Nat) (hk : k ≤ n) => (show 0 ≤ SQ t xs k ∧ SQ t xs k ≤ t from by
    have a1 := SQ_mono t xs ht good 0 k (by omega) (by omega)
    have a2 := SQ_mono t xs ht good k n hk (by omega)
    have a3 : SQ t xs 0 = 0 := rfl
    omega))
  have QB := hide (fun (k : Nat) (hk : k < n) => Q_le t xs k ht good (by omega))
  have WB := hide (fun L m j => bump_bd (wholes t xs n) L t ht.1 (by rw [← hl]; exact wholes_bd t xs ht good) m j)
  have t1 := ht.2
  have t0 := ht.1
  have GT := hide (And.intro good ht)
  have H := hide h
  have HG := hide hg
  obtain ⟨i0, hi, hz0, hz1, hz2⟩ := info_parts info3
  clear good ht h hg hM
  go_enter Try.func34, Try.ntmps34
  go_wp2_with fail
  refine (sWeights _ g n cap xs true hl (by omega) ((unhide H).below (Below.alloc (Below.refl _ _) (Nat.le_refl _) _) (unhide HG)) (hide ⟨fun _ => (unhide GT).1, fun _ => rfl⟩)).mono ?_
  rintro e w1 ⟨rfl, hw1⟩
  go_wp2_with fail
  refine (sSome t 0 true _ (hide ⟨fun _ => (unhide GT).2, fun _ => rfl⟩)).mono ?_
  rintro e w2 ⟨rfl, hw2⟩
  subst hw2
  subst hw1
  go_wp2_with fail
  go_loopw [6, 7, 8] (fun o l i wr => ∃ (k : Nat) (gO cO : Nat), k ≤ n ∧ i = .int .i64 k ∧ o = .slice (some ⟨gO, 0, none⟩) k cO ∧ l = .int .i64 (t - SQ t xs k) ∧ Own wr w.heap.size gO k cO (wholes t xs k) ∧ Below w.heap.size w wr) (fun _ _ i _ => n - (intOf i).toNat)
  case atStart =>
    refine ⟨0, _, _, by omega, rfl, rfl, ?_, lit0 w w.heap.size (Nat.le_refl _), (Below.refl _ _).alloc (Nat.le_refl _) _⟩
    simp [SQ]
  case round =>
    obtain ⟨k, gO, cO, hk, rfl, rfl, rfl, ownO, hb⟩ := hrel
    by_cases lt : k < n
    · have c1 := sQuota wr t k (Q t xs k) (R t xs k) true g n cap xs hl (by omega) ((unhide H).below hb (unhide HG)) (hide (Or.inl ⟨(unhide GT).1, (unhide GT).2, ⟨by omega, by omega⟩, by simp, by simp, rfl⟩))
      obtain ⟨q0, q1⟩ := unhide QB k lt
      obtain ⟨d0, d1⟩ := unhide BD k hk
      have E := hide (show SQ t xs (k + 1) = SQ t xs k + Q t xs k from rfl)
      go_wp2_with fail
      refine c1.mono ?_
      rintro e w1 ⟨rfl, m, rfl⟩
      have ownO1 : Own (wr.drewN m) w.heap.size gO k cO (wholes t xs k) := ownO
      have hb1 : Below w.heap.size w (wr.drewN m) := below_drewN hb m
      clear ownO hb c1
      generalize wr.drewN m = w1 at *
      have hs1 := hb1.size
      have lO := ownO1.lt
      go_wp2_with (at_builtin; refine wpList_append_own _ rfl (.tmp 39) (.tmp 41) 50 rfl w.heap.size 3 i0 (.int .i64 0) 1 8 Try.underlying50 hi hz0 hz1 hz2 rfl (by decide) (.slice (some ⟨gO, 0, none⟩) k cO) k _ rfl (SOrder.Own.alloc ownO1 _) ⟨w1.heap.size, 0, none⟩ 1 1 [.int .i64 (Q t xs k)] rfl rfl (one_cell w1 _) (one_one _) (by unfold maxLen; omega) (by omega) (by simp; omega) ?_)
      intro v2 w2 own2 (gr2 : World.grownBy _ w2 (some gO)) nil2
      obtain ⟨g2, c2, rfl, o2⟩ := own_of_row' (n' := k + 1) (xs := wholes t xs (k + 1)) own2 (by omega) (by rw [wholes_succ]; simp) (by first | exact nil2 | (rw [nil2]; simp))
      have hb2 : Below w.heap.size w w2 := (hb1.alloc hs1 _).grown gr2 (by simp; omega) (by simp; omega)
      have O2 := hide o2
      have B2 := hide hb2
      clear own2 gr2 nil2 ownO1 hb1 o2 hb2
      generalize Q t xs k = q at *
      generalize SQ t xs k = sq at *
      go_wp2
      go_roundw
      case rel => exact ⟨k + 1, g2, c2, by omega, by go_num, rfl, by rw [unhide E]; congr 1; omega, unhide O2, unhide B2⟩
      case measure => simp [intOf]; omega
    · obtain rfl : k = n := by omega
      have hs := hb.size
      have c1 := sOrder_good wr t g k cap xs hl (Nat.lt_of_lt_of_le (unhide HG) hs) ((unhide H).below hb (unhide HG)) (unhide GT).1 (unhide GT).2
      rw [unhide HM]
      have lO := ownO.lt
      clear BD QB
      go_wp2_with fail
      refine c1.mono ?_
      rintro e w3 ⟨L, gL, cL, ord, rfl, ownL, b3⟩
      have ownO := ownO.below b3 ownO.lt.2
      have hb := next hb b3
      have lL := ownL.lt
      have hlen := ord.len
      have ORD := hide ord
      clear c1 b3 ord
      go_wp2_with fail
      go_loopw [13] (fun i wx => ∃ (j : Nat), j ≤ M ∧ i = .int .i64 j ∧ Own wx w.heap.size gO k cO (bump (wholes t xs k) L j) ∧ Own wx wr.heap.size gL k cL (ints L) ∧ Below w.heap.size w wx) (fun i _ => M - (intOf i).toNat)
      case atStart => exact ⟨0, by omega, rfl, ownO, ownL, hb⟩
      case round =>
        clear ownO ownL hb
        obtain ⟨j, hj, rfl, ownO, ownL, hb⟩ := hrel
        by_cases lt : j < M
        · have e1 := ownL.at j (by rw [ints_len, hlen]; omega)
          rw [ints_getD] at e1
          have ha := (unhide ORD).getD_lt j (by omega)
          have e2 := ownO.at (L.getD j 0) (by rw [ownO.len]; exact ha)
          have ff := ownO.free (L.getD j 0)
          obtain ⟨v0, v1⟩ := unhide WB L j (L.getD j 0)
          obtain ⟨p, q⟩ := ownO.set (L.getD j 0) ((bump (wholes t xs k) L j).getD (L.getD j 0) 0 + 1)
          have P : Hid (Own _ w.heap.size gO k cO (bump (wholes t xs k) L (j + 1))) := p
          have PL := hide (ownL.kept q (by simp; omega))
          have PB := hide (hb.setCell (p := ⟨gO, L.getD j 0, none⟩) lO.1 (.int .i64 ((bump (wholes t xs k) L j).getD (L.getD j 0) 0 + 1)))
          clear p q ownO ownL hb
          generalize (bump (wholes t xs k) L j).getD (L.getD j 0) 0 = v at *
          generalize L.getD j 0 = a at *
          have i1 : (0 : Int) ≤ (a : Int) := by omega
          have i2 : (a : Int) < (k : Int) := by omega
          have i3 : (0 : Int) ≤ (j : Int) := by omega
          have i4 : (j : Int) < (k : Int) := by omega
          go_wp2_with fail
          go_region
          go_wp2
          go_roundw
          case rel => exact ⟨j + 1, by omega, by go_num, unhide P, unhide PL, (unhide PB).drew⟩
          case measure => simp [intOf]; omega
        · obtain rfl : j = M := by omega
          have O := hide ownO
          have B := hide hb
          clear ownO ownL hb
          go_wp2
          go_ret2
          exact ⟨L, j, gO, cO, unhide ORD, unhide HM, hMn, rfl, unhide O, unhide B⟩

set_option maxRecDepth 100000 in
theorem sShares_bad (w : World) (t : Int) (g n cap : Nat) (xs : List Int) (hl : xs.length = n) (h20 : n ≤ 1048576) (hg : g < w.heap.size) (h : At w g xs) (bad : ¬ (Weigh.Good xs ∧ Tot t)) :
    Calls Try.prog 34 #[.int .i64 t, .slice (some ⟨g, 0, none⟩) n cap] w fun e w' => e = .returned (.tuple #[.slice (some ⟨w.heap.size, 0, none⟩) 0 0, .bool false]) ∧ Own w' w.heap.size w.heap.size 0 0 [] ∧ Below w.heap.size w w' := by
  have H := hide h
  have HG := hide hg
  have a1 := hide (lit0 w w.heap.size (Nat.le_refl _))
  have b1 := hide (Below.alloc (Below.refl w.heap.size w) (Nat.le_refl _) (.cells #[] 3))
  by_cases good : Weigh.Good xs
  · have ht := hide (show ¬ Tot t from fun k => bad ⟨good, k⟩)
    have GG := hide good
    clear h hg good bad
    go_enter Try.func34, Try.ntmps34
    go_wp2_with fail
    refine (sWeights _ g n cap xs true hl h20 ((unhide H).below (unhide b1) (unhide HG)) (hide ⟨fun _ => unhide GG, fun _ => rfl⟩)).mono ?_
    rintro e w1 ⟨rfl, hw1⟩
    go_wp2_with fail
    refine (sSome t 0 false _ (hide ⟨fun h => Bool.noConfusion h, fun h => absurd h (unhide ht)⟩)).mono ?_
    rintro e w2 ⟨rfl, hw2⟩
    subst hw2
    subst hw1
    go_wp2
    go_ret2
    exact ⟨rfl, unhide a1, unhide b1⟩
  · have GG := hide good
    clear h hg good bad
    go_enter Try.func34, Try.ntmps34
    go_wp2_with fail
    refine (sWeights _ g n cap xs false hl h20 ((unhide H).below (unhide b1) (unhide HG)) (hide ⟨fun h => Bool.noConfusion h, fun h => absurd h (unhide GG)⟩)).mono ?_
    rintro e w1 ⟨rfl, hw1⟩
    subst hw1
    go_wp2
    go_ret2
    exact ⟨rfl, unhide a1, unhide b1⟩

/-- The model's Shares. -/
theorem sShares (w : World) (t : Int) (g n cap : Nat) (xs : List Int) (hl : xs.length = n) (h20 : n ≤ 1048576) (hg : g < w.heap.size) (h : At w g xs) :
    Calls Try.prog 34 #[.int .i64 t, .slice (some ⟨g, 0, none⟩) n cap] w fun e w' => ∃ ps ok g' c, STells t xs ps ok ∧ e = .returned (.tuple #[.slice (some ⟨g', 0, none⟩) ps.length c, .bool ok]) ∧ Own w' w.heap.size g' ps.length c ps ∧ Below w.heap.size w w' := by
  by_cases good : Weigh.Good xs ∧ Tot t
  · refine (sShares_good w t g n cap xs hl hg h good.1 good.2).mono ?_
    rintro e w' ⟨L, M, g', c, ord, hM, hMn, rfl, o, b⟩
    have hn := o.len
    exact ⟨_, true, g', c, Or.inl ⟨good.1, good.2, rfl, L, M, by rw [hl]; exact ord, by rw [hl]; exact hM, by rw [hl]; exact hMn, by rw [hl]⟩, by rw [hn], by rw [hn]; exact o, b⟩
  · refine (sShares_bad w t g n cap xs hl h20 hg h good).mono ?_
    rintro e w' ⟨rfl, o, b⟩
    exact ⟨[], false, _, _, Or.inr ⟨good, rfl, rfl⟩, rfl, o, b⟩

end Go.Proofs.Ytdnpjjbphamcmaa.SShares
