/- Contract of the model's ShareOrder: a new list with the numbers of all weights in their order, or an empty one where the arguments are not as the document wants them. Condition: a list of at most 2^20 numbers. -/
import Derived.Test.YtdnpjjbphamcmaaOrder
import Derived.WalkSmall
namespace Go.Proofs.Ytdnpjjbphamcmaa.SOrder
open Go.ChangeShapes Go.WideShapes Go.ChangeAt Go.RowKit Ints Weigh Quota Order
set_option linter.unusedVariables false
set_option linter.unusedSimpArgs false

theorem own_of_row {w : World} {base n : Nat} {v : Value} {vs : List Value} {xs : List Int} (h : w.ownsRow base 3 1 v n vs) (e : vs = xs.map (Value.int .i64)) (hv : ¬ v = .slice none 0 0) :
    ∃ g c, v = .slice (some ⟨g, 0, none⟩) n c ∧ Own w base g n c xs := by
  subst e
  have h' := h
  rcases h.2 with ⟨h1, _⟩ | ⟨g, c, cur, rfl, _⟩
  · exact absurd h1 hv
  · exact ⟨g, c, rfl, h'⟩

theorem own_of_row' {w : World} {base n n' : Nat} {v : Value} {vs : List Value} {xs : List Int} (h : w.ownsRow base 3 1 v n vs) (hn : n = n') (e : vs = xs.map (Value.int .i64)) (hv : ¬ v = .slice none 0 0) :
    ∃ g c, v = .slice (some ⟨g, 0, none⟩) n' c ∧ Own w base g n' c xs := by
  subst hn
  exact own_of_row h e hv

theorem Own.alloc {w : World} {base g n cap : Nat} {xs : List Int} (h : Own w base g n cap xs) (o : Obj) : Own (w.alloc o) base g n cap xs := World.ownsRow.alloc h o

theorem lit0 (w : World) (base : Nat) (hb : base ≤ w.heap.size) : Own (w.alloc (.cells #[] 3)) base w.heap.size 0 0 [] := World.ownsRow_lit w #[] 0 hb (by decide) rfl

theorem one_cell (w : World) (x : Int) : ∀ (j : Nat) (u : Value), [Value.int .i64 x][j]? = some u → (w.alloc (.cells #[Value.int .i64 x] 3)).cell? ((⟨w.heap.size, 0, none⟩ : Addr).add j) = some u := by
  intro j u hj
  match j, hj with
  | 0, hj => simp at hj; subst hj; simp [Addr.add]

theorem one_one (x : Int) : ∀ u ∈ [Value.int .i64 x], u.oneCell' = true := by
  intro u hu; simp at hu; subst hu; rfl

/-- The cells of a part of a list. -/
theorem part_cells {w : World} {base g n cap : Nat} {xs : List Int} (h : Own w base g n cap xs) (i m : Nat) (ad : Addr) (had : m = 0 ∨ ad = ⟨g, i, none⟩) (hm : i + m ≤ n) :
    ∀ (j : Nat) (u : Value), (((xs.drop i).take m).map (Value.int .i64))[j]? = some u → w.cell? (ad.add j) = some u := by
  intro j u hu
  have hj : j < m := by
    have := (List.getElem?_eq_some_iff.1 hu).1
    simp at this
    omega
  rcases had with rfl | rfl
  · omega
  have hl := h.len
  rw [Addr.add_lit]
  rw [h.at (i + j) (by omega)]
  rw [← hu, List.getElem?_map, List.getElem?_take, if_pos hj, List.getElem?_drop, List.getElem?_eq_getElem (by omega)]
  simp [List.getD, show i + j < xs.length by omega]

theorem ints_split (L : List Nat) (j k : Nat) : ints (L.take j ++ k :: L.drop j) = (ints L).take j ++ [(k : Int)] ++ (ints L).drop j := by
  simp [ints]

set_option maxRecDepth 100000 in
set_option maxHeartbeats 4000000 in
theorem sOrder_good (w : World) (t : Int) (g n cap : Nat) (xs : List Int) (hl : xs.length = n) (hg : g < w.heap.size) (h : At w g xs) (good : Weigh.Good xs) (ht : Tot t) :
    Calls Try.prog 66 #[.int .i64 t, .slice (some ⟨g, 0, none⟩) n cap] w fun e w' => ∃ L g' c, IsOrder t xs n L ∧ e = .returned (.slice (some ⟨g', 0, none⟩) n c) ∧ Own w' w.heap.size g' n c (ints L) ∧ Below w.heap.size w w' := by
  have n40 : n ≤ 40 := by have := good.1.2; omega
  have GT := hide (And.intro good ht)
  have H := hide h
  have HG := hide hg
  obtain ⟨i0, hi, hz0, hz1, hz2⟩ := info_parts info3
  clear good ht h hg
  go_enter Try.func66, Try.ntmps66
  go_wp2_with fail
  refine (sWeights _ g n cap xs true hl (by omega) ((unhide H).below (Below.alloc (Below.refl _ _) (Nat.le_refl _) _) (unhide HG)) (hide ⟨fun _ => (unhide GT).1, fun _ => rfl⟩)).mono ?_
  rintro e w1 ⟨rfl, hw1⟩
  go_wp2_with fail
  refine (sSome t 0 true _ (hide ⟨fun _ => (unhide GT).2, fun _ => rfl⟩)).mono ?_
  rintro e w2 ⟨rfl, hw2⟩
  subst hw2
  subst hw1
  go_wp2_with fail
  go_loopw [5, 6, 7] (fun o l i wr => ∃ (k : Nat) (L : List Nat) (gO cO gL cL : Nat), k ≤ n ∧ i = .int .i64 k ∧ o = .slice (some ⟨gO, 0, none⟩) k cO ∧ l = .slice (some ⟨gL, 0, none⟩) k cL ∧
      gO ≠ gL ∧ Own wr w.heap.size gO k cO (ints L) ∧ Own wr w.heap.size gL k cL (rests t xs k) ∧ IsOrder t xs k L ∧ Below w.heap.size w wr) (fun _ _ i _ => n - (intOf i).toNat)
  case atStart =>
    have a1 := lit0 w w.heap.size (Nat.le_refl _)
    have a2 : Own ((w.alloc (.cells #[] 3)).alloc (.cells #[] 3)) w.heap.size (w.heap.size + 1) 0 0 (rests t xs 0) := by
      have := lit0 (w.alloc (.cells #[] 3)) w.heap.size (by simp)
      rwa [World.size_alloc] at this
    refine ⟨0, [], _, _, _, _, by omega, rfl, rfl, rfl, ?_, Own.alloc a1 _, a2, ⟨List.Perm.refl _, List.Pairwise.nil⟩, ?_⟩
    · simp
    · exact ((Below.refl _ _).alloc (Nat.le_refl _) _).alloc (by simp) _
  case round =>
    obtain ⟨k, L, gO, cO, gL, cL, hk, rfl, rfl, rfl, hne, ownO, ownL, ord, hb⟩ := hrel
    by_cases lt : k < n
    · have c1 := sQuota wr t k (Q t xs k) (R t xs k) true g n cap xs hl (by omega) ((unhide H).below hb (unhide HG)) (hide (Or.inl ⟨(unhide GT).1, (unhide GT).2, ⟨by omega, by omega⟩, by simp, by simp, rfl⟩))
      go_wp2_with fail
      refine c1.mono ?_
      rintro e w1 ⟨rfl, m, rfl⟩
      have ownO1 : Own (wr.drewN m) w.heap.size gO k cO (ints L) := ownO
      have ownL1 : Own (wr.drewN m) w.heap.size gL k cL (rests t xs k) := ownL
      have hb1 : Below w.heap.size w (wr.drewN m) := below_drewN hb m
      clear ownO ownL hb c1
      generalize wr.drewN m = w1 at *
      have hs1 := hb1.size
      go_wp2_with (at_builtin; refine wpList_append_own _ rfl (.tmp 38) (.tmp 40) 50 rfl w.heap.size 3 i0 (.int .i64 0) 1 8 Try.underlying50 hi hz0 hz1 hz2 rfl (by decide) (.slice (some ⟨gL, 0, none⟩) k cL) k _ rfl (Own.alloc ownL1 _) ⟨w1.heap.size, 0, none⟩ 1 1 [.int .i64 (R t xs k)] rfl rfl (one_cell w1 _) (one_one _) (by unfold maxLen; omega) (by omega) (by simp; omega) ?_; intro v2 w2 own2 (gr2 : World.grownBy _ w2 (some gL)) nil2)
      obtain ⟨gL2, cL2, rfl, ownL2⟩ := own_of_row (xs := rests t xs (k + 1)) own2 (by rw [rests_succ]; simp) (by rw [nil2]; simp)
      have ownO2 := Own.kept (Own.alloc ownO1 (.cells #[Value.int .i64 (R t xs k)] 3)) gr2 (by simpa using hne)
      have hb2 : Below w.heap.size w w2 := (hb1.alloc hs1 _).grown gr2 (by simp; omega) (by simpa using ownL1.lt.1)
      have hs2 := hb2.size
      have lO := ownO2.lt
      have lL := ownL2.lt
      have lenL := ord.len
      have cO0 : k ≤ cO := by
        rcases ownO2.2 with ⟨z, _⟩ | ⟨_, c', _, z, _, _, z2, _⟩
        · simp at z
        · simp at z; omega
      clear own2 gr2 nil2 ownO1 ownL1 hb1
      go_loop [11] (fun j => ∃ p : Nat, p ≤ k ∧ j = .int .i64 p ∧ Hid (∀ i, p ≤ i → i < k → R t xs (L.getD i 0) < R t xs k)) (fun j => (intOf j).toNat)
      case atStart => exact ⟨k, by omega, rfl, hide (fun i h1 h2 => by omega)⟩
      case round =>
        obtain ⟨p, hp, rfl, HD⟩ := hrel
        cases p with
        | zero =>
          by_cases hc : cO = 0
          · obtain rfl : k = 0 := by omega
            subst hc
            go_wp2_with (at_builtin; refine wpList_append_own _ rfl (.tmp 60) (.tmp 63) 50 rfl w2.heap.size 3 i0 (.int .i64 0) 1 8 Try.underlying50 hi hz0 hz1 hz2 rfl (by decide) (.slice (some ⟨w2.heap.size, 0, none⟩) 0 0) 0 _ rfl (lit0 w2 _ (Nat.le_refl _)) ⟨gO, 0, none⟩ (0) (0) ((((ints L).drop 0).take (0)).map (Value.int .i64)) rfl (by simp [ints_len, lenL] <;> omega) (part_cells (Own.alloc ownO2 _) 0 (0) _ (Or.inr rfl) (by omega)) (ints_oneCell _ _) (by unfold maxLen; omega) (by omega) (by simp) ?_)
            intro v3 w3 own3 (gr3 : World.grownBy _ w3 (some w2.heap.size)) nil3
            obtain ⟨g3, c3, rfl, o3⟩ := own_of_row' (n' := 0) (xs := (ints L).take (0)) own3 (by omega) (by simp) (by first | exact nil3 | (rw [nil3]; simp))
            have hs3 := gr3.size
            have o3' := Own.alloc o3 (.cells #[Value.int .i64 ((0 : Nat) : Int)] 3)
            have ownO3 := Own.kept (Own.alloc ownO2 (.cells #[] 3)) gr3 (by simp; omega)
            have ownL3 := Own.kept (Own.alloc ownL2 (.cells #[] 3)) gr3 (by simp; omega)
            have hb3 : Below w.heap.size w w3 := (hb2.alloc hs2 _).grown gr3 (by simp; omega) (by simp; omega)
            have lg3 := o3.lt
            rw [World.size_alloc] at hs3
            clear own3 gr3 nil3
            go_wp2_with (at_builtin; refine wpList_append_own _ rfl (.tmp 65) (.tmp 67) 50 rfl w2.heap.size 3 i0 (.int .i64 0) 1 8 Try.underlying50 hi hz0 hz1 hz2 rfl (by decide) (.slice (some ⟨g3, 0, none⟩) (0) c3) (0) _ rfl o3' ⟨w3.heap.size, 0, none⟩ 1 1 [.int .i64 ((0 : Nat) : Int)] rfl rfl (one_cell w3 _) (one_one _) (by unfold maxLen; omega) (by omega) (by simp; omega) ?_)
            intro v4 w4 own4 (gr4 : World.grownBy _ w4 (some g3)) nil4
            obtain ⟨g4, c4, rfl, o4⟩ := own_of_row' (n' := 0 + 1) (xs := (ints L).take (0) ++ [((0 : Nat) : Int)]) own4 (by omega) (by simp) (by first | exact nil4 | (rw [nil4]; simp))
            have hs4 := gr4.size
            have ownO4 := Own.kept (Own.alloc ownO3 (.cells #[Value.int .i64 ((0 : Nat) : Int)] 3)) gr4 (by simp; omega)
            have ownL4 := Own.kept (Own.alloc ownL3 (.cells #[Value.int .i64 ((0 : Nat) : Int)] 3)) gr4 (by simp; omega)
            have hb4 : Below w.heap.size w w4 := (hb3.alloc (by omega) _).grown gr4 (by simp; omega) (by simp; omega)
            have lg4 := o4.lt
            rw [World.size_alloc] at hs4
            clear own4 gr4 nil4 o3' o3
            have ord5 := ord.insert (0) (by omega) (unhide HD) (Or.inl rfl)
            have o5 : Own w4 w2.heap.size g4 ((0) + 1) c4 (ints (L.take (0) ++ (0) :: L.drop (0))) := by
              rw [ints_split, List.drop_of_length_le (by rw [ints_len, lenL]; omega), List.append_nil]
              exact o4
            have lg5 := o5.lt
            go_wp2_with (at_builtin; refine wpList_append_own _ rfl (.tmp 69) (.tmp 72) 50 rfl w2.heap.size 3 i0 (.int .i64 0) 1 8 Try.underlying50 hi hz0 hz1 hz2 rfl (by decide) (.slice (some ⟨g4, 0, none⟩) ((0) + 1) c4) ((0) + 1) _ rfl o5 ⟨gO, 0, none⟩ 0 0 [] rfl rfl (by intro j u hj; simp at hj) (by intro u hu; simp at hu) (by unfold maxLen; omega) (by omega) (by omega) ?_)
            intro v5 w5 own5 (gr5 : World.grownBy _ w5 (some g4)) nil5
            obtain ⟨g5, c5, rfl, o6⟩ := own_of_row' (n' := (0) + 1) (xs := ints (L.take (0) ++ (0) :: L.drop (0))) own5 (by omega) (by simp) (by first | exact nil5 | (rw [nil5]; simp))
            have hs5 := gr5.size
            have ownL5 := Own.kept ownL4 gr5 (by simp; omega)
            have hb5 : Below w.heap.size w w5 := hb4.grown gr5 (by omega) (by simp; omega)
            have lg6 := o6.lt
            clear own5 gr5 nil5 o5 o4 ownO4 ownO3 ownL4 ownL3 ownO2 ownL2
            go_wp2
            go_roundw
            case rel => exact ⟨(0) + 1, _, g5, c5, gL2, cL2, by omega, by go_num, by go_num, by go_num, by omega, Own.mono o6 (by omega), ownL5, ord5, hb5⟩
            case measure => simp [intOf]; omega

          · have HT' := hide (show (0 : Nat) = 0 ∨ R t xs k ≤ R t xs (L.getD (0 - 1) 0) from Or.inl rfl)
            go_wp2_with (at_builtin; refine wpList_append_own _ rfl (.tmp 60) (.tmp 63) 50 rfl w2.heap.size 3 i0 (.int .i64 0) 1 8 Try.underlying50 hi hz0 hz1 hz2 rfl (by decide) (.slice (some ⟨w2.heap.size, 0, none⟩) 0 0) 0 _ rfl (lit0 w2 _ (Nat.le_refl _)) ⟨gO, 0, none⟩ (0) cO ((((ints L).drop 0).take (0)).map (Value.int .i64)) rfl (by simp [ints_len, lenL] <;> omega) (part_cells (Own.alloc ownO2 _) 0 (0) _ (Or.inr rfl) (by omega)) (ints_oneCell _ _) (by unfold maxLen; omega) (by omega) (by simp) ?_)
            intro v3 w3 own3 (gr3 : World.grownBy _ w3 (some w2.heap.size)) nil3
            obtain ⟨g3, c3, rfl, o3⟩ := own_of_row' (n' := 0) (xs := (ints L).take (0)) own3 (by omega) (by simp) (by first | exact nil3 | (rw [nil3]; simp))
            have hs3 := gr3.size
            have o3' := Own.alloc o3 (.cells #[Value.int .i64 (k : Int)] 3)
            have ownO3 := Own.kept (Own.alloc ownO2 (.cells #[] 3)) gr3 (by simp; omega)
            have ownL3 := Own.kept (Own.alloc ownL2 (.cells #[] 3)) gr3 (by simp; omega)
            have hb3 : Below w.heap.size w w3 := (hb2.alloc hs2 _).grown gr3 (by simp; omega) (by simp; omega)
            have lg3 := o3.lt
            rw [World.size_alloc] at hs3
            clear own3 gr3 nil3
            go_wp2_with (at_builtin; refine wpList_append_own _ rfl (.tmp 65) (.tmp 67) 50 rfl w2.heap.size 3 i0 (.int .i64 0) 1 8 Try.underlying50 hi hz0 hz1 hz2 rfl (by decide) (.slice (some ⟨g3, 0, none⟩) (0) c3) (0) _ rfl o3' ⟨w3.heap.size, 0, none⟩ 1 1 [.int .i64 (k : Int)] rfl rfl (one_cell w3 _) (one_one _) (by unfold maxLen; omega) (by omega) (by simp; omega) ?_)
            intro v4 w4 own4 (gr4 : World.grownBy _ w4 (some g3)) nil4
            obtain ⟨g4, c4, rfl, o4⟩ := own_of_row' (n' := 0 + 1) (xs := (ints L).take (0) ++ [(k : Int)]) own4 (by omega) (by simp) (by first | exact nil4 | (rw [nil4]; simp))
            have hs4 := gr4.size
            have ownO4 := Own.kept (Own.alloc ownO3 (.cells #[Value.int .i64 (k : Int)] 3)) gr4 (by simp; omega)
            have ownL4 := Own.kept (Own.alloc ownL3 (.cells #[Value.int .i64 (k : Int)] 3)) gr4 (by simp; omega)
            have hb4 : Below w.heap.size w w4 := (hb3.alloc (by omega) _).grown gr4 (by simp; omega) (by simp; omega)
            have lg4 := o4.lt
            rw [World.size_alloc] at hs4
            clear own4 gr4 nil4 o3' o3
            go_wp2_with (at_builtin; refine wpList_append_own _ rfl (.tmp 69) (.tmp 72) 50 rfl w2.heap.size 3 i0 (.int .i64 0) 1 8 Try.underlying50 hi hz0 hz1 hz2 rfl (by decide) (.slice (some ⟨g4, 0, none⟩) (0 + 1) c4) (0 + 1) _ rfl o4 ⟨gO, 0, none⟩ (k - (0)) (cO - (0)) ((((ints L).drop (0)).take (k - (0))).map (Value.int .i64)) rfl (by simp [ints_len, lenL]) (part_cells ownO4 (0) (k - (0)) _ (Or.inr rfl) (by omega)) (ints_oneCell _ _) (by unfold maxLen; omega) (by omega) (by omega) ?_)
            intro v5 w5 own5 (gr5 : World.grownBy _ w5 (some g4)) nil5
            obtain ⟨g5, c5, rfl, o5⟩ := own_of_row' (n' := k + 1) (xs := ints (L.take (0) ++ k :: L.drop (0))) own5 (by omega) (by rw [ints_split]; simp [List.take_of_length_le, ints_len, lenL]) (by first | exact nil5 | (rw [nil5]; simp))
            have hs5 := gr5.size
            have ownL5 := Own.kept ownL4 gr5 (by simp; omega)
            have hb5 : Below w.heap.size w w5 := hb4.grown gr5 (by omega) (by simp; omega)
            have lg5 := o5.lt
            have ord5 := ord.insert (0) (by omega) (unhide HD) (Or.inl rfl)
            clear own5 gr5 nil5 o4 ownO4 ownO3 ownL4 ownL3 ownO2 ownL2
            go_wp2
            go_roundw
            case rel => exact ⟨k + 1, _, g5, c5, gL2, cL2, by omega, by go_num, rfl, rfl, by omega, Own.mono o5 (by omega), ownL5, ord5, hb5⟩
            case measure => simp [intOf]; omega

        | succ q =>
          have e1 := ownO2.at q (by rw [ints_len, lenL]; omega)
          rw [ints_getD] at e1
          have ha := ord.getD_lt q (by omega)
          have e2 := ownL2.at (L.getD q 0) (by rw [rests_len]; omega)
          rw [rests_getD t xs (k + 1) _ (by omega)] at e2
          have HQ := hide (show R t xs (L.getD q 0) < R t xs k → ∀ i, q ≤ i → i < k → R t xs (L.getD i 0) < R t xs k from fun h i h1 h2 => by
            by_cases e : i = q
            · subst e; exact h
            · exact unhide HD i (by omega) h2)
          have HT := hide (show ¬ R t xs (L.getD q 0) < R t xs k → (q + 1 = 0 ∨ R t xs k ≤ R t xs (L.getD (q + 1 - 1) 0)) from fun h => Or.inr (by simpa using h))
          generalize L.getD q 0 = a at *
          by_cases s : R t xs a < R t xs k
          · go_wp2
            go_round
            case rel => exact ⟨q, by omega, by go_num, hide ((unhide HQ) s)⟩
            case measure => simp [intOf]
          · by_cases hc : cO = q + 1
            · have HT' := hide ((unhide HT) s)
              obtain rfl : k = q + 1 := by omega
              subst hc
              go_wp2_with (at_builtin; refine wpList_append_own _ rfl (.tmp 60) (.tmp 63) 50 rfl w2.heap.size 3 i0 (.int .i64 0) 1 8 Try.underlying50 hi hz0 hz1 hz2 rfl (by decide) (.slice (some ⟨w2.heap.size, 0, none⟩) 0 0) 0 _ rfl (lit0 w2 _ (Nat.le_refl _)) ⟨gO, 0, none⟩ (q + 1) (q + 1) ((((ints L).drop 0).take (q + 1)).map (Value.int .i64)) rfl (by simp [ints_len, lenL] <;> omega) (part_cells (Own.alloc ownO2 _) 0 (q + 1) _ (Or.inr rfl) (by omega)) (ints_oneCell _ _) (by unfold maxLen; omega) (by omega) (by simp) ?_)
              intro v3 w3 own3 (gr3 : World.grownBy _ w3 (some w2.heap.size)) nil3
              obtain ⟨g3, c3, rfl, o3⟩ := own_of_row' (n' := q + 1) (xs := (ints L).take (q + 1)) own3 (by omega) (by simp) (by first | exact nil3 | (rw [nil3]; simp))
              have hs3 := gr3.size
              have o3' := Own.alloc o3 (.cells #[Value.int .i64 ((q + 1 : Nat) : Int)] 3)
              have ownO3 := Own.kept (Own.alloc ownO2 (.cells #[] 3)) gr3 (by simp; omega)
              have ownL3 := Own.kept (Own.alloc ownL2 (.cells #[] 3)) gr3 (by simp; omega)
              have hb3 : Below w.heap.size w w3 := (hb2.alloc hs2 _).grown gr3 (by simp; omega) (by simp; omega)
              have lg3 := o3.lt
              rw [World.size_alloc] at hs3
              clear own3 gr3 nil3
              go_wp2_with (at_builtin; refine wpList_append_own _ rfl (.tmp 65) (.tmp 67) 50 rfl w2.heap.size 3 i0 (.int .i64 0) 1 8 Try.underlying50 hi hz0 hz1 hz2 rfl (by decide) (.slice (some ⟨g3, 0, none⟩) (q + 1) c3) (q + 1) _ rfl o3' ⟨w3.heap.size, 0, none⟩ 1 1 [.int .i64 ((q + 1 : Nat) : Int)] rfl rfl (one_cell w3 _) (one_one _) (by unfold maxLen; omega) (by omega) (by simp; omega) ?_)
              intro v4 w4 own4 (gr4 : World.grownBy _ w4 (some g3)) nil4
              obtain ⟨g4, c4, rfl, o4⟩ := own_of_row' (n' := q + 1 + 1) (xs := (ints L).take (q + 1) ++ [((q + 1 : Nat) : Int)]) own4 (by omega) (by simp) (by first | exact nil4 | (rw [nil4]; simp))
              have hs4 := gr4.size
              have ownO4 := Own.kept (Own.alloc ownO3 (.cells #[Value.int .i64 ((q + 1 : Nat) : Int)] 3)) gr4 (by simp; omega)
              have ownL4 := Own.kept (Own.alloc ownL3 (.cells #[Value.int .i64 ((q + 1 : Nat) : Int)] 3)) gr4 (by simp; omega)
              have hb4 : Below w.heap.size w w4 := (hb3.alloc (by omega) _).grown gr4 (by simp; omega) (by simp; omega)
              have lg4 := o4.lt
              rw [World.size_alloc] at hs4
              clear own4 gr4 nil4 o3' o3
              have ord5 := ord.insert (q + 1) (by omega) (unhide HD) (unhide HT')
              have o5 : Own w4 w2.heap.size g4 ((q + 1) + 1) c4 (ints (L.take (q + 1) ++ (q + 1) :: L.drop (q + 1))) := by
                rw [ints_split, List.drop_of_length_le (by rw [ints_len, lenL]; omega), List.append_nil]
                exact o4
              have lg5 := o5.lt
              go_wp2_with (at_builtin; refine wpList_append_own _ rfl (.tmp 69) (.tmp 72) 50 rfl w2.heap.size 3 i0 (.int .i64 0) 1 8 Try.underlying50 hi hz0 hz1 hz2 rfl (by decide) (.slice (some ⟨g4, 0, none⟩) ((q + 1) + 1) c4) ((q + 1) + 1) _ rfl o5 ⟨gO, 0, none⟩ 0 0 [] rfl rfl (by intro j u hj; simp at hj) (by intro u hu; simp at hu) (by unfold maxLen; omega) (by omega) (by omega) ?_)
              intro v5 w5 own5 (gr5 : World.grownBy _ w5 (some g4)) nil5
              obtain ⟨g5, c5, rfl, o6⟩ := own_of_row' (n' := (q + 1) + 1) (xs := ints (L.take (q + 1) ++ (q + 1) :: L.drop (q + 1))) own5 (by omega) (by simp) (by first | exact nil5 | (rw [nil5]; simp))
              have hs5 := gr5.size
              have ownL5 := Own.kept ownL4 gr5 (by simp; omega)
              have hb5 : Below w.heap.size w w5 := hb4.grown gr5 (by omega) (by simp; omega)
              have lg6 := o6.lt
              clear own5 gr5 nil5 o5 o4 ownO4 ownO3 ownL4 ownL3 ownO2 ownL2
              go_wp2
              go_roundw
              case rel => exact ⟨(q + 1) + 1, _, g5, c5, gL2, cL2, by omega, by go_num, by go_num, by go_num, by omega, Own.mono o6 (by omega), ownL5, ord5, hb5⟩
              case measure => simp [intOf]; omega

            · have HT' := hide ((unhide HT) s)
              go_wp2_with (at_builtin; refine wpList_append_own _ rfl (.tmp 60) (.tmp 63) 50 rfl w2.heap.size 3 i0 (.int .i64 0) 1 8 Try.underlying50 hi hz0 hz1 hz2 rfl (by decide) (.slice (some ⟨w2.heap.size, 0, none⟩) 0 0) 0 _ rfl (lit0 w2 _ (Nat.le_refl _)) ⟨gO, 0, none⟩ (q + 1) cO ((((ints L).drop 0).take (q + 1)).map (Value.int .i64)) rfl (by simp [ints_len, lenL] <;> omega) (part_cells (Own.alloc ownO2 _) 0 (q + 1) _ (Or.inr rfl) (by omega)) (ints_oneCell _ _) (by unfold maxLen; omega) (by omega) (by simp) ?_)
              intro v3 w3 own3 (gr3 : World.grownBy _ w3 (some w2.heap.size)) nil3
              obtain ⟨g3, c3, rfl, o3⟩ := own_of_row' (n' := q + 1) (xs := (ints L).take (q + 1)) own3 (by omega) (by simp) (by first | exact nil3 | (rw [nil3]; simp))
              have hs3 := gr3.size
              have o3' := Own.alloc o3 (.cells #[Value.int .i64 (k : Int)] 3)
              have ownO3 := Own.kept (Own.alloc ownO2 (.cells #[] 3)) gr3 (by simp; omega)
              have ownL3 := Own.kept (Own.alloc ownL2 (.cells #[] 3)) gr3 (by simp; omega)
              have hb3 : Below w.heap.size w w3 := (hb2.alloc hs2 _).grown gr3 (by simp; omega) (by simp; omega)
              have lg3 := o3.lt
              rw [World.size_alloc] at hs3
              clear own3 gr3 nil3
              go_wp2_with (at_builtin; refine wpList_append_own _ rfl (.tmp 65) (.tmp 67) 50 rfl w2.heap.size 3 i0 (.int .i64 0) 1 8 Try.underlying50 hi hz0 hz1 hz2 rfl (by decide) (.slice (some ⟨g3, 0, none⟩) (q + 1) c3) (q + 1) _ rfl o3' ⟨w3.heap.size, 0, none⟩ 1 1 [.int .i64 (k : Int)] rfl rfl (one_cell w3 _) (one_one _) (by unfold maxLen; omega) (by omega) (by simp; omega) ?_)
              intro v4 w4 own4 (gr4 : World.grownBy _ w4 (some g3)) nil4
              obtain ⟨g4, c4, rfl, o4⟩ := own_of_row' (n' := q + 1 + 1) (xs := (ints L).take (q + 1) ++ [(k : Int)]) own4 (by omega) (by simp) (by first | exact nil4 | (rw [nil4]; simp))
              have hs4 := gr4.size
              have ownO4 := Own.kept (Own.alloc ownO3 (.cells #[Value.int .i64 (k : Int)] 3)) gr4 (by simp; omega)
              have ownL4 := Own.kept (Own.alloc ownL3 (.cells #[Value.int .i64 (k : Int)] 3)) gr4 (by simp; omega)
              have hb4 : Below w.heap.size w w4 := (hb3.alloc (by omega) _).grown gr4 (by simp; omega) (by simp; omega)
              have lg4 := o4.lt
              rw [World.size_alloc] at hs4
              clear own4 gr4 nil4 o3' o3
              go_wp2_with (at_builtin; refine wpList_append_own _ rfl (.tmp 69) (.tmp 72) 50 rfl w2.heap.size 3 i0 (.int .i64 0) 1 8 Try.underlying50 hi hz0 hz1 hz2 rfl (by decide) (.slice (some ⟨g4, 0, none⟩) (q + 1 + 1) c4) (q + 1 + 1) _ rfl o4 ⟨gO, q + 1, none⟩ (k - (q + 1)) (cO - (q + 1)) ((((ints L).drop (q + 1)).take (k - (q + 1))).map (Value.int .i64)) rfl (by simp [ints_len, lenL]) (part_cells ownO4 (q + 1) (k - (q + 1)) _ (Or.inr rfl) (by omega)) (ints_oneCell _ _) (by unfold maxLen; omega) (by omega) (by omega) ?_)
              intro v5 w5 own5 (gr5 : World.grownBy _ w5 (some g4)) nil5
              obtain ⟨g5, c5, rfl, o5⟩ := own_of_row' (n' := k + 1) (xs := ints (L.take (q + 1) ++ k :: L.drop (q + 1))) own5 (by omega) (by rw [ints_split]; simp [List.take_of_length_le, ints_len, lenL]) (by first | exact nil5 | (rw [nil5]; simp))
              have hs5 := gr5.size
              have ownL5 := Own.kept ownL4 gr5 (by simp; omega)
              have hb5 : Below w.heap.size w w5 := hb4.grown gr5 (by omega) (by simp; omega)
              have lg5 := o5.lt
              have ord5 := ord.insert (q + 1) (by omega) (unhide HD) (unhide HT')
              clear own5 gr5 nil5 o4 ownO4 ownO3 ownL4 ownL3 ownO2 ownL2
              go_wp2
              go_roundw
              case rel => exact ⟨k + 1, _, g5, c5, gL2, cL2, by omega, by go_num, rfl, rfl, by omega, Own.mono o5 (by omega), ownL5, ord5, hb5⟩
              case measure => simp [intOf]; omega

    · obtain rfl : k = n := by omega
      have HO := hide ownO
      have HB := hide hb
      clear ownO ownL hb
      go_wp2
      go_ret
      exact ⟨L, gO, cO, ord, rfl, unhide HO, unhide HB⟩

set_option maxRecDepth 100000 in
theorem sOrder_bad (w : World) (t : Int) (g n cap : Nat) (xs : List Int) (hl : xs.length = n) (h20 : n ≤ 1048576) (hg : g < w.heap.size) (h : At w g xs) (bad : ¬ (Weigh.Good xs ∧ Tot t)) :
    Calls Try.prog 66 #[.int .i64 t, .slice (some ⟨g, 0, none⟩) n cap] w fun e w' => e = .returned (.slice (some ⟨w.heap.size, 0, none⟩) 0 0) ∧ Own w' w.heap.size w.heap.size 0 0 [] ∧ Below w.heap.size w w' := by
  have H := hide h
  have HG := hide hg
  have a1 := hide (lit0 w w.heap.size (Nat.le_refl _))
  have b1 := hide (Below.alloc (Below.refl w.heap.size w) (Nat.le_refl _) (.cells #[] 3))
  by_cases good : Weigh.Good xs
  · have ht := hide (show ¬ Tot t from fun k => bad ⟨good, k⟩)
    have GG := hide good
    clear h hg good bad
    go_enter Try.func66, Try.ntmps66
    go_wp2_with fail
    refine (sWeights _ g n cap xs true hl h20 ((unhide H).below (unhide b1) (unhide HG)) (hide ⟨fun _ => unhide GG, fun _ => rfl⟩)).mono ?_
    rintro e w1 ⟨rfl, hw1⟩
    go_wp2_with fail
    refine (sSome t 0 false _ (hide ⟨fun h => Bool.noConfusion h, fun h => absurd h (unhide ht)⟩)).mono ?_
    rintro e w2 ⟨rfl, hw2⟩
    subst hw2
    subst hw1
    go_wp2
    go_ret
    exact ⟨rfl, unhide a1, unhide b1⟩
  · have GG := hide good
    clear h hg good bad
    go_enter Try.func66, Try.ntmps66
    go_wp2_with fail
    refine (sWeights _ g n cap xs false hl h20 ((unhide H).below (unhide b1) (unhide HG)) (hide ⟨fun h => Bool.noConfusion h, fun h => absurd h (unhide GG)⟩)).mono ?_
    rintro e w1 ⟨rfl, hw1⟩
    subst hw1
    go_wp2
    go_ret
    exact ⟨rfl, unhide a1, unhide b1⟩

/-- The model's ShareOrder. -/
theorem sOrder (w : World) (t : Int) (g n cap : Nat) (xs : List Int) (hl : xs.length = n) (h20 : n ≤ 1048576) (hg : g < w.heap.size) (h : At w g xs) :
    Calls Try.prog 66 #[.int .i64 t, .slice (some ⟨g, 0, none⟩) n cap] w fun e w' => ∃ L g' c, OTells t xs L ∧ e = .returned (.slice (some ⟨g', 0, none⟩) L.length c) ∧ Own w' w.heap.size g' L.length c (ints L) ∧ Below w.heap.size w w' := by
  by_cases good : Weigh.Good xs ∧ Tot t
  · refine (sOrder_good w t g n cap xs hl hg h good.1 good.2).mono ?_
    rintro e w' ⟨L, g', c, ord, rfl, o, b⟩
    have hn := ord.len
    exact ⟨L, g', c, Or.inl ⟨good.1, good.2, by rw [hl]; exact ord⟩, by rw [hn], by rw [hn]; exact o, b⟩
  · refine (sOrder_bad w t g n cap xs hl h20 hg h good).mono ?_
    rintro e w' ⟨rfl, o, b⟩
    exact ⟨[], _, _, Or.inr ⟨good, rfl⟩, rfl, o, b⟩

end Go.Proofs.Ytdnpjjbphamcmaa.SOrder
