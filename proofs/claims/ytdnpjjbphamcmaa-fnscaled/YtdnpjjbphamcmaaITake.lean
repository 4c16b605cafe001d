/- Contract of the program's LotTake. Condition: a list of at most 2^20 lots. -/
import Derived.Test.YtdnpjjbphamcmaaITurn
import Derived.Test.YtdnpjjbphamcmaaSTake
namespace Go.Proofs.Ytdnpjjbphamcmaa.ITake
open Go.ChangeShapes Go.WideShapes Go.ChangeAt Go.RowKit Tup5 Lots Takes Cmp IOk5 Quieter IPlace5 ICut Cat5 Concat5 IOf IMean ITurn STake
set_option linter.unusedVariables false
set_option linter.unusedSimpArgs false

theorem take_len {ps R : List T5} {a i q way : Int} {bad short : Bool} (hbad : Says bad (¬ TakeOk ps q way)) (hshort : Says short (sumQ (ownL ps a i) < q)) (hR : R = mergeL ((restL ps a i).length + (takeL way (ownL ps a i) q).length) (restL ps a i) (takeL way (ownL ps a i) q)) : (takeA ps R bad short).length ≤ 241 := by
  unfold takeA
  split
  · simp
  · rename_i nb
    have ok : TakeOk ps q way := Classical.byContradiction fun h => nb (hbad.2 h)
    have n120 := ok.1.1
    split
    · omega
    · rename_i ns
      have qs : q ≤ sumQ (ownL ps a i) := Int.not_lt.1 (fun h => ns (hshort.2 h))
      have q1 := ok.2.1.1
      have on0 : 0 < (ownL ps a i).length := by
        generalize ownL ps a i = own at qs
        cases own with
        | nil => simp [sumQ] at qs; omega
        | cons x r => simp
      have TK := (takeL_key (way := way) (q := q) (own := ownL ps a i) (a := a) (i := i) (fun p hp => by simpa using (List.mem_filter.1 hp).2) on0).2
      have h1 : (ownL ps a i).length ≤ ps.length := List.length_filter_le _ _
      have h2 : (restL ps a i).length ≤ ps.length := List.length_filter_le _ _
      rw [hR, merge_len _ _ _ (Nat.le_refl _)]
      omega

theorem cut_merge' {ps L : List T5} {a i : Int} {f u n : Nat} (h : Cut ps a i f u) (hL : ∀ y ∈ L, y.1 = a ∧ y.2.1 = i) (hn : (restL ps a i).length + L.length ≤ n) : mergeL n (restL ps a i) L = putBack ps f u L := by
  rw [(cut_own h).2] at hn ⊢
  obtain ⟨h1, h2, h3, h4, h5⟩ := h
  refine merge_mid n _ _ _ (by rw [List.length_append] at hn; omega) (fun x hx y hy => ?_) (fun x hx y hy => ?_)
  · obtain ⟨t, ht, _, rfl⟩ := mem_take hx
    have := h3 t ht
    have := hL y hy
    unfold KLt at *
    unfold Bef
    omega
  · obtain ⟨t, ht, hl, rfl⟩ := mem_drop hx
    have := h5 t ht hl
    have := hL y hy
    unfold KGt at *
    unfold Bef
    omega

set_option maxRecDepth 100000 in
theorem iLots (w : World) (g o n cap : Nat) (own : List T5) (q way : Int) (hl : own.length = n) (h20 : n ≤ 1048576) (n0 : 0 < n) (hg : g < w.heap.size) (h : AtO w g o own) (hp : ∀ p ∈ own, Pos p) (hs : sumQ own ≤ 1000000000000000 ∧ sumC own ≤ 1000000000000000) (q1 : 1 ≤ q) (q2 : q ≤ sumQ own) :
    Calls Try.prog 48 #[.slice (some ⟨g, o, none⟩) n cap, .int .i64 q, .int .i64 way] w fun e w' => ∃ g' c', e = .returned (.tuple #[.slice (some ⟨g', 0, none⟩) (takeL way own q).length c', .int .i64 (takeC way own q)]) ∧ Own5 40 w' w.heap.size g' (takeL way own q).length c' (takeL way own q) ∧ Below w.heap.size w w' := by
  by_cases e : way = 3
  · have eb : (way == 3) = true := by simpa using e
    have TL := hide (show takeL way own q = meanL own q by simp [takeL, e])
    have TC := hide (show takeC way own q = meanC own q by simp [takeC, e])
    have M := hide (iMean w g o n cap own q hl h20 n0 hg h hp hs q1 q2)
    clear e
    go_enter Try.func48, Try.ntmps48
    go_wp2_with fail
    refine (unhide M).mono ?_
    rintro e w1 ⟨g1, c1, rfl, o1, b1⟩
    have O1 := hide o1
    have B1 := hide b1
    clear o1 b1 M
    go_wp2
    go_ret2
    rw [unhide TL, unhide TC]
    exact ⟨g1, c1, rfl, unhide O1, unhide B1⟩
  · have eb : (way == 3) = false := by simpa using e
    have TL := hide (show takeL way own q = leftW way own q by simp [takeL, e])
    have TC := hide (show takeC way own q = costW way own q by simp [takeC, e])
    have M := hide (iTurn w g o n cap own q way hl h20 hg h hp hs.2 q1 (by omega) q2)
    clear e
    go_enter Try.func48, Try.ntmps48
    go_wp2_with fail
    refine (unhide M).mono ?_
    rintro e w1 ⟨g1, c1, rfl, o1, b1⟩
    have O1 := hide o1
    have B1 := hide b1
    clear o1 b1 M
    go_wp2
    go_ret2
    rw [unhide TL, unhide TC]
    exact ⟨g1, c1, rfl, unhide O1, unhide B1⟩

set_option maxRecDepth 100000 in
set_option maxHeartbeats 4000000 in
theorem iTake (w : World) (g n cap : Nat) (ps R : List T5) (a i q way : Int) (bad short : Bool) (hl : ps.length = n) (h20 : n ≤ 1048576) (hc : n ≤ cap) (hg : g < w.heap.size) (h : At5 w g ps) (hbad : Says bad (¬ TakeOk ps q way)) (hshort : Says short (sumQ (ownL ps a i) < q)) (hR : bad = false → short = false → R = mergeL ((restL ps a i).length + (takeL way (ownL ps a i) q).length) (restL ps a i) (takeL way (ownL ps a i) q)) :
    Calls Try.prog 17 #[.slice (some ⟨g, 0, none⟩) n cap, .int .i64 a, .int .i64 i, .int .i64 q, .int .i64 way] w fun e w' => ∃ v, e = .returned (.tuple #[v, .int .i64 (takeK (takeC way (ownL ps a i) q) bad short), .int .i64 (takeD bad short)]) ∧ OwnV 40 w' w.heap.size v (takeA ps R bad short) ∧ Below w.heap.size w w' := by
  obtain ⟨ok, OK⟩ := says_of (Right ps)
  obtain ⟨b2, B2⟩ := says_of (Amt q)
  have H := hide h
  have HR := hide hR
  clear h hR
  go_enter Try.func17, Try.ntmps17
  go_wp2_with fail
  refine (iOk w g n cap ps ok hl h20 hg (unhide H) OK).mono ?_
  rintro e w1 ⟨rfl, b1⟩
  have H1 := hide ((unhide H).below b1 hg)
  have HB := hide b1
  have hg1 := Nat.lt_of_lt_of_le hg b1.size
  have NOLIT := hide (OwnV.of (lit50 40 w1 w.heap.size b1.size))
  have NB := hide ((unhide HB).alloc b1.size (.cells #[] 40))
  clear b1 H
  cases ok
  · obtain rfl : bad = true := not_of hbad (fun r => OK.no r.1)
    go_wp2
    go_ret3
    exact ⟨_, rfl, unhide NOLIT, unhide NB⟩
  go_wp2_with fail
  refine (iAmt q b2 _ B2).mono ?_
  rintro e w2 ⟨rfl, rfl⟩
  cases b2
  · obtain rfl : bad = true := not_of hbad (fun r => B2.no (by have := r.2.1; unfold Amt; omega))
    go_wp2
    go_ret3
    exact ⟨_, rfl, unhide NOLIT, unhide NB⟩
  have qM : q ≤ 1000000000000000 := B2.yes.2
  by_cases q1 : q < 1
  · obtain rfl : bad = true := not_of hbad (fun r => by have := r.2.1; omega)
    go_wp2
    go_ret3
    exact ⟨_, rfl, unhide NOLIT, unhide NB⟩
  by_cases y1 : way < 1
  · obtain rfl : bad = true := not_of hbad (fun r => by have := r.2.2; omega)
    go_wp2
    go_ret3
    exact ⟨_, rfl, unhide NOLIT, unhide NB⟩
  by_cases y3 : (3 : Int) < way
  · obtain rfl : bad = true := not_of hbad (fun r => by have := r.2.2; omega)
    go_wp2
    go_ret3
    exact ⟨_, rfl, unhide NOLIT, unhide NB⟩
  obtain rfl : bad = false := hbad.not (fun r => r ⟨OK.yes, ⟨by omega, qM⟩, by omega, by omega⟩)
  have n120 := OK.yes.1
  have OP := hide (own_pos OK.yes a i)
  have KEY := hide (show ∀ p ∈ ownL ps a i, p.1 = a ∧ p.2.1 = i from fun p hp => by simpa using (List.mem_filter.1 hp).2)
  have ASC := hide (asc_right OK.yes)
  clear NOLIT NB hbad
  go_wp2_with fail
  refine (iCut w2 g n cap ps a i hl h20 hc hg1 (unhide H1) ASC).mono ?_
  rintro e w3 ⟨f, u, o1, o2, o3, cut, rfl, a1, a2, a3, b3⟩
  have fu := cut.1
  have un : u ≤ n := by rw [← hl]; exact cut.2.1
  have ml : (midL ps f u).length = u - f := mid_len cut.1 cut.2.1
  have OW := (cut_own cut).1
  rw [OW] at hshort HR OP KEY
  have CUT := hide cut
  have ONE := (Below.refl w3.heap.size w3).alloc (Nat.le_refl _) (.cells #[.slice (some ⟨g, o1, none⟩) f f, .slice (some ⟨g, o2, none⟩) (u - f) (u - f), .slice (some ⟨g, o3, none⟩) (n - u) (n - u)] 58)
  have hg3 := Nat.lt_of_lt_of_le hg1 b3.size
  have H4 := hide (((unhide H1).below b3 hg1).below ONE hg3)
  have A1 := hide (a1.below ONE hg3)
  have A2 := hide (a2.below ONE hg3)
  have A3 := hide (a3.below ONE hg3)
  have HB4 := hide (next (next (unhide HB) b3) ONE)
  have K4 := hide (show (w3.alloc (.cells #[.slice (some ⟨g, o1, none⟩) f f, .slice (some ⟨g, o2, none⟩) (u - f) (u - f), .slice (some ⟨g, o3, none⟩) (n - u) (n - u)] 58)).cell? ⟨w3.heap.size, 0, none⟩ = some (.slice (some ⟨g, o1, none⟩) f f) ∧ (w3.alloc (.cells #[.slice (some ⟨g, o1, none⟩) f f, .slice (some ⟨g, o2, none⟩) (u - f) (u - f), .slice (some ⟨g, o3, none⟩) (n - u) (n - u)] 58)).cell? ⟨w3.heap.size, 1, none⟩ = some (.slice (some ⟨g, o2, none⟩) (u - f) (u - f)) ∧ (w3.alloc (.cells #[.slice (some ⟨g, o1, none⟩) f f, .slice (some ⟨g, o2, none⟩) (u - f) (u - f), .slice (some ⟨g, o3, none⟩) (n - u) (n - u)] 58)).cell? ⟨w3.heap.size, 2, none⟩ = some (.slice (some ⟨g, o3, none⟩) (n - u) (n - u)) from by simp)
  have hg4 : g < (w3.alloc (.cells #[.slice (some ⟨g, o1, none⟩) f f, .slice (some ⟨g, o2, none⟩) (u - f) (u - f), .slice (some ⟨g, o3, none⟩) (n - u) (n - u)] 58)).heap.size := by simp; omega
  have kl4 : w3.heap.size < (w3.alloc (.cells #[.slice (some ⟨g, o1, none⟩) f f, .slice (some ⟨g, o2, none⟩) (u - f) (u - f), .slice (some ⟨g, o3, none⟩) (n - u) (n - u)] 58)).heap.size := by simp
  clear cut a1 a2 a3 b3 ONE hg3 H1 HB ASC hg1
  go_wp2_with fail
  generalize w3.alloc (.cells #[.slice (some ⟨g, o1, none⟩) f f, .slice (some ⟨g, o2, none⟩) (u - f) (u - f), .slice (some ⟨g, o3, none⟩) (n - u) (n - u)] 58) = w4 at *
  generalize w3.heap.size = cb at *
  refine (iTotals w4 g o2 (u - f) (u - f) (midL ps f u) ml (by omega) hg4 (unhide A2) (unhide OP).1 (unhide OP).2).mono ?_
  rintro e w5 ⟨rfl, b5⟩
  have H5 := hide ((unhide H4).below b5 hg4)
  have A1 := hide ((unhide A1).below b5 hg4)
  have A2 := hide ((unhide A2).below b5 hg4)
  have A3 := hide ((unhide A3).below b5 hg4)
  have HB5 := hide (next (unhide HB4) b5)
  have k0 := (b5.cell (p := ⟨cb, 0, none⟩) kl4).trans (unhide K4).1
  have k1 := (b5.cell (p := ⟨cb, 1, none⟩) kl4).trans (unhide K4).2.1
  have k2 := (b5.cell (p := ⟨cb, 2, none⟩) kl4).trans (unhide K4).2.2
  have hg5 := Nat.lt_of_lt_of_le hg4 b5.size
  have kl5 := Nat.lt_of_lt_of_le kl4 b5.size
  clear b5 K4 H4 HB4 hg4 kl4
  obtain ⟨own, HO⟩ : ∃ own, Hid (midL ps f u = own) := ⟨_, rfl⟩
  rw [unhide HO] at hshort HR OP KEY A2 ml OW ⊢
  cases short
  rotate_left
  · have lt := hshort.yes
    have EA : takeA ps R false true = ps := by simp [takeA]
    have EK : takeK (takeC way own q) false true = 0 := by simp [takeK]
    have ED : takeD false true = 2 := by simp [takeD]
    have L1 := hide (lit50 40 w5 w.heap.size (unhide HB5).size)
    have B6 := hide ((unhide HB5).alloc (unhide HB5).size (.cells #[] 40))
    have A6 := hide ((unhide H5).below ((Below.refl w5.heap.size w5).alloc (Nat.le_refl _) (.cells #[] 40)) hg5)
    have bs := (unhide B6).size
    go_wp2_with (first | (at_builtin; refine wp_copyO _ rfl _ _ rfl w.heap.size w5.heap.size 0 n ps g 0 cap rfl rfl (unhide L1) hl (at_o (unhide A6)) (by omega) bs ?_) | go_in)
    intro g7 c7 w7 o7 gr7 loc7
    have O7 := hide (OwnV.of o7)
    have B7 := hide ((unhide B6).grown gr7 bs (fun j hj => by cases hj; exact (unhide L1).lt.1))
    clear o7 gr7 loc7
    go_wp2
    go_ret3
    rw [OW, EA, EK, ED]
    exact ⟨_, rfl, unhide O7, unhide B7⟩
  have qs : q ≤ sumQ own := Int.not_lt.1 hshort.no
  have EA : takeA ps R false false = R := by simp [takeA]
  have EK : takeK (takeC way own q) false false = takeC way own q := by simp [takeK]
  have ED : takeD false false = 0 := by simp [takeD]
  have on0 : 0 < own.length := by
    cases own with
    | nil => simp [sumQ] at qs; omega
    | cons x r => simp
  have TK := takeL_key (way := way) (q := q) (unhide KEY) on0
  have ER := hide (show R = ps.take f ++ (takeL way own q ++ ps.drop u) from by
    have h1 := (unhide HR) (by first | rfl | trivial) (by first | rfl | trivial)
    rw [h1]
    exact cut_merge' (unhide CUT) TK.1 (Nat.le_refl _))
  have nl : ¬ sumQ own < q := by omega
  have tl := TK.2
  go_wp2_with fail
  refine (iLots w5 g o2 (u - f) (u - f) own q way ml (by omega) (by omega) hg5 (unhide A2) (unhide OP).1 (unhide OP).2 (by omega) qs).mono ?_
  rintro e w6 ⟨gl, cl, rfl, ol, b6⟩
  have L6 := hide (at_o ol.at)
  have gl6 := ol.lt.2
  have A1 := hide ((unhide A1).below b6 hg5)
  have A3 := hide ((unhide A3).below b6 hg5)
  have HB6 := hide (next (unhide HB5) b6)
  have k0 := (b6.cell (p := ⟨cb, 0, none⟩) kl5).trans k0
  have k1 := (b6.cell (p := ⟨cb, 1, none⟩) kl5).trans k1
  have k2 := (b6.cell (p := ⟨cb, 2, none⟩) kl5).trans k2
  have hg6 := Nat.lt_of_lt_of_le hg5 b6.size
  clear ol b6 HB5 HR hshort H5 A2
  go_wp2_with fail
  refine (iWith w6 g o1 f f gl 0 (takeL way own q).length cl g o3 (n - u) (n - u) (.slice (some ⟨g, o2, none⟩) (u - f) (u - f)) (ps.take f) (takeL way own q) (ps.drop u) (by rw [List.length_take]; omega) rfl (by rw [List.length_drop, hl]) (by omega) hg6 gl6 hg6 (unhide A1) (unhide L6) (unhide A3)).mono ?_
  rw [← unhide ER]
  rintro e w7 ⟨v, rfl, ov, b7⟩
  have OV := hide (ov.rebase (base' := w.heap.size) (unhide HB6).size)
  have B7 := hide (next (unhide HB6) b7)
  clear ov b7
  go_wp2
  go_ret3
  rw [OW, EA, EK, ED]
  exact ⟨v, rfl, unhide OV, unhide B7⟩

end Go.Proofs.Ytdnpjjbphamcmaa.ITake
