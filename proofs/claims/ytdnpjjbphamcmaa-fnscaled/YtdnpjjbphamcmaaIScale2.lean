/- Contract of the program's LotsScale. Condition: a list of at most 2^20 lots. -/
import Derived.Test.YtdnpjjbphamcmaaIScale
import Derived.Test.YtdnpjjbphamcmaaITake
import Derived.Deep.RegionHeld3
namespace Go.Proofs.Ytdnpjjbphamcmaa.IScale2
open Go.ChangeShapes Go.WideShapes Go.ChangeAt Go.RowKit Tup5 Lots Takes Cmp IOk5 Quieter IPlace5 ICut Cat5 Concat5 IOf IMean Scale SScale IScale
open STake (not_of)
open ITake (cut_merge')
open Parts (STells)
set_option linter.unusedVariables false
set_option linter.unusedSimpArgs false

theorem scaleA_len {ps R : List T5} {a i q : Int} {ss : List Int} {bad short full : Bool} (hbad : Says bad (¬ ScaleOk ps q)) (hR : R = mergeL ((restL ps a i).length + (scaleL (ownL ps a i) ss).length) (restL ps a i) (scaleL (ownL ps a i) ss)) : (scaleA ps R bad short full).length ≤ 241 := by
  unfold scaleA
  split
  · simp
  · rename_i nb
    have ok : ScaleOk ps q := Classical.byContradiction fun h => nb (hbad.2 h)
    have n120 := ok.1.1
    split
    · omega
    · split
      · omega
      · have h0 := Scale.scale_len (ownL ps a i) ss
        have h1 : (ownL ps a i).length ≤ ps.length := List.length_filter_le _ _
        have h2 : (restL ps a i).length ≤ ps.length := List.length_filter_le _ _
        rw [hR, merge_len _ _ _ (Nat.le_refl _)]
        omega

set_option maxRecDepth 100000 in
set_option maxHeartbeats 4000000 in
theorem iScale (w : World) (g n cap : Nat) (ps R : List T5) (ss : List Int) (okS : Bool) (a i q : Int) (bad short full : Bool) (hl : ps.length = n) (h20 : n ≤ 1048576) (hc : n ≤ cap) (hg : g < w.heap.size) (h : At5 w g ps) (hbad : Says bad (¬ ScaleOk ps q)) (hshort : Says short ((ownL ps a i).length = 0 ∧ 0 < q)) (hfull : Says full (40 < (ownL ps a i).length)) (hS : Hid (STells q (qtys (ownL ps a i)) ss okS)) (hR : Hid (R = mergeL ((restL ps a i).length + (scaleL (ownL ps a i) ss).length) (restL ps a i) (scaleL (ownL ps a i) ss))) :
    Calls Try.prog 11 #[.slice (some ⟨g, 0, none⟩) n cap, .int .i64 a, .int .i64 i, .int .i64 q] w fun e w' => ∃ v, e = .returned (.tuple #[v, .int .i64 (scaleD bad short full)]) ∧ OwnV 40 w' w.heap.size v (scaleA ps R bad short full) ∧ Below w.heap.size w w' := by
  obtain ⟨ok, OK⟩ := says_of (Right ps)
  obtain ⟨b2, B2⟩ := says_of (Amt q)
  have H := hide h
  clear h
  go_enter Try.func11, Try.ntmps11
  go_wp2_with fail
  refine (iOk w g n cap ps ok hl h20 hg (unhide H) OK).mono ?_
  rintro e w1 ⟨rfl, b1⟩
  have H1 := hide ((unhide H).below b1 hg)
  have HB := hide b1
  have hg1 := Nat.lt_of_lt_of_le hg b1.size
  have NOLIT := hide (OwnV.of (lit50 40 w1 w.heap.size b1.size))
  have NB := hide ((unhide HB).alloc b1.size (.cells #[] 40))
  clear b1 H
  cases ok
  · obtain rfl : bad = true := not_of hbad (fun r => OK.no r.1)
    go_wp2
    go_ret2
    exact ⟨_, rfl, unhide NOLIT, unhide NB⟩
  go_wp2_with fail
  refine (iAmt q b2 _ B2).mono ?_
  rintro e w2 ⟨rfl, rfl⟩
  cases b2
  · obtain rfl : bad = true := not_of hbad (fun r => B2.no (by have := r.2; unfold Amt; omega))
    go_wp2
    go_ret2
    exact ⟨_, rfl, unhide NOLIT, unhide NB⟩
  have qM : q ≤ 1000000000000000 := B2.yes.2
  by_cases q1 : q < 0
  · obtain rfl : bad = true := not_of hbad (fun r => by have := r.2; omega)
    go_wp2
    go_ret2
    exact ⟨_, rfl, unhide NOLIT, unhide NB⟩
  have q0 : 0 ≤ q := by omega
  obtain rfl : bad = false := hbad.not (fun r => r ⟨OK.yes, q0, qM⟩)
  have n120 := OK.yes.1
  have OP := hide (own_pos OK.yes a i)
  have KEY := hide (show ∀ p ∈ ownL ps a i, p.1 = a ∧ p.2.1 = i from fun p hp => by simpa using (List.mem_filter.1 hp).2)
  have ASC := hide (asc_right OK.yes)
  clear NOLIT NB hbad
  go_wp2_with fail
  refine (iCut w2 g n cap ps a i hl h20 hc hg1 (unhide H1) ASC).mono ?_
  rintro e w3 ⟨f, u, o1, o2, o3, cut, rfl, a1, a2, a3, b3⟩
  have fu := cut.1
  have un : u ≤ n := by rw [← hl]; exact cut.2.1
  have ml : (midL ps f u).length = u - f := mid_len cut.1 cut.2.1
  have OW := (cut_own cut).1
  have CUT := hide cut
  rw [OW] at hshort hfull hS OP KEY
  have ER := hide (show R = ps.take f ++ (scaleL (midL ps f u) ss ++ ps.drop u) from by
    rw [unhide hR, OW]
    exact cut_merge' (unhide CUT) (scale_key (unhide KEY) ss) (Nat.le_refl _))
  obtain ⟨m, HM⟩ : ∃ m, u - f = m := ⟨_, rfl⟩
  rw [HM] at ml
  rw [HM]
  have mn : m ≤ n := by omega
  have mun : f + m + (n - u) ≤ n := by omega
  rw [ml] at hshort hfull
  clear hR HM
  have ONE := (Below.refl w3.heap.size w3).alloc (Nat.le_refl _) (.cells #[.slice (some ⟨g, o1, none⟩) f f, .slice (some ⟨g, o2, none⟩) m m, .slice (some ⟨g, o3, none⟩) (n - u) (n - u)] 58)
  have hg3 := Nat.lt_of_lt_of_le hg1 b3.size
  have H4 := hide (((unhide H1).below b3 hg1).below ONE hg3)
  have A1 := hide (a1.below ONE hg3)
  have A2 := hide (a2.below ONE hg3)
  have A3 := hide (a3.below ONE hg3)
  have HB4 := hide (next (next (unhide HB) b3) ONE)
  have k0 : (w3.alloc (.cells #[.slice (some ⟨g, o1, none⟩) f f, .slice (some ⟨g, o2, none⟩) m m, .slice (some ⟨g, o3, none⟩) (n - u) (n - u)] 58)).cell? ⟨w3.heap.size, 0, none⟩ = some (.slice (some ⟨g, o1, none⟩) f f) := by simp
  have k1 : (w3.alloc (.cells #[.slice (some ⟨g, o1, none⟩) f f, .slice (some ⟨g, o2, none⟩) m m, .slice (some ⟨g, o3, none⟩) (n - u) (n - u)] 58)).cell? ⟨w3.heap.size, 1, none⟩ = some (.slice (some ⟨g, o2, none⟩) m m) := by simp
  have k2 : (w3.alloc (.cells #[.slice (some ⟨g, o1, none⟩) f f, .slice (some ⟨g, o2, none⟩) m m, .slice (some ⟨g, o3, none⟩) (n - u) (n - u)] 58)).cell? ⟨w3.heap.size, 2, none⟩ = some (.slice (some ⟨g, o3, none⟩) (n - u) (n - u)) := by simp
  have hg4 : g < (w3.alloc (.cells #[.slice (some ⟨g, o1, none⟩) f f, .slice (some ⟨g, o2, none⟩) m m, .slice (some ⟨g, o3, none⟩) (n - u) (n - u)] 58)).heap.size := by simp; omega
  have kl4 : w3.heap.size < (w3.alloc (.cells #[.slice (some ⟨g, o1, none⟩) f f, .slice (some ⟨g, o2, none⟩) m m, .slice (some ⟨g, o3, none⟩) (n - u) (n - u)] 58)).heap.size := by simp
  clear a1 a2 a3 b3 ONE hg3 H1 HB ASC hg1 cut
  obtain ⟨own, HO⟩ : ∃ own, Hid (midL ps f u = own) := ⟨_, rfl⟩
  rw [unhide HO] at hS OP KEY A2 ml ER
  clear HO OW CUT
  by_cases sh : m = 0 ∧ 0 < q
  · obtain rfl : short = true := hshort.of sh
    obtain ⟨rfl, qp⟩ := sh
    have qn : (q == 0) = false := by simp; omega
    have qn2 : (q != 0) = true := by simp; omega
    have EA : scaleA ps R false true full = ps := by simp [scaleA]
    have ED : scaleD false true full = 2 := by simp [scaleD]
    have L1 := hide (show Own5 40 ((w3.alloc (.cells #[.slice (some ⟨g, o1, none⟩) f f, .slice (some ⟨g, o2, none⟩) 0 0, .slice (some ⟨g, o3, none⟩) (n - u) (n - u)] 58)).alloc (.cells #[] 40)) w.heap.size (w3.heap.size + 1) 0 0 [] from by have := lit50 40 (w3.alloc (.cells #[.slice (some ⟨g, o1, none⟩) f f, .slice (some ⟨g, o2, none⟩) 0 0, .slice (some ⟨g, o3, none⟩) (n - u) (n - u)] 58)) w.heap.size (unhide HB4).size; simpa using this)
    have B6 := hide ((unhide HB4).alloc (unhide HB4).size (.cells #[] 40))
    have A6 := hide ((unhide H4).below ((Below.refl (w3.alloc (.cells #[.slice (some ⟨g, o1, none⟩) f f, .slice (some ⟨g, o2, none⟩) 0 0, .slice (some ⟨g, o3, none⟩) (n - u) (n - u)] 58)).heap.size (w3.alloc (.cells #[.slice (some ⟨g, o1, none⟩) f f, .slice (some ⟨g, o2, none⟩) 0 0, .slice (some ⟨g, o3, none⟩) (n - u) (n - u)] 58))).alloc (Nat.le_refl _) (.cells #[] 40)) hg4)
    have bs := (unhide B6).size
    go_wp2_with (first | (at_builtin; refine wp_copyO _ rfl _ _ rfl w.heap.size (w3.heap.size + 1) 0 n ps g 0 cap rfl rfl (unhide L1) hl (at_o (unhide A6)) (by omega) bs ?_) | go_in)
    intro g7 c7 w7 o7 gr7 loc7
    have O7 := hide (OwnV.of o7)
    have B7 := hide ((unhide B6).grown gr7 bs (fun j hj => by cases hj; exact (unhide L1).lt.1))
    clear o7 gr7 loc7
    go_wp2
    go_ret2
    rw [EA, ED]
    exact ⟨_, rfl, unhide O7, unhide B7⟩

  obtain rfl : short = false := hshort.not sh
  by_cases fl : 40 < m
  · obtain rfl : full = true := hfull.of fl
    have fl2 : (40 : Int) < (m : Int) := by omega
    have m0 : ((m : Int) == 0) = false := by simp; omega
    have EA : scaleA ps R false false true = ps := by simp [scaleA]
    have ED : scaleD false false true = 3 := by simp [scaleD]
    have L1 := hide (show Own5 40 ((w3.alloc (.cells #[.slice (some ⟨g, o1, none⟩) f f, .slice (some ⟨g, o2, none⟩) m m, .slice (some ⟨g, o3, none⟩) (n - u) (n - u)] 58)).alloc (.cells #[] 40)) w.heap.size (w3.heap.size + 1) 0 0 [] from by have := lit50 40 (w3.alloc (.cells #[.slice (some ⟨g, o1, none⟩) f f, .slice (some ⟨g, o2, none⟩) m m, .slice (some ⟨g, o3, none⟩) (n - u) (n - u)] 58)) w.heap.size (unhide HB4).size; simpa using this)
    have B6 := hide ((unhide HB4).alloc (unhide HB4).size (.cells #[] 40))
    have A6 := hide ((unhide H4).below ((Below.refl (w3.alloc (.cells #[.slice (some ⟨g, o1, none⟩) f f, .slice (some ⟨g, o2, none⟩) m m, .slice (some ⟨g, o3, none⟩) (n - u) (n - u)] 58)).heap.size (w3.alloc (.cells #[.slice (some ⟨g, o1, none⟩) f f, .slice (some ⟨g, o2, none⟩) m m, .slice (some ⟨g, o3, none⟩) (n - u) (n - u)] 58))).alloc (Nat.le_refl _) (.cells #[] 40)) hg4)
    have bs := (unhide B6).size
    go_wp2_with (first | (at_builtin; refine wp_copyO _ rfl _ _ rfl w.heap.size (w3.heap.size + 1) 0 n ps g 0 cap rfl rfl (unhide L1) hl (at_o (unhide A6)) (by omega) bs ?_) | go_in)
    intro g7 c7 w7 o7 gr7 loc7
    have O7 := hide (OwnV.of o7)
    have B7 := hide ((unhide B6).grown gr7 bs (fun j hj => by cases hj; exact (unhide L1).lt.1))
    clear o7 gr7 loc7
    go_wp2
    go_ret2
    rw [EA, ED]
    exact ⟨_, rfl, unhide O7, unhide B7⟩

  obtain rfl : full = false := hfull.not fl
  have EA : scaleA ps R false false false = R := by simp [scaleA]
  have ED : scaleD false false false = 0 := by simp [scaleD]
  have SL := Scale.scale_len own ss
  have PATH : (m = 0 ∧ q = 0) ∨ ((m : Int) == 0) = false := by
    by_cases m0 : m = 0
    · exact .inl ⟨m0, by omega⟩
    · exact .inr (by simp; omega)
  rcases PATH with ⟨m00, q00⟩ | m0
  · subst m00
    subst q00
    have fl2 : ¬ (40 : Int) < (0 : Int) := by omega
    go_wp2_with fail
    generalize w3.alloc (.cells #[.slice (some ⟨g, o1, none⟩) f f, .slice (some ⟨g, o2, none⟩) 0 0, .slice (some ⟨g, o3, none⟩) (n - u) (n - u)] 58) = w4 at *
    generalize w3.heap.size = cb at *
    go_region_held3 (fun w' => w'.cell? ⟨cb, 0, none⟩ = some (.slice (some ⟨g, o1, none⟩) f f) ∧ w'.cell? ⟨cb, 1, none⟩ = some (.slice (some ⟨g, o2, none⟩) 0 0) ∧ w'.cell? ⟨cb, 2, none⟩ = some (.slice (some ⟨g, o3, none⟩) (n - u) (n - u))) (go_keep)
      (first | (go_at_call 40; refine (iScaleLots w4.drew g o2 0 0 own ss okS 0 ml (by omega) hg4 (show AtO w4.drew g o2 own from unhide A2) (unhide OP).1 (unhide OP).2.1 (unhide OP).2.2 q0 qM hS).mono ?_; rintro e w6 ⟨gl, cl, rfl, ol, b6⟩; have L6 := hide (at_o ol.at); have gl6 := ol.lt.2; have A1 := hide (AtO.below (show AtO w4.drew g o1 (ps.take f) from unhide A1) b6 hg4); have A3 := hide (AtO.below (show AtO w4.drew g o3 (ps.drop u) from unhide A3) b6 hg4); have HB6 := hide (next (unhide HB4).drew b6); have k0 := (b6.cell (p := ⟨cb, 0, none⟩) kl4).trans k0; have k1 := (b6.cell (p := ⟨cb, 1, none⟩) kl4).trans k1; have k2 := (b6.cell (p := ⟨cb, 2, none⟩) kl4).trans k2; have hg6 : g < w6.heap.size := Nat.lt_of_lt_of_le hg4 b6.size; have kl6 : cb < w6.heap.size := Nat.lt_of_lt_of_le kl4 b6.size; clear ol b6) | (go_at_call 39; refine (iWith _ g o1 f f gl 0 (scaleL own ss).length cl g o3 (n - u) (n - u) (.slice (some ⟨g, o2, none⟩) 0 0) (ps.take f) (scaleL own ss) (ps.drop u) (by rw [List.length_take]; omega) rfl (by rw [List.length_drop, hl]) (by omega) hg6 gl6 hg6 (unhide A1) (unhide L6) (unhide A3)).mono ?_; rw [← unhide ER]; rintro e w7 ⟨v, rfl, ov, b7⟩; have OV := hide (OwnV.rebase ov (base' := w.heap.size) (unhide HB6).size); have B7 := hide (next (unhide HB6) b7); have k0 := (b7.cell (p := ⟨cb, 0, none⟩) kl6).trans k0; have k1 := (b7.cell (p := ⟨cb, 1, none⟩) kl6).trans k1; have k2 := (b7.cell (p := ⟨cb, 2, none⟩) kl6).trans k2; clear ov b7))
    go_wp2
    go_ret2
    rw [EA, ED]
    exact ⟨v, rfl, unhide OV, unhide B7⟩
  · have fl2 : ¬ (40 : Int) < (m : Int) := by omega
    go_wp2_with fail
    generalize w3.alloc (.cells #[.slice (some ⟨g, o1, none⟩) f f, .slice (some ⟨g, o2, none⟩) m m, .slice (some ⟨g, o3, none⟩) (n - u) (n - u)] 58) = w4 at *
    generalize w3.heap.size = cb at *
    go_region_held3 (fun w' => w'.cell? ⟨cb, 0, none⟩ = some (.slice (some ⟨g, o1, none⟩) f f) ∧ w'.cell? ⟨cb, 1, none⟩ = some (.slice (some ⟨g, o2, none⟩) m m) ∧ w'.cell? ⟨cb, 2, none⟩ = some (.slice (some ⟨g, o3, none⟩) (n - u) (n - u))) (go_keep)
      (first | (go_at_call 40; refine (iScaleLots w4.drew g o2 m m own ss okS q ml (by omega) hg4 (show AtO w4.drew g o2 own from unhide A2) (unhide OP).1 (unhide OP).2.1 (unhide OP).2.2 q0 qM hS).mono ?_; rintro e w6 ⟨gl, cl, rfl, ol, b6⟩; have L6 := hide (at_o ol.at); have gl6 := ol.lt.2; have A1 := hide (AtO.below (show AtO w4.drew g o1 (ps.take f) from unhide A1) b6 hg4); have A3 := hide (AtO.below (show AtO w4.drew g o3 (ps.drop u) from unhide A3) b6 hg4); have HB6 := hide (next (unhide HB4).drew b6); have k0 := (b6.cell (p := ⟨cb, 0, none⟩) kl4).trans k0; have k1 := (b6.cell (p := ⟨cb, 1, none⟩) kl4).trans k1; have k2 := (b6.cell (p := ⟨cb, 2, none⟩) kl4).trans k2; have hg6 : g < w6.heap.size := Nat.lt_of_lt_of_le hg4 b6.size; have kl6 : cb < w6.heap.size := Nat.lt_of_lt_of_le kl4 b6.size; clear ol b6) | (go_at_call 39; refine (iWith _ g o1 f f gl 0 (scaleL own ss).length cl g o3 (n - u) (n - u) (.slice (some ⟨g, o2, none⟩) m m) (ps.take f) (scaleL own ss) (ps.drop u) (by rw [List.length_take]; omega) rfl (by rw [List.length_drop, hl]) (by omega) hg6 gl6 hg6 (unhide A1) (unhide L6) (unhide A3)).mono ?_; rw [← unhide ER]; rintro e w7 ⟨v, rfl, ov, b7⟩; have OV := hide (OwnV.rebase ov (base' := w.heap.size) (unhide HB6).size); have B7 := hide (next (unhide HB6) b7); have k0 := (b7.cell (p := ⟨cb, 0, none⟩) kl6).trans k0; have k1 := (b7.cell (p := ⟨cb, 1, none⟩) kl6).trans k1; have k2 := (b7.cell (p := ⟨cb, 2, none⟩) kl6).trans k2; clear ov b7))
    go_wp2
    go_ret2
    rw [EA, ED]
    exact ⟨v, rfl, unhide OV, unhide B7⟩

end Go.Proofs.Ytdnpjjbphamcmaa.IScale2
