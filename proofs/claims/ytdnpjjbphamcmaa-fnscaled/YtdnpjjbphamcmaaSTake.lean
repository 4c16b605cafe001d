/- Contract of the model's LotTake. Condition: a list of at most 2^20 lots. -/
import Derived.Test.YtdnpjjbphamcmaaSMean
import Derived.Test.YtdnpjjbphamcmaaCat5
import Derived.BigRegion
namespace Go.Proofs.Ytdnpjjbphamcmaa.STake
open Go.ChangeShapes Go.WideShapes Go.ChangeAt Go.RowKit Tup5 Lots Takes SOk5 SSplit Quieter ICut Cat5 SMean
open Cmp (at0)
set_option linter.unusedVariables false
set_option linter.unusedSimpArgs false

/-- What LotTake answers: the list, the cost and the code. -/
def takeA (ps R : List T5) (bad short : Bool) : List T5 := if bad = true then [] else if short = true then ps else R
def takeK (c : Int) (bad short : Bool) : Int := if bad = true then 0 else if short = true then 0 else c
def takeD (bad short : Bool) : Int := if bad = true then 1 else if short = true then 2 else 0

/-- What LotTake takes. -/
def TakeOk (ps : List T5) (q way : Int) : Prop := Right ps ∧ (1 ≤ q ∧ q ≤ 1000000000000000) ∧ (1 ≤ way ∧ way ≤ 3)

theorem own_cap {w : World} {base : Nat} {e : TypeId} {g n cap : Nat} {ps : List T5} (h : Own5 e w base g n cap ps) : n ≤ cap ∧ cap ≤ maxLen := by
  rcases h.2 with ⟨h1, _⟩ | ⟨g', c, cur, h1, hb, hg, hnc, hcm, hcs, htake⟩
  · simp at h1
  · obtain ⟨rfl, rfl⟩ : g = g' ∧ cap = c := by simpa using h1
    exact ⟨hnc, hcm⟩

theorem not_of {b : Bool} {p : Prop} (h : Says b (¬ p)) (r : ¬ p) : b = true := h.of r

set_option maxRecDepth 100000 in
set_option maxHeartbeats 4000000 in
theorem sTake (w : World) (g n cap : Nat) (ps R : List T5) (a i q way : Int) (bad short : Bool) (hl : ps.length = n) (h20 : n ≤ 1048576) (hg : g < w.heap.size) (h : At5 w g ps) (hbad : Says bad (¬ TakeOk ps q way)) (hshort : Says short (sumQ (ownL ps a i) < q)) (hR : bad = false → short = false → R = mergeL ((restL ps a i).length + (takeL way (ownL ps a i) q).length) (restL ps a i) (takeL way (ownL ps a i) q)) :
    Calls Try.prog 18 #[.slice (some ⟨g, 0, none⟩) n cap, .int .i64 a, .int .i64 i, .int .i64 q, .int .i64 way] w fun e w' => ∃ g' c', e = .returned (.tuple #[.slice (some ⟨g', 0, none⟩) (takeA ps R bad short).length c', .int .i64 (takeK (takeC way (ownL ps a i) q) bad short), .int .i64 (takeD bad short)]) ∧ Own5 40 w' w.heap.size g' (takeA ps R bad short).length c' (takeA ps R bad short) ∧ Below w.heap.size w w' := by
  obtain ⟨ok, OK⟩ := says_of (Right ps)
  obtain ⟨b2, B2⟩ := says_of (1 ≤ q ∧ q ≤ 1000000000000000)
  obtain ⟨b3, B3⟩ := says_of (1 ≤ way ∧ way ≤ 3)
  have H := hide h
  have HR := hide hR
  clear h hR
  go_enter Try.func18, Try.ntmps18
  go_wp2_with fail
  refine (sOk w g n cap ps ok hl h20 hg (unhide H) OK).mono ?_
  rintro e w1 ⟨rfl, b1⟩
  have H1 := hide ((unhide H).below b1 hg)
  have HB := hide b1
  have hg1 := Nat.lt_of_lt_of_le hg b1.size
  have NOLIT := hide (lit50 40 w1 w.heap.size b1.size)
  have NB := hide ((unhide HB).alloc b1.size (.cells #[] 40))
  clear b1 H
  cases ok
  · obtain rfl : bad = true := not_of hbad (fun r => OK.no r.1)
    go_wp2
    go_ret3
    exact ⟨w1.heap.size, 0, rfl, unhide NOLIT, unhide NB⟩
  go_wp2_with fail
  refine (sSome q 1 b2 _ B2).mono ?_
  rintro e w2 ⟨rfl, rfl⟩
  cases b2
  · obtain rfl : bad = true := not_of hbad (fun r => B2.no r.2.1)
    go_wp2
    go_ret3
    exact ⟨w2.heap.size, 0, rfl, unhide NOLIT, unhide NB⟩
  go_wp2_with fail
  refine (sIn way 1 3 b3 _ B3).mono ?_
  rintro e w3 ⟨rfl, rfl⟩
  cases b3
  · obtain rfl : bad = true := not_of hbad (fun r => B3.no r.2.2)
    go_wp2
    go_ret3
    exact ⟨w3.heap.size, 0, rfl, unhide NOLIT, unhide NB⟩
  obtain rfl : bad = false := hbad.not (fun r => r ⟨OK.yes, B2.yes, B3.yes⟩)
  obtain ⟨q1, qM⟩ := B2.yes
  obtain ⟨y1, y3⟩ := B3.yes
  have n120 := OK.yes.1
  have OP := hide (own_pos OK.yes a i)
  have KEY := hide (show ∀ p ∈ ownL ps a i, p.1 = a ∧ p.2.1 = i from fun p hp => by simpa using (List.mem_filter.1 hp).2)
  have OLEN : (ownL ps a i).length ≤ n := by rw [← hl]; exact List.length_filter_le _ _
  have RLEN : (restL ps a i).length ≤ n := by rw [← hl]; exact List.length_filter_le _ _
  clear NOLIT NB hbad
  go_wp2_with fail
  refine (sSplit w3 g n cap ps a i hl (by omega) hg1 (unhide H1)).mono ?_
  rintro e w4 ⟨go, co, gr, cr, rfl, oo, or, ne, b4⟩
  have H4 := hide ((unhide H1).below b4 hg1)
  have hg4 := Nat.lt_of_lt_of_le hg1 b4.size
  have OO := hide (oo.rebase (base' := w.heap.size) (Nat.le_trans (unhide HB).size oo.lt.1))
  have OR := hide (or.rebase (base' := w.heap.size) (Nat.le_trans (unhide HB).size or.lt.1))
  have HB4 := hide (next (unhide HB) b4)
  clear oo or b4 HB H1 hg1
  obtain ⟨own, HO⟩ : ∃ own, Hid (ownL ps a i = own) := ⟨_, rfl⟩
  obtain ⟨rest, HE⟩ : ∃ rest, Hid (restL ps a i = rest) := ⟨_, rfl⟩
  rw [unhide HO] at hshort HR OP KEY OLEN OO ⊢
  rw [unhide HE] at HR RLEN OR ⊢
  go_wp2_with fail
  refine (sQty w4 go own.length co own rfl (by omega) (unhide OO).at (unhide OP).1 (unhide OP).2.1).mono ?_
  rintro e w5 ⟨rfl, b5⟩
  have H5 := hide ((unhide H4).below b5 hg4)
  have hg5 := Nat.lt_of_lt_of_le hg4 b5.size
  have OO5 := hide ((unhide OO).below b5 (unhide OO).lt.2)
  have OR5 := hide ((unhide OR).below b5 (unhide OR).lt.2)
  have HB5 := hide (next (unhide HB4) b5)
  clear b5 OO OR HB4 H4 hg4
  cases short
  rotate_left
  · have lt := hshort.yes
    have EA : takeA ps R false true = ps := by simp [takeA]
    have EK : takeK (takeC way own q) false true = 0 := by simp [takeK]
    have ED : takeD false true = 2 := by simp [takeD]
    have L1 := hide (lit50 40 w5 w.heap.size (unhide HB5).size)
    have B6 := hide ((unhide HB5).alloc (unhide HB5).size (.cells #[] 40))
    have A6 := hide ((unhide H5).below ((Below.refl w5.heap.size w5).alloc (Nat.le_refl _) (.cells #[] 40)) hg5)
    have bs := (unhide B6).size
    go_wp2_with (first | (at_builtin; refine wp_copyO _ rfl _ _ rfl w.heap.size w5.heap.size 0 n ps g 0 cap rfl rfl (unhide L1) hl (at_o (unhide A6)) (by omega) bs ?_) | go_in)
    intro g7 c7 w7 o7 gr7 loc7
    have O7 := hide o7
    have B7 := hide ((unhide B6).grown gr7 bs (fun j hj => by cases hj; exact (unhide L1).lt.1))
    clear o7 gr7 loc7
    go_wp2
    go_ret3
    rw [unhide HO, EA, EK, ED, hl]
    exact ⟨g7, c7, rfl, unhide O7, unhide B7⟩
  have qs : q ≤ sumQ own := Int.not_lt.1 hshort.no
  have EA : takeA ps R false false = R := by simp [takeA]
  have EK : takeK (takeC way own q) false false = takeC way own q := by simp [takeK]
  have ED : takeD false false = 0 := by simp [takeD]
  have ER := hide ((unhide HR) (by first | rfl | trivial) (by first | rfl | trivial))
  have on0 : 0 < own.length := by
    cases own with
    | nil => simp [sumQ] at qs; omega
    | cons x r => simp
  clear HR hshort H5 hg5
  by_cases w3' : way = 3
  · subst w3'
    have nl : ¬ sumQ own < q := by omega
    go_wp2_with fail
    refine (sMean w5 go own.length co own q rfl (by omega) on0 (unhide OO5).lt.2 (unhide OO5).at (unhide OP).1 (unhide OP).2 q1 qs).mono ?_
    rintro e w6 ⟨gl, cl, rfl, ol, b6⟩
    have TL : takeL 3 own q = meanL own q := by simp [takeL]
    have TC : takeC 3 own q = meanC own q := by simp [takeC]
    have LL : (meanL own q).length ≤ 1 := by unfold meanL; split <;> simp
    have OL := hide ol
    have OR6 := hide ((unhide OR5).below b6 (unhide OR5).lt.2)
    have HB6 := hide (next (unhide HB5) b6)
    rw [TL] at ER
    clear ol b6 OO5 OR5 HB5
    go_wp2_with fail
    refine (sMerge w6 gr rest.length cr gl (meanL own q).length cl rest (meanL own q) rfl rfl (by omega) (by omega) (unhide OR6).lt.2 (unhide OL).lt.2 (unhide OR6).at (unhide OL).at).mono ?_
    rw [← unhide ER]
    rintro e w7 ⟨g7, c7, rfl, o7, b7⟩
    have O7 := hide (o7.rebase (base' := w.heap.size) (Nat.le_trans (unhide HB6).size o7.lt.1))
    have B7 := hide (next (unhide HB6) b7)
    have RL : R.length = rest.length + (meanL own q).length := by rw [unhide ER, merge_len _ _ _ (Nat.le_refl _)]
    clear o7 b7
    go_wp2
    go_ret3
    rw [unhide HO, EA, EK, ED, TC, RL]
    exact ⟨g7, c7, rfl, unhide O7, unhide B7⟩
  have w3n : (way == 3) = false := by rw [beq_eq_false_iff_ne]; exact w3'
  have TL : takeL way own q = leftW way own q := by simp [takeL, w3']
  have TC : takeC way own q = costW way own q := by simp [takeC, w3']
  have nl : ¬ sumQ own < q := by omega
  rw [TL] at ER
  obtain ⟨LF, hLF⟩ : ∃ LF, Hid (leftF (dirL way own) q = LF) := ⟨_, rfl⟩
  obtain ⟨CF, hCF⟩ : ∃ CF, Hid (costF (dirL way own) q = CF) := ⟨_, rfl⟩
  have CB := costF_bd (dirL way own) q (by omega) (fun p hp => (unhide OP).1 p (dir_mem.1 hp))
  rw [(dir_sum way own).2, unhide hCF] at CB
  have CM := (unhide OP).2.2
  have P0 := hide (unhide OP).1
  go_wp2
  go_loopw [3, 13, 17] (fun qv l cv wr => ∃ (cur : List T5) (gO cO : Nat) (x c : Int), qv = .int .i64 x ∧ l = .slice (some ⟨gO, 0, none⟩) cur.length cO ∧ cv = .int .i64 c ∧ 0 ≤ x ∧ x ≤ 1000000000000000 ∧ 0 ≤ c ∧ c ≤ CF ∧ gO ≠ gr ∧ cur.length ≤ own.length ∧ Hid (x ≤ sumQ cur) ∧ Hid (∀ p ∈ cur, Pos p) ∧ Hid (leftF (dirL way cur) x = LF) ∧ Hid (c + costF (dirL way cur) x = CF) ∧ Hid (Own5 40 wr w.heap.size gO cur.length cO cur) ∧ Hid (Own5 40 wr w.heap.size gr rest.length cr rest) ∧ Hid (Below w.heap.size w wr)) (fun qv _ _ _ => (intOf qv).toNat)
  case atStart => exact ⟨own, go, co, q, 0, rfl, rfl, rfl, by omega, qM, by omega, CB.1, ne, Nat.le_refl _, hide qs, P0, hLF, hide (by rw [unhide hCF]; omega), OO5, OR5, HB5⟩
  case round =>
    clear OO5 OR5 HB5 P0
    obtain ⟨cur, gO, cO, x, c, rfl, rfl, rfl, x0', xM, c0', cC, gne, cl, XS, PO, EL, ECO, HOw, HRe, HB⟩ := hrel
    by_cases t : 0 < x
    · have cn0 : 0 < cur.length := by
        cases cur with
        | nil => have := unhide XS; simp [sumQ] at this; omega
        | cons y r => simp
      obtain ⟨r, D1, D2, D3⟩ := dir_at way cur cn0
      obtain ⟨m, hm⟩ : ∃ m, m = atI way cur.length := ⟨_, rfl⟩
      rw [← hm] at D1 D2 D3
      have mlt : m < cur.length := by rw [hm]; unfold atI; split <;> omega
      have pp := (unhide PO) _ (getD_mem (ps := cur) (i := m) mlt)
      have ST := take_step (r := r) pp t
      have SQ := (dir_sum way cur).1
      rw [D1] at SQ EL ECO
      have HA := hide ST
      have PR := hide (show ∀ p ∈ r, Pos p from fun p hp => (unhide PO) p (dir_mem.1 (D1 ▸ List.mem_cons_of_mem _ hp)))
      have HD2 := hide D2
      have HD3 := hide D3
      have HSQ := hide SQ
      clear D1 D2 D3 ST SQ
      obtain ⟨e0, e1, e2, e3, e4⟩ := (unhide HOw).at m mlt
      have r3 : wr.frozen? ⟨gO, m * 5 + 3, none⟩ = false := (unhide HOw).free _
      have r4 : wr.frozen? ⟨gO, m * 5 + 4, none⟩ = false := (unhide HOw).free _
      have EP : el5 cur m = ((el5 cur m).1, (el5 cur m).2.1, (el5 cur m).2.2.1, (el5 cur m).2.2.2.1, (el5 cur m).2.2.2.2) := rfl
      rw [EP] at HA HD3 HSQ EL ECO pp
      have ELM := EP
      clear EP
      generalize (el5 cur m).1 = x0 at *
      generalize (el5 cur m).2.1 = x1 at *
      generalize (el5 cur m).2.2.1 = x2 at *
      generalize (el5 cur m).2.2.2.1 = x3 at *
      generalize (el5 cur m).2.2.2.2 = x4 at *
      have pp : (1 ≤ x3 ∧ x3 ≤ 1000000000000000) ∧ 0 ≤ x4 ∧ x4 ≤ 1000000000000000 := pp
      obtain ⟨⟨x31, x32⟩, x41, x42⟩ := pp
      have bs := (unhide HB).size
      have gl := (unhide HOw).lt.2
      have grl := (unhide HRe).lt.2
      obtain ⟨pt, hpt⟩ : ∃ pt, Hid (prt x x3 = pt) := ⟨_, rfl⟩
      have pb := part_bd (q := x) (x := x3) x0' x31
      rw [unhide hpt] at pb
      obtain ⟨pc, hpc⟩ : ∃ pc, Hid (x4 * pt / x3 = pc) := ⟨_, rfl⟩
      have pcb := div_le (c := x4) (t := pt) (x := x3) x41 pb.1 pb.2.1 x31
      have MT := hide (md_tells (a := x4) (b := pt) (c := x3) x41 x42 pb.1 pb.2.1 x31)
      rw [unhide hpc] at pcb MT
      have B1 := hide ((unhide HB).alloc bs (.cells #[.int .i64 x0, .int .i64 x1, .int .i64 x2, .int .i64 x3, .int .i64 x4] 40))
      have NE := hide (show (c + pc) + costF r (x - pt) = CF from by
        have h1 := (unhide HA).2
        have h2 := unhide ECO
        unfold pcost at h1
        simp only [unhide hpt, unhide hpc] at h1
        omega)
      have cr0 := costF_bd r (x - pt) (by omega) (unhide PR)
      have cpc : c + pc ≤ CF := by have := unhide NE; omega
      have O1 := hide ((unhide HOw).alloc (.cells #[.int .i64 x0, .int .i64 x1, .int .i64 x2, .int .i64 x3, .int .i64 x4] 40))
      have R1 := hide ((unhide HRe).alloc (.cells #[.int .i64 x0, .int .i64 x1, .int .i64 x2, .int .i64 x3, .int .i64 x4] 40))
      have X1 := hide (show Holds5 (wr.alloc (.cells #[.int .i64 x0, .int .i64 x1, .int .i64 x2, .int .i64 x3, .int .i64 x4] 40)) wr.heap.size 0 (x0, x1, x2, x3, x4) from by unfold Holds5; simp)
      have yb1 : gO ≠ wr.heap.size := by omega
      have yl : wr.heap.size < (wr.alloc (.cells #[.int .i64 x0, .int .i64 x1, .int .i64 x2, .int .i64 x3, .int .i64 x4] 40)).heap.size := by simp
      clear ECO HOw HRe cr0
      by_cases w2 : way = 2
      · have hm2 : (cur.length : Int) - 1 = (m : Int) := by rw [hm]; unfold atI; rw [if_pos w2]; omega
        have w2b : (way == 2) = true := by simpa using w2
        have HM := hide hm
        have W2 := hide w2
        clear hm w2
        go_wp2_with fail
        refine (sMin x3 x pt _ hpt).mono ?_
        rintro e w6 ⟨rfl, hu6⟩
        rw [← hu6] at O1 R1 X1 B1 yl
        obtain ⟨d0, d1, d2, d3, d4⟩ := (unhide O1).at m mlt
        rw [ELM] at d0 d1 d2 d3 d4
        obtain ⟨z0, z1, z2, z3, z4⟩ := at0 (unhide X1)
        have r3 : w6.frozen? ⟨gO, m * 5 + 3, none⟩ = false := (unhide O1).free _
        have r4 : w6.frozen? ⟨gO, m * 5 + 4, none⟩ = false := (unhide O1).free _
        clear hu6 e0 e1 e2 e3 e4
        generalize wr.heap.size = yb at *
        go_wp2_with fail
        refine (MulC.sMD x4 pt x3 pc (x4 * pt % x3) true _ x41 x42 pb.1 (by omega) x31 x32 MT).mono ?_
        rintro e w7 ⟨rfl, rfl⟩
        have S3 := (unhide O1).set3 m (x3 - pt)
        have S4 := S3.1.set4 m (x4 - pc)
        have O8 := hide (show Own5 40 ((w7.setCell ⟨gO, m * 5 + 3, none⟩ (.int .i64 (x3 - pt))).setCell ⟨gO, m * 5 + 4, none⟩ (.int .i64 (x4 - pc))) w.heap.size gO cur.length cO (cur.modify m (fun p : T5 => (p.1, p.2.1, p.2.2.1, x3 - pt, x4 - pc))) from by rw [← mod_mod]; exact S4.1)
        have G8 := hide (grown_trans S3.2 S4.2)
        have R8 := hide ((unhide R1).kept (unhide G8) (by simp; omega))
        have B8 := hide ((unhide B1).grown (unhide G8) (unhide B1).size (fun j hj => by cases hj; exact (unhide O1).lt.1))
        clear S3 S4
        by_cases full : x3 ≤ x
        · have ept : pt = x3 := by rw [← unhide hpt]; unfold prt; split <;> omega
          have epc : pc = x4 := by rw [← unhide hpc, ept, Int.mul_ediv_cancel _ (by omega)]
          have hz : (x3 - pt == 0) = true := by rw [ept]; simp
          have LEF := hide (left_full (p := (x0, x1, x2, x3, x4)) (r := r) t full)
          have LEN : (cur.take m ++ cur.drop (m + 1)).length = cur.length - 1 := by simp; omega
          have cOl := (own_cap (unhide O8)).1
          have k1 : (0 : Int) ≤ (m : Int) + 1 := by omega
          have k2 : ((m : Int) + 1).toNat = m + 1 := by omega
          have k3 : IntKind.i64.wrap ((m : Int) + 1) = (m : Int) + 1 := by rw [IntKind.wrap_i64]; omega
          have k4 : (m : Int) ≤ (cO : Int) := by omega
          have k5 : (m : Int) + 1 ≤ (cur.length : Int) := by omega
          have k6 : (cur.length : Int) ≤ (cO : Int) := by omega
          have pt1 : 1 ≤ pt := by omega
          have EPT := hide ept
          have EPC := hide epc
          clear ept epc
          have LT := hide (show (cur.modify m (fun p : T5 => (p.1, p.2.1, p.2.2.1, x3 - pt, x4 - pc))).take m = cur.take m from (mod_take cur m _ mlt).1)
          have LD := hide (show (cur.modify m (fun p : T5 => (p.1, p.2.1, p.2.2.1, x3 - pt, x4 - pc))).drop (m + 1) = cur.drop (m + 1) from (mod_take cur m _ mlt).2)
          have L8 : (cur.modify m (fun p : T5 => (p.1, p.2.1, p.2.2.1, x3 - pt, x4 - pc))).length = cur.length := by simp
          have AT8 := hide (unhide O8).at
          have gl8 := (unhide O8).lt.2
          have bs8 := (unhide B8).size
          have grl8 := (unhide R8).lt.2
          go_wp2_with fail
          generalize ((w7.setCell ⟨gO, m * 5 + 3, none⟩ (.int .i64 (x3 - pt))).setCell ⟨gO, m * 5 + 4, none⟩ (.int .i64 (x4 - pc))) = u8 at *
          generalize cur.modify m (fun p : T5 => (p.1, p.2.1, p.2.2.1, x3 - pt, x4 - pc)) = cur8 at *
          have mi : (0 : Int) ≤ (m : Int) := by omega
          have k7 : (m : Int) ≤ (cur.length : Int) := by omega
          by_cases ec : cO = m + 1
          · subst ec
            have kk : (m : Int) ≤ (m : Int) + 1 := by omega
            go_region_held3 (fun w' => True) (trivial)
              (first | (refine step_cat _ (by rfl) _ _ (by rfl) w.heap.size u8.heap.size 0 0 m [] (cur8.take m) gO 0 (m + 1) (by rfl) (by rfl) (by exact Own5.drew (lit50 40 u8 w.heap.size bs8)) (by rw [unhide LT, List.length_take]; omega) (by exact o_take ((unhide AT8).below (by repeat (first | exact Below.refl _ _ | refine Below.alloc ?_ (by simp; try omega) _ | refine Below.drew ?_)) gl8) m) (by omega) (by simp; omega) ?_; intro g1 c1 w9 o9 gr9 loc9) | (refine step_cat _ (by rfl) _ _ (by rfl) w.heap.size g1 (0 + m) c1 0 ([] ++ cur8.take m) (cur8.drop (m + 1)) gO 0 0 (by rfl) (by rfl) (by exact o9) (by rw [unhide LD, List.length_drop]; omega) (by exact o_nil (by rw [unhide LD, List.length_drop]; omega)) (by omega) (by exact Nat.le_trans (show w.heap.size ≤ (u8.alloc (.cells #[] 40)).heap.size by simp; omega) gr9.size) ?_; intro g2 c2 w10 o10 gr10 loc10))
            have X9 : g1 ≠ gr := by
              try simp at loc9
              omega
            have O10 := hide (show Own5 40 w10 w.heap.size g2 (cur.take m ++ cur.drop (m + 1)).length c2 (cur.take m ++ cur.drop (m + 1)) from by
              have := o10
              rw [unhide LT, unhide LD, List.nil_append] at this
              rw [LEN, show cur.length - 1 = 0 + m + 0 by omega]
              exact this)
            have L9 := hide (Own5.drew (Own5.alloc (unhide R8) (.cells #[] 40)))
            have R10 := hide (((unhide L9).kept gr9 (by simp; omega)).kept gr10 (by simp; exact fun e => X9 e.symm))
            have B9 := hide ((((unhide B8).alloc bs8 (.cells #[] 40)).drew).grown gr9 (by simp; omega) (fun j hj => by cases hj; exact bs8))
            have B10 := hide ((unhide B9).grown gr10 (unhide B9).size (fun j hj => by cases hj; try simp at loc9; omega))
            have g2r : g2 ≠ gr := by
              have := (unhide R10).lt.2
              have e9 := (unhide B9).size
              have z9 := gr9.size
              try simp at loc9 loc10 z9
              omega
            have D10 := hide (show dirL way (cur.take m ++ cur.drop (m + 1)) = r from unhide HD2)
            have PO10 := hide (show ∀ p ∈ cur.take m ++ cur.drop (m + 1), Pos p from fun p hp => (unhide PO) p (cutout_mem hp))
            have XS10 := hide (show x - pt ≤ sumQ (cur.take m ++ cur.drop (m + 1)) from by
              have h1 := (dir_sum way (cur.take m ++ cur.drop (m + 1))).1
              rw [unhide D10] at h1
              have h2 := unhide HSQ
              have h3 := unhide XS
              have h4 := unhide EPT
              simp only [sumQ] at h2
              omega)
            have L10 := hide (show leftF (dirL way (cur.take m ++ cur.drop (m + 1))) (x - pt) = LF from by
              rw [unhide D10, unhide EPT, ← (unhide LEF).1]
              exact unhide EL)
            have C10 := hide (show (c + pc) + costF (dirL way (cur.take m ++ cur.drop (m + 1))) (x - pt) = CF from by
              rw [unhide D10]
              exact unhide NE)
            have hR10 := LEN
            clear o9 gr9 loc9 o10 gr10 loc10 R8 L9 B8 B9 HA HD2 HD3 HSQ EL NE PO XS PR LEF AT8 LT LD O8
            go_wp2
            go_roundw
            case rel => exact ⟨cur.take m ++ cur.drop (m + 1), g2, c2, x - pt, c + pc, rfl, by rw [LEN]; congr 1; omega, rfl, by omega, by omega, by omega, cpc, g2r, by rw [LEN]; omega, XS10, PO10, L10, C10, O10, R10, B10⟩
            case measure => simp [intOf]; omega
          · have ec2 : ¬ cO = m + 1 := ec
            go_region_held3 (fun w' => True) (trivial)
              (first | (refine step_cat _ (by rfl) _ _ (by rfl) w.heap.size u8.heap.size 0 0 m [] (cur8.take m) gO 0 cO (by rfl) (by rfl) (by exact Own5.drew (lit50 40 u8 w.heap.size bs8)) (by rw [unhide LT, List.length_take]; omega) (by exact o_take ((unhide AT8).below (by repeat (first | exact Below.refl _ _ | refine Below.alloc ?_ (by simp; try omega) _ | refine Below.drew ?_)) gl8) m) (by omega) (by simp; omega) ?_; intro g1 c1 w9 o9 gr9 loc9) | (refine step_cat _ (by rfl) _ _ (by rfl) w.heap.size g1 (0 + m) c1 (cur.length - (m + 1)) ([] ++ cur8.take m) (cur8.drop (m + 1)) gO ((m + 1) * 5) (cO - (m + 1)) (by rfl) (by rfl) (by exact o9) (by rw [unhide LD, List.length_drop]) (by exact o_drop ((Own5.drew (Own5.alloc (unhide O8) (.cells #[] 40))).kept gr9 (by simp; omega)).at (m + 1)) (by omega) (by exact Nat.le_trans (show w.heap.size ≤ (u8.alloc (.cells #[] 40)).heap.size by simp; omega) gr9.size) ?_; intro g2 c2 w10 o10 gr10 loc10))
            have X9 : g1 ≠ gr := by
              try simp at loc9
              omega
            have O10 := hide (show Own5 40 w10 w.heap.size g2 (cur.take m ++ cur.drop (m + 1)).length c2 (cur.take m ++ cur.drop (m + 1)) from by
              have := o10
              rw [unhide LT, unhide LD, List.nil_append] at this
              rw [LEN, show cur.length - 1 = 0 + m + (cur.length - (m + 1)) by omega]
              exact this)
            have L9 := hide (Own5.drew (Own5.alloc (unhide R8) (.cells #[] 40)))
            have R10 := hide (((unhide L9).kept gr9 (by simp; omega)).kept gr10 (by simp; exact fun e => X9 e.symm))
            have B9 := hide ((((unhide B8).alloc bs8 (.cells #[] 40)).drew).grown gr9 (by simp; omega) (fun j hj => by cases hj; exact bs8))
            have B10 := hide ((unhide B9).grown gr10 (unhide B9).size (fun j hj => by cases hj; try simp at loc9; omega))
            have g2r : g2 ≠ gr := by
              have := (unhide R10).lt.2
              have e9 := (unhide B9).size
              have z9 := gr9.size
              try simp at loc9 loc10 z9
              omega
            have D10 := hide (show dirL way (cur.take m ++ cur.drop (m + 1)) = r from unhide HD2)
            have PO10 := hide (show ∀ p ∈ cur.take m ++ cur.drop (m + 1), Pos p from fun p hp => (unhide PO) p (cutout_mem hp))
            have XS10 := hide (show x - pt ≤ sumQ (cur.take m ++ cur.drop (m + 1)) from by
              have h1 := (dir_sum way (cur.take m ++ cur.drop (m + 1))).1
              rw [unhide D10] at h1
              have h2 := unhide HSQ
              have h3 := unhide XS
              have h4 := unhide EPT
              simp only [sumQ] at h2
              omega)
            have L10 := hide (show leftF (dirL way (cur.take m ++ cur.drop (m + 1))) (x - pt) = LF from by
              rw [unhide D10, unhide EPT, ← (unhide LEF).1]
              exact unhide EL)
            have C10 := hide (show (c + pc) + costF (dirL way (cur.take m ++ cur.drop (m + 1))) (x - pt) = CF from by
              rw [unhide D10]
              exact unhide NE)
            have hR10 := LEN
            clear o9 gr9 loc9 o10 gr10 loc10 R8 L9 B8 B9 HA HD2 HD3 HSQ EL NE PO XS PR LEF AT8 LT LD O8
            go_wp2
            go_roundw
            case rel => exact ⟨cur.take m ++ cur.drop (m + 1), g2, c2, x - pt, c + pc, rfl, by rw [LEN]; congr 1; omega, rfl, by omega, by omega, by omega, cpc, g2r, by rw [LEN]; omega, XS10, PO10, L10, C10, O10, R10, B10⟩
            case measure => simp [intOf]; omega
        · have ept : pt = x := by rw [← unhide hpt]; unfold prt; split <;> omega
          have hz : (x3 - pt == 0) = false := by rw [beq_eq_false_iff_ne]; omega
          have LEP := hide (left_part (p := (x0, x1, x2, x3, x4)) (r := r) t (show x < x3 by omega))
          have AF := hide (show after (x0, x1, x2, x3, x4) x = (x0, x1, x2, x3 - pt, x4 - pc) from by
            unfold after pcost
            simp only [unhide hpt, unhide hpc])
          have PO8 := hide (show ∀ p ∈ cur.modify m (fun p : T5 => (p.1, p.2.1, p.2.2.1, x3 - pt, x4 - pc)), Pos p from fun p hp => by
            rcases mod_mem mlt hp with h | h
            · exact (unhide PO) p h
            · rw [h, ELM]
              unfold Pos
              simp only
              omega)
          have sp8 := sum_pos _ (unhide PO8)
          have XS8 := hide (show x - pt ≤ sumQ (cur.modify m (fun p : T5 => (p.1, p.2.1, p.2.2.1, x3 - pt, x4 - pc))) by omega)
          have D8 := hide (show dirL way (cur.modify m (fun p : T5 => (p.1, p.2.1, p.2.2.1, x3 - pt, x4 - pc))) = (x0, x1, x2, x3 - pt, x4 - pc) :: r from (unhide HD3) _)
          have L8 := hide (show leftF (dirL way (cur.modify m (fun p : T5 => (p.1, p.2.1, p.2.2.1, x3 - pt, x4 - pc)))) (x - pt) = LF from by
            rw [unhide D8, show x - pt = 0 by omega, leftF_zero, ← unhide AF, ← (unhide LEP).1]
            exact unhide EL)
          have C8 := hide (show (c + pc) + costF (dirL way (cur.modify m (fun p : T5 => (p.1, p.2.1, p.2.2.1, x3 - pt, x4 - pc)))) (x - pt) = CF from by
            have h1 := unhide NE
            rw [unhide D8, show x - pt = 0 by omega, costF_zero]
            rw [show x - pt = 0 by omega, costF_zero] at h1
            exact h1)
          have pt1 : 1 ≤ pt := by omega
          clear LEP AF sp8 D8 HA HD2 HD3 HSQ EL NE PO XS PR ept
          go_wp2
          go_roundw
          case rel => exact ⟨cur.modify m (fun p : T5 => (p.1, p.2.1, p.2.2.1, x3 - pt, x4 - pc)), gO, cO, x - pt, c + pc, rfl, by rw [show (cur.modify m (fun p : T5 => (p.1, p.2.1, p.2.2.1, x3 - pt, x4 - pc))).length = cur.length by simp], rfl, by omega, by omega, by omega, cpc, gne, by simp; omega, XS8, PO8, L8, C8, hide (by rw [show (cur.modify m (fun p : T5 => (p.1, p.2.1, p.2.2.1, x3 - pt, x4 - pc))).length = cur.length by simp]; exact unhide O8), R8, B8⟩
          case measure => simp [intOf]; omega
      · have hm2 : m = 0 := by rw [hm]; unfold atI; rw [if_neg w2]
        have w2b : (way == 2) = false := by rw [beq_eq_false_iff_ne]; exact w2
        have HM := hide hm
        have W2 := hide w2
        clear hm w2
        subst hm2
        go_wp2_with fail
        refine (sMin x3 x pt _ hpt).mono ?_
        rintro e w6 ⟨rfl, hu6⟩
        rw [← hu6] at O1 R1 X1 B1 yl
        obtain ⟨d0, d1, d2, d3, d4⟩ := (unhide O1).at 0 mlt
        rw [ELM] at d0 d1 d2 d3 d4
        obtain ⟨z0, z1, z2, z3, z4⟩ := at0 (unhide X1)
        have r3 : w6.frozen? ⟨gO, 3, none⟩ = false := (unhide O1).free _
        have r4 : w6.frozen? ⟨gO, 4, none⟩ = false := (unhide O1).free _
        clear hu6 e0 e1 e2 e3 e4
        generalize wr.heap.size = yb at *
        go_wp2_with fail
        refine (MulC.sMD x4 pt x3 pc (x4 * pt % x3) true _ x41 x42 pb.1 (by omega) x31 x32 MT).mono ?_
        rintro e w7 ⟨rfl, rfl⟩
        have S3 := (unhide O1).set3 0 (x3 - pt)
        have S4 := S3.1.set4 0 (x4 - pc)
        have O8 := hide (show Own5 40 ((w7.setCell ⟨gO, 3, none⟩ (.int .i64 (x3 - pt))).setCell ⟨gO, 4, none⟩ (.int .i64 (x4 - pc))) w.heap.size gO cur.length cO (cur.modify 0 (fun p : T5 => (p.1, p.2.1, p.2.2.1, x3 - pt, x4 - pc))) from by rw [← mod_mod]; exact S4.1)
        have G8 := hide (grown_trans S3.2 S4.2)
        have R8 := hide ((unhide R1).kept (unhide G8) (by simp <;> omega))
        have B8 := hide ((unhide B1).grown (unhide G8) (unhide B1).size (fun j hj => by cases hj; exact (unhide O1).lt.1))
        clear S3 S4
        by_cases full : x3 ≤ x
        · have ept : pt = x3 := by rw [← unhide hpt]; unfold prt; split <;> omega
          have epc : pc = x4 := by rw [← unhide hpc, ept, Int.mul_ediv_cancel _ (by omega)]
          have hz : (x3 - pt == 0) = true := by rw [ept]; simp
          have LEF := hide (left_full (p := (x0, x1, x2, x3, x4)) (r := r) t full)
          have LEN : (cur.take 0 ++ cur.drop 1).length = cur.length - 1 := by simp <;> omega
          have cOl := (own_cap (unhide O8)).1
          have k1 : (0 : Int) ≤ (1 : Int) := by omega
          have k2 : ((1 : Int)).toNat = 1 := by omega
          have k3 : IntKind.i64.wrap ((1 : Int)) = (1 : Int) := by rw [IntKind.wrap_i64]; omega
          have k4 : (0 : Int) ≤ (cO : Int) := by omega
          have k5 : (1 : Int) ≤ (cur.length : Int) := by omega
          have k6 : (cur.length : Int) ≤ (cO : Int) := by omega
          have pt1 : 1 ≤ pt := by omega
          have EPT := hide ept
          have EPC := hide epc
          clear ept epc
          have LT := hide (show (cur.modify 0 (fun p : T5 => (p.1, p.2.1, p.2.2.1, x3 - pt, x4 - pc))).take 0 = cur.take 0 from (mod_take cur 0 _ mlt).1)
          have LD := hide (show (cur.modify 0 (fun p : T5 => (p.1, p.2.1, p.2.2.1, x3 - pt, x4 - pc))).drop 1 = cur.drop 1 from (mod_take cur 0 _ mlt).2)
          have L8 : (cur.modify 0 (fun p : T5 => (p.1, p.2.1, p.2.2.1, x3 - pt, x4 - pc))).length = cur.length := by simp
          have AT8 := hide (unhide O8).at
          have gl8 := (unhide O8).lt.2
          have bs8 := (unhide B8).size
          have grl8 := (unhide R8).lt.2
          go_wp2_with fail
          generalize ((w7.setCell ⟨gO, 3, none⟩ (.int .i64 (x3 - pt))).setCell ⟨gO, 4, none⟩ (.int .i64 (x4 - pc))) = u8 at *
          generalize cur.modify 0 (fun p : T5 => (p.1, p.2.1, p.2.2.1, x3 - pt, x4 - pc)) = cur8 at *
          have mi : (0 : Int) ≤ (0 : Int) := by omega
          have k7 : (0 : Int) ≤ (cur.length : Int) := by omega
          by_cases ec : cO = 1
          · subst ec
            have kk : (0 : Int) ≤ (1 : Int) := by omega
            go_region_held3 (fun w' => True) (trivial)
              (first | (refine step_cat _ (by rfl) _ _ (by rfl) w.heap.size u8.heap.size 0 0 0 [] (cur8.take 0) gO 0 1 (by rfl) (by rfl) (by exact Own5.drew (lit50 40 u8 w.heap.size bs8)) (by rw [unhide LT, List.length_take]; omega) (by exact o_take ((unhide AT8).below (by repeat (first | exact Below.refl _ _ | refine Below.alloc ?_ (by simp; try omega) _ | refine Below.drew ?_)) gl8) 0) (by omega) (by simp <;> omega) ?_; intro g1 c1 w9 o9 gr9 loc9) | (refine step_cat _ (by rfl) _ _ (by rfl) w.heap.size g1 (0 + 0) c1 0 ([] ++ cur8.take 0) (cur8.drop 1) gO 0 0 (by rfl) (by rfl) (by exact o9) (by rw [unhide LD, List.length_drop]; omega) (by exact o_nil (by rw [unhide LD, List.length_drop]; omega)) (by omega) (by exact Nat.le_trans (show w.heap.size ≤ (u8.alloc (.cells #[] 40)).heap.size by simp <;> omega) gr9.size) ?_; intro g2 c2 w10 o10 gr10 loc10))
            have X9 : g1 ≠ gr := by
              try simp at loc9
              omega
            have O10 := hide (show Own5 40 w10 w.heap.size g2 (cur.take 0 ++ cur.drop 1).length c2 (cur.take 0 ++ cur.drop 1) from by
              have := o10
              rw [unhide LT, unhide LD, List.nil_append] at this
              rw [LEN, show cur.length - 1 = 0 + 0 + 0 by omega]
              exact this)
            have L9 := hide (Own5.drew (Own5.alloc (unhide R8) (.cells #[] 40)))
            have R10 := hide (((unhide L9).kept gr9 (by simp <;> omega)).kept gr10 (by simp; exact fun e => X9 e.symm))
            have B9 := hide ((((unhide B8).alloc bs8 (.cells #[] 40)).drew).grown gr9 (by simp <;> omega) (fun j hj => by cases hj; exact bs8))
            have B10 := hide ((unhide B9).grown gr10 (unhide B9).size (fun j hj => by cases hj; try simp at loc9; omega))
            have g2r : g2 ≠ gr := by
              have := (unhide R10).lt.2
              have e9 := (unhide B9).size
              have z9 := gr9.size
              try simp at loc9 loc10 z9
              omega
            have D10 := hide (show dirL way (cur.take 0 ++ cur.drop 1) = r from unhide HD2)
            have PO10 := hide (show ∀ p ∈ cur.take 0 ++ cur.drop 1, Pos p from fun p hp => (unhide PO) p (cutout_mem hp))
            have XS10 := hide (show x - pt ≤ sumQ (cur.take 0 ++ cur.drop 1) from by
              have h1 := (dir_sum way (cur.take 0 ++ cur.drop 1)).1
              rw [unhide D10] at h1
              have h2 := unhide HSQ
              have h3 := unhide XS
              have h4 := unhide EPT
              simp only [sumQ] at h2
              omega)
            have L10 := hide (show leftF (dirL way (cur.take 0 ++ cur.drop 1)) (x - pt) = LF from by
              rw [unhide D10, unhide EPT, ← (unhide LEF).1]
              exact unhide EL)
            have C10 := hide (show (c + pc) + costF (dirL way (cur.take 0 ++ cur.drop 1)) (x - pt) = CF from by
              rw [unhide D10]
              exact unhide NE)
            have hR10 := LEN
            clear o9 gr9 loc9 o10 gr10 loc10 R8 L9 B8 B9 HA HD2 HD3 HSQ EL NE PO XS PR LEF AT8 LT LD O8
            go_wp2
            go_roundw
            case rel => exact ⟨cur.take 0 ++ cur.drop 1, g2, c2, x - pt, c + pc, rfl, by rw [LEN]; first | done | rfl | (congr 1; omega) | (congr 1 <;> omega), rfl, by omega, by omega, by omega, cpc, g2r, by rw [LEN]; omega, XS10, PO10, L10, C10, O10, R10, B10⟩
            case measure => simp [intOf]; omega
          · have ec2 : ¬ cO = 1 := ec
            go_region_held3 (fun w' => True) (trivial)
              (first | (refine step_cat _ (by rfl) _ _ (by rfl) w.heap.size u8.heap.size 0 0 0 [] (cur8.take 0) gO 0 cO (by rfl) (by rfl) (by exact Own5.drew (lit50 40 u8 w.heap.size bs8)) (by rw [unhide LT, List.length_take]; omega) (by exact o_take ((unhide AT8).below (by repeat (first | exact Below.refl _ _ | refine Below.alloc ?_ (by simp; try omega) _ | refine Below.drew ?_)) gl8) 0) (by omega) (by simp <;> omega) ?_; intro g1 c1 w9 o9 gr9 loc9) | (refine step_cat _ (by rfl) _ _ (by rfl) w.heap.size g1 (0 + 0) c1 (cur.length - 1) ([] ++ cur8.take 0) (cur8.drop 1) gO 5 (cO - 1) (by rfl) (by rfl) (by exact o9) (by rw [unhide LD, List.length_drop]) (by exact o_drop ((Own5.drew (Own5.alloc (unhide O8) (.cells #[] 40))).kept gr9 (by simp <;> omega)).at 1) (by omega) (by exact Nat.le_trans (show w.heap.size ≤ (u8.alloc (.cells #[] 40)).heap.size by simp <;> omega) gr9.size) ?_; intro g2 c2 w10 o10 gr10 loc10))
            have X9 : g1 ≠ gr := by
              try simp at loc9
              omega
            have O10 := hide (show Own5 40 w10 w.heap.size g2 (cur.take 0 ++ cur.drop 1).length c2 (cur.take 0 ++ cur.drop 1) from by
              have := o10
              rw [unhide LT, unhide LD, List.nil_append] at this
              rw [LEN, show cur.length - 1 = 0 + 0 + (cur.length - 1) by omega]
              exact this)
            have L9 := hide (Own5.drew (Own5.alloc (unhide R8) (.cells #[] 40)))
            have R10 := hide (((unhide L9).kept gr9 (by simp <;> omega)).kept gr10 (by simp; exact fun e => X9 e.symm))
            have B9 := hide ((((unhide B8).alloc bs8 (.cells #[] 40)).drew).grown gr9 (by simp <;> omega) (fun j hj => by cases hj; exact bs8))
            have B10 := hide ((unhide B9).grown gr10 (unhide B9).size (fun j hj => by cases hj; try simp at loc9; omega))
            have g2r : g2 ≠ gr := by
              have := (unhide R10).lt.2
              have e9 := (unhide B9).size
              have z9 := gr9.size
              try simp at loc9 loc10 z9
              omega
            have D10 := hide (show dirL way (cur.take 0 ++ cur.drop 1) = r from unhide HD2)
            have PO10 := hide (show ∀ p ∈ cur.take 0 ++ cur.drop 1, Pos p from fun p hp => (unhide PO) p (cutout_mem hp))
            have XS10 := hide (show x - pt ≤ sumQ (cur.take 0 ++ cur.drop 1) from by
              have h1 := (dir_sum way (cur.take 0 ++ cur.drop 1)).1
              rw [unhide D10] at h1
              have h2 := unhide HSQ
              have h3 := unhide XS
              have h4 := unhide EPT
              simp only [sumQ] at h2
              omega)
            have L10 := hide (show leftF (dirL way (cur.take 0 ++ cur.drop 1)) (x - pt) = LF from by
              rw [unhide D10, unhide EPT, ← (unhide LEF).1]
              exact unhide EL)
            have C10 := hide (show (c + pc) + costF (dirL way (cur.take 0 ++ cur.drop 1)) (x - pt) = CF from by
              rw [unhide D10]
              exact unhide NE)
            have hR10 := LEN
            clear o9 gr9 loc9 o10 gr10 loc10 R8 L9 B8 B9 HA HD2 HD3 HSQ EL NE PO XS PR LEF AT8 LT LD O8
            go_wp2
            go_roundw
            case rel => exact ⟨cur.take 0 ++ cur.drop 1, g2, c2, x - pt, c + pc, rfl, by rw [LEN]; first | done | rfl | (congr 1; omega) | (congr 1 <;> omega), rfl, by omega, by omega, by omega, cpc, g2r, by rw [LEN]; omega, XS10, PO10, L10, C10, O10, R10, B10⟩
            case measure => simp [intOf]; omega
        · have ept : pt = x := by rw [← unhide hpt]; unfold prt; split <;> omega
          have hz : (x3 - pt == 0) = false := by rw [beq_eq_false_iff_ne]; omega
          have LEP := hide (left_part (p := (x0, x1, x2, x3, x4)) (r := r) t (show x < x3 by omega))
          have AF := hide (show after (x0, x1, x2, x3, x4) x = (x0, x1, x2, x3 - pt, x4 - pc) from by
            unfold after pcost
            simp only [unhide hpt, unhide hpc])
          have PO8 := hide (show ∀ p ∈ cur.modify 0 (fun p : T5 => (p.1, p.2.1, p.2.2.1, x3 - pt, x4 - pc)), Pos p from fun p hp => by
            rcases mod_mem mlt hp with h | h
            · exact (unhide PO) p h
            · rw [h, ELM]
              unfold Pos
              simp only
              omega)
          have sp8 := sum_pos _ (unhide PO8)
          have XS8 := hide (show x - pt ≤ sumQ (cur.modify 0 (fun p : T5 => (p.1, p.2.1, p.2.2.1, x3 - pt, x4 - pc))) by omega)
          have D8 := hide (show dirL way (cur.modify 0 (fun p : T5 => (p.1, p.2.1, p.2.2.1, x3 - pt, x4 - pc))) = (x0, x1, x2, x3 - pt, x4 - pc) :: r from (unhide HD3) _)
          have L8 := hide (show leftF (dirL way (cur.modify 0 (fun p : T5 => (p.1, p.2.1, p.2.2.1, x3 - pt, x4 - pc)))) (x - pt) = LF from by
            rw [unhide D8, show x - pt = 0 by omega, leftF_zero, ← unhide AF, ← (unhide LEP).1]
            exact unhide EL)
          have C8 := hide (show (c + pc) + costF (dirL way (cur.modify 0 (fun p : T5 => (p.1, p.2.1, p.2.2.1, x3 - pt, x4 - pc)))) (x - pt) = CF from by
            have h1 := unhide NE
            rw [unhide D8, show x - pt = 0 by omega, costF_zero]
            rw [show x - pt = 0 by omega, costF_zero] at h1
            exact h1)
          have pt1 : 1 ≤ pt := by omega
          clear LEP AF sp8 D8 HA HD2 HD3 HSQ EL NE PO XS PR ept
          go_wp2
          go_roundw
          case rel => exact ⟨cur.modify 0 (fun p : T5 => (p.1, p.2.1, p.2.2.1, x3 - pt, x4 - pc)), gO, cO, x - pt, c + pc, rfl, by rw [show (cur.modify 0 (fun p : T5 => (p.1, p.2.1, p.2.2.1, x3 - pt, x4 - pc))).length = cur.length by simp], rfl, by omega, by omega, by omega, cpc, gne, by simp <;> omega, XS8, PO8, L8, C8, hide (by rw [show (cur.modify 0 (fun p : T5 => (p.1, p.2.1, p.2.2.1, x3 - pt, x4 - pc))).length = cur.length by simp]; exact unhide O8), R8, B8⟩
          case measure => simp [intOf]; omega
    · obtain rfl : x = 0 := by omega
      have ECUR := hide (show cur = leftW way own q from by
        have h1 := unhide EL
        rw [leftF_zero] at h1
        unfold leftW
        rw [unhide hLF, ← h1, dir_dir])
      have ECC := hide (show c = costW way own q from by
        have h1 := unhide ECO
        rw [costF_zero] at h1
        unfold costW
        rw [unhide hCF]
        omega)
      rw [← unhide ECUR] at ER
      clear EL ECO PO XS
      go_wp2_with fail
      refine (sMerge wr gr rest.length cr gO cur.length cO rest cur rfl rfl (by omega) (by omega) (unhide HRe).lt.2 (unhide HOw).lt.2 (unhide HRe).at (unhide HOw).at).mono ?_
      rw [← unhide ER]
      rintro e w7 ⟨g7, c7, rfl, o7, b7⟩
      have O7 := hide (o7.rebase (base' := w.heap.size) (Nat.le_trans (unhide HB).size o7.lt.1))
      have B7 := hide (next (unhide HB) b7)
      have RL : R.length = rest.length + cur.length := by rw [unhide ER, merge_len _ _ _ (Nat.le_refl _)]
      clear o7 b7
      go_wp2
      go_ret3
      rw [unhide HO, EA, EK, ED, TC, ← unhide ECC, RL]
      exact ⟨g7, c7, rfl, unhide O7, unhide B7⟩

end Go.Proofs.Ytdnpjjbphamcmaa.STake
