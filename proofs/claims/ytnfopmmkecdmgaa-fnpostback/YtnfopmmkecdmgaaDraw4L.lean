/- Contract of the drawing function of the model for legs: a list in memory of the call's own, whatever the bytes are. -/
import Derived.Test.YtnfopmmkecdmgaaDraw4
namespace Go.Proofs.Ytnfopmmkecdmgaa.Draw4L
open Go.ChangeShapes Go.WideShapes Go.ChangeAt Go.RowKit Bals Triples Put Draw4
open Draw (CodeAt Cur Only Moved below once new pick drawNo of3 of4 of3_cells of4_cells)
set_option linter.unusedVariables false
set_option linter.unusedSimpArgs false

set_option maxRecDepth 100000 in
set_option maxHeartbeats 8000000 in
theorem drawLegs (w0 w : World) (c : Nat) (a : Option Addr) (len cap : Nat) (hl : len ≤ 1048576) (hcode : CodeAt w0 a len) (h : Cur w0 w c a len cap) :
    Calls Try.prog 23 #[.pointer (some ⟨c, 0, none⟩)] w fun e w' => ∃ ps g' c', e = .returned (.slice (some ⟨g', 0, none⟩) ps.length c') ∧ Own3 34 w' w.heap.size g' ps.length c' ps ∧ ps.length ≤ 163 ∧ Moved w0 w w' c a len cap := by
  have hc := h.hi
  have h0 := h.bel.size
  have oL := lit30 34 w w.heap.size (Nat.le_refl _)
  have gS : w.heap.size ≠ c := by omega
  go_enter Try.func23, Try.ntmps23
  go_wp2_with fail
  refine (below w0 _ c a len cap 4 hl hcode (Draw.Cur.alloc h _ _) (by omega)).mono ?_
  rintro e wa ⟨⟨x, x0, x1, rfl⟩, ha⟩
  have oL := own3_only oL ha.2 gS
  have ha := Moved.trans (moved_alloc (moved_start h) _ _) ha
  go_wp2_with fail
  refine (once w0 _ c a len cap 25 hl hcode ha.1 (by omega)).mono ?_
  rintro e wb ⟨⟨tb, rfl⟩, hb⟩
  have oS := own3_only oL hb.2 gS
  have mS := Moved.trans ha hb
  clear oL ha hb h
  cases tb
  · go_wp2_with fail
    go_loopw [3, 5, 6, 7] (fun o i _ _ wr => ∃ (k : Nat) (ps : List T3) (gO cO : Nat), (k : Int) ≤ x ∧ i = .int .i64 k ∧ o = .slice (some ⟨gO, 0, none⟩) ps.length cO ∧ Own3 34 wr w.heap.size gO ps.length cO ps ∧ ps.length ≤ 2 * k ∧ gO ≠ c ∧ Moved w0 w wr c a len cap) (fun _ i _ _ _ => (x - intOf i).toNat)
    case atStart => exact ⟨0, [], _, _, by omega, rfl, rfl, oS, by simp, gS, mS⟩
    case round =>
      clear oS mS
      obtain ⟨k, ps, gO, cO, hk, rfl, rfl, own, p20, gne, hm⟩ := hrel
      have gl := own.lt.1
      by_cases lt : (k : Int) < x
      · go_wp2_with fail
        refine (below w0 _ c a len cap 50 hl hcode hm.1 (by omega)).mono ?_
        rintro e w1 ⟨⟨x1, x10, x11, rfl⟩, h1⟩
        have o1 := own3_only own h1.2 gne
        have h1 := Moved.trans hm h1
        clear own hm
        go_wp2_with fail
        refine (once w0 _ c a len cap 12 hl hcode h1.1 (by omega)).mono ?_
        rintro e w2 ⟨⟨t2, rfl⟩, h2⟩
        have o2 := own3_only o1 h2.2 gne
        have h2 := Moved.trans h1 h2
        clear o1 h1
        cases t2
        · skip
          go_wp2_with fail
          refine (below w0 _ c a len cap 3 hl hcode h2.1 (by omega)).mono ?_
          rintro e w4 ⟨⟨x4, x40, x41, rfl⟩, h4⟩
          have o4 := own3_only o2 h4.2 gne
          have h4 := Moved.trans h2 h4
          clear o2 h2
          go_wp2_with fail
          refine (below w0 _ c a len cap 5 hl hcode h4.1 (by omega)).mono ?_
          rintro e w5 ⟨⟨x5, x50, x51, rfl⟩, h5⟩
          have o5 := own3_only o4 h5.2 gne
          have h5 := Moved.trans h4 h5
          clear o4 h4
          go_wp2_with fail
          refine (below w0 _ c a len cap 5 hl hcode h5.1 (by omega)).mono ?_
          rintro e w6 ⟨⟨x6, x60, x61, rfl⟩, h6⟩
          have O6 := hide (own3_only o5 h6.2 gne)
          have M6 := hide (Moved.trans h5 h6)
          have s6 := (Moved.trans h5 h6).2.1
          clear o5 h5 h6
          go_wp2_with (first | (at_builtin; refine LegApp.wp_app2 w6 rfl _ _ rfl w.heap.size gO ps.length cO ps _ _ _ _ _ _ rfl rfl (unhide O6) (by omega) (by omega) ?_) | go_in)
          intro g8 c8 w8 o8 gr8 lo8
          have M8 := moved_grown (moved_alloc (unhide M6) _ _) gr8 hc gl h0
          obtain ⟨qs, o8, ql⟩ : ∃ qs : List T3, Own3 34 w8 w.heap.size g8 (ps.length + 2) c8 qs ∧ qs.length = ps.length + 2 := ⟨_, o8, by simp⟩
          have g8c : g8 ≠ c := by omega
          rw [← ql] at o8
          clear gr8
          go_wp2
          go_roundw
          case rel => exact ⟨k + 1, qs, g8, c8, by omega, by go_num, by rw [ql], o8, by omega, g8c, M8⟩
          case measure => simp [intOf]; omega
        · have hiX := h2.1.hi
          go_wp2_with fail
          refine (pick w0 _ c a len cap w2.heap.size 3 (of3 1000000000000000 (-1000000000000000) 999999999999997) hl hcode (Draw.Cur.alloc h2.1 _ _) (by omega) (by omega) (by simp) (by omega) (of3_cells w2 3 _ _ _)).mono ?_
          rintro e w3 ⟨⟨j, hj, rfl⟩, h3⟩
          have o2 := own3_only (o2.alloc _) h3.2 gne
          have h2 := Moved.trans (moved_alloc h2 _ 3) h3
          generalize of3 1000000000000000 (-1000000000000000) 999999999999997 j = x1 at *
          clear h3
          go_wp2_with fail
          refine (below w0 _ c a len cap 3 hl hcode h2.1 (by omega)).mono ?_
          rintro e w4 ⟨⟨x4, x40, x41, rfl⟩, h4⟩
          have o4 := own3_only o2 h4.2 gne
          have h4 := Moved.trans h2 h4
          clear o2 h2
          go_wp2_with fail
          refine (below w0 _ c a len cap 5 hl hcode h4.1 (by omega)).mono ?_
          rintro e w5 ⟨⟨x5, x50, x51, rfl⟩, h5⟩
          have o5 := own3_only o4 h5.2 gne
          have h5 := Moved.trans h4 h5
          clear o4 h4
          go_wp2_with fail
          refine (below w0 _ c a len cap 5 hl hcode h5.1 (by omega)).mono ?_
          rintro e w6 ⟨⟨x6, x60, x61, rfl⟩, h6⟩
          have O6 := hide (own3_only o5 h6.2 gne)
          have M6 := hide (Moved.trans h5 h6)
          have s6 := (Moved.trans h5 h6).2.1
          clear o5 h5 h6
          go_wp2_with (first | (at_builtin; refine LegApp.wp_app2 w6 rfl _ _ rfl w.heap.size gO ps.length cO ps _ _ _ _ _ _ rfl rfl (unhide O6) (by omega) (by omega) ?_) | go_in)
          intro g8 c8 w8 o8 gr8 lo8
          have M8 := moved_grown (moved_alloc (unhide M6) _ _) gr8 hc gl h0
          obtain ⟨qs, o8, ql⟩ : ∃ qs : List T3, Own3 34 w8 w.heap.size g8 (ps.length + 2) c8 qs ∧ qs.length = ps.length + 2 := ⟨_, o8, by simp⟩
          have g8c : g8 ≠ c := by omega
          rw [← ql] at o8
          clear gr8
          go_wp2
          go_roundw
          case rel => exact ⟨k + 1, qs, g8, c8, by omega, by go_num, by rw [ql], o8, by omega, g8c, M8⟩
          case measure => simp [intOf]; omega
      · have own' := own
        go_wp2_with fail
        refine (below w0 _ c a len cap 15 hl hcode hm.1 (by omega)).mono ?_
        rintro e w4 ⟨⟨y4, y40, y41, rfl⟩, h4⟩
        have o4 := own3_only own h4.2 gne
        have h4 := Moved.trans hm h4
        have gl := o4.lt.1
        clear own hm
        by_cases t0 : y4 = 0
        · subst t0
          go_wp2_with fail
          refine (drawNo w0 _ c a len cap hl hcode h4.1).mono ?_
          rintro e w5 ⟨⟨p, rfl⟩, h5⟩
          have o5 := own3_only o4 h5.2 gne
          have h5 := Moved.trans h4 h5
          clear o4 h4
          go_wp2_with fail
          refine (drawNo w0 _ c a len cap hl hcode h5.1).mono ?_
          rintro e w6 ⟨⟨q, rfl⟩, h6⟩
          have o6 := own3_only o5 h6.2 gne
          have h6 := Moved.trans h5 h6
          clear o5 h5
          go_wp2_with fail
          refine (below w0 _ c a len cap 2 hl hcode h6.1 (by omega)).mono ?_
          rintro e w7 ⟨⟨r, r0, r1, rfl⟩, h7⟩
          have O7 := hide ((own3_only o6 h7.2 gne).alloc (.cells #[.int .i64 p, .int .i64 q, .int .i64 r] 34))
          have M7 := hide (moved_alloc (Moved.trans h6 h7) #[.int .i64 p, .int .i64 q, .int .i64 r] 34)
          have V7 := hide (show Holds3 (w7.alloc (.cells #[.int .i64 p, .int .i64 q, .int .i64 r] 34)) w7.heap.size 0 (p, q, r) from by unfold Holds3; simp)
          have s7 := (Moved.trans h6 h7).2.1
          clear o6 h6 h7
          go_wp2_with (first | (at_builtin; refine LegApp.wp_app _ rfl _ _ rfl w.heap.size gO ps.length cO ps w7.heap.size p q r rfl rfl (unhide O7) (unhide V7) (by omega) (by simp; omega) ?_) | go_in)
          intro g8 c8 w8 o8 gr8 _
          have M8 := moved_grown (unhide M7) gr8 hc gl h0
          have el : (ps ++ [(p, q, r)]).length = ps.length + 1 := by simp
          clear gr8
          go_wp2
          go_ret
          exact ⟨ps ++ [(p, q, r)], g8, c8, by rw [el]; rfl, by rw [el]; exact o8, by rw [el]; omega, M8⟩
        have t0b : (y4 == 0) = false := by simpa using t0
        by_cases t1 : y4 = 1
        · subst t1
          by_cases ln : 0 < ps.length
          · have ln2 : (0 : Int) < (ps.length : Int) := by omega
            go_wp2_with fail
            refine (drawAmount w0 _ c a len cap hl hcode h4.1).mono ?_
            rintro e w5 ⟨⟨y, rfl⟩, h5⟩
            have o5 := own3_only o4 h5.2 gne
            have h5 := Moved.trans h4 h5
            have hs := o5.set2 0 y
            have hd := o5.at 0 (by rw [o5.len]; exact ln)
            have hd2 : w5.cell? ⟨gO, 2, none⟩ = some (.int .i64 (el3 ps 0).2.2) := by have := hd.2.2; simpa using this
            have hf2 : w5.frozen? ⟨gO, 2, none⟩ = false := o5.free 2
            have ml : (ps.modify 0 (fun p => (p.1, p.2.1, y))).length = ps.length := by simp
            have O8 := hide hs.1
            have M8 := hide (moved_grown h5 hs.2 hc gl h0)
            generalize (el3 ps 0).2.2 = z2 at *
            clear hs hd o5 h5 o4 h4
            go_wp2
            go_ret
            exact ⟨ps.modify 0 (fun p => (p.1, p.2.1, y)), gO, cO, by rw [ml]; rfl, by rw [ml]; simpa using unhide O8, by rw [ml]; omega, by simpa using unhide M8⟩
          · have ln2 : ¬ (0 : Int) < (ps.length : Int) := by omega
            go_wp2
            go_ret
            exact ⟨ps, gO, cO, rfl, o4, by omega, h4⟩
        · have t1b : (y4 == 1) = false := by simpa using t1
          go_wp2
          go_ret
          exact ⟨ps, gO, cO, rfl, o4, by omega, h4⟩
  · go_wp2_with fail
    refine (below w0 _ c a len cap 2 hl hcode mS.1 (by omega)).mono ?_
    rintro e wc ⟨⟨y, y0, y1, rfl⟩, hc2⟩
    have oS := own3_only oS hc2.2 gS
    have mS := Moved.trans mS hc2
    clear hc2
    go_wp2_with fail
    go_loopw [3, 5, 6, 7] (fun o i _ _ wr => ∃ (k : Nat) (ps : List T3) (gO cO : Nat), (k : Int) ≤ (80 + y) ∧ i = .int .i64 k ∧ o = .slice (some ⟨gO, 0, none⟩) ps.length cO ∧ Own3 34 wr w.heap.size gO ps.length cO ps ∧ ps.length ≤ 2 * k ∧ gO ≠ c ∧ Moved w0 w wr c a len cap) (fun _ i _ _ _ => ((80 + y) - intOf i).toNat)
    case atStart => exact ⟨0, [], _, _, by omega, rfl, rfl, oS, by simp, gS, mS⟩
    case round =>
      clear oS mS
      obtain ⟨k, ps, gO, cO, hk, rfl, rfl, own, p20, gne, hm⟩ := hrel
      have gl := own.lt.1
      by_cases lt : (k : Int) < (80 + y)
      · go_wp2_with fail
        refine (below w0 _ c a len cap 50 hl hcode hm.1 (by omega)).mono ?_
        rintro e w1 ⟨⟨x1, x10, x11, rfl⟩, h1⟩
        have o1 := own3_only own h1.2 gne
        have h1 := Moved.trans hm h1
        clear own hm
        go_wp2_with fail
        refine (once w0 _ c a len cap 12 hl hcode h1.1 (by omega)).mono ?_
        rintro e w2 ⟨⟨t2, rfl⟩, h2⟩
        have o2 := own3_only o1 h2.2 gne
        have h2 := Moved.trans h1 h2
        clear o1 h1
        cases t2
        · skip
          go_wp2_with fail
          refine (below w0 _ c a len cap 3 hl hcode h2.1 (by omega)).mono ?_
          rintro e w4 ⟨⟨x4, x40, x41, rfl⟩, h4⟩
          have o4 := own3_only o2 h4.2 gne
          have h4 := Moved.trans h2 h4
          clear o2 h2
          go_wp2_with fail
          refine (below w0 _ c a len cap 5 hl hcode h4.1 (by omega)).mono ?_
          rintro e w5 ⟨⟨x5, x50, x51, rfl⟩, h5⟩
          have o5 := own3_only o4 h5.2 gne
          have h5 := Moved.trans h4 h5
          clear o4 h4
          go_wp2_with fail
          refine (below w0 _ c a len cap 5 hl hcode h5.1 (by omega)).mono ?_
          rintro e w6 ⟨⟨x6, x60, x61, rfl⟩, h6⟩
          have O6 := hide (own3_only o5 h6.2 gne)
          have M6 := hide (Moved.trans h5 h6)
          have s6 := (Moved.trans h5 h6).2.1
          clear o5 h5 h6
          go_wp2_with (first | (at_builtin; refine LegApp.wp_app2 w6 rfl _ _ rfl w.heap.size gO ps.length cO ps _ _ _ _ _ _ rfl rfl (unhide O6) (by omega) (by omega) ?_) | go_in)
          intro g8 c8 w8 o8 gr8 lo8
          have M8 := moved_grown (moved_alloc (unhide M6) _ _) gr8 hc gl h0
          obtain ⟨qs, o8, ql⟩ : ∃ qs : List T3, Own3 34 w8 w.heap.size g8 (ps.length + 2) c8 qs ∧ qs.length = ps.length + 2 := ⟨_, o8, by simp⟩
          have g8c : g8 ≠ c := by omega
          rw [← ql] at o8
          clear gr8
          go_wp2
          go_roundw
          case rel => exact ⟨k + 1, qs, g8, c8, by omega, by go_num, by rw [ql], o8, by omega, g8c, M8⟩
          case measure => simp [intOf]; omega
        · have hiX := h2.1.hi
          go_wp2_with fail
          refine (pick w0 _ c a len cap w2.heap.size 3 (of3 1000000000000000 (-1000000000000000) 999999999999997) hl hcode (Draw.Cur.alloc h2.1 _ _) (by omega) (by omega) (by simp) (by omega) (of3_cells w2 3 _ _ _)).mono ?_
          rintro e w3 ⟨⟨j, hj, rfl⟩, h3⟩
          have o2 := own3_only (o2.alloc _) h3.2 gne
          have h2 := Moved.trans (moved_alloc h2 _ 3) h3
          generalize of3 1000000000000000 (-1000000000000000) 999999999999997 j = x1 at *
          clear h3
          go_wp2_with fail
          refine (below w0 _ c a len cap 3 hl hcode h2.1 (by omega)).mono ?_
          rintro e w4 ⟨⟨x4, x40, x41, rfl⟩, h4⟩
          have o4 := own3_only o2 h4.2 gne
          have h4 := Moved.trans h2 h4
          clear o2 h2
          go_wp2_with fail
          refine (below w0 _ c a len cap 5 hl hcode h4.1 (by omega)).mono ?_
          rintro e w5 ⟨⟨x5, x50, x51, rfl⟩, h5⟩
          have o5 := own3_only o4 h5.2 gne
          have h5 := Moved.trans h4 h5
          clear o4 h4
          go_wp2_with fail
          refine (below w0 _ c a len cap 5 hl hcode h5.1 (by omega)).mono ?_
          rintro e w6 ⟨⟨x6, x60, x61, rfl⟩, h6⟩
          have O6 := hide (own3_only o5 h6.2 gne)
          have M6 := hide (Moved.trans h5 h6)
          have s6 := (Moved.trans h5 h6).2.1
          clear o5 h5 h6
          go_wp2_with (first | (at_builtin; refine LegApp.wp_app2 w6 rfl _ _ rfl w.heap.size gO ps.length cO ps _ _ _ _ _ _ rfl rfl (unhide O6) (by omega) (by omega) ?_) | go_in)
          intro g8 c8 w8 o8 gr8 lo8
          have M8 := moved_grown (moved_alloc (unhide M6) _ _) gr8 hc gl h0
          obtain ⟨qs, o8, ql⟩ : ∃ qs : List T3, Own3 34 w8 w.heap.size g8 (ps.length + 2) c8 qs ∧ qs.length = ps.length + 2 := ⟨_, o8, by simp⟩
          have g8c : g8 ≠ c := by omega
          rw [← ql] at o8
          clear gr8
          go_wp2
          go_roundw
          case rel => exact ⟨k + 1, qs, g8, c8, by omega, by go_num, by rw [ql], o8, by omega, g8c, M8⟩
          case measure => simp [intOf]; omega
      · have own' := own
        go_wp2_with fail
        refine (below w0 _ c a len cap 15 hl hcode hm.1 (by omega)).mono ?_
        rintro e w4 ⟨⟨y4, y40, y41, rfl⟩, h4⟩
        have o4 := own3_only own h4.2 gne
        have h4 := Moved.trans hm h4
        have gl := o4.lt.1
        clear own hm
        by_cases t0 : y4 = 0
        · subst t0
          go_wp2_with fail
          refine (drawNo w0 _ c a len cap hl hcode h4.1).mono ?_
          rintro e w5 ⟨⟨p, rfl⟩, h5⟩
          have o5 := own3_only o4 h5.2 gne
          have h5 := Moved.trans h4 h5
          clear o4 h4
          go_wp2_with fail
          refine (drawNo w0 _ c a len cap hl hcode h5.1).mono ?_
          rintro e w6 ⟨⟨q, rfl⟩, h6⟩
          have o6 := own3_only o5 h6.2 gne
          have h6 := Moved.trans h5 h6
          clear o5 h5
          go_wp2_with fail
          refine (below w0 _ c a len cap 2 hl hcode h6.1 (by omega)).mono ?_
          rintro e w7 ⟨⟨r, r0, r1, rfl⟩, h7⟩
          have O7 := hide ((own3_only o6 h7.2 gne).alloc (.cells #[.int .i64 p, .int .i64 q, .int .i64 r] 34))
          have M7 := hide (moved_alloc (Moved.trans h6 h7) #[.int .i64 p, .int .i64 q, .int .i64 r] 34)
          have V7 := hide (show Holds3 (w7.alloc (.cells #[.int .i64 p, .int .i64 q, .int .i64 r] 34)) w7.heap.size 0 (p, q, r) from by unfold Holds3; simp)
          have s7 := (Moved.trans h6 h7).2.1
          clear o6 h6 h7
          go_wp2_with (first | (at_builtin; refine LegApp.wp_app _ rfl _ _ rfl w.heap.size gO ps.length cO ps w7.heap.size p q r rfl rfl (unhide O7) (unhide V7) (by omega) (by simp; omega) ?_) | go_in)
          intro g8 c8 w8 o8 gr8 _
          have M8 := moved_grown (unhide M7) gr8 hc gl h0
          have el : (ps ++ [(p, q, r)]).length = ps.length + 1 := by simp
          clear gr8
          go_wp2
          go_ret
          exact ⟨ps ++ [(p, q, r)], g8, c8, by rw [el]; rfl, by rw [el]; exact o8, by rw [el]; omega, M8⟩
        have t0b : (y4 == 0) = false := by simpa using t0
        by_cases t1 : y4 = 1
        · subst t1
          by_cases ln : 0 < ps.length
          · have ln2 : (0 : Int) < (ps.length : Int) := by omega
            go_wp2_with fail
            refine (drawAmount w0 _ c a len cap hl hcode h4.1).mono ?_
            rintro e w5 ⟨⟨y, rfl⟩, h5⟩
            have o5 := own3_only o4 h5.2 gne
            have h5 := Moved.trans h4 h5
            have hs := o5.set2 0 y
            have hd := o5.at 0 (by rw [o5.len]; exact ln)
            have hd2 : w5.cell? ⟨gO, 2, none⟩ = some (.int .i64 (el3 ps 0).2.2) := by have := hd.2.2; simpa using this
            have hf2 : w5.frozen? ⟨gO, 2, none⟩ = false := o5.free 2
            have ml : (ps.modify 0 (fun p => (p.1, p.2.1, y))).length = ps.length := by simp
            have O8 := hide hs.1
            have M8 := hide (moved_grown h5 hs.2 hc gl h0)
            generalize (el3 ps 0).2.2 = z2 at *
            clear hs hd o5 h5 o4 h4
            go_wp2
            go_ret
            exact ⟨ps.modify 0 (fun p => (p.1, p.2.1, y)), gO, cO, by rw [ml]; rfl, by rw [ml]; simpa using unhide O8, by rw [ml]; omega, by simpa using unhide M8⟩
          · have ln2 : ¬ (0 : Int) < (ps.length : Int) := by omega
            go_wp2
            go_ret
            exact ⟨ps, gO, cO, rfl, o4, by omega, h4⟩
        · have t1b : (y4 == 1) = false := by simpa using t1
          go_wp2
          go_ret
          exact ⟨ps, gO, cO, rfl, o4, by omega, h4⟩

end Go.Proofs.Ytnfopmmkecdmgaa.Draw4L
