/- Contracts of the model's drawing of lots: a list in memory of the call's own, whatever the bytes are. -/
import Derived.Test.YtdnpjjbphamcmaaDraw
import Derived.Test.YtdnpjjbphamcmaaSOpen
import Derived.Test.YtdnpjjbphamcmaaSOf
namespace Go.Proofs.Ytdnpjjbphamcmaa.Draw5L
open Go.ChangeShapes Go.WideShapes Go.ChangeAt Go.RowKit Tup5 Lots Takes SOpen SOf
open Draw (CodeAt Cur Only Moved below once new pick drawNo of3 of4 of3_cells of4_cells own_only moved_start moved_below moved_alloc moved_grown)
set_option linter.unusedVariables false
set_option linter.unusedSimpArgs false

theorem open_done {ps R : List T5} {ok okl okn : Bool} (hR : R.length = ps.length + 1) : (openC ok okl okn = 0 ∧ (openA ps R ok okl okn).length = ps.length + 1) ∨ (openC ok okl okn == 0) = false := by
  unfold openC openA
  cases ok <;> cases okl <;> cases okn <;> simp [hR]

set_option maxRecDepth 100000 in
set_option maxHeartbeats 8000000 in
theorem drawLots (w0 w : World) (c : Nat) (a : Option Addr) (len cap : Nat) (hl : len ≤ 1048576) (hcode : CodeAt w0 a len) (h : Cur w0 w c a len cap) :
    Calls Try.prog 58 #[.pointer (some ⟨c, 0, none⟩)] w fun e w' => ∃ ps g' c', e = .returned (.slice (some ⟨g', 0, none⟩) ps.length c') ∧ Own5 40 w' w.heap.size g' ps.length c' ps ∧ ps.length ≤ 121 ∧ Moved w0 w w' c a len cap := by
  have hc := h.hi
  have h0 := h.bel.size
  have oL := lit50 40 w w.heap.size (Nat.le_refl _)
  have gS : w.heap.size ≠ c := by omega
  go_enter Try.func58, Try.ntmps58
  go_wp2_with fail
  refine (below w0 _ c a len cap 12 hl hcode (Draw.Cur.alloc h _ _) (by omega)).mono ?_
  rintro e wa ⟨⟨x, x0, x1, rfl⟩, ha⟩
  have oL := own_only oL ha.2 gS
  have ha := Moved.trans (moved_alloc (moved_start h) _ _) ha
  go_wp2_with fail
  refine (once w0 _ c a len cap 20 hl hcode ha.1 (by omega)).mono ?_
  rintro e wb ⟨⟨tb, rfl⟩, hb⟩
  have oS := own_only oL hb.2 gS
  have mS := Moved.trans ha hb
  clear oL ha hb h
  cases tb
  · go_wp2_with fail
    go_loopw [3, 5, 7, 8] (fun o i _ _ wr => ∃ (k : Nat) (ps : List T5) (gO cO : Nat), (k : Int) ≤ x ∧ i = .int .i64 k ∧ o = .slice (some ⟨gO, 0, none⟩) ps.length cO ∧ Own5 40 wr w.heap.size gO ps.length cO ps ∧ ps.length ≤ k ∧ gO ≠ c ∧ Moved w0 w wr c a len cap) (fun _ i _ _ _ => (x - intOf i).toNat)
    case atStart => exact ⟨0, [], _, _, by omega, rfl, rfl, oS, by simp, gS, mS⟩
    case round =>
      clear oS mS
      obtain ⟨k, ps, gO, cO, hk, rfl, rfl, own, p20, gne, hm⟩ := hrel
      by_cases lt : (k : Int) < x
      · skip
        go_wp2_with fail
        refine (below w0 _ c a len cap _ hl hcode hm.1 (by first | omega | decide)).mono ?_
        rintro e w1 ⟨⟨x1, x10, x11, rfl⟩, h1⟩
        have o1 := own_only own h1.2 gne
        have h1 := Moved.trans hm h1
        clear own hm
        go_wp2_with fail
        refine (below w0 _ c a len cap _ hl hcode h1.1 (by first | omega | decide)).mono ?_
        rintro e w2 ⟨⟨x2, x20, x21, rfl⟩, h2⟩
        have o2 := own_only o1 h2.2 gne
        have h2 := Moved.trans h1 h2
        clear o1 h1
        go_wp2_with fail
        refine (below w0 _ c a len cap _ hl hcode h2.1 (by first | omega | decide)).mono ?_
        rintro e w3 ⟨⟨x3, x30, x31, rfl⟩, h3⟩
        have o3 := own_only o2 h3.2 gne
        have h3 := Moved.trans h2 h3
        clear o2 h2
        go_wp2_with fail
        refine (below w0 _ c a len cap _ hl hcode h3.1 (by first | omega | decide)).mono ?_
        rintro e w4 ⟨⟨x4, x40, x41, rfl⟩, h4⟩
        have o4 := own_only o3 h4.2 gne
        have h4 := Moved.trans h3 h4
        clear o3 h3
        go_wp2_with fail
        refine (below w0 _ c a len cap _ hl hcode h4.1 (by first | omega | decide)).mono ?_
        rintro e w5 ⟨⟨x5, x50, x51, rfl⟩, h5⟩
        have o5 := own_only o4 h5.2 gne
        have h5 := Moved.trans h4 h5
        clear o4 h4
        have O6 := hide (o5.alloc (.cells #[.int .i64 (1 + x1), .int .i64 (1 + x2), .int .i64 (1 + x3), .int .i64 (1 + x4), .int .i64 x5] 40))
        have M6 := hide (moved_alloc h5 #[.int .i64 (1 + x1), .int .i64 (1 + x2), .int .i64 (1 + x3), .int .i64 (1 + x4), .int .i64 x5] 40)
        obtain ⟨R, HR⟩ : ∃ R, Hid (R = mergeL (ps.length + 1) ps [(1 + x1, 1 + x2, 1 + x3, 1 + x4, x5)]) := ⟨_, rfl⟩
        obtain ⟨ok, OK⟩ := says_of (Right ps)
        obtain ⟨okl, OKL⟩ := says_of (One (1 + x1, 1 + x2, 1 + x3, 1 + x4, x5))
        obtain ⟨okn, OKN⟩ := says_of (Right R)
        have RL := hide (open_done (ps := ps) (R := R) (ok := ok) (okl := okl) (okn := okn) (by rw [unhide HR, merge_len _ _ _ (by simp)]; simp))
        have s5 := h5.2.1
        clear o5 h5
        go_wp2_with fail
        refine (sOpen _ gO ps.length cO ps R (1 + x1) (1 + x2) (1 + x3) (1 + x4) x5 ok okl okn HR rfl (by omega) (unhide O6).lt.2 (unhide O6).at OK OKL OKN).mono ?_
        rintro e w7 ⟨g7, c7, rfl, o7, b7⟩
        have o6 := (unhide O6).below b7 (unhide O6).lt.2
        have g7c : g7 ≠ c := by have := o7.lt.1; simp at this; omega
        have o7 := o7.rebase (base' := w.heap.size) (by have := o7.lt.1; simp at this; omega)
        have h7 := moved_below (unhide M6) b7
        clear O6 M6 b7 HR OK OKL OKN
        generalize openA ps R ok okl okn = qs at *
        generalize openC ok okl okn = cd at *
        rcases unhide RL with ⟨rfl, ql⟩ | cd0
        · have q20 : qs.length ≤ k + 1 := by omega
          clear ql RL
          go_wp2
          go_roundw
          case rel => exact ⟨k + 1, qs, g7, c7, by omega, by go_num, rfl, o7, q20, g7c, h7⟩
          case measure => simp [intOf]; omega
        · clear RL
          go_wp2
          go_roundw
          case rel => exact ⟨k + 1, ps, gO, cO, by omega, by go_num, rfl, o6, by omega, gne, h7⟩
          case measure => simp [intOf]; omega
      · go_wp2_with fail
        refine (below w0 _ c a len cap 25 hl hcode hm.1 (by omega)).mono ?_
        rintro e w4 ⟨⟨y4, y40, y41, rfl⟩, h4⟩
        have o4 := own_only own h4.2 gne
        have h4 := Moved.trans hm h4
        have gl := o4.lt.1
        have p12 : ps.length ≤ 120 := by omega
        clear own hm p20
        by_cases t0 : y4 = 0
        · subst t0
          by_cases ln : 0 < ps.length
          · have ln2 : (0 : Int) < (ps.length : Int) := by omega
            have hiX := h4.1.hi
            go_wp2_with fail
            refine (pick w0 _ c a len cap w4.heap.size 4 (of4 0 (-1) 1000000000000000 1000000000000001) hl hcode (Draw.Cur.alloc h4.1 _ _) (by omega) (by omega) (by simp) (by omega) (of4_cells w4 3 _ _ _ _)).mono ?_
            rintro e w5 ⟨⟨j, hj, rfl⟩, h5⟩
            have o5 := own_only (o4.alloc _) h5.2 gne
            have h5 := Moved.trans (moved_alloc h4 _ 3) h5
            generalize of4 0 (-1) 1000000000000000 1000000000000001 j = y at *
            have hs := o5.set3 0 y
            have hd := o5.at 0 (by rw [o5.len]; exact ln)
            have hd2 : w5.cell? ⟨gO, 3, none⟩ = some (.int .i64 (el5 ps 0).2.2.2.1) := by have := hd.2.2.2.1; simpa using this
            have hf2 : w5.frozen? ⟨gO, 3, none⟩ = false := o5.free 3
            have ml : (ps.modify 0 (fun p => (p.1, p.2.1, p.2.2.1, y, p.2.2.2.2))).length = ps.length := by simp
            have O8 := hide hs.1
            have M8 := hide (moved_grown h5 hs.2 hc gl h0)
            generalize (el5 ps 0).2.2.2.1 = z2 at *
            clear hs hd o5 h5 o4 h4
            go_wp2
            go_ret
            exact ⟨ps.modify 0 (fun p => (p.1, p.2.1, p.2.2.1, y, p.2.2.2.2)), gO, cO, by rw [ml]; rfl, by rw [ml]; simpa using unhide O8, by rw [ml]; omega, by simpa using unhide M8⟩
          · have ln2 : ¬ (0 : Int) < (ps.length : Int) := by omega
            go_wp2
            go_ret
            exact ⟨ps, gO, cO, rfl, o4, by omega, h4⟩
        have t0b : (y4 == 0) = false := by simpa using t0
        by_cases t1 : y4 = 1
        · subst t1
          go_wp2_with fail
          refine (drawNo w0 _ c a len cap hl hcode h4.1).mono ?_
          rintro e w5 ⟨⟨p, rfl⟩, h5⟩
          have o5 := own_only o4 h5.2 gne
          have h5 := Moved.trans h4 h5
          clear o4 h4
          go_wp2_with fail
          refine (below w0 _ c a len cap 3 hl hcode h5.1 (by omega)).mono ?_
          rintro e w7 ⟨⟨r, r0, r1, rfl⟩, h7⟩
          have O7 := hide ((own_only o5 h7.2 gne).alloc (.cells #[.int .i64 p, .int .i64 1, .int .i64 r, .int .i64 1, .int .i64 0] 40))
          have M7 := hide (moved_alloc (Moved.trans h5 h7) #[.int .i64 p, .int .i64 1, .int .i64 r, .int .i64 1, .int .i64 0] 40)
          have V7 := hide (show Holds5 (w7.alloc (.cells #[.int .i64 p, .int .i64 1, .int .i64 r, .int .i64 1, .int .i64 0] 40)) w7.heap.size 0 (p, 1, r, 1, 0) from by unfold Holds5; simp)
          have s7 := (Moved.trans h5 h7).2.1
          clear o5 h5 h7
          go_wp2_with (first | (at_builtin; refine LotApp.wp_app _ rfl _ _ rfl w.heap.size gO ps.length cO ps w7.heap.size p 1 r 1 0 rfl rfl (unhide O7) (unhide V7) (by omega) (by simp; omega) ?_) | go_in)
          intro g8 c8 w8 o8 gr8 _
          have M8 := moved_grown (unhide M7) gr8 hc gl h0
          have el : (ps ++ [(p, 1, r, 1, 0)]).length = ps.length + 1 := by simp
          clear gr8
          go_wp2
          go_ret
          exact ⟨ps ++ [(p, 1, r, 1, 0)], g8, c8, by rw [el]; rfl, by rw [el]; exact o8, by rw [el]; omega, M8⟩
        · have t1b : (y4 == 1) = false := by simpa using t1
          go_wp2
          go_ret
          exact ⟨ps, gO, cO, rfl, o4, by omega, h4⟩
  · go_wp2_with fail
    go_loopw [3, 5, 7, 8] (fun o i _ _ wr => ∃ (k : Nat) (ps : List T5) (gO cO : Nat), (k : Int) ≤ 120 ∧ i = .int .i64 k ∧ o = .slice (some ⟨gO, 0, none⟩) ps.length cO ∧ Own5 40 wr w.heap.size gO ps.length cO ps ∧ ps.length ≤ k ∧ gO ≠ c ∧ Moved w0 w wr c a len cap) (fun _ i _ _ _ => (120 - intOf i).toNat)
    case atStart => exact ⟨0, [], _, _, by omega, rfl, rfl, oS, by simp, gS, mS⟩
    case round =>
      clear oS mS
      obtain ⟨k, ps, gO, cO, hk, rfl, rfl, own, p20, gne, hm⟩ := hrel
      by_cases lt : (k : Int) < 120
      · skip
        go_wp2_with fail
        refine (below w0 _ c a len cap _ hl hcode hm.1 (by first | omega | decide)).mono ?_
        rintro e w1 ⟨⟨x1, x10, x11, rfl⟩, h1⟩
        have o1 := own_only own h1.2 gne
        have h1 := Moved.trans hm h1
        clear own hm
        go_wp2_with fail
        refine (below w0 _ c a len cap _ hl hcode h1.1 (by first | omega | decide)).mono ?_
        rintro e w2 ⟨⟨x2, x20, x21, rfl⟩, h2⟩
        have o2 := own_only o1 h2.2 gne
        have h2 := Moved.trans h1 h2
        clear o1 h1
        go_wp2_with fail
        refine (below w0 _ c a len cap _ hl hcode h2.1 (by first | omega | decide)).mono ?_
        rintro e w3 ⟨⟨x3, x30, x31, rfl⟩, h3⟩
        have o3 := own_only o2 h3.2 gne
        have h3 := Moved.trans h2 h3
        clear o2 h2
        go_wp2_with fail
        refine (below w0 _ c a len cap _ hl hcode h3.1 (by first | omega | decide)).mono ?_
        rintro e w4 ⟨⟨x4, x40, x41, rfl⟩, h4⟩
        have o4 := own_only o3 h4.2 gne
        have h4 := Moved.trans h3 h4
        clear o3 h3
        go_wp2_with fail
        refine (below w0 _ c a len cap _ hl hcode h4.1 (by first | omega | decide)).mono ?_
        rintro e w5 ⟨⟨x5, x50, x51, rfl⟩, h5⟩
        have o5 := own_only o4 h5.2 gne
        have h5 := Moved.trans h4 h5
        clear o4 h4
        have O6 := hide (o5.alloc (.cells #[.int .i64 (1 + x1), .int .i64 (1 + x2), .int .i64 (1 + x3), .int .i64 (1 + x4), .int .i64 x5] 40))
        have M6 := hide (moved_alloc h5 #[.int .i64 (1 + x1), .int .i64 (1 + x2), .int .i64 (1 + x3), .int .i64 (1 + x4), .int .i64 x5] 40)
        obtain ⟨R, HR⟩ : ∃ R, Hid (R = mergeL (ps.length + 1) ps [(1 + x1, 1 + x2, 1 + x3, 1 + x4, x5)]) := ⟨_, rfl⟩
        obtain ⟨ok, OK⟩ := says_of (Right ps)
        obtain ⟨okl, OKL⟩ := says_of (One (1 + x1, 1 + x2, 1 + x3, 1 + x4, x5))
        obtain ⟨okn, OKN⟩ := says_of (Right R)
        have RL := hide (open_done (ps := ps) (R := R) (ok := ok) (okl := okl) (okn := okn) (by rw [unhide HR, merge_len _ _ _ (by simp)]; simp))
        have s5 := h5.2.1
        clear o5 h5
        go_wp2_with fail
        refine (sOpen _ gO ps.length cO ps R (1 + x1) (1 + x2) (1 + x3) (1 + x4) x5 ok okl okn HR rfl (by omega) (unhide O6).lt.2 (unhide O6).at OK OKL OKN).mono ?_
        rintro e w7 ⟨g7, c7, rfl, o7, b7⟩
        have o6 := (unhide O6).below b7 (unhide O6).lt.2
        have g7c : g7 ≠ c := by have := o7.lt.1; simp at this; omega
        have o7 := o7.rebase (base' := w.heap.size) (by have := o7.lt.1; simp at this; omega)
        have h7 := moved_below (unhide M6) b7
        clear O6 M6 b7 HR OK OKL OKN
        generalize openA ps R ok okl okn = qs at *
        generalize openC ok okl okn = cd at *
        rcases unhide RL with ⟨rfl, ql⟩ | cd0
        · have q20 : qs.length ≤ k + 1 := by omega
          clear ql RL
          go_wp2
          go_roundw
          case rel => exact ⟨k + 1, qs, g7, c7, by omega, by go_num, rfl, o7, q20, g7c, h7⟩
          case measure => simp [intOf]; omega
        · clear RL
          go_wp2
          go_roundw
          case rel => exact ⟨k + 1, ps, gO, cO, by omega, by go_num, rfl, o6, by omega, gne, h7⟩
          case measure => simp [intOf]; omega
      · go_wp2_with fail
        refine (below w0 _ c a len cap 25 hl hcode hm.1 (by omega)).mono ?_
        rintro e w4 ⟨⟨y4, y40, y41, rfl⟩, h4⟩
        have o4 := own_only own h4.2 gne
        have h4 := Moved.trans hm h4
        have gl := o4.lt.1
        have p12 : ps.length ≤ 120 := by omega
        clear own hm p20
        by_cases t0 : y4 = 0
        · subst t0
          by_cases ln : 0 < ps.length
          · have ln2 : (0 : Int) < (ps.length : Int) := by omega
            have hiX := h4.1.hi
            go_wp2_with fail
            refine (pick w0 _ c a len cap w4.heap.size 4 (of4 0 (-1) 1000000000000000 1000000000000001) hl hcode (Draw.Cur.alloc h4.1 _ _) (by omega) (by omega) (by simp) (by omega) (of4_cells w4 3 _ _ _ _)).mono ?_
            rintro e w5 ⟨⟨j, hj, rfl⟩, h5⟩
            have o5 := own_only (o4.alloc _) h5.2 gne
            have h5 := Moved.trans (moved_alloc h4 _ 3) h5
            generalize of4 0 (-1) 1000000000000000 1000000000000001 j = y at *
            have hs := o5.set3 0 y
            have hd := o5.at 0 (by rw [o5.len]; exact ln)
            have hd2 : w5.cell? ⟨gO, 3, none⟩ = some (.int .i64 (el5 ps 0).2.2.2.1) := by have := hd.2.2.2.1; simpa using this
            have hf2 : w5.frozen? ⟨gO, 3, none⟩ = false := o5.free 3
            have ml : (ps.modify 0 (fun p => (p.1, p.2.1, p.2.2.1, y, p.2.2.2.2))).length = ps.length := by simp
            have O8 := hide hs.1
            have M8 := hide (moved_grown h5 hs.2 hc gl h0)
            generalize (el5 ps 0).2.2.2.1 = z2 at *
            clear hs hd o5 h5 o4 h4
            go_wp2
            go_ret
            exact ⟨ps.modify 0 (fun p => (p.1, p.2.1, p.2.2.1, y, p.2.2.2.2)), gO, cO, by rw [ml]; rfl, by rw [ml]; simpa using unhide O8, by rw [ml]; omega, by simpa using unhide M8⟩
          · have ln2 : ¬ (0 : Int) < (ps.length : Int) := by omega
            go_wp2
            go_ret
            exact ⟨ps, gO, cO, rfl, o4, by omega, h4⟩
        have t0b : (y4 == 0) = false := by simpa using t0
        by_cases t1 : y4 = 1
        · subst t1
          go_wp2_with fail
          refine (drawNo w0 _ c a len cap hl hcode h4.1).mono ?_
          rintro e w5 ⟨⟨p, rfl⟩, h5⟩
          have o5 := own_only o4 h5.2 gne
          have h5 := Moved.trans h4 h5
          clear o4 h4
          go_wp2_with fail
          refine (below w0 _ c a len cap 3 hl hcode h5.1 (by omega)).mono ?_
          rintro e w7 ⟨⟨r, r0, r1, rfl⟩, h7⟩
          have O7 := hide ((own_only o5 h7.2 gne).alloc (.cells #[.int .i64 p, .int .i64 1, .int .i64 r, .int .i64 1, .int .i64 0] 40))
          have M7 := hide (moved_alloc (Moved.trans h5 h7) #[.int .i64 p, .int .i64 1, .int .i64 r, .int .i64 1, .int .i64 0] 40)
          have V7 := hide (show Holds5 (w7.alloc (.cells #[.int .i64 p, .int .i64 1, .int .i64 r, .int .i64 1, .int .i64 0] 40)) w7.heap.size 0 (p, 1, r, 1, 0) from by unfold Holds5; simp)
          have s7 := (Moved.trans h5 h7).2.1
          clear o5 h5 h7
          go_wp2_with (first | (at_builtin; refine LotApp.wp_app _ rfl _ _ rfl w.heap.size gO ps.length cO ps w7.heap.size p 1 r 1 0 rfl rfl (unhide O7) (unhide V7) (by omega) (by simp; omega) ?_) | go_in)
          intro g8 c8 w8 o8 gr8 _
          have M8 := moved_grown (unhide M7) gr8 hc gl h0
          have el : (ps ++ [(p, 1, r, 1, 0)]).length = ps.length + 1 := by simp
          clear gr8
          go_wp2
          go_ret
          exact ⟨ps ++ [(p, 1, r, 1, 0)], g8, c8, by rw [el]; rfl, by rw [el]; exact o8, by rw [el]; omega, M8⟩
        · have t1b : (y4 == 1) = false := by simpa using t1
          go_wp2
          go_ret
          exact ⟨ps, gO, cO, rfl, o4, by omega, h4⟩

end Go.Proofs.Ytdnpjjbphamcmaa.Draw5L
