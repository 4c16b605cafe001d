/- Contracts of the drawing functions of the model for charts (Account): a list of at most 20 + 1 pairs in memory of the call's own, and a pair, whatever the bytes are. -/
import Derived.Test.YtkbdlgbfgpoeiaaDraw
import Derived.Test.YtkbdlgbfgpoeiaaAccountSPut
namespace Go.Proofs.Ytkbdlgbfgpoeiaa.AccountDraw
open Go.ChangeShapes Go.WideShapes Go.ChangeAt Go.RowKit Pairs Chart Draw AccountSPut
open AccountHelp (info2)
set_option linter.unusedVariables false
set_option linter.unusedSimpArgs false

set_option maxRecDepth 100000 in
set_option maxHeartbeats 8000000 in
theorem drawList (w0 w : World) (c : Nat) (a : Option Addr) (len cap : Nat) (hl : len ≤ 1048576) (hcode : CodeAt w0 a len) (h : Cur w0 w c a len cap) :
    Calls Try.prog 37 #[.pointer (some ⟨c, 0, none⟩)] w fun e w' => ∃ ps g' c', e = .returned (.slice (some ⟨g', 0, none⟩) ps.length c') ∧ Own 26 w' w0.heap.size g' ps.length c' ps ∧ ps.length ≤ 20 + 1 ∧ g' ≠ c ∧ Cur w0 w' c a len cap := by
  obtain ⟨i0, hi, hz0, hz1, hz2⟩ := info_parts info2
  have oL := lit0 26 w w0.heap.size h.bel.size
  have gS : w.heap.size ≠ c := by have := h.hi; omega
  go_enter Try.func37, Try.ntmps37
  go_wp2_with fail
  refine (below w0 _ c a len cap 7 hl hcode (Cur.alloc h _ _) (by omega)).mono ?_
  rintro e wa ⟨⟨x, x0, x1, rfl⟩, ha⟩
  have oL := own_only oL ha.2 gS
  go_wp2_with fail
  refine (once w0 _ c a len cap 15 hl hcode ha.1 (by omega)).mono ?_
  rintro e wb ⟨⟨tb, rfl⟩, hb⟩
  have oS := own_only oL hb.2 gS
  have cS := hb.1
  clear oL ha hb
  cases tb
  · go_wp2_with fail
    go_loopw [3, 5] (fun o i wr => ∃ (k : Nat) (ps : List (Int × Int)) (gO cO : Nat), (k : Int) ≤ x ∧ i = .int .i64 k ∧ o = .slice (some ⟨gO, 0, none⟩) ps.length cO ∧ Own 26 wr w0.heap.size gO ps.length cO ps ∧ ps.length ≤ 20 ∧ gO ≠ c ∧ Cur w0 wr c a len cap) (fun _ i _ => (x : Int).toNat - (intOf i).toNat)
    case atStart => exact ⟨0, [], _, _, by omega, rfl, rfl, oS, by simp, gS, cS⟩
    case round =>
      clear oS cS
      obtain ⟨k, ps, gX, cX, hk, rfl, rfl, own, p20, gne, hcur⟩ := hrel
      by_cases lt : (k : Int) < x
      · go_wp2_with fail
        refine (below w0 _ c a len cap (3 + x) hl hcode hcur (by omega)).mono ?_
        rintro e w1 ⟨⟨x1, x10, x11, rfl⟩, h1⟩
        have o1 := own_only own h1.2 gne
        go_wp2_with fail
        refine (below w0 _ c a len cap 4 hl hcode h1.1 (by omega)).mono ?_
        rintro e w2 ⟨⟨x2, x20, x21, rfl⟩, h2⟩
        have o2 := own_only o1 h2.2 gne
        have c2 := h2.1
        clear own o1 h1 h2 hcur
        go_wp2_with fail
        skip
        refine (sPut _ gX ps.length cX ps (1 + x1) (1 + x2) rfl (by omega) o2.lt.2 o2.at).mono ?_
        rintro e w3 ⟨qs, ok, g3, k3, hp, rfl, o3, b3⟩
        have c3 := cur_below c2 b3
        have o2' := o2.below b3 o2.lt.2
        have q20 := hp.len
        have g3c : g3 ≠ c := by
          have := o3.lt.1
          have := c2.hi
          omega
        have o3 := o3.rebase (base' := w0.heap.size) (by have := o3.lt.1; have := c2.bel.size; omega)
        clear o2 c2 b3 hp
        cases ok
        · go_wp2
          go_roundw
          case rel => exact ⟨k + 1, ps, gX, cX, by omega, by go_num, rfl, o2', p20, gne, c3⟩
          case measure => simp [intOf]; omega
        · go_wp2
          go_roundw
          case rel => exact ⟨k + 1, qs, g3, k3, by omega, by go_num, rfl, o3, q20, g3c, c3⟩
          case measure => simp [intOf]; omega
      · go_wp2_with fail
        refine (once w0 _ c a len cap 15 hl hcode hcur (by omega)).mono ?_
        rintro e w1 ⟨⟨t1, rfl⟩, h1⟩
        have o1 := own_only own h1.2 gne
        have c1 := h1.1
        clear own h1 hcur
        cases t1
        · go_wp2
          go_ret
          exact ⟨ps, gX, cX, rfl, o1, by omega, gne, c1⟩
        · go_wp2_with fail
          refine (drawNo w0 _ c a len cap hl hcode c1).mono ?_
          rintro e w2 ⟨⟨x2, rfl⟩, h2⟩
          have o2 := own_only o1 h2.2 gne
          go_wp2_with fail
          refine (below w0 _ c a len cap 6 hl hcode h2.1 (by omega)).mono ?_
          rintro e w3 ⟨⟨x3, x30, x31, rfl⟩, h3⟩
          have o3 := own_only o2 h3.2 gne
          have c3 := h3.1
          clear o1 o2 h2 h3 c1
          have s3 := c3.bel.size
          go_wp2_with (at_builtin; refine wpList_append_own _ rfl (.tmp 36) (.tmp 42) 24 rfl w0.heap.size 26 i0 (.agg #[.int .i64 0, .int .i64 0]) 2 16 Try.underlying24 hi hz0 hz1 hz2 rfl (by decide) (.slice (some ⟨gX, 0, none⟩) ps.length cX) ps.length _ rfl (o3.alloc _) ⟨w3.heap.size, 0, none⟩ 1 1 [.int .i64 x2, .int .i64 x3] rfl rfl (lit1 _ w3 0 _ _ (Nat.zero_le _)).at.cells (fun u hu => flat_one u [(x2, x3)] hu) (by unfold maxLen; omega) (by omega) (by simp; omega) ?_)
          intro v5 w5 own5 (gr5 : World.grownBy _ w5 (some gX)) nil5
          obtain ⟨g5, c5, rfl, o5⟩ := own_of_row (n' := (ps ++ [(x2, x3)]).length) (ps := ps ++ [(x2, x3)]) own5 (by simp) (by rw [flat_append]; rfl) (by first | exact nil5 | (rw [nil5]; simp))
          have hc5 := cur_grown (Cur.alloc c3 _ _) gr5 o3.lt.1 gne
          have hn5 := own_ne o5 (by simp) hc5
          have e5 : (ps ++ [(x2, x3)]).length = ps.length + 1 := by simp
          have E5 := hide e5
          have OO := hide o5
          clear own5 gr5 nil5 o3 c3 o5 e5
          go_wp2
          go_ret
          exact ⟨ps ++ [(x2, x3)], g5, c5, rfl, unhide OO, by rw [unhide E5]; omega, hn5, hc5⟩

  · clear x0 x1
    go_wp2_with fail
    go_loopw [3, 5] (fun o i wr => ∃ (k : Nat) (ps : List (Int × Int)) (gO cO : Nat), (k : Int) ≤ 60 ∧ i = .int .i64 k ∧ o = .slice (some ⟨gO, 0, none⟩) ps.length cO ∧ Own 26 wr w0.heap.size gO ps.length cO ps ∧ ps.length ≤ 20 ∧ gO ≠ c ∧ Cur w0 wr c a len cap) (fun _ i _ => (60 : Int).toNat - (intOf i).toNat)
    case atStart => exact ⟨0, [], _, _, by omega, rfl, rfl, oS, by simp, gS, cS⟩
    case round =>
      clear oS cS
      obtain ⟨k, ps, gX, cX, hk, rfl, rfl, own, p20, gne, hcur⟩ := hrel
      by_cases lt : (k : Int) < 60
      · go_wp2_with fail
        refine (below w0 _ c a len cap (63) hl hcode hcur (by omega)).mono ?_
        rintro e w1 ⟨⟨x1, x10, x11, rfl⟩, h1⟩
        have o1 := own_only own h1.2 gne
        go_wp2_with fail
        refine (below w0 _ c a len cap 4 hl hcode h1.1 (by omega)).mono ?_
        rintro e w2 ⟨⟨x2, x20, x21, rfl⟩, h2⟩
        have o2 := own_only o1 h2.2 gne
        have c2 := h2.1
        clear own o1 h1 h2 hcur
        go_wp2_with fail
        skip
        refine (sPut _ gX ps.length cX ps (1 + x1) (1 + x2) rfl (by omega) o2.lt.2 o2.at).mono ?_
        rintro e w3 ⟨qs, ok, g3, k3, hp, rfl, o3, b3⟩
        have c3 := cur_below c2 b3
        have o2' := o2.below b3 o2.lt.2
        have q20 := hp.len
        have g3c : g3 ≠ c := by
          have := o3.lt.1
          have := c2.hi
          omega
        have o3 := o3.rebase (base' := w0.heap.size) (by have := o3.lt.1; have := c2.bel.size; omega)
        clear o2 c2 b3 hp
        cases ok
        · go_wp2
          go_roundw
          case rel => exact ⟨k + 1, ps, gX, cX, by omega, by go_num, rfl, o2', p20, gne, c3⟩
          case measure => simp [intOf]; omega
        · go_wp2
          go_roundw
          case rel => exact ⟨k + 1, qs, g3, k3, by omega, by go_num, rfl, o3, q20, g3c, c3⟩
          case measure => simp [intOf]; omega
      · go_wp2_with fail
        refine (once w0 _ c a len cap 15 hl hcode hcur (by omega)).mono ?_
        rintro e w1 ⟨⟨t1, rfl⟩, h1⟩
        have o1 := own_only own h1.2 gne
        have c1 := h1.1
        clear own h1 hcur
        cases t1
        · go_wp2
          go_ret
          exact ⟨ps, gX, cX, rfl, o1, by omega, gne, c1⟩
        · go_wp2_with fail
          refine (drawNo w0 _ c a len cap hl hcode c1).mono ?_
          rintro e w2 ⟨⟨x2, rfl⟩, h2⟩
          have o2 := own_only o1 h2.2 gne
          go_wp2_with fail
          refine (below w0 _ c a len cap 6 hl hcode h2.1 (by omega)).mono ?_
          rintro e w3 ⟨⟨x3, x30, x31, rfl⟩, h3⟩
          have o3 := own_only o2 h3.2 gne
          have c3 := h3.1
          clear o1 o2 h2 h3 c1
          have s3 := c3.bel.size
          go_wp2_with (at_builtin; refine wpList_append_own _ rfl (.tmp 36) (.tmp 42) 24 rfl w0.heap.size 26 i0 (.agg #[.int .i64 0, .int .i64 0]) 2 16 Try.underlying24 hi hz0 hz1 hz2 rfl (by decide) (.slice (some ⟨gX, 0, none⟩) ps.length cX) ps.length _ rfl (o3.alloc _) ⟨w3.heap.size, 0, none⟩ 1 1 [.int .i64 x2, .int .i64 x3] rfl rfl (lit1 _ w3 0 _ _ (Nat.zero_le _)).at.cells (fun u hu => flat_one u [(x2, x3)] hu) (by unfold maxLen; omega) (by omega) (by simp; omega) ?_)
          intro v5 w5 own5 (gr5 : World.grownBy _ w5 (some gX)) nil5
          obtain ⟨g5, c5, rfl, o5⟩ := own_of_row (n' := (ps ++ [(x2, x3)]).length) (ps := ps ++ [(x2, x3)]) own5 (by simp) (by rw [flat_append]; rfl) (by first | exact nil5 | (rw [nil5]; simp))
          have hc5 := cur_grown (Cur.alloc c3 _ _) gr5 o3.lt.1 gne
          have hn5 := own_ne o5 (by simp) hc5
          have e5 : (ps ++ [(x2, x3)]).length = ps.length + 1 := by simp
          have E5 := hide e5
          have OO := hide o5
          clear own5 gr5 nil5 o3 c3 o5 e5
          go_wp2
          go_ret
          exact ⟨ps ++ [(x2, x3)], g5, c5, rfl, unhide OO, by rw [unhide E5]; omega, hn5, hc5⟩


set_option maxRecDepth 100000 in
theorem drawPut (w : World) (a : Option Addr) (len cap : Nat) (hl : len ≤ 1048576) (hcode : CodeAt w a len) :
    Calls Try.prog 10 #[.slice a len cap] w fun e w' => ∃ ps x y g' c', e = .returned (.tuple #[.slice (some ⟨g', 0, none⟩) ps.length c', .agg #[.int .i64 x, .int .i64 y]]) ∧ Own 26 w' w.heap.size g' ps.length c' ps ∧ ps.length ≤ 20 + 1 ∧ Below w.heap.size w w' := by
  obtain ⟨wR, hwR⟩ : ∃ wR, wR = w.alloc (.cells #[.int .i64 0, .int .i64 0] 26) := ⟨_, rfl⟩
  have bR : Below w.heap.size w wR := by rw [hwR]; exact (Below.refl _ _).alloc (Nat.le_refl _) _
  have sR : w.heap.size < wR.heap.size := by rw [hwR]; simp
  have r0 : wR.cell? ⟨w.heap.size, 0, none⟩ = some (.int .i64 0) := by rw [hwR]; simp
  have r1 : wR.cell? ⟨w.heap.size, 1, none⟩ = some (.int .i64 0) := by rw [hwR]; simp
  have q0 : wR.frozen? ⟨w.heap.size, 0, none⟩ = false := by rw [hwR]; simp
  have q1 : wR.frozen? ⟨w.heap.size, 1, none⟩ = false := by rw [hwR]; simp
  have hcode := hcode.below bR
  have BR := hide bR
  clear bR
  go_enter Try.func10, Try.ntmps10
  go_wp2_with fail
  rw [← hwR]
  clear hwR
  refine (new wR a len cap hl hcode).mono ?_
  rintro e w1 ⟨c, rfl, h1⟩
  go_wp2_with fail
  refine (drawList wR w1 c a len cap hl hcode h1).mono ?_
  rintro e w2 ⟨ps, g', c', rfl, o2, l2, n2, h2⟩
  go_wp2_with fail
  refine (drawNo wR w2 c a len cap hl hcode h2).mono ?_
  rintro e w3 ⟨⟨x, rfl⟩, h3⟩
  have o3 := own_only o2 h3.2 n2
  have c3 := h3.1
  clear o2 h1 h2 h3
  go_wp2_with fail
  refine (below wR w3 c a len cap 12 hl hcode c3 (by omega)).mono ?_
  rintro e w4 ⟨⟨y1, y10, y11, rfl⟩, h4⟩
  have o4 := own_only o3 h4.2 n2
  have c4 := h4.1
  clear o3 c3 h4
  go_wp2_with fail
  refine (below wR w4 c a len cap 9 hl hcode c4 (by omega)).mono ?_
  rintro e w5 ⟨⟨y2, y20, y21, rfl⟩, h5⟩
  have o5 := own_only o4 h5.2 n2
  have b5 := h5.1.bel
  have e0 := (b5.cell (p := ⟨w.heap.size, 0, none⟩) sR).trans r0
  have e1 := (b5.cell (p := ⟨w.heap.size, 1, none⟩) sR).trans r1
  have f0 := (b5.frozen (p := ⟨w.heap.size, 0, none⟩) sR).trans q0
  have f1 := (b5.frozen (p := ⟨w.heap.size, 1, none⟩) sR).trans q1
  have OO := hide o5
  have BB := hide (next (unhide BR) b5)
  clear o4 c4 h5 o5 b5 r0 r1 q0 q1
  go_wp2
  refine bodyPost_ret (v := .tuple #[.slice (some ⟨g', 0, none⟩) ps.length c', .agg #[.int .i64 x, .int .i64 (y1 / 2 - y2 / 8)]]) (by simp [results, Try.results10, go_sem, e0, e1]) rfl ⟨ps, x, y1 / 2 - y2 / 8, g', c', rfl, ?_, by omega, ?_⟩
  · have lg := (unhide OO).lt.1
    have k1 := (unhide OO).kept (set_grown w5 ⟨w.heap.size, 0, none⟩ (.int .i64 x)) (by simp; omega)
    exact (k1.kept (set_grown _ ⟨w.heap.size, 1, none⟩ _) (by simp; omega)).rebase (by omega)
  · exact ((unhide BB).setCell (Nat.le_refl _) _).setCell (Nat.le_refl _) _

end Go.Proofs.Ytkbdlgbfgpoeiaa.AccountDraw
