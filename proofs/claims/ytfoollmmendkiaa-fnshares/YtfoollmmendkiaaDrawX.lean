/- Contracts of the drawing functions of the model that the laws of shares call: a total and a list of at most 41 numbers in memory of the call's own, whatever the bytes are. -/
import Derived.Test.YtfoollmmendkiaaDrawW
namespace Go.Proofs.Ytfoollmmendkiaa.DrawX
open Go.ChangeShapes Go.WideShapes Go.ChangeAt Go.RowKit Plain Draw DrawW
open Ints (Own info3)
open SOrder (own_of_row' one_cell one_one lit0)
set_option linter.unusedVariables false
set_option linter.unusedSimpArgs false

theorem cur_none {w0 w w' : World} {c : Nat} {a : Option Addr} {len cap : Nat} (h : Cur w0 w c a len cap) (k : w.grownBy w' none) : Cur w0 w' c a len cap := by
  obtain ⟨bel, lo, hi, cb, ⟨i, hi1, ci⟩, ⟨y, ch, hy⟩, f1, f2⟩ := h
  have e : w'.heap[c]? = w.heap[c]? := k.block c hi (by simp)
  have ec (o : Nat) : w'.cell? ⟨c, o, none⟩ = w.cell? ⟨c, o, none⟩ := World.cell?_of_block (w := w) e
  have ef (o : Nat) : w'.frozen? ⟨c, o, none⟩ = w.frozen? ⟨c, o, none⟩ := World.frozen?_of_block (w := w) e
  exact ⟨bel.grown k bel.size (by simp), lo, Nat.lt_of_lt_of_le hi k.size, (ec 0).trans cb, ⟨i, hi1, (ec 1).trans ci⟩, ⟨y, (ec 2).trans ch, hy⟩, (ef 1).trans f1, (ef 2).trans f2⟩

set_option maxRecDepth 100000 in
set_option maxHeartbeats 8000000 in
theorem drawWeights (w0 w : World) (c : Nat) (a : Option Addr) (len cap : Nat) (hl : len ≤ 1048576) (hcode : CodeAt w0 a len) (h : Cur w0 w c a len cap) :
    Calls Try.prog 36 #[.pointer (some ⟨c, 0, none⟩)] w fun e w' => ∃ xs g' c', e = .returned (.slice (some ⟨g', 0, none⟩) xs.length c') ∧ Own w' w0.heap.size g' xs.length c' xs ∧ xs.length ≤ 41 ∧ g' ≠ c ∧ Cur w0 w' c a len cap := by
  obtain ⟨i0, hi, hz0, hz1, hz2⟩ := info_parts info3
  have oL := lit0 w w0.heap.size h.bel.size
  have gS : w.heap.size ≠ c := by have := h.hi; omega
  go_enter Try.func36, Try.ntmps36
  go_wp2_with fail
  refine (below w0 _ c a len cap 6 hl hcode (Cur.alloc h _ _) (by omega)).mono ?_
  rintro e wa ⟨⟨x, x0, x1, rfl⟩, ha⟩
  have oL := own_only oL ha.2 gS
  go_wp2_with fail
  refine (once w0 _ c a len cap 15 hl hcode ha.1 (by omega)).mono ?_
  rintro e wb ⟨⟨tb, rfl⟩, hb⟩
  have oL := own_only oL hb.2 gS
  cases tb
  · have oS := oL
    have cS := hb.1
    clear oL ha hb
    obtain ⟨N, hN⟩ : ∃ N, N = 1 + x := ⟨_, rfl⟩
    have N0 : 0 ≤ N := by omega
    have N1 : N ≤ 41 := by omega
    go_wp2_with fail
    rw [← hN]
    clear hN x0 x1
    go_loopw [3, 5] (fun o i wr => ∃ (k : Nat) (xs : List Int) (gO cO : Nat), (k : Int) ≤ N ∧ i = .int .i64 k ∧ o = .slice (some ⟨gO, 0, none⟩) k cO ∧ Own wr w0.heap.size gO k cO xs ∧ gO ≠ c ∧ Cur w0 wr c a len cap) (fun _ i _ => N.toNat - (intOf i).toNat)
    case atStart => exact ⟨0, [], _, _, by omega, rfl, rfl, oS, gS, cS⟩
    case round =>
      clear oS cS
      obtain ⟨k, xs, gX, cX, hk, rfl, rfl, ownO, gne, hcur⟩ := hrel
      by_cases lt : (k : Int) < N
      · go_wp2_with fail
        refine (below w0 _ c a len cap 20 hl hcode hcur (by omega)).mono ?_
        rintro e w1 ⟨⟨x1, x10, x11, rfl⟩, h1⟩
        have o1 := own_only ownO h1.2 gne
        clear ownO
        go_wp2_with fail
        refine (once w0 _ c a len cap 6 hl hcode h1.1 (by omega)).mono ?_
        rintro e w2 ⟨⟨t2, rfl⟩, h2⟩
        have o2 := own_only o1 h2.2 gne
        have c2 := h2.1
        clear o1 h1 h2
        cases t2
        · go_wp2_with (at_builtin; refine wpList_append_own _ rfl (.tmp 30) (.tmp 32) 24 rfl w0.heap.size 3 i0 (.int .i64 0) 1 8 Try.underlying24 hi hz0 hz1 hz2 rfl (by decide) (.slice (some ⟨gX, 0, none⟩) k cX) k _ rfl (SOrder.Own.alloc o2 _) ⟨w2.heap.size, 0, none⟩ 1 1 [.int .i64 (x1)] rfl rfl (one_cell w2 _) (one_one _) (by unfold maxLen; omega) (by omega) (Nat.le_trans c2.bel.size (by simp)) ?_)
          intro v5 w5 own5 (gr5 : World.grownBy _ w5 (some gX)) nil5
          obtain ⟨g5, c5, rfl, o5⟩ := own_of_row' (n' := k + 1) (xs := xs ++ [x1]) own5 (by omega) (by simp) (by first | exact nil5 | (rw [nil5]; simp))
          have hc5 := cur_grown (Cur.alloc c2 _ _) gr5 o2.lt.1 gne
          have hn5 := own_ne o5 (by omega) hc5
          clear own5 gr5 nil5 o2 c2
          go_wp2
          go_roundw
          case rel => exact ⟨k + 1, _, g5, c5, by omega, by go_num, rfl, o5, hn5, hc5⟩
          case measure => simp [intOf]; omega

        · go_wp2_with fail
          refine (below w0 _ c a len cap 2000000000 hl hcode c2 (by omega)).mono ?_
          rintro e w3 ⟨⟨x3, x30, x31, rfl⟩, h3⟩
          have o3 := own_only o2 h3.2 gne
          go_wp2_with fail
          refine (below w0 _ c a len cap 100 hl hcode h3.1 (by omega)).mono ?_
          rintro e w4 ⟨⟨x4, x40, x41, rfl⟩, h4⟩
          have o2 := own_only o3 h4.2 gne
          have c2 := h4.1
          have m0 : 0 ≤ x3 * x4 := Int.mul_nonneg x30 x40
          have m1 : x3 * x4 ≤ 2000000000 * 100 := Int.mul_le_mul (by omega) (by omega) x40 (by omega)
          clear o3 h3 h4
          go_wp2_with (at_builtin; refine wpList_append_own _ rfl (.tmp 30) (.tmp 32) 24 rfl w0.heap.size 3 i0 (.int .i64 0) 1 8 Try.underlying24 hi hz0 hz1 hz2 rfl (by decide) (.slice (some ⟨gX, 0, none⟩) k cX) k _ rfl (SOrder.Own.alloc o2 _) ⟨w4.heap.size, 0, none⟩ 1 1 [.int .i64 (x3 * x4)] rfl rfl (one_cell w4 _) (one_one _) (by unfold maxLen; omega) (by omega) (Nat.le_trans c2.bel.size (by simp)) ?_)
          intro v5 w5 own5 (gr5 : World.grownBy _ w5 (some gX)) nil5
          obtain ⟨g5, c5, rfl, o5⟩ := own_of_row' (n' := k + 1) (xs := xs ++ [x3 * x4]) own5 (by omega) (by simp) (by first | exact nil5 | (rw [nil5]; simp))
          have hc5 := cur_grown (Cur.alloc c2 _ _) gr5 o2.lt.1 gne
          have hn5 := own_ne o5 (by omega) hc5
          clear own5 gr5 nil5 o2 c2
          go_wp2
          go_roundw
          case rel => exact ⟨k + 1, _, g5, c5, by omega, by go_num, rfl, o5, hn5, hc5⟩
          case measure => simp [intOf]; omega

      · by_cases n0 : (0 : Int) < N
        · have k0 : 0 < k := by omega
          go_wp2_with fail
          refine (once w0 _ c a len cap 15 hl hcode hcur (by omega)).mono ?_
          rintro e w1 ⟨⟨t1, rfl⟩, h1⟩
          have o1 := own_only ownO h1.2 gne
          cases t1
          · go_wp2_with fail
            refine (once w0 _ c a len cap 25 hl hcode h1.1 (by omega)).mono ?_
            rintro e w9 ⟨⟨t9, rfl⟩, h9⟩
            have o9 := own_only o1 h9.2 gne
            cases t9
            · go_wp2
              go_ret
              exact ⟨_, gX, cX, o9.len.symm ▸ rfl, o9.len.symm ▸ o9, by rw [o9.len]; omega, gne, h9.1⟩
            · go_wp2_with (at_make; refine wpList_make_full _ rfl _ _ 24 rfl w0.heap.size 3 i0 (.int .i64 0) 1 Try.underlying24 hi hz0 hz1 .i64 .i64 _ _ 3 rfl rfl rfl rfl (by rw [hz2]; omega) (by unfold maxLen; omega) h9.1.bel.size ?_; intro w10 hown hgrow)
              have hown : Own w10 w0.heap.size w9.heap.size 3 3 [0, 0, 0] := by
                have o := hown
                rw [Ints.made_zeros] at o
                exact o
              have hc := cur_none h9.1 hgrow
              have hne3 := own_ne hown (by omega) hc
              clear hgrow
              go_wp2
              go_ret
              exact ⟨_, w9.heap.size, 3, rfl, hown, by decide, hne3, hc⟩
          · go_wp2_with fail
            have hi1 := h1.1.hi
            refine (pick w0 _ c a len cap w1.heap.size 4 (of4 (-1) 1000000000000000 1000000000000001 0) hl hcode (Cur.alloc h1.1 _ _) (by omega) (by omega) (by simp) (by omega) (of4_cells w1 3 _ _ _ _)).mono ?_
            rintro e w2 ⟨⟨j, hj, rfl⟩, h2⟩
            have o2 := own_only (SOrder.Own.alloc o1 _) h2.2 gne
            have hc2 := h2.1
            generalize of4 (-1) 1000000000000000 1000000000000001 0 j = y at *
            have e0 := o2.at 0 (by rw [o2.len]; exact k0)
            have f0 := o2.free 0
            obtain ⟨p, q⟩ := o2.set 0 y
            have hc3 := cur_grown hc2 q o2.lt.1 gne
            have P := hide p
            have HC3 := hide hc3
            clear p q hc3 h2 h1 o2 o1 ownO hcur hc2
            generalize xs.getD 0 0 = z0 at e0
            go_wp2_with fail
            have o3 := unhide P
            have c3 := unhide HC3
            refine (once w0 _ c a len cap 25 hl hcode c3 (by omega)).mono ?_
            rintro e w9 ⟨⟨t9, rfl⟩, h9⟩
            have o9 := own_only o3 h9.2 gne
            cases t9
            · go_wp2
              go_ret
              exact ⟨_, gX, cX, o9.len.symm ▸ rfl, o9.len.symm ▸ o9, by rw [o9.len]; omega, gne, h9.1⟩
            · go_wp2_with (at_make; refine wpList_make_full _ rfl _ _ 24 rfl w0.heap.size 3 i0 (.int .i64 0) 1 Try.underlying24 hi hz0 hz1 .i64 .i64 _ _ 3 rfl rfl rfl rfl (by rw [hz2]; omega) (by unfold maxLen; omega) h9.1.bel.size ?_; intro w10 hown hgrow)
              have hown : Own w10 w0.heap.size w9.heap.size 3 3 [0, 0, 0] := by
                have o := hown
                rw [Ints.made_zeros] at o
                exact o
              have hc := cur_none h9.1 hgrow
              have hne3 := own_ne hown (by omega) hc
              clear hgrow
              go_wp2
              go_ret
              exact ⟨_, w9.heap.size, 3, rfl, hown, by decide, hne3, hc⟩
        · go_wp2_with fail
          refine (once w0 _ c a len cap 25 hl hcode hcur (by omega)).mono ?_
          rintro e w9 ⟨⟨t9, rfl⟩, h9⟩
          have o9 := own_only ownO h9.2 gne
          cases t9
          · go_wp2
            go_ret
            exact ⟨_, gX, cX, o9.len.symm ▸ rfl, o9.len.symm ▸ o9, by rw [o9.len]; omega, gne, h9.1⟩
          · go_wp2_with (at_make; refine wpList_make_full _ rfl _ _ 24 rfl w0.heap.size 3 i0 (.int .i64 0) 1 Try.underlying24 hi hz0 hz1 .i64 .i64 _ _ 3 rfl rfl rfl rfl (by rw [hz2]; omega) (by unfold maxLen; omega) h9.1.bel.size ?_; intro w10 hown hgrow)
            have hown : Own w10 w0.heap.size w9.heap.size 3 3 [0, 0, 0] := by
              have o := hown
              rw [Ints.made_zeros] at o
              exact o
            have hc := cur_none h9.1 hgrow
            have hne3 := own_ne hown (by omega) hc
            clear hgrow
            go_wp2
            go_ret
            exact ⟨_, w9.heap.size, 3, rfl, hown, by decide, hne3, hc⟩

  · go_wp2_with fail
    have hib := hb.1.hi
    refine (pick w0 _ c a len cap wb.heap.size 3 (of3 0 40 41) hl hcode (Cur.alloc hb.1 _ _) (by omega) (by omega) (by simp) (by omega) (of3_cells wb 3 _ _ _)).mono ?_
    rintro e wc ⟨⟨j, hj, rfl⟩, hc⟩
    have oS := own_only (SOrder.Own.alloc oL _) hc.2 gS
    have cS := hc.1
    obtain ⟨N0, N1⟩ : 0 ≤ of3 0 40 41 j ∧ of3 0 40 41 j ≤ 41 := by unfold of3; split <;> (try split) <;> omega
    clear oL ha hb hc
    generalize of3 0 40 41 j = N at *
    go_wp2_with fail
    go_loopw [3, 5] (fun o i wr => ∃ (k : Nat) (xs : List Int) (gO cO : Nat), (k : Int) ≤ N ∧ i = .int .i64 k ∧ o = .slice (some ⟨gO, 0, none⟩) k cO ∧ Own wr w0.heap.size gO k cO xs ∧ gO ≠ c ∧ Cur w0 wr c a len cap) (fun _ i _ => N.toNat - (intOf i).toNat)
    case atStart => exact ⟨0, [], _, _, by omega, rfl, rfl, oS, gS, cS⟩
    case round =>
      clear oS cS
      obtain ⟨k, xs, gX, cX, hk, rfl, rfl, ownO, gne, hcur⟩ := hrel
      by_cases lt : (k : Int) < N
      · go_wp2_with fail
        refine (below w0 _ c a len cap 20 hl hcode hcur (by omega)).mono ?_
        rintro e w1 ⟨⟨x1, x10, x11, rfl⟩, h1⟩
        have o1 := own_only ownO h1.2 gne
        clear ownO
        go_wp2_with fail
        refine (once w0 _ c a len cap 6 hl hcode h1.1 (by omega)).mono ?_
        rintro e w2 ⟨⟨t2, rfl⟩, h2⟩
        have o2 := own_only o1 h2.2 gne
        have c2 := h2.1
        clear o1 h1 h2
        cases t2
        · go_wp2_with (at_builtin; refine wpList_append_own _ rfl (.tmp 30) (.tmp 32) 24 rfl w0.heap.size 3 i0 (.int .i64 0) 1 8 Try.underlying24 hi hz0 hz1 hz2 rfl (by decide) (.slice (some ⟨gX, 0, none⟩) k cX) k _ rfl (SOrder.Own.alloc o2 _) ⟨w2.heap.size, 0, none⟩ 1 1 [.int .i64 (x1)] rfl rfl (one_cell w2 _) (one_one _) (by unfold maxLen; omega) (by omega) (Nat.le_trans c2.bel.size (by simp)) ?_)
          intro v5 w5 own5 (gr5 : World.grownBy _ w5 (some gX)) nil5
          obtain ⟨g5, c5, rfl, o5⟩ := own_of_row' (n' := k + 1) (xs := xs ++ [x1]) own5 (by omega) (by simp) (by first | exact nil5 | (rw [nil5]; simp))
          have hc5 := cur_grown (Cur.alloc c2 _ _) gr5 o2.lt.1 gne
          have hn5 := own_ne o5 (by omega) hc5
          clear own5 gr5 nil5 o2 c2
          go_wp2
          go_roundw
          case rel => exact ⟨k + 1, _, g5, c5, by omega, by go_num, rfl, o5, hn5, hc5⟩
          case measure => simp [intOf]; omega

        · go_wp2_with fail
          refine (below w0 _ c a len cap 2000000000 hl hcode c2 (by omega)).mono ?_
          rintro e w3 ⟨⟨x3, x30, x31, rfl⟩, h3⟩
          have o3 := own_only o2 h3.2 gne
          go_wp2_with fail
          refine (below w0 _ c a len cap 100 hl hcode h3.1 (by omega)).mono ?_
          rintro e w4 ⟨⟨x4, x40, x41, rfl⟩, h4⟩
          have o2 := own_only o3 h4.2 gne
          have c2 := h4.1
          have m0 : 0 ≤ x3 * x4 := Int.mul_nonneg x30 x40
          have m1 : x3 * x4 ≤ 2000000000 * 100 := Int.mul_le_mul (by omega) (by omega) x40 (by omega)
          clear o3 h3 h4
          go_wp2_with (at_builtin; refine wpList_append_own _ rfl (.tmp 30) (.tmp 32) 24 rfl w0.heap.size 3 i0 (.int .i64 0) 1 8 Try.underlying24 hi hz0 hz1 hz2 rfl (by decide) (.slice (some ⟨gX, 0, none⟩) k cX) k _ rfl (SOrder.Own.alloc o2 _) ⟨w4.heap.size, 0, none⟩ 1 1 [.int .i64 (x3 * x4)] rfl rfl (one_cell w4 _) (one_one _) (by unfold maxLen; omega) (by omega) (Nat.le_trans c2.bel.size (by simp)) ?_)
          intro v5 w5 own5 (gr5 : World.grownBy _ w5 (some gX)) nil5
          obtain ⟨g5, c5, rfl, o5⟩ := own_of_row' (n' := k + 1) (xs := xs ++ [x3 * x4]) own5 (by omega) (by simp) (by first | exact nil5 | (rw [nil5]; simp))
          have hc5 := cur_grown (Cur.alloc c2 _ _) gr5 o2.lt.1 gne
          have hn5 := own_ne o5 (by omega) hc5
          clear own5 gr5 nil5 o2 c2
          go_wp2
          go_roundw
          case rel => exact ⟨k + 1, _, g5, c5, by omega, by go_num, rfl, o5, hn5, hc5⟩
          case measure => simp [intOf]; omega

      · by_cases n0 : (0 : Int) < N
        · have k0 : 0 < k := by omega
          go_wp2_with fail
          refine (once w0 _ c a len cap 15 hl hcode hcur (by omega)).mono ?_
          rintro e w1 ⟨⟨t1, rfl⟩, h1⟩
          have o1 := own_only ownO h1.2 gne
          cases t1
          · go_wp2_with fail
            refine (once w0 _ c a len cap 25 hl hcode h1.1 (by omega)).mono ?_
            rintro e w9 ⟨⟨t9, rfl⟩, h9⟩
            have o9 := own_only o1 h9.2 gne
            cases t9
            · go_wp2
              go_ret
              exact ⟨_, gX, cX, o9.len.symm ▸ rfl, o9.len.symm ▸ o9, by rw [o9.len]; omega, gne, h9.1⟩
            · go_wp2_with (at_make; refine wpList_make_full _ rfl _ _ 24 rfl w0.heap.size 3 i0 (.int .i64 0) 1 Try.underlying24 hi hz0 hz1 .i64 .i64 _ _ 3 rfl rfl rfl rfl (by rw [hz2]; omega) (by unfold maxLen; omega) h9.1.bel.size ?_; intro w10 hown hgrow)
              have hown : Own w10 w0.heap.size w9.heap.size 3 3 [0, 0, 0] := by
                have o := hown
                rw [Ints.made_zeros] at o
                exact o
              have hc := cur_none h9.1 hgrow
              have hne3 := own_ne hown (by omega) hc
              clear hgrow
              go_wp2
              go_ret
              exact ⟨_, w9.heap.size, 3, rfl, hown, by decide, hne3, hc⟩
          · go_wp2_with fail
            have hi1 := h1.1.hi
            refine (pick w0 _ c a len cap w1.heap.size 4 (of4 (-1) 1000000000000000 1000000000000001 0) hl hcode (Cur.alloc h1.1 _ _) (by omega) (by omega) (by simp) (by omega) (of4_cells w1 3 _ _ _ _)).mono ?_
            rintro e w2 ⟨⟨j, hj, rfl⟩, h2⟩
            have o2 := own_only (SOrder.Own.alloc o1 _) h2.2 gne
            have hc2 := h2.1
            generalize of4 (-1) 1000000000000000 1000000000000001 0 j = y at *
            have e0 := o2.at 0 (by rw [o2.len]; exact k0)
            have f0 := o2.free 0
            obtain ⟨p, q⟩ := o2.set 0 y
            have hc3 := cur_grown hc2 q o2.lt.1 gne
            have P := hide p
            have HC3 := hide hc3
            clear p q hc3 h2 h1 o2 o1 ownO hcur hc2
            generalize xs.getD 0 0 = z0 at e0
            go_wp2_with fail
            have o3 := unhide P
            have c3 := unhide HC3
            refine (once w0 _ c a len cap 25 hl hcode c3 (by omega)).mono ?_
            rintro e w9 ⟨⟨t9, rfl⟩, h9⟩
            have o9 := own_only o3 h9.2 gne
            cases t9
            · go_wp2
              go_ret
              exact ⟨_, gX, cX, o9.len.symm ▸ rfl, o9.len.symm ▸ o9, by rw [o9.len]; omega, gne, h9.1⟩
            · go_wp2_with (at_make; refine wpList_make_full _ rfl _ _ 24 rfl w0.heap.size 3 i0 (.int .i64 0) 1 Try.underlying24 hi hz0 hz1 .i64 .i64 _ _ 3 rfl rfl rfl rfl (by rw [hz2]; omega) (by unfold maxLen; omega) h9.1.bel.size ?_; intro w10 hown hgrow)
              have hown : Own w10 w0.heap.size w9.heap.size 3 3 [0, 0, 0] := by
                have o := hown
                rw [Ints.made_zeros] at o
                exact o
              have hc := cur_none h9.1 hgrow
              have hne3 := own_ne hown (by omega) hc
              clear hgrow
              go_wp2
              go_ret
              exact ⟨_, w9.heap.size, 3, rfl, hown, by decide, hne3, hc⟩
        · go_wp2_with fail
          refine (once w0 _ c a len cap 25 hl hcode hcur (by omega)).mono ?_
          rintro e w9 ⟨⟨t9, rfl⟩, h9⟩
          have o9 := own_only ownO h9.2 gne
          cases t9
          · go_wp2
            go_ret
            exact ⟨_, gX, cX, o9.len.symm ▸ rfl, o9.len.symm ▸ o9, by rw [o9.len]; omega, gne, h9.1⟩
          · go_wp2_with (at_make; refine wpList_make_full _ rfl _ _ 24 rfl w0.heap.size 3 i0 (.int .i64 0) 1 Try.underlying24 hi hz0 hz1 .i64 .i64 _ _ 3 rfl rfl rfl rfl (by rw [hz2]; omega) (by unfold maxLen; omega) h9.1.bel.size ?_; intro w10 hown hgrow)
            have hown : Own w10 w0.heap.size w9.heap.size 3 3 [0, 0, 0] := by
              have o := hown
              rw [Ints.made_zeros] at o
              exact o
            have hc := cur_none h9.1 hgrow
            have hne3 := own_ne hown (by omega) hc
            clear hgrow
            go_wp2
            go_ret
            exact ⟨_, w9.heap.size, 3, rfl, hown, by decide, hne3, hc⟩

set_option maxRecDepth 100000 in
theorem drawBoth (w : World) (a : Option Addr) (len cap : Nat) (hl : len ≤ 1048576) (hcode : CodeAt w a len) :
    Calls Try.prog 26 #[.slice a len cap] w fun e w' => ∃ t xs g' c', e = .returned (.tuple #[.int .i64 t, .slice (some ⟨g', 0, none⟩) xs.length c']) ∧ Own w' w.heap.size g' xs.length c' xs ∧ xs.length ≤ 41 ∧ Below w.heap.size w w' := by
  go_enter Try.func26, Try.ntmps26
  go_wp2_with fail
  refine (new w a len cap hl hcode).mono ?_
  rintro e w1 ⟨c, rfl, h1⟩
  go_wp2_with fail
  refine (drawWeights w w1 c a len cap hl hcode h1).mono ?_
  rintro e w2 ⟨xs, g', c', rfl, o2, l2, n2, h2⟩
  go_wp2_with fail
  refine (drawTotal w w2 c a len cap hl hcode h2).mono ?_
  rintro e w3 ⟨⟨t, rfl⟩, h3⟩
  have o3 := own_only o2 h3.2 n2
  have b3 := h3.1.bel
  clear h1 h2 h3 o2
  go_wp2
  go_ret2
  exact ⟨t, xs, g', c', rfl, o3, l2, b3⟩

set_option maxRecDepth 100000 in
theorem drawShares (w : World) (a : Option Addr) (len cap : Nat) (hl : len ≤ 1048576) (hcode : CodeAt w a len) :
    Calls Try.prog 10 #[.slice a len cap] w fun e w' => ∃ t xs g' c', e = .returned (.tuple #[.int .i64 t, .slice (some ⟨g', 0, none⟩) xs.length c']) ∧ Own w' w.heap.size g' xs.length c' xs ∧ xs.length ≤ 41 ∧ Below w.heap.size w w' := by
  go_enter Try.func10, Try.ntmps10
  go_wp2_with fail
  refine (drawBoth w a len cap hl hcode).mono ?_
  rintro e w1 ⟨t, xs, g', c', rfl, o, l, b⟩
  go_wp2
  go_ret2
  exact ⟨t, xs, g', c', rfl, o, l, b⟩

set_option maxRecDepth 100000 in
theorem drawShareOrder (w : World) (a : Option Addr) (len cap : Nat) (hl : len ≤ 1048576) (hcode : CodeAt w a len) :
    Calls Try.prog 14 #[.slice a len cap] w fun e w' => ∃ t xs g' c', e = .returned (.tuple #[.int .i64 t, .slice (some ⟨g', 0, none⟩) xs.length c']) ∧ Own w' w.heap.size g' xs.length c' xs ∧ xs.length ≤ 41 ∧ Below w.heap.size w w' := by
  go_enter Try.func14, Try.ntmps14
  go_wp2_with fail
  refine (drawBoth w a len cap hl hcode).mono ?_
  rintro e w1 ⟨t, xs, g', c', rfl, o, l, b⟩
  go_wp2
  go_ret2
  exact ⟨t, xs, g', c', rfl, o, l, b⟩

end Go.Proofs.Ytfoollmmendkiaa.DrawX
