/- Contract of the model's DrawLotOpen: a list in memory of the call's own and a lot, whatever the bytes are. -/
import Derived.Test.YtdnpjjbphamcmaaDraw6L
import Derived.Test.YtdnpjjbphamcmaaIOk5
namespace Go.Proofs.Ytdnpjjbphamcmaa.Draw7L
open Go.ChangeShapes Go.WideShapes Go.ChangeAt Go.RowKit Tup5 Lots Takes SOpen SOf Draw5L Draw6L IOk5
open Draw (CodeAt Cur Only Moved below once new pick of3 of3_cells own_only moved_start moved_below moved_alloc moved_grown)
set_option linter.unusedVariables false
set_option linter.unusedSimpArgs false

/-- What is drawn for an opening. -/
def DrawnOpen (w : World) (e : Ending) (w' : World) : Prop :=
  ∃ (ps : List T5) (g' c' : Nat) (y0 y1 y2 y3 y4 : Int), e = .returned (.tuple #[.slice (some ⟨g', 0, none⟩) ps.length c', .agg #[.int .i64 y0, .int .i64 y1, .int .i64 y2, .int .i64 y3, .int .i64 y4]]) ∧ Own5 40 w' w.heap.size g' ps.length c' ps ∧ ps.length ≤ 121 ∧ Below w.heap.size w w'

set_option maxRecDepth 100000 in
set_option maxHeartbeats 4000000 in
theorem drawOpen (w : World) (a : Option Addr) (len cap : Nat) (hl : len ≤ 1048576) (hcode : CodeAt w a len) :
    Calls Try.prog 28 #[.slice a len cap] w (DrawnOpen w) := by
  have B0 := SOk5.one_more w (.cells #[.int .i64 0, .int .i64 0, .int .i64 0, .int .i64 0, .int .i64 0] 40)
  have OR := hide (lit51 40 w w.heap.size 0 0 0 0 0 (Nat.le_refl _))
  have hcode := hcode.below B0
  have r0 : w.heap.size < (w.alloc (.cells #[.int .i64 0, .int .i64 0, .int .i64 0, .int .i64 0, .int .i64 0] 40)).heap.size := by simp
  go_enter Try.func28, Try.ntmps28
  go_wp2_with fail
  generalize w.alloc (.cells #[.int .i64 0, .int .i64 0, .int .i64 0, .int .i64 0, .int .i64 0] 40) = W at *
  refine (new W a len cap hl hcode).mono ?_
  rintro e w1 ⟨c, rfl, h1⟩
  go_wp2_with fail
  refine (drawLots W w1 c a len cap hl hcode h1).mono ?_
  rintro e w2 ⟨ps, gA, cA, rfl, oA, lA, h2⟩
  have c1 := h1.hi
  have cl := h1.lo
  have w1s := h1.bel.size
  have gA1 := oA.lt.1
  have gAc : gA ≠ c := by omega
  have gAr : gA ≠ w.heap.size := by omega
  have cr : c ≠ w.heap.size := by omega
  have oA := oA.rebase (base' := w.heap.size) (by omega)
  clear h1
  go_wp2_with fail
  refine (below W _ c a len cap 3 hl hcode h2.1 (by omega)).mono ?_
  rintro e v1 ⟨⟨x1, x10, x11, rfl⟩, m1⟩
  have oA := own_only oA m1.2 gAc
  have m1 := Moved.trans h2 m1
  clear h2
  go_wp2_with fail
  refine (below W _ c a len cap 2 hl hcode m1.1 (by omega)).mono ?_
  rintro e v2 ⟨⟨x2, x20, x21, rfl⟩, m2⟩
  have oA := own_only oA m2.2 gAc
  have m2 := Moved.trans m1 m2
  clear m1
  go_wp2_with fail
  refine (below W _ c a len cap 30 hl hcode m2.1 (by omega)).mono ?_
  rintro e v3 ⟨⟨x3, x30, x31, rfl⟩, m3⟩
  have oA := own_only oA m3.2 gAc
  have m3 := Moved.trans m2 m3
  clear m2
  go_wp2_with fail
  refine (below W _ c a len cap 30 hl hcode m3.1 (by omega)).mono ?_
  rintro e v4 ⟨⟨x4, x40, x41, rfl⟩, m4⟩
  have oA := own_only oA m4.2 gAc
  have m4 := Moved.trans m3 m4
  clear m3
  go_wp2_with fail
  refine (below W _ c a len cap 500 hl hcode m4.1 (by omega)).mono ?_
  rintro e v5 ⟨⟨x5, x50, x51, rfl⟩, m5⟩
  have oA := own_only oA m5.2 gAc
  have m5 := Moved.trans m4 m5
  clear m4
  have OL := hide (lit51 40 v5 w.heap.size (1 + x1) (1 + x2) (1 + x3) (1 + x4) x5 (by have := m5.1.bel.size; omega))
  have OA := hide (oA.alloc (.cells #[.int .i64 (1 + x1), .int .i64 (1 + x2), .int .i64 (1 + x3), .int .i64 (1 + x4), .int .i64 x5] 40))
  have M6 := hide (moved_alloc m5 #[.int .i64 (1 + x1), .int .i64 (1 + x2), .int .i64 (1 + x3), .int .i64 (1 + x4), .int .i64 x5] 40)
  have bc : v5.heap.size ≠ c := by have := m5.1.hi; omega
  have br : v5.heap.size ≠ w.heap.size := by have := m5.1.bel.size; omega
  have bA : v5.heap.size ≠ gA := by have := oA.lt.2; omega
  have bW : W.heap.size ≤ v5.heap.size := m5.1.bel.size
  clear oA m5
  go_wp2_with fail
  generalize v5.alloc (.cells #[.int .i64 (1 + x1), .int .i64 (1 + x2), .int .i64 (1 + x3), .int .i64 (1 + x4), .int .i64 x5] 40) = v6 at *
  generalize v5.heap.size = b at *
  refine (below W _ c a len cap 15 hl hcode (unhide M6).1 (by omega)).mono ?_
  rintro e v7 ⟨⟨y, y0, y1, rfl⟩, m7⟩
  have OL := hide (own_only (unhide OL) m7.2 bc)
  have OA := hide (own_only (unhide OA) m7.2 gAc)
  have M7 := hide (Moved.trans (unhide M6) m7)
  clear M6 m7
  by_cases t0 : y = 0
  · subst t0
    have hiX := (unhide M7).1.hi
    go_wp2_with fail
    refine (pick W _ c a len cap v7.heap.size 3 (of3 0 1000000000000000 1000000000000001) hl hcode (Draw.Cur.alloc (unhide M7).1 _ _) (by omega) (by omega) (by simp) (by omega) (of3_cells v7 3 _ _ _)).mono ?_
    rintro e v8 ⟨⟨j, hj, rfl⟩, m8⟩
    have OL := hide (own_only ((unhide OL).alloc _) m8.2 bc)
    have OA := hide (own_only ((unhide OA).alloc _) m8.2 gAc)
    have M8 := hide (Moved.trans (moved_alloc (unhide M7) _ 3) m8)
    generalize of3 0 1000000000000000 1000000000000001 j = z at *
    clear m8
    have hs := (unhide OL).set3 0 z
    have hd : v8.cell? ⟨b, 3, none⟩ = _ := (Cmp.at0 (Own5.at (unhide OL) 0 (by simp))).2.2.2.1
    have hf : v8.frozen? ⟨b, 3, none⟩ = false := (unhide OL).free 3
    have OL := hide (show Own5 40 (v8.setCell ⟨b, 3, none⟩ (.int .i64 z)) w.heap.size b 1 1 [(1 + x1, 1 + x2, 1 + x3, z, x5)] from hs.1)
    have OA := hide (show Own5 40 (v8.setCell ⟨b, 3, none⟩ (.int .i64 z)) w.heap.size gA ps.length cA ps from (unhide OA).kept hs.2 (fun e => bA (Option.some.inj e).symm))
    have BEL := hide (show Below W.heap.size W (v8.setCell ⟨b, 3, none⟩ (.int .i64 z)) from (unhide M8).1.bel.grown hs.2 (unhide M8).1.bel.size (fun j hj => by cases hj; exact bW))
    clear hs M8
    go_wp2_with fail
    generalize v8.setCell ⟨b, 3, none⟩ (.int .i64 z) = v9 at *
    clear hd hf
    have OR := hide (Own5.below (unhide OR) (unhide BEL) r0)
    obtain ⟨d0, d1, d2, d3, d4⟩ := Cmp.at0 (Own5.at (unhide OR) 0 (by simp))
    have f0 := (unhide OR).free 0
    have f1 := (unhide OR).free 1
    have f2 := (unhide OR).free 2
    have f3 := (unhide OR).free 3
    have f4 := (unhide OR).free 4
    obtain ⟨c0, c1, c2, c3, c4⟩ := Cmp.at0 (Own5.at (unhide OL) 0 (by simp))
    have BW := hide (B0.trans ((unhide BEL).mono (Nat.le_of_lt r0)))
    have ST := store5 (unhide OR) (1 + x1) (1 + x2) (1 + x3) (z) (x5)
    have FA := hide (show Own5 40 ((((((v9.setCell ⟨w.heap.size, 0, none⟩ (.int .i64 (1 + x1))).setCell ⟨w.heap.size, 1, none⟩ (.int .i64 (1 + x2))).setCell ⟨w.heap.size, 2, none⟩ (.int .i64 (1 + x3))).setCell ⟨w.heap.size, 3, none⟩ (.int .i64 (z))).setCell ⟨w.heap.size, 4, none⟩ (.int .i64 (x5)))).drew w.heap.size gA ps.length cA ps from ((unhide OA).kept ST.2 (fun e => gAr (Option.some.inj e))).drew)
    have FB := hide (show Below w.heap.size w ((((((v9.setCell ⟨w.heap.size, 0, none⟩ (.int .i64 (1 + x1))).setCell ⟨w.heap.size, 1, none⟩ (.int .i64 (1 + x2))).setCell ⟨w.heap.size, 2, none⟩ (.int .i64 (1 + x3))).setCell ⟨w.heap.size, 3, none⟩ (.int .i64 (z))).setCell ⟨w.heap.size, 4, none⟩ (.int .i64 (x5)))).drew from ((unhide BW).grown ST.2 (unhide BW).size (fun j hj => by cases hj; exact Nat.le_refl _)).drew)
    clear ST
    go_wp2
    go_region
    go_wp2
    refine bodyPost_ret (v := .tuple #[.slice (some ⟨gA, 0, none⟩) ps.length cA, .agg #[.int .i64 (1 + x1), .int .i64 (1 + x2), .int .i64 (1 + x3), .int .i64 (z), .int .i64 (x5)]]) (by simp [results, Try.results28, go_sem, *]) rfl ⟨ps, gA, cA, 1 + x1, 1 + x2, 1 + x3, z, x5, rfl, unhide FA, lA, unhide FB⟩
  have t0b : (y == 0) = false := by simpa using t0
  by_cases t1 : y = 1
  · subst t1
    have hiX := (unhide M7).1.hi
    go_wp2_with fail
    refine (pick W _ c a len cap v7.heap.size 3 (of3 0 1000000000 1000000001) hl hcode (Draw.Cur.alloc (unhide M7).1 _ _) (by omega) (by omega) (by simp) (by omega) (of3_cells v7 3 _ _ _)).mono ?_
    rintro e v8 ⟨⟨j, hj, rfl⟩, m8⟩
    have OL := hide (own_only ((unhide OL).alloc _) m8.2 bc)
    have OA := hide (own_only ((unhide OA).alloc _) m8.2 gAc)
    have M8 := hide (Moved.trans (moved_alloc (unhide M7) _ 3) m8)
    generalize of3 0 1000000000 1000000001 j = z at *
    clear m8
    have hs := (unhide OL).set2 0 z
    have hd : v8.cell? ⟨b, 2, none⟩ = _ := (Cmp.at0 (Own5.at (unhide OL) 0 (by simp))).2.2.1
    have hf : v8.frozen? ⟨b, 2, none⟩ = false := (unhide OL).free 2
    have OL := hide (show Own5 40 (v8.setCell ⟨b, 2, none⟩ (.int .i64 z)) w.heap.size b 1 1 [(1 + x1, 1 + x2, z, 1 + x4, x5)] from hs.1)
    have OA := hide (show Own5 40 (v8.setCell ⟨b, 2, none⟩ (.int .i64 z)) w.heap.size gA ps.length cA ps from (unhide OA).kept hs.2 (fun e => bA (Option.some.inj e).symm))
    have BEL := hide (show Below W.heap.size W (v8.setCell ⟨b, 2, none⟩ (.int .i64 z)) from (unhide M8).1.bel.grown hs.2 (unhide M8).1.bel.size (fun j hj => by cases hj; exact bW))
    clear hs M8
    go_wp2_with fail
    generalize v8.setCell ⟨b, 2, none⟩ (.int .i64 z) = v9 at *
    clear hd hf
    have OR := hide (Own5.below (unhide OR) (unhide BEL) r0)
    obtain ⟨d0, d1, d2, d3, d4⟩ := Cmp.at0 (Own5.at (unhide OR) 0 (by simp))
    have f0 := (unhide OR).free 0
    have f1 := (unhide OR).free 1
    have f2 := (unhide OR).free 2
    have f3 := (unhide OR).free 3
    have f4 := (unhide OR).free 4
    obtain ⟨c0, c1, c2, c3, c4⟩ := Cmp.at0 (Own5.at (unhide OL) 0 (by simp))
    have BW := hide (B0.trans ((unhide BEL).mono (Nat.le_of_lt r0)))
    have ST := store5 (unhide OR) (1 + x1) (1 + x2) (z) (1 + x4) (x5)
    have FA := hide (show Own5 40 ((((((v9.setCell ⟨w.heap.size, 0, none⟩ (.int .i64 (1 + x1))).setCell ⟨w.heap.size, 1, none⟩ (.int .i64 (1 + x2))).setCell ⟨w.heap.size, 2, none⟩ (.int .i64 (z))).setCell ⟨w.heap.size, 3, none⟩ (.int .i64 (1 + x4))).setCell ⟨w.heap.size, 4, none⟩ (.int .i64 (x5)))).drew w.heap.size gA ps.length cA ps from ((unhide OA).kept ST.2 (fun e => gAr (Option.some.inj e))).drew)
    have FB := hide (show Below w.heap.size w ((((((v9.setCell ⟨w.heap.size, 0, none⟩ (.int .i64 (1 + x1))).setCell ⟨w.heap.size, 1, none⟩ (.int .i64 (1 + x2))).setCell ⟨w.heap.size, 2, none⟩ (.int .i64 (z))).setCell ⟨w.heap.size, 3, none⟩ (.int .i64 (1 + x4))).setCell ⟨w.heap.size, 4, none⟩ (.int .i64 (x5)))).drew from ((unhide BW).grown ST.2 (unhide BW).size (fun j hj => by cases hj; exact Nat.le_refl _)).drew)
    clear ST
    go_wp2
    go_region
    go_wp2
    refine bodyPost_ret (v := .tuple #[.slice (some ⟨gA, 0, none⟩) ps.length cA, .agg #[.int .i64 (1 + x1), .int .i64 (1 + x2), .int .i64 (z), .int .i64 (1 + x4), .int .i64 (x5)]]) (by simp [results, Try.results28, go_sem, *]) rfl ⟨ps, gA, cA, 1 + x1, 1 + x2, z, 1 + x4, x5, rfl, unhide FA, lA, unhide FB⟩
  have t1b : (y == 1) = false := by simpa using t1
  by_cases t2 : y = 2
  · subst t2
    by_cases ln : 0 < ps.length
    · have ln2 : (0 : Int) < (ps.length : Int) := by omega
      go_wp2_with fail
      refine (below W _ c a len cap ps.length hl hcode (unhide M7).1 (by omega)).mono ?_
      rintro e v8 ⟨⟨x, xx0, xx1, rfl⟩, m8⟩
      obtain ⟨k, rfl⟩ := Int.eq_ofNat_of_zero_le xx0
      have kl : k < ps.length := by omega
      have OL := hide (own_only (unhide OL) m8.2 bc)
      have OA := hide (own_only (unhide OA) m8.2 gAc)
      have M8 := hide (Moved.trans (unhide M7) m8)
      obtain ⟨e0, e1, e2, e3, e4⟩ := (unhide OA).at k kl
      clear m8
      generalize (el5 ps k).1 = z0 at *
      generalize (el5 ps k).2.1 = z1 at *
      generalize (el5 ps k).2.2.1 = z2 at *
      generalize (el5 ps k).2.2.2.1 = z3 at *
      generalize (el5 ps k).2.2.2.2 = z4 at *
      have hs := store5 (unhide OL) z0 z1 z2 z3 z4
      obtain ⟨g0, g1, g2, g3, g4⟩ := Cmp.at0 (Own5.at (unhide OL) 0 (by simp))
      have h0 := (unhide OL).free 0
      have h1 := (unhide OL).free 1
      have h2 := (unhide OL).free 2
      have h3 := (unhide OL).free 3
      have h4 := (unhide OL).free 4
      have OL := hide (show Own5 40 (((((v8.setCell ⟨b, 0, none⟩ (.int .i64 z0)).setCell ⟨b, 1, none⟩ (.int .i64 z1)).setCell ⟨b, 2, none⟩ (.int .i64 z2)).setCell ⟨b, 3, none⟩ (.int .i64 z3)).setCell ⟨b, 4, none⟩ (.int .i64 z4)) w.heap.size b 1 1 [(z0, z1, z2, z3, z4)] from hs.1)
      have OA := hide (show Own5 40 (((((v8.setCell ⟨b, 0, none⟩ (.int .i64 z0)).setCell ⟨b, 1, none⟩ (.int .i64 z1)).setCell ⟨b, 2, none⟩ (.int .i64 z2)).setCell ⟨b, 3, none⟩ (.int .i64 z3)).setCell ⟨b, 4, none⟩ (.int .i64 z4)) w.heap.size gA ps.length cA ps from (unhide OA).kept hs.2 (fun e => bA (Option.some.inj e).symm))
      have BEL := hide (show Below W.heap.size W (((((v8.setCell ⟨b, 0, none⟩ (.int .i64 z0)).setCell ⟨b, 1, none⟩ (.int .i64 z1)).setCell ⟨b, 2, none⟩ (.int .i64 z2)).setCell ⟨b, 3, none⟩ (.int .i64 z3)).setCell ⟨b, 4, none⟩ (.int .i64 z4)) from (unhide M8).1.bel.grown hs.2 (unhide M8).1.bel.size (fun j hj => by cases hj; exact bW))
      clear hs M8
      go_wp2_with fail
      generalize (((((v8.setCell ⟨b, 0, none⟩ (.int .i64 z0)).setCell ⟨b, 1, none⟩ (.int .i64 z1)).setCell ⟨b, 2, none⟩ (.int .i64 z2)).setCell ⟨b, 3, none⟩ (.int .i64 z3)).setCell ⟨b, 4, none⟩ (.int .i64 z4)) = v9 at *
      clear g0 g1 g2 g3 g4 h0 h1 h2 h3 h4 e0 e1 e2 e3 e4
      have OR := hide (Own5.below (unhide OR) (unhide BEL) r0)
      obtain ⟨d0, d1, d2, d3, d4⟩ := Cmp.at0 (Own5.at (unhide OR) 0 (by simp))
      have f0 := (unhide OR).free 0
      have f1 := (unhide OR).free 1
      have f2 := (unhide OR).free 2
      have f3 := (unhide OR).free 3
      have f4 := (unhide OR).free 4
      obtain ⟨c0, c1, c2, c3, c4⟩ := Cmp.at0 (Own5.at (unhide OL) 0 (by simp))
      have BW := hide (B0.trans ((unhide BEL).mono (Nat.le_of_lt r0)))
      have ST := store5 (unhide OR) (z0) (z1) (z2) (z3) (z4)
      have FA := hide (show Own5 40 ((((((v9.setCell ⟨w.heap.size, 0, none⟩ (.int .i64 (z0))).setCell ⟨w.heap.size, 1, none⟩ (.int .i64 (z1))).setCell ⟨w.heap.size, 2, none⟩ (.int .i64 (z2))).setCell ⟨w.heap.size, 3, none⟩ (.int .i64 (z3))).setCell ⟨w.heap.size, 4, none⟩ (.int .i64 (z4)))).drew w.heap.size gA ps.length cA ps from ((unhide OA).kept ST.2 (fun e => gAr (Option.some.inj e))).drew)
      have FB := hide (show Below w.heap.size w ((((((v9.setCell ⟨w.heap.size, 0, none⟩ (.int .i64 (z0))).setCell ⟨w.heap.size, 1, none⟩ (.int .i64 (z1))).setCell ⟨w.heap.size, 2, none⟩ (.int .i64 (z2))).setCell ⟨w.heap.size, 3, none⟩ (.int .i64 (z3))).setCell ⟨w.heap.size, 4, none⟩ (.int .i64 (z4)))).drew from ((unhide BW).grown ST.2 (unhide BW).size (fun j hj => by cases hj; exact Nat.le_refl _)).drew)
      clear ST
      go_wp2
      go_region
      go_wp2
      refine bodyPost_ret (v := .tuple #[.slice (some ⟨gA, 0, none⟩) ps.length cA, .agg #[.int .i64 (z0), .int .i64 (z1), .int .i64 (z2), .int .i64 (z3), .int .i64 (z4)]]) (by simp [results, Try.results28, go_sem, *]) rfl ⟨ps, gA, cA, z0, z1, z2, z3, z4, rfl, unhide FA, lA, unhide FB⟩
    · have ln2 : ¬ (0 : Int) < (ps.length : Int) := by omega
      have OR := hide (Own5.below (unhide OR) (unhide M7).1.bel r0)
      obtain ⟨d0, d1, d2, d3, d4⟩ := Cmp.at0 (Own5.at (unhide OR) 0 (by simp))
      have f0 := (unhide OR).free 0
      have f1 := (unhide OR).free 1
      have f2 := (unhide OR).free 2
      have f3 := (unhide OR).free 3
      have f4 := (unhide OR).free 4
      obtain ⟨c0, c1, c2, c3, c4⟩ := Cmp.at0 (Own5.at (unhide OL) 0 (by simp))
      have BW := hide (B0.trans ((unhide M7).1.bel.mono (Nat.le_of_lt r0)))
      have ST := store5 (unhide OR) (1 + x1) (1 + x2) (1 + x3) (1 + x4) (x5)
      have FA := hide (show Own5 40 ((((((v7.setCell ⟨w.heap.size, 0, none⟩ (.int .i64 (1 + x1))).setCell ⟨w.heap.size, 1, none⟩ (.int .i64 (1 + x2))).setCell ⟨w.heap.size, 2, none⟩ (.int .i64 (1 + x3))).setCell ⟨w.heap.size, 3, none⟩ (.int .i64 (1 + x4))).setCell ⟨w.heap.size, 4, none⟩ (.int .i64 (x5)))).drew w.heap.size gA ps.length cA ps from ((unhide OA).kept ST.2 (fun e => gAr (Option.some.inj e))).drew)
      have FB := hide (show Below w.heap.size w ((((((v7.setCell ⟨w.heap.size, 0, none⟩ (.int .i64 (1 + x1))).setCell ⟨w.heap.size, 1, none⟩ (.int .i64 (1 + x2))).setCell ⟨w.heap.size, 2, none⟩ (.int .i64 (1 + x3))).setCell ⟨w.heap.size, 3, none⟩ (.int .i64 (1 + x4))).setCell ⟨w.heap.size, 4, none⟩ (.int .i64 (x5)))).drew from ((unhide BW).grown ST.2 (unhide BW).size (fun j hj => by cases hj; exact Nat.le_refl _)).drew)
      clear ST
      go_wp2
      go_region
      go_wp2
      refine bodyPost_ret (v := .tuple #[.slice (some ⟨gA, 0, none⟩) ps.length cA, .agg #[.int .i64 (1 + x1), .int .i64 (1 + x2), .int .i64 (1 + x3), .int .i64 (1 + x4), .int .i64 (x5)]]) (by simp [results, Try.results28, go_sem, *]) rfl ⟨ps, gA, cA, 1 + x1, 1 + x2, 1 + x3, 1 + x4, x5, rfl, unhide FA, lA, unhide FB⟩
  have t2b : (y == 2) = false := by simpa using t2
  have OR := hide (Own5.below (unhide OR) (unhide M7).1.bel r0)
  obtain ⟨d0, d1, d2, d3, d4⟩ := Cmp.at0 (Own5.at (unhide OR) 0 (by simp))
  have f0 := (unhide OR).free 0
  have f1 := (unhide OR).free 1
  have f2 := (unhide OR).free 2
  have f3 := (unhide OR).free 3
  have f4 := (unhide OR).free 4
  obtain ⟨c0, c1, c2, c3, c4⟩ := Cmp.at0 (Own5.at (unhide OL) 0 (by simp))
  have BW := hide (B0.trans ((unhide M7).1.bel.mono (Nat.le_of_lt r0)))
  have ST := store5 (unhide OR) (1 + x1) (1 + x2) (1 + x3) (1 + x4) (x5)
  have FA := hide (show Own5 40 ((((((v7.setCell ⟨w.heap.size, 0, none⟩ (.int .i64 (1 + x1))).setCell ⟨w.heap.size, 1, none⟩ (.int .i64 (1 + x2))).setCell ⟨w.heap.size, 2, none⟩ (.int .i64 (1 + x3))).setCell ⟨w.heap.size, 3, none⟩ (.int .i64 (1 + x4))).setCell ⟨w.heap.size, 4, none⟩ (.int .i64 (x5)))).drew w.heap.size gA ps.length cA ps from ((unhide OA).kept ST.2 (fun e => gAr (Option.some.inj e))).drew)
  have FB := hide (show Below w.heap.size w ((((((v7.setCell ⟨w.heap.size, 0, none⟩ (.int .i64 (1 + x1))).setCell ⟨w.heap.size, 1, none⟩ (.int .i64 (1 + x2))).setCell ⟨w.heap.size, 2, none⟩ (.int .i64 (1 + x3))).setCell ⟨w.heap.size, 3, none⟩ (.int .i64 (1 + x4))).setCell ⟨w.heap.size, 4, none⟩ (.int .i64 (x5)))).drew from ((unhide BW).grown ST.2 (unhide BW).size (fun j hj => by cases hj; exact Nat.le_refl _)).drew)
  clear ST
  go_wp2
  go_region
  go_wp2
  refine bodyPost_ret (v := .tuple #[.slice (some ⟨gA, 0, none⟩) ps.length cA, .agg #[.int .i64 (1 + x1), .int .i64 (1 + x2), .int .i64 (1 + x3), .int .i64 (1 + x4), .int .i64 (x5)]]) (by simp [results, Try.results28, go_sem, *]) rfl ⟨ps, gA, cA, 1 + x1, 1 + x2, 1 + x3, 1 + x4, x5, rfl, unhide FA, lA, unhide FB⟩

end Go.Proofs.Ytdnpjjbphamcmaa.Draw7L
