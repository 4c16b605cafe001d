/- Contracts of the drawing functions of the model for balances and legs: lists in memory of the call's own, whatever the bytes are; nothing that was there before the law was called has turned. -/
import Derived.Test.YtnfopmmkecdmgaaDraw
import Derived.Test.YtnfopmmkecdmgaaPut
import Derived.Test.YtnfopmmkecdmgaaInts
import Derived.Test.YtnfopmmkecdmgaaLegApp
namespace Go.Proofs.Ytnfopmmkecdmgaa.Draw4
open Go.ChangeShapes Go.WideShapes Go.ChangeAt Go.RowKit Bals Triples Put
open Draw (CodeAt Cur Only Moved below once new pick drawNo of3 of4 of3_cells of4_cells)
set_option linter.unusedVariables false
set_option linter.unusedSimpArgs false

theorem own3_only {e : TypeId} {w w' : World} {base g n cap c : Nat} {xs : List T3} (h : Own3 e w base g n cap xs) (o : Only c w w') (hne : g ≠ c) : Own3 e w' base g n cap xs := by
  refine ⟨h.1, ?_⟩
  have hlt := h.lt.2
  rcases h.2 with ⟨z, _⟩ | ⟨g', c', cur, z, h2, h3, h4⟩
  · simp at z
  · obtain ⟨e, _⟩ : g = g' ∧ cap = c' := by simpa using z
    subst e
    exact Or.inr ⟨g, c', cur, z, h2, by rw [o.2 g hlt hne]; exact h3, h4⟩

theorem ints_only {w w' : World} {base g n cap c : Nat} {xs : List Int} (h : Ints.Own w base g n cap xs) (o : Only c w w') (hne : g ≠ c) : Ints.Own w' base g n cap xs := by
  refine ⟨h.1, ?_⟩
  have hlt := h.lt.2
  rcases h.2 with ⟨z, _⟩ | ⟨g', c', cur, z, h2, h3, h4⟩
  · simp at z
  · obtain ⟨e, _⟩ : g = g' ∧ cap = c' := by simpa using z
    subst e
    exact Or.inr ⟨g, c', cur, z, h2, by rw [o.2 g hlt hne]; exact h3, h4⟩

section
variable {w0 w u v : World} {c g : Nat} {a : Option Addr} {len cap : Nat}

theorem moved_start (h : Cur w0 w c a len cap) : Moved w0 w w c a len cap := ⟨h, Only.refl c w⟩

theorem moved_below (h : Moved w0 w u c a len cap) (k : Below u.heap.size u v) : Moved w0 w v c a len cap :=
  ⟨Draw.cur_below h.1 k, Nat.le_trans h.2.1 k.size, fun i hi hc => (k.block i (Nat.lt_of_lt_of_le hi h.2.1)).trans (h.2.2 i hi hc)⟩

theorem moved_alloc (h : Moved w0 w u c a len cap) (cs : Array Value) (t : TypeId) : Moved w0 w (u.alloc (.cells cs t)) c a len cap := moved_below h ((Below.refl _ _).alloc (Nat.le_refl _) _)

theorem moved_grown (h : Moved w0 w u c a len cap) (k : u.grownBy v (some g)) (hc : c < w.heap.size) (hg : w.heap.size ≤ g) (h0 : w0.heap.size ≤ w.heap.size) : Moved w0 w v c a len cap :=
  ⟨Draw.cur_grown h.1 k (Nat.le_trans h0 hg) (by omega), Nat.le_trans h.2.1 k.size, fun i hi hne => (k.block i (Nat.lt_of_lt_of_le hi h.2.1) (by simp; omega)).trans (h.2.2 i hi hne)⟩
end

/-- The nine numbers that an amount is picked from. -/
def nine (j : Nat) : Int := ([0, 1, -1, 1000000000000000, -1000000000000000, 1000000000000001, -1000000000000001, 9223372036854775807, -9223372036854775808] : List Int).getD j 0

theorem nine_cells (w : World) (t : TypeId) (j : Nat) (hj : j < 9) :
    (w.alloc (Obj.cells #[Value.int IntKind.i64 0, Value.int IntKind.i64 1, Value.int IntKind.i64 (-1), Value.int IntKind.i64 1000000000000000, Value.int IntKind.i64 (-1000000000000000), Value.int IntKind.i64 1000000000000001, Value.int IntKind.i64 (-1000000000000001), Value.int IntKind.i64 9223372036854775807, Value.int IntKind.i64 (-9223372036854775808)] t)).cell? ⟨w.heap.size, j, none⟩ = some (.int .i64 (nine j)) := by
  rw [World.cell?_alloc_at _ _ _ _ rfl]
  match j, hj with
  | 0, _ => rfl
  | 1, _ => rfl
  | 2, _ => rfl
  | 3, _ => rfl
  | 4, _ => rfl
  | 5, _ => rfl
  | 6, _ => rfl
  | 7, _ => rfl
  | 8, _ => rfl

set_option maxRecDepth 100000 in
theorem drawAmount (w0 w : World) (c : Nat) (a : Option Addr) (len cap : Nat) (hl : len ≤ 1048576) (hcode : CodeAt w0 a len) (h : Cur w0 w c a len cap) :
    Calls Try.prog 43 #[.pointer (some ⟨c, 0, none⟩)] w fun e w' => (∃ x : Int, e = .returned (.int .i64 x)) ∧ Moved w0 w w' c a len cap := by
  go_enter Try.func43, Try.ntmps43
  go_wp2_with fail
  refine (below w0 w c a len cap 8 hl hcode h (by omega)).mono ?_
  rintro e w1 ⟨⟨x, x0, x1, rfl⟩, h1⟩
  by_cases t0 : x = 0
  · subst t0
    go_wp2_with fail
    have hi1 := h1.1.hi
    refine (pick w0 _ c a len cap w1.heap.size 9 nine hl hcode (Draw.Cur.alloc h1.1 _ _) (by omega) (by omega) (by simp) (by omega) (nine_cells w1 3)).mono ?_
    rintro e w2 ⟨⟨j, hj, rfl⟩, h2⟩
    have hm := Moved.trans (moved_alloc h1 _ 3) h2
    generalize nine j = y at *
    clear h2 h1
    go_wp2
    go_ret
    exact ⟨⟨y, rfl⟩, hm⟩
  have b0 : (x == 0) = false := by simpa using t0
  by_cases t1 : x = 1
  · subst t1
    go_wp2_with fail
    refine (below w0 w1 c a len cap 2000000000 hl hcode h1.1 (by omega)).mono ?_
    rintro e w2 ⟨⟨y, y0, y1, rfl⟩, h2⟩
    go_wp2
    go_ret
    exact ⟨⟨_, rfl⟩, Moved.trans h1 h2⟩
  have b1 : (x == 1) = false := by simpa using t1
  by_cases t2 : x = 2
  · subst t2
    go_wp2_with fail
    refine (below w0 w1 c a len cap 5000 hl hcode h1.1 (by omega)).mono ?_
    rintro e w2 ⟨⟨y, y0, y1, rfl⟩, h2⟩
    go_wp2
    go_ret
    exact ⟨⟨_, rfl⟩, Moved.trans h1 h2⟩
  have b2 : (x == 2) = false := by simpa using t2
  by_cases t3 : x = 3
  · subst t3
    go_wp2_with fail
    refine (below w0 w1 c a len cap 60000000 hl hcode h1.1 (by omega)).mono ?_
    rintro e w2 ⟨⟨y, y0, y1, rfl⟩, h2⟩
    go_wp2
    go_ret
    exact ⟨⟨_, rfl⟩, Moved.trans h1 h2⟩
  have b3 : (x == 3) = false := by simpa using t3
  go_wp2_with fail
  refine (below w0 w1 c a len cap 1000 hl hcode h1.1 (by omega)).mono ?_
  rintro e w2 ⟨⟨y, y0, y1, rfl⟩, h2⟩
  go_wp2
  go_ret
  exact ⟨⟨_, rfl⟩, Moved.trans h1 h2⟩

set_option maxRecDepth 100000 in
set_option maxHeartbeats 8000000 in
theorem drawBals (w0 w : World) (c : Nat) (a : Option Addr) (len cap : Nat) (hl : len ≤ 1048576) (hcode : CodeAt w0 a len) (h : Cur w0 w c a len cap) :
    Calls Try.prog 22 #[.pointer (some ⟨c, 0, none⟩)] w fun e w' => ∃ ps g' c', e = .returned (.slice (some ⟨g', 0, none⟩) ps.length c') ∧ Own3 44 w' w.heap.size g' ps.length c' ps ∧ ps.length ≤ 161 ∧ Moved w0 w w' c a len cap := by
  have hc := h.hi
  have h0 := h.bel.size
  have oL := lit30 44 w w.heap.size (Nat.le_refl _)
  have gS : w.heap.size ≠ c := by omega
  go_enter Try.func22, Try.ntmps22
  go_wp2_with fail
  refine (below w0 _ c a len cap 12 hl hcode (Draw.Cur.alloc h _ _) (by omega)).mono ?_
  rintro e wa ⟨⟨x, x0, x1, rfl⟩, ha⟩
  have oL := own3_only oL ha.2 gS
  have ha := Moved.trans (moved_alloc (moved_start h) _ _) ha
  go_wp2_with fail
  refine (once w0 _ c a len cap 20 hl hcode ha.1 (by omega)).mono ?_
  rintro e wb ⟨⟨tb, rfl⟩, hb⟩
  have oS := own3_only oL hb.2 gS
  have mS := Moved.trans ha hb
  clear oL ha hb h
  cases tb
  · go_wp2_with fail
    go_loopw [3, 5, 6, 7] (fun o i _ _ wr => ∃ (k : Nat) (ps : List T3) (gO cO : Nat), (k : Int) ≤ x ∧ i = .int .i64 k ∧ o = .slice (some ⟨gO, 0, none⟩) ps.length cO ∧ Own3 44 wr w.heap.size gO ps.length cO ps ∧ ps.length ≤ 160 ∧ gO ≠ c ∧ Moved w0 w wr c a len cap) (fun _ i _ _ _ => (x - intOf i).toNat)
    case atStart => exact ⟨0, [], _, _, by omega, rfl, rfl, oS, by simp, gS, mS⟩
    case round =>
      clear oS mS
      obtain ⟨k, ps, gO, cO, hk, rfl, rfl, own, p20, gne, hm⟩ := hrel
      by_cases lt : (k : Int) < x
      · go_wp2_with fail
        refine (below w0 _ c a len cap _ hl hcode hm.1 (by first | omega | decide)).mono ?_
        rintro e w1 ⟨⟨x1, x10, x11, rfl⟩, h1⟩
        have o1 := own3_only own h1.2 gne
        have h1 := Moved.trans hm h1
        clear own hm
        go_wp2_with fail
        refine (below w0 _ c a len cap _ hl hcode h1.1 (by first | omega | decide)).mono ?_
        rintro e w2 ⟨⟨x2, x20, x21, rfl⟩, h2⟩
        have o2 := own3_only o1 h2.2 gne
        have h2 := Moved.trans h1 h2
        clear o1 h1
        go_wp2_with fail
        refine (drawAmount w0 _ c a len cap hl hcode h2.1).mono ?_
        rintro e w3 ⟨⟨x3, rfl⟩, h3⟩
        have o3 := own3_only o2 h3.2 gne
        have h3 := Moved.trans h2 h3
        have s3 := h3.2.1
        clear o2 h2
        go_wp2_with fail
        refine (sBalPut _ gO ps.length cO ps _ _ _ rfl (by omega) o3.lt.2 o3.at).mono ?_
        rintro e w5 ⟨qs, ok, g5, c5, hp, rfl, o5, b5⟩
        have q20 := hp.len
        have o3 := o3.below b5 o3.lt.2
        have g5c : g5 ≠ c := by have := o5.lt.1; omega
        have o5 := o5.rebase (base' := w.heap.size) (by have := o5.lt.1; omega)
        have h5 := moved_below h3 b5
        clear hp b5 h3
        cases ok
        · go_wp2
          go_roundw
          case rel => exact ⟨k + 1, ps, gO, cO, by omega, by go_num, rfl, o3, p20, gne, h5⟩
          case measure => simp [intOf]; omega
        · go_wp2
          go_roundw
          case rel => exact ⟨k + 1, qs, g5, c5, by omega, by go_num, rfl, o5, q20, g5c, h5⟩
          case measure => simp [intOf]; omega
      · have own' := own
        go_wp2_with fail
        refine (below w0 _ c a len cap 25 hl hcode hm.1 (by omega)).mono ?_
        rintro e w4 ⟨⟨y4, y40, y41, rfl⟩, h4⟩
        have o4 := own3_only own h4.2 gne
        have h4 := Moved.trans hm h4
        have gl := o4.lt.1
        clear own hm
        by_cases t0 : y4 = 0
        · subst t0
          go_wp2_with fail
          refine (drawNo w0 _ c a len cap hl hcode h4.1).mono ?_
          rintro e w5 ⟨⟨p, rfl⟩, h5⟩
          have o5 := own3_only o4 h5.2 gne
          have h5 := Moved.trans h4 h5
          clear o4 h4
          go_wp2_with fail
          refine (drawNo w0 _ c a len cap hl hcode h5.1).mono ?_
          rintro e w6 ⟨⟨q, rfl⟩, h6⟩
          have o6 := own3_only o5 h6.2 gne
          have h6 := Moved.trans h5 h6
          clear o5 h5
          go_wp2_with fail
          refine (below w0 _ c a len cap 2 hl hcode h6.1 (by omega)).mono ?_
          rintro e w7 ⟨⟨r, r0, r1, rfl⟩, h7⟩
          have O7 := hide ((own3_only o6 h7.2 gne).alloc (.cells #[.int .i64 p, .int .i64 q, .int .i64 r] 44))
          have M7 := hide (moved_alloc (Moved.trans h6 h7) #[.int .i64 p, .int .i64 q, .int .i64 r] 44)
          have V7 := hide (show Holds3 (w7.alloc (.cells #[.int .i64 p, .int .i64 q, .int .i64 r] 44)) w7.heap.size 0 (p, q, r) from by unfold Holds3; simp)
          have s7 := (Moved.trans h6 h7).2.1
          clear o6 h6 h7
          go_wp2_with (first | (at_builtin; refine BalApp.wp_app _ rfl _ _ rfl w.heap.size gO ps.length cO ps w7.heap.size p q r rfl rfl (unhide O7) (unhide V7) (by omega) (by simp; omega) ?_) | go_in)
          intro g8 c8 w8 o8 gr8 _
          have M8 := moved_grown (unhide M7) gr8 hc gl h0
          have el : (ps ++ [(p, q, r)]).length = ps.length + 1 := by simp
          clear gr8
          go_wp2
          go_ret
          exact ⟨ps ++ [(p, q, r)], g8, c8, by rw [el]; rfl, by rw [el]; exact o8, by rw [el]; omega, M8⟩
        have t0b : (y4 == 0) = false := by simpa using t0
        by_cases t1 : y4 = 1
        · subst t1
          by_cases ln : 0 < ps.length
          · have ln2 : (0 : Int) < (ps.length : Int) := by omega
            have hiX := h4.1.hi
            go_wp2_with fail
            refine (pick w0 _ c a len cap w4.heap.size 4 (of4 1000000000000000 (-1000000000000000) 1000000000000001 0) hl hcode (Draw.Cur.alloc h4.1 _ _) (by omega) (by omega) (by simp) (by omega) (of4_cells w4 3 _ _ _ _)).mono ?_
            rintro e w5 ⟨⟨j, hj, rfl⟩, h5⟩
            have o5 := own3_only (o4.alloc _) h5.2 gne
            have h5 := Moved.trans (moved_alloc h4 _ 3) h5
            generalize of4 1000000000000000 (-1000000000000000) 1000000000000001 0 j = y at *
            have hs := o5.set2 0 y
            have hd := o5.at 0 (by rw [o5.len]; exact ln)
            have hd2 : w5.cell? ⟨gO, 2, none⟩ = some (.int .i64 (el3 ps 0).2.2) := by have := hd.2.2; simpa using this
            have hf2 : w5.frozen? ⟨gO, 2, none⟩ = false := o5.free 2
            have ml : (ps.modify 0 (fun p => (p.1, p.2.1, y))).length = ps.length := by simp
            have O8 := hide hs.1
            have M8 := hide (moved_grown h5 hs.2 hc gl h0)
            generalize (el3 ps 0).2.2 = z2 at *
            clear hs hd o5 h5 o4 h4
            go_wp2
            go_ret
            exact ⟨ps.modify 0 (fun p => (p.1, p.2.1, y)), gO, cO, by rw [ml]; rfl, by rw [ml]; simpa using unhide O8, by rw [ml]; omega, by simpa using unhide M8⟩
          · have ln2 : ¬ (0 : Int) < (ps.length : Int) := by omega
            go_wp2
            go_ret
            exact ⟨ps, gO, cO, rfl, o4, by omega, h4⟩
        · have t1b : (y4 == 1) = false := by simpa using t1
          go_wp2
          go_ret
          exact ⟨ps, gO, cO, rfl, o4, by omega, h4⟩
  · go_wp2_with fail
    go_loopw [3, 5, 6, 7] (fun o i _ _ wr => ∃ (k : Nat) (ps : List T3) (gO cO : Nat), (k : Int) ≤ 300 ∧ i = .int .i64 k ∧ o = .slice (some ⟨gO, 0, none⟩) ps.length cO ∧ Own3 44 wr w.heap.size gO ps.length cO ps ∧ ps.length ≤ 160 ∧ gO ≠ c ∧ Moved w0 w wr c a len cap) (fun _ i _ _ _ => (300 - intOf i).toNat)
    case atStart => exact ⟨0, [], _, _, by omega, rfl, rfl, oS, by simp, gS, mS⟩
    case round =>
      clear oS mS
      obtain ⟨k, ps, gO, cO, hk, rfl, rfl, own, p20, gne, hm⟩ := hrel
      by_cases lt : (k : Int) < 300
      · go_wp2_with fail
        refine (below w0 _ c a len cap _ hl hcode hm.1 (by first | omega | decide)).mono ?_
        rintro e w1 ⟨⟨x1, x10, x11, rfl⟩, h1⟩
        have o1 := own3_only own h1.2 gne
        have h1 := Moved.trans hm h1
        clear own hm
        go_wp2_with fail
        refine (below w0 _ c a len cap _ hl hcode h1.1 (by first | omega | decide)).mono ?_
        rintro e w2 ⟨⟨x2, x20, x21, rfl⟩, h2⟩
        have o2 := own3_only o1 h2.2 gne
        have h2 := Moved.trans h1 h2
        clear o1 h1
        go_wp2_with fail
        refine (drawAmount w0 _ c a len cap hl hcode h2.1).mono ?_
        rintro e w3 ⟨⟨x3, rfl⟩, h3⟩
        have o3 := own3_only o2 h3.2 gne
        have h3 := Moved.trans h2 h3
        have s3 := h3.2.1
        clear o2 h2
        go_wp2_with fail
        refine (sBalPut _ gO ps.length cO ps _ _ _ rfl (by omega) o3.lt.2 o3.at).mono ?_
        rintro e w5 ⟨qs, ok, g5, c5, hp, rfl, o5, b5⟩
        have q20 := hp.len
        have o3 := o3.below b5 o3.lt.2
        have g5c : g5 ≠ c := by have := o5.lt.1; omega
        have o5 := o5.rebase (base' := w.heap.size) (by have := o5.lt.1; omega)
        have h5 := moved_below h3 b5
        clear hp b5 h3
        cases ok
        · go_wp2
          go_roundw
          case rel => exact ⟨k + 1, ps, gO, cO, by omega, by go_num, rfl, o3, p20, gne, h5⟩
          case measure => simp [intOf]; omega
        · go_wp2
          go_roundw
          case rel => exact ⟨k + 1, qs, g5, c5, by omega, by go_num, rfl, o5, q20, g5c, h5⟩
          case measure => simp [intOf]; omega
      · have own' := own
        go_wp2_with fail
        refine (below w0 _ c a len cap 25 hl hcode hm.1 (by omega)).mono ?_
        rintro e w4 ⟨⟨y4, y40, y41, rfl⟩, h4⟩
        have o4 := own3_only own h4.2 gne
        have h4 := Moved.trans hm h4
        have gl := o4.lt.1
        clear own hm
        by_cases t0 : y4 = 0
        · subst t0
          go_wp2_with fail
          refine (drawNo w0 _ c a len cap hl hcode h4.1).mono ?_
          rintro e w5 ⟨⟨p, rfl⟩, h5⟩
          have o5 := own3_only o4 h5.2 gne
          have h5 := Moved.trans h4 h5
          clear o4 h4
          go_wp2_with fail
          refine (drawNo w0 _ c a len cap hl hcode h5.1).mono ?_
          rintro e w6 ⟨⟨q, rfl⟩, h6⟩
          have o6 := own3_only o5 h6.2 gne
          have h6 := Moved.trans h5 h6
          clear o5 h5
          go_wp2_with fail
          refine (below w0 _ c a len cap 2 hl hcode h6.1 (by omega)).mono ?_
          rintro e w7 ⟨⟨r, r0, r1, rfl⟩, h7⟩
          have O7 := hide ((own3_only o6 h7.2 gne).alloc (.cells #[.int .i64 p, .int .i64 q, .int .i64 r] 44))
          have M7 := hide (moved_alloc (Moved.trans h6 h7) #[.int .i64 p, .int .i64 q, .int .i64 r] 44)
          have V7 := hide (show Holds3 (w7.alloc (.cells #[.int .i64 p, .int .i64 q, .int .i64 r] 44)) w7.heap.size 0 (p, q, r) from by unfold Holds3; simp)
          have s7 := (Moved.trans h6 h7).2.1
          clear o6 h6 h7
          go_wp2_with (first | (at_builtin; refine BalApp.wp_app _ rfl _ _ rfl w.heap.size gO ps.length cO ps w7.heap.size p q r rfl rfl (unhide O7) (unhide V7) (by omega) (by simp; omega) ?_) | go_in)
          intro g8 c8 w8 o8 gr8 _
          have M8 := moved_grown (unhide M7) gr8 hc gl h0
          have el : (ps ++ [(p, q, r)]).length = ps.length + 1 := by simp
          clear gr8
          go_wp2
          go_ret
          exact ⟨ps ++ [(p, q, r)], g8, c8, by rw [el]; rfl, by rw [el]; exact o8, by rw [el]; omega, M8⟩
        have t0b : (y4 == 0) = false := by simpa using t0
        by_cases t1 : y4 = 1
        · subst t1
          by_cases ln : 0 < ps.length
          · have ln2 : (0 : Int) < (ps.length : Int) := by omega
            have hiX := h4.1.hi
            go_wp2_with fail
            refine (pick w0 _ c a len cap w4.heap.size 4 (of4 1000000000000000 (-1000000000000000) 1000000000000001 0) hl hcode (Draw.Cur.alloc h4.1 _ _) (by omega) (by omega) (by simp) (by omega) (of4_cells w4 3 _ _ _ _)).mono ?_
            rintro e w5 ⟨⟨j, hj, rfl⟩, h5⟩
            have o5 := own3_only (o4.alloc _) h5.2 gne
            have h5 := Moved.trans (moved_alloc h4 _ 3) h5
            generalize of4 1000000000000000 (-1000000000000000) 1000000000000001 0 j = y at *
            have hs := o5.set2 0 y
            have hd := o5.at 0 (by rw [o5.len]; exact ln)
            have hd2 : w5.cell? ⟨gO, 2, none⟩ = some (.int .i64 (el3 ps 0).2.2) := by have := hd.2.2; simpa using this
            have hf2 : w5.frozen? ⟨gO, 2, none⟩ = false := o5.free 2
            have ml : (ps.modify 0 (fun p => (p.1, p.2.1, y))).length = ps.length := by simp
            have O8 := hide hs.1
            have M8 := hide (moved_grown h5 hs.2 hc gl h0)
            generalize (el3 ps 0).2.2 = z2 at *
            clear hs hd o5 h5 o4 h4
            go_wp2
            go_ret
            exact ⟨ps.modify 0 (fun p => (p.1, p.2.1, y)), gO, cO, by rw [ml]; rfl, by rw [ml]; simpa using unhide O8, by rw [ml]; omega, by simpa using unhide M8⟩
          · have ln2 : ¬ (0 : Int) < (ps.length : Int) := by omega
            go_wp2
            go_ret
            exact ⟨ps, gO, cO, rfl, o4, by omega, h4⟩
        · have t1b : (y4 == 1) = false := by simpa using t1
          go_wp2
          go_ret
          exact ⟨ps, gO, cO, rfl, o4, by omega, h4⟩

end Go.Proofs.Ytnfopmmkecdmgaa.Draw4
