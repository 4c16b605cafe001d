/- Contracts of the model's DrawBalsPost and DrawBalPut: lists in memory of the call's own, whatever the bytes are. -/
import Derived.Test.YtnfopmmkecdmgaaDraw4L
namespace Go.Proofs.Ytnfopmmkecdmgaa.Draw5
open Go.ChangeShapes Go.WideShapes Go.ChangeAt Go.RowKit Bals Triples Put Draw4 Draw4L
open Draw (CodeAt Cur Only Moved below once new pick drawNo)
set_option linter.unusedVariables false
set_option linter.unusedSimpArgs false

/-- A number appended to a list of the call's own, at the operation. -/
theorem wp_appI (u : World) {ops : Array Oper} {rest : List Oper} {o : Oper} {a : Act} {Q : Exit → Act → World → Prop} (hgd : o.guard = none) (s x : Operand)
    (ho : o.op = .call { callee := .builtin .append, args := #[s, x], argTypes := #[26, 26] }) (base g n cap : Nat) (xs : List Int) (vb : Nat) (p : Int)
    (hs : a.eval s = .slice (some ⟨g, 0, none⟩) n cap) (hx : a.eval x = .slice (some ⟨vb, 0, none⟩) 1 1) (hown : Ints.Own u base g n cap xs) (hv : u.cell? ⟨vb, 0, none⟩ = some (.int .i64 p)) (hn : n ≤ 1048576) (hb : base ≤ u.heap.size)
    (h : ∀ g' c' w', Ints.Own w' base g' (n + 1) c' (xs ++ [p]) → u.grownBy w' (some g) → wpList Try.prog ops Q rest (a.put o.dst (.slice (some ⟨g', 0, none⟩) (n + 1) c')) w') : wpList Try.prog ops Q (o :: rest) a u := by
  obtain ⟨i0, hi, hz0, hz1, hz2⟩ := info_parts Ints.info3
  refine wpList_append_own_at u hgd s x 26 ho base 3 i0 (.int .i64 0) 1 8 Try.underlying26 hi hz0 hz1 hz2 rfl (by decide) _ n _ hs hown ⟨vb, 0, none⟩ 1 1 [.int .i64 p] hx rfl (fun j v hj => ?_) (fun v hv => by simp at hv; subst hv; rfl) (by unfold maxLen; omega) (by omega) hb ?_
  · match j, hj with
    | 0, hj =>
      obtain rfl : Value.int .i64 p = v := by simpa using hj
      simpa [Addr.add] using hv
    | j + 1, hj => simp at hj
  intro v' w' own' gr' nil' loc'
  have hn' : ¬ v' = .slice none 0 0 := by rw [nil']; simp
  rcases own'.2 with ⟨h1, _⟩ | ⟨g', c', cur, rfl, _⟩
  · exact absurd h1 hn'
  · exact h g' c' w' (by unfold Ints.Own; rw [List.map_append]; exact own') gr'

/-- What is drawn for a post. -/
def Drawn (w : World) (e : Ending) (w' : World) : Prop :=
  ∃ (ps ls : List T3) (xs : List Int) (gA cA gL cL gS cS : Nat), e = .returned (.tuple #[.slice (some ⟨gA, 0, none⟩) ps.length cA, .slice (some ⟨gL, 0, none⟩) ls.length cL, .slice (some ⟨gS, 0, none⟩) xs.length cS]) ∧
    Own3 44 w' w.heap.size gA ps.length cA ps ∧ Own3 34 w' w.heap.size gL ls.length cL ls ∧ Ints.Own w' w.heap.size gS xs.length cS xs ∧ ps.length ≤ 161 ∧ ls.length ≤ 163 ∧ xs.length ≤ 21 ∧ Below w.heap.size w w'

set_option maxRecDepth 100000 in
set_option maxHeartbeats 4000000 in
theorem drawPost (w : World) (a : Option Addr) (len cap : Nat) (hl : len ≤ 1048576) (hcode : CodeAt w a len) :
    Calls Try.prog 7 #[.slice a len cap] w (Drawn w) := by
  go_enter Try.func7, Try.ntmps7
  go_wp2_with fail
  refine (new w a len cap hl hcode).mono ?_
  rintro e w1 ⟨c, rfl, h1⟩
  go_wp2_with fail
  refine (drawBals w w1 c a len cap hl hcode h1).mono ?_
  rintro e w2 ⟨ps, gA, cA, rfl, oA, lA, h2⟩
  have c1 := h1.hi
  have gAc : gA ≠ c := by have := oA.lt.1; omega
  have oA := oA.rebase (base' := w.heap.size) (by have := oA.lt.1; have := h1.bel.size; omega)
  clear h1
  go_wp2_with fail
  refine (drawLegs w w2 c a len cap hl hcode h2.1).mono ?_
  rintro e w3 ⟨ls, gL, cL, rfl, oL, lL, h3⟩
  have c2 := h2.1.hi
  have gLc : gL ≠ c := by have := oL.lt.1; omega
  have oA := own3_only oA h3.2 gAc
  have oL := oL.rebase (base' := w.heap.size) (by have := oL.lt.1; have := h2.1.bel.size; omega)
  have hc := h3.1.hi
  have hs := h3.1.bel.size
  have m3 := moved_start h3.1
  clear h2 h3
  have OA := hide oA
  have OL := hide oL
  have M4 := hide (moved_alloc m3 #[] 3)
  have O4 := hide (show Ints.Own (w3.alloc (.cells #[] 3)) w3.heap.size w3.heap.size 0 0 [] from World.ownsRow_lit w3 #[] 0 (Nat.le_refl _) (by decide) rfl)
  clear oA oL m3
  go_wp2
  go_loopw [8, 9] (fun l i wr => ∃ (k : Nat) (xs : List Int) (g cS : Nat), k ≤ 5 ∧ i = .int .i64 ((k : Int) + 1) ∧ l = .slice (some ⟨g, 0, none⟩) xs.length cS ∧ xs.length ≤ k ∧ Hid (Ints.Own wr w3.heap.size g xs.length cS xs) ∧ Hid (Moved w w3 wr c a len cap)) (fun _ i _ => 6 - (intOf i).toNat)
  case atStart => exact ⟨0, [], w3.heap.size, 0, by omega, rfl, rfl, by simp, O4, M4⟩
  case round =>
    clear O4 M4
    obtain ⟨k, xs, g, cS, hk, rfl, rfl, hx, HO, HM⟩ := hrel
    have gl := (unhide HO).lt.1
    have gne : g ≠ c := by omega
    by_cases t : k < 5
    · have ki : (k : Int) + 1 < 6 := by omega
      go_wp2_with fail
      refine (once w _ c a len cap 2 hl hcode (unhide HM).1 (by omega)).mono ?_
      rintro e w5 ⟨⟨tb, rfl⟩, h5⟩
      have O5 := hide (ints_only (unhide HO) h5.2 gne)
      have M5 := hide (Moved.trans (unhide HM) h5)
      clear h5
      cases tb
      · go_wp2
        go_roundw
        case rel => exact ⟨k + 1, xs, g, cS, by omega, by go_num, rfl, by omega, O5, M5⟩
        case measure => simp [intOf]; omega
      · have O6 := hide (show Ints.Own (w5.alloc (.cells #[.int .i64 ((k : Int) + 1)] 3)) w3.heap.size g xs.length cS xs from World.ownsRow.alloc (unhide O5) _)
        have M6 := hide (moved_alloc (unhide M5) #[.int .i64 ((k : Int) + 1)] 3)
        have V6 := hide (show (w5.alloc (.cells #[.int .i64 ((k : Int) + 1)] 3)).cell? ⟨w5.heap.size, 0, none⟩ = some (.int .i64 ((k : Int) + 1)) from by simp)
        have s5 := (unhide M5).2.1
        go_wp2_with (first | (at_builtin; refine wp_appI _ rfl _ _ rfl w3.heap.size g xs.length cS xs w5.heap.size ((k : Int) + 1) rfl rfl (unhide O6) (unhide V6) (by omega) (by simp; omega) ?_) | go_in)
        intro g8 c8 w8 o8 gr8
        have M8 := hide (moved_grown (unhide M6) gr8 hc gl hs)
        have el : (xs ++ [(k : Int) + 1]).length = xs.length + 1 := by simp
        have O8 := hide o8
        clear gr8 o8
        go_wp2
        go_roundw
        case rel => exact ⟨k + 1, xs ++ [(k : Int) + 1], g8, c8, by omega, by go_num, by rw [el], by rw [el]; omega, hide (by rw [el]; exact unhide O8), M8⟩
        case measure => simp [intOf]; omega
    · obtain rfl : k = 5 := by omega
      go_wp2_with fail
      refine (once w _ c a len cap 25 hl hcode (unhide HM).1 (by omega)).mono ?_
      rintro e w5 ⟨⟨tb, rfl⟩, h5⟩
      have O5 := hide (ints_only (unhide HO) h5.2 gne)
      have M5 := hide (Moved.trans (unhide HM) h5)
      clear h5
      cases tb
      · have A9 := hide (own3_only (unhide OA) (unhide M5).2 gAc)
        have L9 := hide (own3_only (unhide OL) (unhide M5).2 gLc)
        have S9 := hide ((unhide O5).rebase (base' := w.heap.size) (by omega))
        go_wp2
        go_ret3
        exact ⟨ps, ls, xs, gA, cA, gL, cL, g, cS, rfl, unhide A9, unhide L9, unhide S9, lA, lL, by omega, (unhide M5).1.bel⟩
      · obtain ⟨i0, hi, hz0, hz1, hz2⟩ := info_parts Ints.info3
        go_wp2_with fail
        refine (below w _ c a len cap 2 hl hcode (unhide M5).1 (by omega)).mono ?_
        rintro e w6 ⟨⟨y, y0, y1, rfl⟩, h6⟩
        have M6 := hide (Moved.trans (unhide M5) h6)
        have s6 := (Moved.trans (unhide M5) h6).1.bel.size
        clear h6
        obtain ⟨m, hm⟩ := Int.eq_ofNat_of_zero_le (show (0 : Int) ≤ 20 + y by omega)
        have m21 : m ≤ 21 := by omega
        have hm2 : IntKind.i64.wrap (20 + y) = (m : Int) := by rw [IntKind.wrap_i64]; omega
        go_wp2_with (first | (at_make; refine wpList_make_full _ rfl _ _ 26 rfl w.heap.size 3 i0 (.int .i64 0) 1 Try.underlying26 hi hz0 hz1 .i64 .i64 _ _ m rfl rfl rfl rfl (by rw [hz2]; omega) (by unfold maxLen; omega) s6 ?_) | go_in)
        intro w8 hown hgrow
        have mz := Ints.made_zeros m
        rw [Nat.mul_one] at mz
        have hown : w8.ownsRow w.heap.size 3 1 (.slice (some ⟨w6.heap.size, 0, none⟩) m m) m ((List.replicate m (0 : Int)).map (Value.int .i64)) := by rw [← mz]; exact hown
        have lr : (List.replicate m (0 : Int)).length = m := by simp
        have O8 := hide (show Ints.Own w8 w.heap.size w6.heap.size (List.replicate m (0 : Int)).length m (List.replicate m 0) from by rw [lr]; exact hown)
        have M8 := hide (moved_below (unhide M6) (Triples.grownBy_below hgrow))
        have A9 := hide (own3_only (unhide OA) (unhide M8).2 gAc)
        have L9 := hide (own3_only (unhide OL) (unhide M8).2 gLc)
        clear hown hgrow
        go_wp2
        go_ret3
        exact ⟨ps, ls, List.replicate m 0, gA, cA, gL, cL, w6.heap.size, m, by rw [lr]; rfl, unhide A9, unhide L9, unhide O8, lA, lL, by omega, (unhide M8).1.bel⟩

/-- What is drawn for a put. -/
def DrawnPut (w : World) (e : Ending) (w' : World) : Prop :=
  ∃ (ps : List T3) (gA cA : Nat) (p q r : Int), e = .returned (.tuple #[.slice (some ⟨gA, 0, none⟩) ps.length cA, .int .i64 p, .int .i64 q, .int .i64 r]) ∧ Own3 44 w' w.heap.size gA ps.length cA ps ∧ ps.length ≤ 161 ∧ Below w.heap.size w w'

set_option maxRecDepth 100000 in
theorem drawPut (w : World) (a : Option Addr) (len cap : Nat) (hl : len ≤ 1048576) (hcode : CodeAt w a len) :
    Calls Try.prog 18 #[.slice a len cap] w (DrawnPut w) := by
  go_enter Try.func18, Try.ntmps18
  go_wp2_with fail
  refine (new w a len cap hl hcode).mono ?_
  rintro e w1 ⟨c, rfl, h1⟩
  go_wp2_with fail
  refine (drawBals w w1 c a len cap hl hcode h1).mono ?_
  rintro e w2 ⟨ps, gA, cA, rfl, oA, lA, h2⟩
  have c1 := h1.hi
  have gAc : gA ≠ c := by have := oA.lt.1; omega
  have oA := oA.rebase (base' := w.heap.size) (by have := oA.lt.1; have := h1.bel.size; omega)
  clear h1
  go_wp2_with fail
  refine (drawAmount w _ c a len cap hl hcode h2.1).mono ?_
  rintro e w3 ⟨⟨x, rfl⟩, h3⟩
  have oA := own3_only oA h3.2 gAc
  clear h2
  go_wp2_with fail
  refine (once w _ c a len cap 4 hl hcode h3.1 (by omega)).mono ?_
  rintro e w4 ⟨⟨tb, rfl⟩, h4⟩
  have oA := own3_only oA h4.2 gAc
  clear h3
  cases tb
  · go_wp2_with fail
    refine (drawNo w _ c a len cap hl hcode h4.1).mono ?_
    rintro e w5 ⟨⟨p, rfl⟩, h5⟩
    have oA := own3_only oA h5.2 gAc
    clear h4
    go_wp2_with fail
    refine (drawNo w _ c a len cap hl hcode h5.1).mono ?_
    rintro e w6 ⟨⟨q, rfl⟩, h6⟩
    have oA := own3_only oA h6.2 gAc
    have B := h6.1.bel
    clear h5 h6
    go_wp2
    refine bodyPost_ret (v := .tuple #[.slice (some ⟨gA, 0, none⟩) ps.length cA, .int .i64 p, .int .i64 q, .int .i64 x]) (by simp [results, Try.results18, go_sem]) rfl ⟨ps, gA, cA, p, q, x, rfl, oA, lA, B⟩
  · go_wp2_with fail
    refine (drawNo w _ c a len cap hl hcode h4.1).mono ?_
    rintro e w5 ⟨⟨p, rfl⟩, h5⟩
    have oA := own3_only oA h5.2 gAc
    clear h4
    go_wp2_with fail
    refine (drawNo w _ c a len cap hl hcode h5.1).mono ?_
    rintro e w6 ⟨⟨q, rfl⟩, h6⟩
    have oA := own3_only oA h6.2 gAc
    have B := h6.1.bel
    clear h5 h6
    go_wp2
    refine bodyPost_ret (v := .tuple #[.slice (some ⟨gA, 0, none⟩) ps.length cA, .int .i64 p, .int .i64 q, .int .i64 0]) (by simp [results, Try.results18, go_sem]) rfl ⟨ps, gA, cA, p, q, 0, rfl, oA, lA, B⟩

end Go.Proofs.Ytnfopmmkecdmgaa.Draw5
