/- Contracts of the library's IndexFunc and DeleteFunc over lots, with the program's own test for lots without pieces. Condition: at most 2^20 lots. -/
import Derived.Test.YtdnpjjbphamcmaaIMean
import Derived.Test.YtdnpjjbphamcmaaSets5
namespace Go.Proofs.Ytdnpjjbphamcmaa.IDel
open Go.ChangeShapes Go.WideShapes Go.ChangeAt Go.RowKit Tup5 Lots Takes Cmp IOk5 Quieter ICut Cat5 Sets5
set_option linter.unusedVariables false
set_option linter.unusedSimpArgs false

set_option maxRecDepth 100000 in
theorem dPred (x0 x1 x2 x3 x4 : Int) (w : World) : Calls Try.prog 88 #[.agg #[.int .i64 x0, .int .i64 x1, .int .i64 x2, .int .i64 x3, .int .i64 x4]] w fun e w' => e = .returned (.bool (x3 == 0)) ∧ Below w.heap.size w w' := by
  go_enter Try.func88, Try.ntmps88
  go_wp2
  go_ret
  exact ⟨rfl, (Below.refl _ _).alloc (Nat.le_refl _) _⟩

/-- The first lot without pieces. -/
def IsFirst (ps : List T5) (k : Int) : Prop := (k = -1 ∧ ∀ t, t < ps.length → (el5 ps t).2.2.2.1 ≠ 0) ∨ ∃ m : Nat, m < ps.length ∧ k = m ∧ (∀ t, t < m → (el5 ps t).2.2.2.1 ≠ 0) ∧ (el5 ps m).2.2.2.1 = 0

set_option maxRecDepth 100000 in
set_option maxHeartbeats 2000000 in
theorem iIndex (w : World) (g n cap : Nat) (ps : List T5) (hl : ps.length = n) (h20 : n ≤ 1048576) (hg : g < w.heap.size) (h : At5 w g ps) :
    Calls Try.prog 97 #[.slice (some ⟨g, 0, none⟩) n cap, .func (.func 88) #[] #[]] w fun e w' => ∃ k, IsFirst ps k ∧ e = .returned (.int .i64 k) ∧ Below w.heap.size w w' := by
  have H := hide h
  clear h
  go_enter Try.func97, Try.ntmps97
  go_wp2
  go_loopw [5, 8] (fun _ j wr => ∃ (k : Nat), j = .int .i64 k ∧ k ≤ n ∧ Hid (Below w.heap.size w wr) ∧ Hid (∀ t, t < k → (el5 ps t).2.2.2.1 ≠ 0)) (fun _ j _ => n - (intOf j).toNat)
  case atStart => exact ⟨0, rfl, by omega, hide (Below.refl _ _), hide (fun t ht => by omega)⟩
  case round =>
    obtain ⟨k, rfl, hk, HB, HN⟩ := hrel
    by_cases t : k < n
    · obtain ⟨e0, e1, e2, e3, e4⟩ := (unhide H).below (unhide HB) hg k (by omega)
      have YES := hide (show (el5 ps k).2.2.2.1 = 0 → IsFirst ps (k : Int) from fun z => .inr ⟨k, by omega, rfl, unhide HN, z⟩)
      have NO := hide (show (el5 ps k).2.2.2.1 ≠ 0 → ∀ t, t < k + 1 → (el5 ps t).2.2.2.1 ≠ 0 from fun z t ht => by
        by_cases e : t = k
        · subst e; exact z
        · exact (unhide HN) t (by omega))
      generalize (el5 ps k).1 = x0 at *
      generalize (el5 ps k).2.1 = x1 at *
      generalize (el5 ps k).2.2.1 = x2 at *
      generalize (el5 ps k).2.2.2.1 = x3 at *
      generalize (el5 ps k).2.2.2.2 = x4 at *
      go_wp2_with fail
      refine (dPred x0 x1 x2 x3 x4 _).mono ?_
      rintro e w1 ⟨rfl, b1⟩
      have B1 := hide (next (unhide HB) b1)
      clear b1 e0 e1 e2 e3 e4 HB HN
      by_cases z : x3 = 0
      · have Y := hide ((unhide YES) z)
        have zb : (x3 == 0) = true := by simpa using z
        clear z YES NO
        go_wp2
        go_ret
        exact ⟨k, unhide Y, rfl, unhide B1⟩
      · have N := hide ((unhide NO) z)
        have zb : (x3 == 0) = false := by simpa using z
        clear z YES NO
        go_wp2
        go_roundw
        case rel => exact ⟨k + 1, by go_num, by omega, B1, N⟩
        case measure => simp [intOf]; omega
    · have Y := hide (show IsFirst ps (-1) from .inl ⟨rfl, fun t ht => (unhide HN) t (by omega)⟩)
      clear HN
      go_wp2
      go_ret
      exact ⟨-1, unhide Y, rfl, unhide HB⟩

set_option maxRecDepth 100000 in
set_option maxHeartbeats 4000000 in
theorem iDelete (w : World) (base g n cap : Nat) (ps : List T5) (h20 : n ≤ 1048576) (hb : base ≤ w.heap.size) (h : Own5 40 w base g n cap ps) :
    Calls Try.prog 87 #[.slice (some ⟨g, 0, none⟩) n cap, .func (.func 88) #[] #[]] w fun e w' => e = .returned (.slice (some ⟨g, 0, none⟩) (fz ps).length cap) ∧ Own5 40 w' base g (fz ps).length cap (fz ps) ∧ Below base w w' := by
  have H := hide h
  have hl := h.len
  have hg := h.lt
  clear h
  go_enter Try.func87, Try.ntmps87
  go_wp2_with fail
  refine (iIndex w g n cap ps hl h20 hg.2 (unhide H).at).mono ?_
  rintro e w1 ⟨k, fk, rfl, b1⟩
  have H1 := hide ((unhide H).below b1 hg.2)
  have B1 := hide (b1.mono hb)
  have hb1 := Nat.le_trans hb b1.size
  clear b1 H
  rcases fk with ⟨rfl, all⟩ | ⟨m, mn, rfl, lo, zm⟩
  · have E := hide (show fz ps = ps from filter_all (fun p hp => by
      obtain ⟨t, ht, rfl⟩ := mem_getD hp
      rw [decide_eq_false (all t ht)]
      rfl))
    clear all
    go_wp2
    go_ret
    rw [unhide E, hl]
    exact ⟨rfl, unhide H1, unhide B1⟩
  · have mk : ((m : Int) == -1) = false := by rw [beq_eq_false_iff_ne]; omega
    have LO := hide lo
    have ZM := hide zm
    clear lo zm
    have S0 := hide (show ps.take m = fz (ps.take (m + 1)) from by
      rw [fz_next (by omega), if_pos (unhide ZM), List.append_nil]
      exact (filter_all (fun p hp => by
        obtain ⟨t, ht, _, rfl⟩ := mem_take hp
        rw [decide_eq_false ((unhide LO) t ht)]
        rfl)).symm)
    go_wp2
    go_loopw [5, 6, 7] (fun x y _ wr => ∃ (cur : List T5) (i j : Nat), x = .int .i64 i ∧ y = .int .i64 j ∧ i < j ∧ j ≤ n ∧ Hid (cur.length = n) ∧ Hid (cur.take i = fz (ps.take j)) ∧ Hid (cur.drop j = ps.drop j) ∧ Hid (Own5 40 wr base g n cap cur) ∧ Hid (Below base w wr)) (fun _ y _ _ => n - (intOf y).toNat)
    case atStart => exact ⟨ps, m, m + 1, rfl, by go_num, by omega, by omega, hide hl, S0, hide rfl, H1, B1⟩
    case round =>
      clear H1 B1 S0
      obtain ⟨cur, i, j, rfl, rfl, ij, jn, CL, CT, CD, HO, HB⟩ := hrel
      have bs : base ≤ wr.heap.size := Nat.le_trans hb (unhide HB).size
      have gl := (unhide HO).lt
      by_cases t : j < n
      · have EJ : el5 cur j = el5 ps j := by
          have h1 := drop_next (ps := cur) (k := j) (by rw [unhide CL]; exact t)
          have h2 := drop_next (ps := ps) (k := j) (by omega)
          have h3 := unhide CD
          rw [h1, h2] at h3
          exact (List.cons.inj h3).1
        have D1 := hide (show cur.drop (j + 1) = ps.drop (j + 1) from by
          have h1 := drop_next (ps := cur) (k := j) (by rw [unhide CL]; exact t)
          have h2 := drop_next (ps := ps) (k := j) (by omega)
          have h3 := unhide CD
          rw [h1, h2] at h3
          exact (List.cons.inj h3).2)
        have FN := hide (fz_next (ps := ps) (k := j) (by omega))
        obtain ⟨e0, e1, e2, e3, e4⟩ := (unhide HO).at j (by rw [unhide CL]; exact t)
        rw [EJ] at e0 e1 e2 e3 e4
        rw [show el5 ps j = ((el5 ps j).1, (el5 ps j).2.1, (el5 ps j).2.2.1, (el5 ps j).2.2.2.1, (el5 ps j).2.2.2.2) from rfl] at FN
        clear EJ CD
        generalize (el5 ps j).1 = x0 at *
        generalize (el5 ps j).2.1 = x1 at *
        generalize (el5 ps j).2.2.1 = x2 at *
        generalize (el5 ps j).2.2.2.1 = x3 at *
        generalize (el5 ps j).2.2.2.2 = x4 at *
        have X1 := hide (show Holds5 (wr.alloc (.cells #[.int .i64 x0, .int .i64 x1, .int .i64 x2, .int .i64 x3, .int .i64 x4] 40)) wr.heap.size 0 (x0, x1, x2, x3, x4) from by unfold Holds5; simp)
        have O1 := hide ((unhide HO).alloc (.cells #[.int .i64 x0, .int .i64 x1, .int .i64 x2, .int .i64 x3, .int .i64 x4] 40))
        have B1 := hide ((unhide HB).alloc bs (.cells #[.int .i64 x0, .int .i64 x1, .int .i64 x2, .int .i64 x3, .int .i64 x4] 40))
        have yl : wr.heap.size < (wr.alloc (.cells #[.int .i64 x0, .int .i64 x1, .int .i64 x2, .int .i64 x3, .int .i64 x4] 40)).heap.size := by simp
        have gy : g ≠ wr.heap.size := by omega
        have bs1 : base ≤ (wr.alloc (.cells #[.int .i64 x0, .int .i64 x1, .int .i64 x2, .int .i64 x3, .int .i64 x4] 40)).heap.size := by simp; omega
        clear HO HB
        go_wp2_with fail
        generalize wr.alloc (.cells #[.int .i64 x0, .int .i64 x1, .int .i64 x2, .int .i64 x3, .int .i64 x4] 40) = u at *
        generalize wr.heap.size = yb at *
        refine (dPred x0 x1 x2 x3 x4 _).mono ?_
        rintro e w6 ⟨rfl, b6⟩
        have X6 := hide ((unhide X1).below b6 yl)
        have O6 := hide ((unhide O1).below b6 (unhide O1).lt.2)
        have B6 := hide ((unhide B1).trans (b6.mono bs1))
        have bs6 := Nat.le_trans bs1 b6.size
        clear b6 X1 O1 B1 e0 e1 e2 e3 e4
        by_cases z : x3 = 0
        · have FN := hide ((unhide FN).trans (by rw [if_pos z, List.append_nil]))
          have zb : (x3 == 0) = true := by simpa using z
          clear z
          go_wp2
          go_roundw
          case rel => exact ⟨cur, i, j + 1, rfl, by go_num, by omega, by omega, CL, hide ((unhide CT).trans (unhide FN).symm), D1, O6, B6⟩
          case measure => simp [intOf]; omega
        · have zb : (x3 == 0) = false := by simpa using z
          have il : i < cur.length := by rw [unhide CL]; omega
          have FN2 := hide (show (cur.modify i (fun _ => (x0, x1, x2, x3, x4))).take (i + 1) = fz (ps.take (j + 1)) from by
            rw [(take_modify cur i _ il).1, unhide FN, if_neg z, unhide CT])
          have D2 := hide (show (cur.modify i (fun _ => (x0, x1, x2, x3, x4))).drop (j + 1) = ps.drop (j + 1) from by rw [drop_mod _ _ _ _ (by omega)]; exact unhide D1)
          have CL2 := hide (show (cur.modify i (fun _ => (x0, x1, x2, x3, x4))).length = n from by rw [List.length_modify]; exact unhide CL)
          have ST := store_at (i := i) (unhide O6) x0 x1 x2 x3 x4
          have O7 := hide ST.1
          have B7 := hide ((unhide B6).grown ST.2 bs6 (fun j hj => by cases hj; exact gl.1))
          obtain ⟨c0, c1, c2, c3, c4⟩ := at0 (unhide X6)
          obtain ⟨k0, k1, k2, k3, k4⟩ := (unhide O6).at i il
          have q0 : w6.frozen? ⟨g, i * 5, none⟩ = false := (unhide O6).free _
          have q1 : w6.frozen? ⟨g, i * 5 + 1, none⟩ = false := (unhide O6).free _
          have q2 : w6.frozen? ⟨g, i * 5 + 2, none⟩ = false := (unhide O6).free _
          have q3 : w6.frozen? ⟨g, i * 5 + 3, none⟩ = false := (unhide O6).free _
          have q4 : w6.frozen? ⟨g, i * 5 + 4, none⟩ = false := (unhide O6).free _
          have i0 : (i : Int) < (n : Int) := by omega
          have IL := hide il
          clear z ST FN D1 il
          go_wp2
          go_roundw
          case rel => exact ⟨cur.modify i (fun _ => (x0, x1, x2, x3, x4)), i + 1, j + 1, by go_num, by go_num, by omega, by omega, CL2, FN2, D2, O7, B7⟩
          case measure => simp [intOf]; omega
      · obtain rfl : j = n := by omega
        have FE := hide (show cur.take i = fz ps from by rw [unhide CT, List.take_of_length_le (by omega)])
        have FL : (fz ps).length = i := by rw [← unhide FE, List.length_take, unhide CL]; omega
        clear CT CD
        have cc : j ≤ cap ∧ cap ≤ maxLen := by
          rcases (unhide HO).2 with ⟨h1, _⟩ | ⟨g', c, cu, h1, hb', hg', hnc, hcm, _⟩
          · simp at h1
          · obtain ⟨rfl, rfl⟩ : g = g' ∧ cap = c := by simpa using h1
            exact ⟨hnc, hcm⟩
        obtain ⟨cc1, cc2⟩ := cc
        unfold maxLen at cc2
        have hv : ∀ w : World, (zeroValue 40).run Try.prog w = .ok (.agg #[.int .i64 0, .int .i64 0, .int .i64 0, .int .i64 0, .int .i64 0]) w := fun w => by kernel_rfl
        have hcl := fun ty c => run_clear5 (P := Try.prog) wr 24 40 ty Try.underlying24 hv g (i * 5) (j - i) c (by omega) (fun t ht => by
          rw [World.ownsRow.cellAt (unhide HO) (i * 5 + t) (by omega), List.getElem?_eq_getElem (by rw [flat5_len, unhide CL]; omega)]
          rfl) (unhide HO).free
        obtain ⟨row, gr⟩ := row_set (flat5 (List.replicate (j - i) (0, 0, 0, 0, 0))) (i * 5) wr (flat5 cur) (unhide HO)
        have TK : (setAll (flat5 cur) (i * 5) (flat5 (List.replicate (j - i) (0, 0, 0, 0, 0)))).take (i * 5) = flat5 (fz ps) := by
          have hX : flat5 cur = flat5 (cur.take i) ++ flat5 (cur.drop i) := by rw [← flat5_append, List.take_append_drop]
          have l1 : (flat5 (cur.take i)).length = i * 5 := by rw [flat5_len, List.length_take, unhide CL]; omega
          have k := setAll_mid (flat5 (List.replicate (j - i) (0, 0, 0, 0, 0))) (flat5 (cur.take i)) (flat5 (cur.drop i)) [] (by rw [flat5_len, flat5_len, List.length_drop, List.length_replicate, unhide CL])
          rw [l1, List.append_nil, List.append_nil] at k
          rw [hX, k, ← l1, List.take_left, unhide FE]
        have OE := hide (row_less row (by omega) TK FL)
        have BE := hide ((unhide HB).grown gr bs (fun j hj => by cases hj; exact gl.1))
        clear row gr TK
        have j1 : (i : Int) ≤ (j : Int) := by omega
        have j2 : (j : Int) ≤ (cap : Int) := by omega
        have j3 : (i : Int) ≤ (cap : Int) := by omega
        have j4 : ¬ cap = i := by omega
        go_wp2
        go_ret
        rw [FL]
        exact ⟨rfl, unhide OE, unhide BE⟩

end Go.Proofs.Ytdnpjjbphamcmaa.IDel
