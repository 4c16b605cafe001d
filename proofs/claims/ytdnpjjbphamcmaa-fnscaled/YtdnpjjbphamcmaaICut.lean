/- Contracts of the program's cutting of lots into those of one account and instrument, those ahead and those behind, and of their totals. Conditions: the lots are ascending; at most 2^20 of them. -/
import Derived.Test.YtdnpjjbphamcmaaIPlace5
import Derived.BigRegion
namespace Go.Proofs.Ytdnpjjbphamcmaa.ICut
open Go.ChangeShapes Go.WideShapes Go.ChangeAt Go.RowKit Tup5 Lots Takes Cmp IOk5 Quieter IPlace5
set_option linter.unusedVariables false
set_option linter.unusedSimpArgs false

/-- A list that begins at cell o of block g. -/
def AtO (w : World) (g o : Nat) (ps : List T5) : Prop := ∀ i, i < ps.length → Holds5 w g (o + i * 5) (el5 ps i)
theorem AtO.below {w w' : World} {g o B : Nat} {ps : List T5} (h : AtO w g o ps) (k : Below B w w') (hg : g < B) : AtO w' g o ps := fun i hi => (h i hi).below k hg
theorem at_o {w : World} {g : Nat} {ps : List T5} (h : At5 w g ps) : AtO w g 0 ps := fun i hi => by rw [Nat.zero_add]; exact h i hi
theorem o_at {w : World} {g : Nat} {ps : List T5} (h : AtO w g 0 ps) : At5 w g ps := fun i hi => by have := h i hi; rw [Nat.zero_add] at this; exact this
theorem o_take {w : World} {g : Nat} {ps : List T5} (h : At5 w g ps) (f : Nat) : AtO w g 0 (ps.take f) := fun i hi => by
  have hi : i < f ∧ i < ps.length := by simp at hi; omega
  have e : el5 (ps.take f) i = el5 ps i := by simp [el5, List.getD, hi.1, hi.2]
  rw [e, Nat.zero_add]
  exact h i hi.2
theorem o_drop {w : World} {g : Nat} {ps : List T5} (h : At5 w g ps) (u : Nat) : AtO w g (u * 5) (ps.drop u) := fun i hi => by
  have hi : u + i < ps.length := by simp at hi; omega
  have e : el5 (ps.drop u) i = el5 ps (u + i) := by simp [el5, List.getD]
  rw [e, show u * 5 + i * 5 = (u + i) * 5 by omega]
  exact h (u + i) hi
theorem o_mid {w : World} {g : Nat} {ps : List T5} (h : At5 w g ps) (f u : Nat) (hf : f ≤ u) (hu : u ≤ ps.length) : AtO w g (f * 5) (midL ps f u) := fun i hi => by
  rw [mid_len hf hu] at hi
  rw [mid_el hi, show f * 5 + i * 5 = (f + i) * 5 by omega]
  exact h (f + i) (by omega)
theorem o_nil {w : World} {g o : Nat} {ps : List T5} (h : ps.length = 0) : AtO w g o ps := fun i hi => by omega

theorem cut_of {ps : List T5} {a i : Int} {f u : Nat} (asc : Asc ps) (hf : IsKey ps a i f) (hu : f ≤ u) (hl : u ≤ ps.length) (hm : ∀ t, f ≤ t → t < u → (el5 ps t).1 = a ∧ (el5 ps t).2.1 = i) (he : u < ps.length → ¬ ((el5 ps u).1 = a ∧ (el5 ps u).2.1 = i)) : Cut ps a i f u := by
  refine ⟨hu, hl, hf.2.1, hm, fun t ht hlt => ?_⟩
  have n1 := hf.2.2 u (by omega) (by omega)
  have n2 := he (by omega)
  by_cases e : t = u
  · subst e
    unfold KLt at n1
    unfold KGt
    omega
  · have b := asc t u (by omega) hlt
    unfold KLt at n1
    unfold Bef at b
    unfold KGt
    omega

set_option maxRecDepth 100000 in
set_option maxHeartbeats 4000000 in
theorem iCut (w : World) (g n cap : Nat) (ps : List T5) (a i : Int) (hl : ps.length = n) (h20 : n ≤ 1048576) (hc : n ≤ cap) (hg : g < w.heap.size) (h : At5 w g ps) (asc : Hid (Asc ps)) :
    Calls Try.prog 38 #[.slice (some ⟨g, 0, none⟩) n cap, .int .i64 a, .int .i64 i] w fun e w' => ∃ f u o1 o2 o3, Cut ps a i f u ∧ e = .returned (.agg #[.slice (some ⟨g, o1, none⟩) f f, .slice (some ⟨g, o2, none⟩) (u - f) (u - f), .slice (some ⟨g, o3, none⟩) (n - u) (n - u)]) ∧ AtO w' g o1 (ps.take f) ∧ AtO w' g o2 (midL ps f u) ∧ AtO w' g o3 (ps.drop u) ∧ Below w.heap.size w w' := by
  have B0 := hide (show Below w.heap.size w ((w.alloc (.cells #[.slice none 0 0, .slice none 0 0, .slice none 0 0] 58)).alloc (.cells #[.int .i64 a, .int .i64 i] 81)) from ((Below.refl _ _).alloc (Nat.le_refl _) _).alloc (by simp) _)
  have A0 := hide (h.below (unhide B0) hg)
  have T0 := hide (show ((w.alloc (.cells #[.slice none 0 0, .slice none 0 0, .slice none 0 0] 58)).alloc (.cells #[.int .i64 a, .int .i64 i] 81)).cell? ⟨w.heap.size + 1, 0, none⟩ = some (.int .i64 a) ∧ ((w.alloc (.cells #[.slice none 0 0, .slice none 0 0, .slice none 0 0] 58)).alloc (.cells #[.int .i64 a, .int .i64 i] 81)).cell? ⟨w.heap.size + 1, 1, none⟩ = some (.int .i64 i) from by simp)
  have R0 := hide (show ((w.alloc (.cells #[.slice none 0 0, .slice none 0 0, .slice none 0 0] 58)).alloc (.cells #[.int .i64 a, .int .i64 i] 81)).cell? ⟨w.heap.size, 0, none⟩ = some (.slice none 0 0) ∧ ((w.alloc (.cells #[.slice none 0 0, .slice none 0 0, .slice none 0 0] 58)).alloc (.cells #[.int .i64 a, .int .i64 i] 81)).cell? ⟨w.heap.size, 1, none⟩ = some (.slice none 0 0) ∧ ((w.alloc (.cells #[.slice none 0 0, .slice none 0 0, .slice none 0 0] 58)).alloc (.cells #[.int .i64 a, .int .i64 i] 81)).cell? ⟨w.heap.size, 2, none⟩ = some (.slice none 0 0) from by simp)
  have F0 := hide (show ((w.alloc (.cells #[.slice none 0 0, .slice none 0 0, .slice none 0 0] 58)).alloc (.cells #[.int .i64 a, .int .i64 i] 81)).frozen? ⟨w.heap.size, 0, none⟩ = false ∧ ((w.alloc (.cells #[.slice none 0 0, .slice none 0 0, .slice none 0 0] 58)).alloc (.cells #[.int .i64 a, .int .i64 i] 81)).frozen? ⟨w.heap.size, 1, none⟩ = false ∧ ((w.alloc (.cells #[.slice none 0 0, .slice none 0 0, .slice none 0 0] 58)).alloc (.cells #[.int .i64 a, .int .i64 i] 81)).frozen? ⟨w.heap.size, 2, none⟩ = false from by simp)
  have hs : w.heap.size + 1 < ((w.alloc (.cells #[.slice none 0 0, .slice none 0 0, .slice none 0 0] 58)).alloc (.cells #[.int .i64 a, .int .i64 i] 81)).heap.size := by simp
  have hg0 : g < ((w.alloc (.cells #[.slice none 0 0, .slice none 0 0, .slice none 0 0] 58)).alloc (.cells #[.int .i64 a, .int .i64 i] 81)).heap.size := by simp; omega
  have H := hide h
  clear h
  go_enter Try.func38, Try.ntmps38
  go_wp2_with fail
  generalize (w.alloc (.cells #[.slice none 0 0, .slice none 0 0, .slice none 0 0] 58)).alloc (.cells #[.int .i64 a, .int .i64 i] 81) = u at *
  refine (iSearchK u g n cap ps a i hl h20 hg0 (unhide A0) asc).mono ?_
  rintro e w1 ⟨f, ff, hf, rfl, b1⟩
  have B1 := hide b1
  have HF := hide hf
  have fn : f ≤ n := by have := hf.1; omega
  clear b1 hf
  go_wp2
  go_loopw [10] (fun p wr => ∃ (k : Nat), f ≤ k ∧ k ≤ n ∧ p = .int .i64 k ∧ Hid (Below u.heap.size u wr) ∧ Hid (∀ t, f ≤ t → t < k → (el5 ps t).1 = a ∧ (el5 ps t).2.1 = i)) (fun p _ => n - (intOf p).toNat)
  case atStart => exact ⟨f, Nat.le_refl _, fn, rfl, B1, hide (fun t h1 h2 => by omega)⟩
  case round =>
    obtain ⟨k, fk, hk, rfl, HB, HM⟩ := hrel
    have sz := (unhide HB).size
    have gw : g < wr.heap.size := by omega
    have ws : w.heap.size + 1 < wr.heap.size := by omega
    have ws0 : w.heap.size < u.heap.size := by omega
    have t0 : wr.cell? ⟨w.heap.size + 1, 0, none⟩ = some (.int .i64 a) := ((unhide HB).cell (p := ⟨w.heap.size + 1, 0, none⟩) hs).trans (unhide T0).1
    have t1 : wr.cell? ⟨w.heap.size + 1, 1, none⟩ = some (.int .i64 i) := ((unhide HB).cell (p := ⟨w.heap.size + 1, 1, none⟩) hs).trans (unhide T0).2
    by_cases t : k < n
    · obtain ⟨e0, e1, e2, e3, e4⟩ := (unhide A0).below (unhide HB) hg0 k (by omega)
      have kk : (k : Int) < (n : Int) := by omega
      have ON := hide (show (el5 ps k).1 = a ∧ (el5 ps k).2.1 = i → ∀ t, f ≤ t → t < k + 1 → (el5 ps t).1 = a ∧ (el5 ps t).2.1 = i from fun hx t h1 h2 => by
        by_cases e : t = k
        · subst e; exact hx
        · exact (unhide HM) t h1 (by omega))
      have OUT := hide (show ¬ ((el5 ps k).1 = a ∧ (el5 ps k).2.1 = i) → (k < ps.length → ¬ ((el5 ps k).1 = a ∧ (el5 ps k).2.1 = i)) from fun h _ => h)
      by_cases same : (el5 ps k).1 = a ∧ (el5 ps k).2.1 = i
      · have M2 := hide ((unhide ON) same)
        clear ON OUT HM
        obtain ⟨q1, q2⟩ := same
        rw [q1] at e0
        rw [q2] at e1
        generalize (el5 ps k).2.2.1 = x2 at *
        generalize (el5 ps k).2.2.2.1 = x3 at *
        generalize (el5 ps k).2.2.2.2 = x4 at *
        obtain ⟨x0, rfl⟩ : ∃ x0, x0 = a := ⟨_, rfl⟩
        obtain ⟨x1, rfl⟩ : ∃ x1, x1 = i := ⟨_, rfl⟩
        have C0 : ∀ n : Near wr, n.u.cell? ⟨g, k * 5, none⟩ = some (.int .i64 x0) := fun n => (n.b.cell (p := ⟨g, k * 5, none⟩) gw).trans e0
        have C1 : ∀ n : Near wr, n.u.cell? ⟨g, k * 5 + 1, none⟩ = some (.int .i64 x1) := fun n => (n.b.cell (p := ⟨g, k * 5 + 1, none⟩) gw).trans e1
        have C2 : ∀ n : Near wr, n.u.cell? ⟨g, k * 5 + 2, none⟩ = some (.int .i64 x2) := fun n => (n.b.cell (p := ⟨g, k * 5 + 2, none⟩) gw).trans e2
        have C3 : ∀ n : Near wr, n.u.cell? ⟨g, k * 5 + 3, none⟩ = some (.int .i64 x3) := fun n => (n.b.cell (p := ⟨g, k * 5 + 3, none⟩) gw).trans e3
        have C4 : ∀ n : Near wr, n.u.cell? ⟨g, k * 5 + 4, none⟩ = some (.int .i64 x4) := fun n => (n.b.cell (p := ⟨g, k * 5 + 4, none⟩) gw).trans e4
        have D0 : ∀ n : Near wr, n.u.cell? ⟨w.heap.size + 1, 0, none⟩ = some (.int .i64 x0) := fun n => (n.b.cell (p := ⟨w.heap.size + 1, 0, none⟩) ws).trans t0
        have D1 : ∀ n : Near wr, n.u.cell? ⟨w.heap.size + 1, 1, none⟩ = some (.int .i64 x1) := fun n => (n.b.cell (p := ⟨w.heap.size + 1, 1, none⟩) ws).trans t1
        have near := near_is wr
        have EQ := eqKey x0 x1 x0 x1
        have GU := guardKey
        go_wp2_with fail
        refine quiet_near (by kernel_rfl) (by kernel_rfl) ?_
        repeat (go_big_quiet_step (first
          | (go_at_call 57
             rename_i nn
             refine (keyL _ _ _ _ _ nn.u).mono ?_
             rintro e u6 ⟨rfl, b6⟩
             exact ⟨rfl, ⟨u6, next nn.b b6⟩, rfl⟩)))
        refine wpQuiet_nil ?_
        rintro u9 ⟨⟨_, b9⟩, rfl⟩
        have B9 := hide (next (unhide HB) b9)
        clear b9 near C0 C1 C2 C3 C4 D0 D1 EQ GU
        go_wp2
        go_roundw
        case rel => exact ⟨k + 1, by omega, by omega, by go_num, B9, M2⟩
        case measure => simp [intOf]; omega
      · have OU := hide ((unhide OUT) same)
        clear ON OUT
        have ne : ((el5 ps k).1 == a && (el5 ps k).2.1 == i) = false := by
          rw [Bool.and_eq_false_iff, beq_eq_false_iff_ne, beq_eq_false_iff_ne]
          omega
        generalize (el5 ps k).2.2.1 = x2 at *
        generalize (el5 ps k).2.2.2.1 = x3 at *
        generalize (el5 ps k).2.2.2.2 = x4 at *
        obtain ⟨x0, X0⟩ : ∃ x0, (el5 ps k).1 = x0 := ⟨_, rfl⟩
        obtain ⟨x1, X1⟩ : ∃ x1, (el5 ps k).2.1 = x1 := ⟨_, rfl⟩
        rw [X0] at e0 ne
        rw [X1] at e1 ne
        clear X0 X1 same
        have C0 : ∀ n : Near wr, n.u.cell? ⟨g, k * 5, none⟩ = some (.int .i64 x0) := fun n => (n.b.cell (p := ⟨g, k * 5, none⟩) gw).trans e0
        have C1 : ∀ n : Near wr, n.u.cell? ⟨g, k * 5 + 1, none⟩ = some (.int .i64 x1) := fun n => (n.b.cell (p := ⟨g, k * 5 + 1, none⟩) gw).trans e1
        have C2 : ∀ n : Near wr, n.u.cell? ⟨g, k * 5 + 2, none⟩ = some (.int .i64 x2) := fun n => (n.b.cell (p := ⟨g, k * 5 + 2, none⟩) gw).trans e2
        have C3 : ∀ n : Near wr, n.u.cell? ⟨g, k * 5 + 3, none⟩ = some (.int .i64 x3) := fun n => (n.b.cell (p := ⟨g, k * 5 + 3, none⟩) gw).trans e3
        have C4 : ∀ n : Near wr, n.u.cell? ⟨g, k * 5 + 4, none⟩ = some (.int .i64 x4) := fun n => (n.b.cell (p := ⟨g, k * 5 + 4, none⟩) gw).trans e4
        have D0 : ∀ n : Near wr, n.u.cell? ⟨w.heap.size + 1, 0, none⟩ = some (.int .i64 a) := fun n => (n.b.cell (p := ⟨w.heap.size + 1, 0, none⟩) ws).trans t0
        have D1 : ∀ n : Near wr, n.u.cell? ⟨w.heap.size + 1, 1, none⟩ = some (.int .i64 i) := fun n => (n.b.cell (p := ⟨w.heap.size + 1, 1, none⟩) ws).trans t1
        have near := near_is wr
        have EQ := eqKey x0 x1 a i
        have GU := guardKey
        go_wp2_with fail
        refine quiet_near (by kernel_rfl) (by kernel_rfl) ?_
        repeat (go_big_quiet_step (first
          | (go_at_call 57
             rename_i nn
             refine (keyL _ _ _ _ _ nn.u).mono ?_
             rintro e u6 ⟨rfl, b6⟩
             exact ⟨rfl, ⟨u6, next nn.b b6⟩, rfl⟩)))
        refine wpQuiet_nil ?_
        rintro u9 ⟨⟨_, b9⟩, rfl⟩
        have B9 := hide (next (unhide HB) b9)
        clear b9 near C0 C1 C2 C3 C4 D0 D1 EQ GU
        have CUT := hide (show Cut ps a i f k from cut_of (unhide asc) (unhide HF) fk (by omega) (unhide HM) (unhide OU))
        have r0 : u9.cell? ⟨w.heap.size, 0, none⟩ = some (.slice none 0 0) := ((unhide B9).cell (p := ⟨w.heap.size, 0, none⟩) ws0).trans (unhide R0).1
        have r1 : u9.cell? ⟨w.heap.size, 1, none⟩ = some (.slice none 0 0) := ((unhide B9).cell (p := ⟨w.heap.size, 1, none⟩) ws0).trans (unhide R0).2.1
        have r2 : u9.cell? ⟨w.heap.size, 2, none⟩ = some (.slice none 0 0) := ((unhide B9).cell (p := ⟨w.heap.size, 2, none⟩) ws0).trans (unhide R0).2.2
        have s0 : u9.frozen? ⟨w.heap.size, 0, none⟩ = false := ((unhide B9).frozen (p := ⟨w.heap.size, 0, none⟩) ws0).trans (unhide F0).1
        have s1 : u9.frozen? ⟨w.heap.size, 1, none⟩ = false := ((unhide B9).frozen (p := ⟨w.heap.size, 1, none⟩) ws0).trans (unhide F0).2.1
        have s2 : u9.frozen? ⟨w.heap.size, 2, none⟩ = false := ((unhide B9).frozen (p := ⟨w.heap.size, 2, none⟩) ws0).trans (unhide F0).2.2
        have j1 : (f : Int) ≤ (n : Int) := by omega
        have j2 : (k : Int) ≤ (n : Int) := by omega
        have j3 : (f : Int) ≤ (k : Int) := by omega
        have j4 : (n : Int) ≤ (cap : Int) := by omega
        have j5 : (f : Int) ≤ (cap : Int) := by omega
        have j6 : (k : Int) ≤ (cap : Int) := by omega
        clear HM HF
        have BW := hide (show Below w.heap.size w u9 from (unhide B0).trans ((unhide B9).mono (by omega)))
        have NK := hide (show n = k ∨ k < n by omega)
        go_wp2
        go_region
        by_cases kf : k = f
        · simp only [if_pos kf]
          have FB := hide (show Below w.heap.size w ((((u9.setCell ⟨w.heap.size, 0, none⟩ (.slice (some ⟨g, 0, none⟩) f f)).setCell ⟨w.heap.size, 1, none⟩ (.slice (some ⟨g, 0, none⟩) (k - f) (k - f))).setCell ⟨w.heap.size, 2, none⟩ (.slice (some ⟨g, k * 5, none⟩) (n - k) (n - k))).drew) from ((((unhide BW).setCell (p := ⟨w.heap.size, 0, none⟩) (Nat.le_refl _) _).setCell (p := ⟨w.heap.size, 1, none⟩) (Nat.le_refl _) _).setCell (p := ⟨w.heap.size, 2, none⟩) (Nat.le_refl _) _).drew)
          have AT := hide ((unhide H).below (unhide FB) hg)
          go_wp2
          refine bodyPost_ret (v := .agg #[.slice (some ⟨g, 0, none⟩) f f, .slice (some ⟨g, 0, none⟩) (k - f) (k - f), .slice (some ⟨g, k * 5, none⟩) (n - k) (n - k)]) (by simp [results, Try.results38, go_sem, *]) rfl ⟨f, k, 0, 0, k * 5, unhide CUT, rfl, o_take (unhide AT) f, o_nil (by rw [mid_len (by omega) (by omega)]; omega), o_drop (unhide AT) k, unhide FB⟩
        · simp only [if_neg kf]
          have FB := hide (show Below w.heap.size w ((((u9.setCell ⟨w.heap.size, 0, none⟩ (.slice (some ⟨g, 0, none⟩) f f)).setCell ⟨w.heap.size, 1, none⟩ (.slice (some ⟨g, f * 5, none⟩) (k - f) (k - f))).setCell ⟨w.heap.size, 2, none⟩ (.slice (some ⟨g, k * 5, none⟩) (n - k) (n - k))).drew) from ((((unhide BW).setCell (p := ⟨w.heap.size, 0, none⟩) (Nat.le_refl _) _).setCell (p := ⟨w.heap.size, 1, none⟩) (Nat.le_refl _) _).setCell (p := ⟨w.heap.size, 2, none⟩) (Nat.le_refl _) _).drew)
          have AT := hide ((unhide H).below (unhide FB) hg)
          go_wp2
          refine bodyPost_ret (v := .agg #[.slice (some ⟨g, 0, none⟩) f f, .slice (some ⟨g, f * 5, none⟩) (k - f) (k - f), .slice (some ⟨g, k * 5, none⟩) (n - k) (n - k)]) (by simp [results, Try.results38, go_sem, *]) rfl ⟨f, k, 0, f * 5, k * 5, unhide CUT, rfl, o_take (unhide AT) f, o_mid (unhide AT) f k (by omega) (by omega), o_drop (unhide AT) k, unhide FB⟩
    · have kk : ¬ (k : Int) < (n : Int) := by omega
      go_wp2_with fail
      go_quiet (fail)
      have B9 := hide (below_drewN (unhide HB) nq)
      generalize wr.drewN nq = u9 at *
      have CUT := hide (show Cut ps a i f k from cut_of (unhide asc) (unhide HF) fk (by omega) (unhide HM) (fun hx => absurd hx (by omega)))
      have r0 : u9.cell? ⟨w.heap.size, 0, none⟩ = some (.slice none 0 0) := ((unhide B9).cell (p := ⟨w.heap.size, 0, none⟩) ws0).trans (unhide R0).1
      have r1 : u9.cell? ⟨w.heap.size, 1, none⟩ = some (.slice none 0 0) := ((unhide B9).cell (p := ⟨w.heap.size, 1, none⟩) ws0).trans (unhide R0).2.1
      have r2 : u9.cell? ⟨w.heap.size, 2, none⟩ = some (.slice none 0 0) := ((unhide B9).cell (p := ⟨w.heap.size, 2, none⟩) ws0).trans (unhide R0).2.2
      have s0 : u9.frozen? ⟨w.heap.size, 0, none⟩ = false := ((unhide B9).frozen (p := ⟨w.heap.size, 0, none⟩) ws0).trans (unhide F0).1
      have s1 : u9.frozen? ⟨w.heap.size, 1, none⟩ = false := ((unhide B9).frozen (p := ⟨w.heap.size, 1, none⟩) ws0).trans (unhide F0).2.1
      have s2 : u9.frozen? ⟨w.heap.size, 2, none⟩ = false := ((unhide B9).frozen (p := ⟨w.heap.size, 2, none⟩) ws0).trans (unhide F0).2.2
      have j1 : (f : Int) ≤ (n : Int) := by omega
      have j2 : (k : Int) ≤ (n : Int) := by omega
      have j3 : (f : Int) ≤ (k : Int) := by omega
      have j4 : (n : Int) ≤ (cap : Int) := by omega
      have j5 : (f : Int) ≤ (cap : Int) := by omega
      have j6 : (k : Int) ≤ (cap : Int) := by omega
      clear HM HF
      have BW := hide (show Below w.heap.size w u9 from (unhide B0).trans ((unhide B9).mono (by omega)))
      have NK := hide (show n = k by omega)
      go_wp2
      go_region
      by_cases kf : k = f
      · simp only [if_pos kf]
        have FB := hide (show Below w.heap.size w ((((u9.setCell ⟨w.heap.size, 0, none⟩ (.slice (some ⟨g, 0, none⟩) f f)).setCell ⟨w.heap.size, 1, none⟩ (.slice (some ⟨g, 0, none⟩) (k - f) (k - f))).setCell ⟨w.heap.size, 2, none⟩ (.slice (some ⟨g, 0, none⟩) (n - k) (n - k))).drew) from ((((unhide BW).setCell (p := ⟨w.heap.size, 0, none⟩) (Nat.le_refl _) _).setCell (p := ⟨w.heap.size, 1, none⟩) (Nat.le_refl _) _).setCell (p := ⟨w.heap.size, 2, none⟩) (Nat.le_refl _) _).drew)
        have AT := hide ((unhide H).below (unhide FB) hg)
        go_wp2
        refine bodyPost_ret (v := .agg #[.slice (some ⟨g, 0, none⟩) f f, .slice (some ⟨g, 0, none⟩) (k - f) (k - f), .slice (some ⟨g, 0, none⟩) (n - k) (n - k)]) (by simp [results, Try.results38, go_sem, *]) rfl ⟨f, k, 0, 0, 0, unhide CUT, rfl, o_take (unhide AT) f, o_nil (by rw [mid_len (by omega) (by omega)]; omega), o_nil (by simp; omega), unhide FB⟩
      · simp only [if_neg kf]
        have FB := hide (show Below w.heap.size w ((((u9.setCell ⟨w.heap.size, 0, none⟩ (.slice (some ⟨g, 0, none⟩) f f)).setCell ⟨w.heap.size, 1, none⟩ (.slice (some ⟨g, f * 5, none⟩) (k - f) (k - f))).setCell ⟨w.heap.size, 2, none⟩ (.slice (some ⟨g, 0, none⟩) (n - k) (n - k))).drew) from ((((unhide BW).setCell (p := ⟨w.heap.size, 0, none⟩) (Nat.le_refl _) _).setCell (p := ⟨w.heap.size, 1, none⟩) (Nat.le_refl _) _).setCell (p := ⟨w.heap.size, 2, none⟩) (Nat.le_refl _) _).drew)
        have AT := hide ((unhide H).below (unhide FB) hg)
        go_wp2
        refine bodyPost_ret (v := .agg #[.slice (some ⟨g, 0, none⟩) f f, .slice (some ⟨g, f * 5, none⟩) (k - f) (k - f), .slice (some ⟨g, 0, none⟩) (n - k) (n - k)]) (by simp [results, Try.results38, go_sem, *]) rfl ⟨f, k, 0, f * 5, 0, unhide CUT, rfl, o_take (unhide AT) f, o_mid (unhide AT) f k (by omega) (by omega), o_nil (by simp; omega), unhide FB⟩

end Go.Proofs.Ytdnpjjbphamcmaa.ICut
