/- Contracts of the library's binary searches over lots, by a key and by a lot. Conditions: the lots are ascending; at most 2^20 of them. -/
import Derived.Test.YtdnpjjbphamcmaaIOk5
import Derived.Deep.LoopGhost
namespace Go.Proofs.Ytdnpjjbphamcmaa.IPlace5
open Go.ChangeShapes Go.WideShapes Go.ChangeAt Go.RowKit Tup5 Lots Takes Cmp IOk5 Quieter
set_option linter.unusedVariables false
set_option linter.unusedSimpArgs false

/-- Where a key goes. -/
def IsKey (ps : List T5) (a i : Int) (c : Nat) : Prop := c ≤ ps.length ∧ (∀ t, t < c → KLt (el5 ps t) a i) ∧ ∀ t, c ≤ t → t < ps.length → ¬ KLt (el5 ps t) a i

/-- Ascending. -/
def Asc (ps : List T5) : Prop := ∀ j i, i < j → j < ps.length → Bef (el5 ps i) (el5 ps j)
theorem asc_right {ps : List T5} (h : Right ps) : Asc ps := asc_of (m := ps.length) (Nat.le_refl _) h.2.1

theorem klt_down {p q : T5} {a i : Int} (h : Bef p q) (k : KLt q a i) : KLt p a i := by unfold Bef KLt at *; omega
theorem cmpK_klt (p : T5) (a i : Int) : cmpK p.1 p.2.1 a i < 0 ↔ KLt p a i := cmpK_lt _ _ _ _

set_option maxRecDepth 100000 in
theorem iCmpK (x0 x1 x2 x3 x4 a i : Int) (w : World) : Calls Try.prog 68 #[.agg #[.int .i64 x0, .int .i64 x1, .int .i64 x2, .int .i64 x3, .int .i64 x4], .agg #[.int .i64 a, .int .i64 i]] w fun e w' => e = .returned (.int .i64 (cmpK x0 x1 a i)) ∧ Below w.heap.size w w' := by
  have B := hide (show Below w.heap.size w ((w.alloc (.cells #[.int .i64 x0, .int .i64 x1, .int .i64 x2, .int .i64 x3, .int .i64 x4] 40)).alloc (.cells #[.int .i64 a, .int .i64 i] 81)) from ((Below.refl _ _).alloc (Nat.le_refl _) _).alloc (by simp) _)
  have K := hide (show ((w.alloc (.cells #[.int .i64 x0, .int .i64 x1, .int .i64 x2, .int .i64 x3, .int .i64 x4] 40)).alloc (.cells #[.int .i64 a, .int .i64 i] 81)).cell? ⟨w.heap.size + 1, 0, none⟩ = some (.int .i64 a) ∧ ((w.alloc (.cells #[.int .i64 x0, .int .i64 x1, .int .i64 x2, .int .i64 x3, .int .i64 x4] 40)).alloc (.cells #[.int .i64 a, .int .i64 i] 81)).cell? ⟨w.heap.size + 1, 1, none⟩ = some (.int .i64 i) from by simp)
  have X := hide (show Holds5 ((w.alloc (.cells #[.int .i64 x0, .int .i64 x1, .int .i64 x2, .int .i64 x3, .int .i64 x4] 40)).alloc (.cells #[.int .i64 a, .int .i64 i] 81)) w.heap.size 0 (x0, x1, x2, x3, x4) from by unfold Holds5; simp)
  have hk : w.heap.size + 1 < ((w.alloc (.cells #[.int .i64 x0, .int .i64 x1, .int .i64 x2, .int .i64 x3, .int .i64 x4] 40)).alloc (.cells #[.int .i64 a, .int .i64 i] 81)).heap.size := by simp
  go_enter Try.func68, Try.ntmps68
  go_wp2_with fail
  generalize (w.alloc (.cells #[.int .i64 x0, .int .i64 x1, .int .i64 x2, .int .i64 x3, .int .i64 x4] 40)).alloc (.cells #[.int .i64 a, .int .i64 i] 81) = u at *
  obtain ⟨h1, H1⟩ : ∃ h1, Hid (h1 = w.heap.size + 1) := ⟨_, rfl⟩
  obtain ⟨h0, H0⟩ : ∃ h0, Hid (h0 = w.heap.size) := ⟨_, rfl⟩
  rw [← unhide H1] at hk K ⊢
  rw [← unhide H0] at X ⊢
  have h01 : h0 < u.heap.size := by have := unhide H0; have := unhide H1; omega
  obtain ⟨c0, c1, c2, c3, c4⟩ := at0 (unhide X)
  have C0 : ∀ n : Near u, n.u.cell? ⟨h0, 0, none⟩ = some (.int .i64 x0) := fun n => (n.b.cell (p := ⟨h0, 0, none⟩) h01).trans c0
  have C1 : ∀ n : Near u, n.u.cell? ⟨h0, 1, none⟩ = some (.int .i64 x1) := fun n => (n.b.cell (p := ⟨h0, 1, none⟩) h01).trans c1
  have C2 : ∀ n : Near u, n.u.cell? ⟨h0, 2, none⟩ = some (.int .i64 x2) := fun n => (n.b.cell (p := ⟨h0, 2, none⟩) h01).trans c2
  have C3 : ∀ n : Near u, n.u.cell? ⟨h0, 3, none⟩ = some (.int .i64 x3) := fun n => (n.b.cell (p := ⟨h0, 3, none⟩) h01).trans c3
  have C4 : ∀ n : Near u, n.u.cell? ⟨h0, 4, none⟩ = some (.int .i64 x4) := fun n => (n.b.cell (p := ⟨h0, 4, none⟩) h01).trans c4
  have K0 : ∀ n : Near u, n.u.cell? ⟨h1, 0, none⟩ = some (.int .i64 a) := fun n => (n.b.cell (p := ⟨h1, 0, none⟩) hk).trans (unhide K).1
  have K1 : ∀ n : Near u, n.u.cell? ⟨h1, 1, none⟩ = some (.int .i64 i) := fun n => (n.b.cell (p := ⟨h1, 1, none⟩) hk).trans (unhide K).2
  have near := near_is u
  refine quiet_near (by kernel_rfl) (by kernel_rfl) ?_
  repeat (go_big_quiet_step (first
    | (go_at_call 57
       rename_i nn
       refine (keyL _ _ _ _ _ nn.u).mono ?_
       rintro e u6 ⟨rfl, b6⟩
       exact ⟨rfl, ⟨u6, next nn.b b6⟩, rfl⟩)
    | (go_at_call 69
       rename_i nn
       refine (compareK _ _ _ _ nn.u).mono ?_
       rintro e u6 ⟨rfl, b6⟩
       exact ⟨rfl, ⟨u6, next nn.b b6⟩, rfl⟩)))
  refine wpQuiet_nil ?_
  rintro u9 ⟨⟨_, b9⟩, rfl⟩
  have BB := hide (next (unhide B) b9)
  clear b9
  go_wp2
  go_ret
  exact ⟨rfl, unhide BB⟩

set_option maxRecDepth 100000 in
set_option maxHeartbeats 2000000 in
theorem iSearchK (w : World) (g n cap : Nat) (ps : List T5) (a i : Int) (hl : ps.length = n) (h20 : n ≤ 1048576) (hg : g < w.heap.size) (h : At5 w g ps) (asc : Hid (Asc ps)) :
    Calls Try.prog 67 #[.slice (some ⟨g, 0, none⟩) n cap, .agg #[.int .i64 a, .int .i64 i], .func (.func 68) #[] #[]] w fun e w' => ∃ c f, IsKey ps a i c ∧ e = .returned (.tuple #[.int .i64 (c : Nat), .bool f]) ∧ Below w.heap.size w w' := by
  have B0 := hide (show Below w.heap.size w (w.alloc (.cells #[.int .i64 a, .int .i64 i] 81)) from (Below.refl _ _).alloc (Nat.le_refl _) _)
  have A0 := hide (h.below (unhide B0) hg)
  have T0 := hide (show (w.alloc (.cells #[.int .i64 a, .int .i64 i] 81)).cell? ⟨w.heap.size, 0, none⟩ = some (.int .i64 a) ∧ (w.alloc (.cells #[.int .i64 a, .int .i64 i] 81)).cell? ⟨w.heap.size, 1, none⟩ = some (.int .i64 i) from by simp)
  have hs : w.heap.size < (w.alloc (.cells #[.int .i64 a, .int .i64 i] 81)).heap.size := by simp
  have hg0 : g < (w.alloc (.cells #[.int .i64 a, .int .i64 i] 81)).heap.size := by simp; omega
  clear h
  go_enter Try.func67, Try.ntmps67
  go_wp2
  generalize w.alloc (.cells #[.int .i64 a, .int .i64 i] 81) = u at *
  go_loopw [9, 10] (fun p q wr => ∃ (lo hi : Nat), lo ≤ hi ∧ hi ≤ n ∧ p = .int .i64 lo ∧ q = .int .i64 hi ∧ Below u.heap.size u wr ∧ Hid ((∀ t, t < lo → KLt (el5 ps t) a i) ∧ ∀ t, hi ≤ t → t < n → ¬ KLt (el5 ps t) a i)) (fun p q _ => (intOf q).toNat - (intOf p).toNat)
  case atStart => exact ⟨0, n, by omega, by omega, rfl, rfl, Below.refl _ _, hide ⟨fun t ht => by omega, fun t h1 h2 => by omega⟩⟩
  case round =>
    obtain ⟨lo, hi, hlh, hin, rfl, rfl, hb, HI⟩ := hrel
    have sz := hb.size
    have h := (unhide A0).below hb hg0
    obtain ⟨t0, t1⟩ : wr.cell? ⟨w.heap.size, 0, none⟩ = some (.int .i64 a) ∧ wr.cell? ⟨w.heap.size, 1, none⟩ = some (.int .i64 i) := by
      have := unhide T0
      refine ⟨(hb.cell (p := ⟨w.heap.size, 0, none⟩) hs).trans this.1, (hb.cell (p := ⟨w.heap.size, 1, none⟩) hs).trans this.2⟩
    have gw : g < wr.heap.size := by omega
    have ws : w.heap.size < wr.heap.size := by omega
    by_cases t : lo < hi
    · obtain ⟨m, hm⟩ : ∃ m, m = (lo + hi) / 2 := ⟨_, rfl⟩
      obtain ⟨e0, e1, e2, e3, e4⟩ := h m (by omega)
      have HB := hide hb
      clear h hb
      have LOW := hide (show KLt (el5 ps m) a i → ∀ t, t < m + 1 → KLt (el5 ps t) a i from fun hx t ht => by
        by_cases e : t = m
        · subst e; exact hx
        · exact klt_down ((unhide asc) m t (by omega) (by omega)) hx)
      have HIGH := hide (show ¬ KLt (el5 ps m) a i → ∀ t, m ≤ t → t < n → ¬ KLt (el5 ps t) a i from fun hx t h1 h2 k => by
        by_cases e : t = m
        · subst e; exact hx k
        · exact hx (klt_down ((unhide asc) t m (by omega) (by omega)) k))
      rw [show el5 ps m = ((el5 ps m).1, (el5 ps m).2.1, (el5 ps m).2.2.1, (el5 ps m).2.2.2.1, (el5 ps m).2.2.2.2) from rfl] at LOW HIGH
      generalize (el5 ps m).1 = x0 at *
      generalize (el5 ps m).2.1 = x1 at *
      generalize (el5 ps m).2.2.1 = x2 at *
      generalize (el5 ps m).2.2.2.1 = x3 at *
      generalize (el5 ps m).2.2.2.2 = x4 at *
      have hm' : (((lo : Int) + (hi : Int)) / 2) = ((m : Nat) : Int) := by omega
      have M1 : lo ≤ m := by omega
      have M2 : m < hi := by omega
      have HM := hide hm
      clear hm
      have C0 : ∀ n : Near wr, n.u.cell? ⟨g, m * 5, none⟩ = some (.int .i64 x0) := fun n => (n.b.cell (p := ⟨g, m * 5, none⟩) gw).trans e0
      have C1 : ∀ n : Near wr, n.u.cell? ⟨g, m * 5 + 1, none⟩ = some (.int .i64 x1) := fun n => (n.b.cell (p := ⟨g, m * 5 + 1, none⟩) gw).trans e1
      have C2 : ∀ n : Near wr, n.u.cell? ⟨g, m * 5 + 2, none⟩ = some (.int .i64 x2) := fun n => (n.b.cell (p := ⟨g, m * 5 + 2, none⟩) gw).trans e2
      have C3 : ∀ n : Near wr, n.u.cell? ⟨g, m * 5 + 3, none⟩ = some (.int .i64 x3) := fun n => (n.b.cell (p := ⟨g, m * 5 + 3, none⟩) gw).trans e3
      have C4 : ∀ n : Near wr, n.u.cell? ⟨g, m * 5 + 4, none⟩ = some (.int .i64 x4) := fun n => (n.b.cell (p := ⟨g, m * 5 + 4, none⟩) gw).trans e4
      have D0 : ∀ n : Near wr, n.u.cell? ⟨w.heap.size, 0, none⟩ = some (.int .i64 a) := fun n => (n.b.cell (p := ⟨w.heap.size, 0, none⟩) ws).trans t0
      have D1 : ∀ n : Near wr, n.u.cell? ⟨w.heap.size, 1, none⟩ = some (.int .i64 i) := fun n => (n.b.cell (p := ⟨w.heap.size, 1, none⟩) ws).trans t1
      have near := near_is wr
      have CL := hide (show cmpK x0 x1 a i < 0 ↔ KLt (x0, x1, x2, x3, x4) a i from cmpK_klt (x0, x1, x2, x3, x4) a i)
      obtain ⟨r, hr⟩ : ∃ r, Hid (cmpK x0 x1 a i = r) := ⟨_, rfl⟩
      go_wp2_with fail
      refine quiet_near (by kernel_rfl) (by kernel_rfl) ?_
      repeat (go_big_quiet_step (first
        | (rename_i nn
           refine (iCmpK x0 x1 x2 x3 x4 a i nn.u).mono ?_
           rintro e u6 ⟨rfl, b6⟩
           exact ⟨rfl, ⟨u6, next nn.b b6⟩, rfl⟩)))
      refine wpQuiet_nil ?_
      rintro u9 ⟨⟨_, b1⟩, rfl⟩
      rw [unhide hr] at CL ⊢
      have BB := hide (next (unhide HB) b1)
      by_cases lt : r < 0
      · have L := hide ((unhide LOW) ((unhide CL).1 lt))
        clear b1 LOW HIGH CL HB C0 C1 C2 C3 C4 D0 D1 near
        go_wp2
        go_roundw
        case rel => exact ⟨m + 1, hi, by omega, hin, by go_num, rfl, unhide BB, hide ⟨unhide L, (unhide HI).2⟩⟩
        case measure => simp [intOf]; omega
      · have L := hide ((unhide HIGH) (fun k => lt ((unhide CL).2 k)))
        clear b1 LOW HIGH CL HB C0 C1 C2 C3 C4 D0 D1 near
        go_wp2
        go_roundw
        case rel => exact ⟨lo, m, by omega, by omega, rfl, by go_num, unhide BB, hide ⟨(unhide HI).1, unhide L⟩⟩
        case measure => simp [intOf]; omega
    · obtain rfl : lo = hi := by omega
      have PL := hide (show IsKey ps a i lo from ⟨by omega, (unhide HI).1, fun t h1 h2 => (unhide HI).2 t h1 (by omega)⟩)
      have HB := hide (next (unhide B0) hb)
      by_cases lt : lo < n
      · obtain ⟨e0, e1, e2, e3, e4⟩ := h lo (by omega)
        clear h HI
        generalize (el5 ps lo).1 = x0 at *
        generalize (el5 ps lo).2.1 = x1 at *
        generalize (el5 ps lo).2.2.1 = x2 at *
        generalize (el5 ps lo).2.2.2.1 = x3 at *
        generalize (el5 ps lo).2.2.2.2 = x4 at *
        have C0 : ∀ n : Near wr, n.u.cell? ⟨g, lo * 5, none⟩ = some (.int .i64 x0) := fun n => (n.b.cell (p := ⟨g, lo * 5, none⟩) gw).trans e0
        have C1 : ∀ n : Near wr, n.u.cell? ⟨g, lo * 5 + 1, none⟩ = some (.int .i64 x1) := fun n => (n.b.cell (p := ⟨g, lo * 5 + 1, none⟩) gw).trans e1
        have C2 : ∀ n : Near wr, n.u.cell? ⟨g, lo * 5 + 2, none⟩ = some (.int .i64 x2) := fun n => (n.b.cell (p := ⟨g, lo * 5 + 2, none⟩) gw).trans e2
        have C3 : ∀ n : Near wr, n.u.cell? ⟨g, lo * 5 + 3, none⟩ = some (.int .i64 x3) := fun n => (n.b.cell (p := ⟨g, lo * 5 + 3, none⟩) gw).trans e3
        have C4 : ∀ n : Near wr, n.u.cell? ⟨g, lo * 5 + 4, none⟩ = some (.int .i64 x4) := fun n => (n.b.cell (p := ⟨g, lo * 5 + 4, none⟩) gw).trans e4
        have D0 : ∀ n : Near wr, n.u.cell? ⟨w.heap.size, 0, none⟩ = some (.int .i64 a) := fun n => (n.b.cell (p := ⟨w.heap.size, 0, none⟩) ws).trans t0
        have D1 : ∀ n : Near wr, n.u.cell? ⟨w.heap.size, 1, none⟩ = some (.int .i64 i) := fun n => (n.b.cell (p := ⟨w.heap.size, 1, none⟩) ws).trans t1
        have near := near_is wr
        go_wp2_with fail
        refine quiet_near (by kernel_rfl) (by kernel_rfl) ?_
        repeat (go_big_quiet_step (first
          | (rename_i nn
             refine (iCmpK x0 x1 x2 x3 x4 a i nn.u).mono ?_
             rintro e u6 ⟨rfl, b6⟩
             exact ⟨rfl, ⟨u6, next nn.b b6⟩, rfl⟩)))
        refine wpQuiet_nil ?_
        rintro u9 ⟨⟨_, b1⟩, rfl⟩
        have BB := hide ((unhide HB).trans (b1.mono (Nat.le_trans (unhide B0).size sz)))
        clear b1 HB C0 C1 C2 C3 C4 D0 D1 near
        go_wp2
        go_ret2
        exact ⟨lo, _, unhide PL, rfl, unhide BB⟩
      · clear h HI hb
        go_wp2_with fail
        go_quiet (fail)
        have HB := hide (below_drewN (unhide HB) nq)
        go_wp2
        go_ret2
        exact ⟨lo, _, unhide PL, rfl, unhide HB⟩

set_option maxRecDepth 100000 in
set_option maxHeartbeats 2000000 in
theorem iSearchL (w : World) (g n cap : Nat) (ps : List T5) (y0 y1 y2 y3 y4 : Int) (hl : ps.length = n) (h20 : n ≤ 1048576) (hg : g < w.heap.size) (h : At5 w g ps) (asc : Hid (Asc ps)) :
    Calls Try.prog 59 #[.slice (some ⟨g, 0, none⟩) n cap, .agg #[.int .i64 y0, .int .i64 y1, .int .i64 y2, .int .i64 y3, .int .i64 y4], .func (.func 56) #[] #[]] w fun e w' => ∃ c f, IsPl ps (y0, y1, y2, y3, y4) c ∧ e = .returned (.tuple #[.int .i64 (c : Nat), .bool f]) ∧ Below w.heap.size w w' := by
  have B0 := hide (show Below w.heap.size w (w.alloc (.cells #[.int .i64 y0, .int .i64 y1, .int .i64 y2, .int .i64 y3, .int .i64 y4] 40)) from (Below.refl _ _).alloc (Nat.le_refl _) _)
  have A0 := hide (h.below (unhide B0) hg)
  have T0 := hide (show (w.alloc (.cells #[.int .i64 y0, .int .i64 y1, .int .i64 y2, .int .i64 y3, .int .i64 y4] 40)).cell? ⟨w.heap.size, 0, none⟩ = some (.int .i64 y0) ∧ (w.alloc (.cells #[.int .i64 y0, .int .i64 y1, .int .i64 y2, .int .i64 y3, .int .i64 y4] 40)).cell? ⟨w.heap.size, 1, none⟩ = some (.int .i64 y1) ∧ (w.alloc (.cells #[.int .i64 y0, .int .i64 y1, .int .i64 y2, .int .i64 y3, .int .i64 y4] 40)).cell? ⟨w.heap.size, 2, none⟩ = some (.int .i64 y2) ∧ (w.alloc (.cells #[.int .i64 y0, .int .i64 y1, .int .i64 y2, .int .i64 y3, .int .i64 y4] 40)).cell? ⟨w.heap.size, 3, none⟩ = some (.int .i64 y3) ∧ (w.alloc (.cells #[.int .i64 y0, .int .i64 y1, .int .i64 y2, .int .i64 y3, .int .i64 y4] 40)).cell? ⟨w.heap.size, 4, none⟩ = some (.int .i64 y4) from by simp)
  have hs : w.heap.size < (w.alloc (.cells #[.int .i64 y0, .int .i64 y1, .int .i64 y2, .int .i64 y3, .int .i64 y4] 40)).heap.size := by simp
  have hg0 : g < (w.alloc (.cells #[.int .i64 y0, .int .i64 y1, .int .i64 y2, .int .i64 y3, .int .i64 y4] 40)).heap.size := by simp; omega
  clear h
  go_enter Try.func59, Try.ntmps59
  go_wp2
  generalize w.alloc (.cells #[.int .i64 y0, .int .i64 y1, .int .i64 y2, .int .i64 y3, .int .i64 y4] 40) = u at *
  go_loopw [9, 10] (fun p q wr => ∃ (lo hi : Nat), lo ≤ hi ∧ hi ≤ n ∧ p = .int .i64 lo ∧ q = .int .i64 hi ∧ Below u.heap.size u wr ∧ Hid ((∀ t, t < lo → Bef (el5 ps t) (y0, y1, y2, y3, y4)) ∧ ∀ t, hi ≤ t → t < n → ¬ Bef (el5 ps t) (y0, y1, y2, y3, y4))) (fun p q _ => (intOf q).toNat - (intOf p).toNat)
  case atStart => exact ⟨0, n, by omega, by omega, rfl, rfl, Below.refl _ _, hide ⟨fun t ht => by omega, fun t h1 h2 => by omega⟩⟩
  case round =>
    obtain ⟨lo, hi, hlh, hin, rfl, rfl, hb, HI⟩ := hrel
    have sz := hb.size
    have h := (unhide A0).below hb hg0
    obtain ⟨t0, t1, t2, t3, t4⟩ : wr.cell? ⟨w.heap.size, 0, none⟩ = some (.int .i64 y0) ∧ wr.cell? ⟨w.heap.size, 1, none⟩ = some (.int .i64 y1) ∧ wr.cell? ⟨w.heap.size, 2, none⟩ = some (.int .i64 y2) ∧ wr.cell? ⟨w.heap.size, 3, none⟩ = some (.int .i64 y3) ∧ wr.cell? ⟨w.heap.size, 4, none⟩ = some (.int .i64 y4) := by
      have := unhide T0
      refine ⟨(hb.cell (p := ⟨w.heap.size, 0, none⟩) hs).trans this.1, (hb.cell (p := ⟨w.heap.size, 1, none⟩) hs).trans this.2.1, (hb.cell (p := ⟨w.heap.size, 2, none⟩) hs).trans this.2.2.1, (hb.cell (p := ⟨w.heap.size, 3, none⟩) hs).trans this.2.2.2.1, (hb.cell (p := ⟨w.heap.size, 4, none⟩) hs).trans this.2.2.2.2⟩
    have gw : g < wr.heap.size := by omega
    have ws : w.heap.size < wr.heap.size := by omega
    by_cases t : lo < hi
    · obtain ⟨m, hm⟩ : ∃ m, m = (lo + hi) / 2 := ⟨_, rfl⟩
      obtain ⟨e0, e1, e2, e3, e4⟩ := h m (by omega)
      have HB := hide hb
      clear h hb
      have LOW := hide (show Bef (el5 ps m) (y0, y1, y2, y3, y4) → ∀ t, t < m + 1 → Bef (el5 ps t) (y0, y1, y2, y3, y4) from fun hx t ht => by
        by_cases e : t = m
        · subst e; exact hx
        · exact bef_trans ((unhide asc) m t (by omega) (by omega)) hx)
      have HIGH := hide (show ¬ Bef (el5 ps m) (y0, y1, y2, y3, y4) → ∀ t, m ≤ t → t < n → ¬ Bef (el5 ps t) (y0, y1, y2, y3, y4) from fun hx t h1 h2 k => by
        by_cases e : t = m
        · subst e; exact hx k
        · exact hx (bef_trans ((unhide asc) t m (by omega) (by omega)) k))
      rw [show el5 ps m = ((el5 ps m).1, (el5 ps m).2.1, (el5 ps m).2.2.1, (el5 ps m).2.2.2.1, (el5 ps m).2.2.2.2) from rfl] at LOW HIGH
      generalize (el5 ps m).1 = x0 at *
      generalize (el5 ps m).2.1 = x1 at *
      generalize (el5 ps m).2.2.1 = x2 at *
      generalize (el5 ps m).2.2.2.1 = x3 at *
      generalize (el5 ps m).2.2.2.2 = x4 at *
      have hm' : (((lo : Int) + (hi : Int)) / 2) = ((m : Nat) : Int) := by omega
      have M1 : lo ≤ m := by omega
      have M2 : m < hi := by omega
      have HM := hide hm
      clear hm
      have C0 : ∀ n : Near wr, n.u.cell? ⟨g, m * 5, none⟩ = some (.int .i64 x0) := fun n => (n.b.cell (p := ⟨g, m * 5, none⟩) gw).trans e0
      have C1 : ∀ n : Near wr, n.u.cell? ⟨g, m * 5 + 1, none⟩ = some (.int .i64 x1) := fun n => (n.b.cell (p := ⟨g, m * 5 + 1, none⟩) gw).trans e1
      have C2 : ∀ n : Near wr, n.u.cell? ⟨g, m * 5 + 2, none⟩ = some (.int .i64 x2) := fun n => (n.b.cell (p := ⟨g, m * 5 + 2, none⟩) gw).trans e2
      have C3 : ∀ n : Near wr, n.u.cell? ⟨g, m * 5 + 3, none⟩ = some (.int .i64 x3) := fun n => (n.b.cell (p := ⟨g, m * 5 + 3, none⟩) gw).trans e3
      have C4 : ∀ n : Near wr, n.u.cell? ⟨g, m * 5 + 4, none⟩ = some (.int .i64 x4) := fun n => (n.b.cell (p := ⟨g, m * 5 + 4, none⟩) gw).trans e4
      have D0 : ∀ n : Near wr, n.u.cell? ⟨w.heap.size, 0, none⟩ = some (.int .i64 y0) := fun n => (n.b.cell (p := ⟨w.heap.size, 0, none⟩) ws).trans t0
      have D1 : ∀ n : Near wr, n.u.cell? ⟨w.heap.size, 1, none⟩ = some (.int .i64 y1) := fun n => (n.b.cell (p := ⟨w.heap.size, 1, none⟩) ws).trans t1
      have D2 : ∀ n : Near wr, n.u.cell? ⟨w.heap.size, 2, none⟩ = some (.int .i64 y2) := fun n => (n.b.cell (p := ⟨w.heap.size, 2, none⟩) ws).trans t2
      have D3 : ∀ n : Near wr, n.u.cell? ⟨w.heap.size, 3, none⟩ = some (.int .i64 y3) := fun n => (n.b.cell (p := ⟨w.heap.size, 3, none⟩) ws).trans t3
      have D4 : ∀ n : Near wr, n.u.cell? ⟨w.heap.size, 4, none⟩ = some (.int .i64 y4) := fun n => (n.b.cell (p := ⟨w.heap.size, 4, none⟩) ws).trans t4
      have near := near_is wr
      have CL := hide (show cmpL (x0, x1, x2, x3, x4) (y0, y1, y2, y3, y4) < 0 ↔ Bef (x0, x1, x2, x3, x4) (y0, y1, y2, y3, y4) from cmpL_lt (x0, x1, x2, x3, x4) (y0, y1, y2, y3, y4))
      obtain ⟨r, hr⟩ : ∃ r, Hid (cmpL (x0, x1, x2, x3, x4) (y0, y1, y2, y3, y4) = r) := ⟨_, rfl⟩
      go_wp2_with fail
      refine quiet_near (by kernel_rfl) (by kernel_rfl) ?_
      repeat (go_big_quiet_step (first
        | (rename_i nn
           refine (compareLot x0 x1 x2 x3 x4 y0 y1 y2 y3 y4 nn.u).mono ?_
           rintro e u6 ⟨rfl, b6⟩
           exact ⟨rfl, ⟨u6, next nn.b b6⟩, rfl⟩)))
      refine wpQuiet_nil ?_
      rintro u9 ⟨⟨_, b1⟩, rfl⟩
      rw [unhide hr] at CL ⊢
      have BB := hide (next (unhide HB) b1)
      by_cases lt : r < 0
      · have L := hide ((unhide LOW) ((unhide CL).1 lt))
        clear b1 LOW HIGH CL HB C0 C1 C2 C3 C4 D0 D1 D2 D3 D4 near
        go_wp2
        go_roundw
        case rel => exact ⟨m + 1, hi, by omega, hin, by go_num, rfl, unhide BB, hide ⟨unhide L, (unhide HI).2⟩⟩
        case measure => simp [intOf]; omega
      · have L := hide ((unhide HIGH) (fun k => lt ((unhide CL).2 k)))
        clear b1 LOW HIGH CL HB C0 C1 C2 C3 C4 D0 D1 D2 D3 D4 near
        go_wp2
        go_roundw
        case rel => exact ⟨lo, m, by omega, by omega, rfl, by go_num, unhide BB, hide ⟨(unhide HI).1, unhide L⟩⟩
        case measure => simp [intOf]; omega
    · obtain rfl : lo = hi := by omega
      have PL := hide (show IsPl ps (y0, y1, y2, y3, y4) lo from ⟨by omega, (unhide HI).1, fun t h1 h2 => (unhide HI).2 t h1 (by omega)⟩)
      have HB := hide (next (unhide B0) hb)
      by_cases lt : lo < n
      · obtain ⟨e0, e1, e2, e3, e4⟩ := h lo (by omega)
        clear h HI
        generalize (el5 ps lo).1 = x0 at *
        generalize (el5 ps lo).2.1 = x1 at *
        generalize (el5 ps lo).2.2.1 = x2 at *
        generalize (el5 ps lo).2.2.2.1 = x3 at *
        generalize (el5 ps lo).2.2.2.2 = x4 at *
        have C0 : ∀ n : Near wr, n.u.cell? ⟨g, lo * 5, none⟩ = some (.int .i64 x0) := fun n => (n.b.cell (p := ⟨g, lo * 5, none⟩) gw).trans e0
        have C1 : ∀ n : Near wr, n.u.cell? ⟨g, lo * 5 + 1, none⟩ = some (.int .i64 x1) := fun n => (n.b.cell (p := ⟨g, lo * 5 + 1, none⟩) gw).trans e1
        have C2 : ∀ n : Near wr, n.u.cell? ⟨g, lo * 5 + 2, none⟩ = some (.int .i64 x2) := fun n => (n.b.cell (p := ⟨g, lo * 5 + 2, none⟩) gw).trans e2
        have C3 : ∀ n : Near wr, n.u.cell? ⟨g, lo * 5 + 3, none⟩ = some (.int .i64 x3) := fun n => (n.b.cell (p := ⟨g, lo * 5 + 3, none⟩) gw).trans e3
        have C4 : ∀ n : Near wr, n.u.cell? ⟨g, lo * 5 + 4, none⟩ = some (.int .i64 x4) := fun n => (n.b.cell (p := ⟨g, lo * 5 + 4, none⟩) gw).trans e4
        have D0 : ∀ n : Near wr, n.u.cell? ⟨w.heap.size, 0, none⟩ = some (.int .i64 y0) := fun n => (n.b.cell (p := ⟨w.heap.size, 0, none⟩) ws).trans t0
        have D1 : ∀ n : Near wr, n.u.cell? ⟨w.heap.size, 1, none⟩ = some (.int .i64 y1) := fun n => (n.b.cell (p := ⟨w.heap.size, 1, none⟩) ws).trans t1
        have D2 : ∀ n : Near wr, n.u.cell? ⟨w.heap.size, 2, none⟩ = some (.int .i64 y2) := fun n => (n.b.cell (p := ⟨w.heap.size, 2, none⟩) ws).trans t2
        have D3 : ∀ n : Near wr, n.u.cell? ⟨w.heap.size, 3, none⟩ = some (.int .i64 y3) := fun n => (n.b.cell (p := ⟨w.heap.size, 3, none⟩) ws).trans t3
        have D4 : ∀ n : Near wr, n.u.cell? ⟨w.heap.size, 4, none⟩ = some (.int .i64 y4) := fun n => (n.b.cell (p := ⟨w.heap.size, 4, none⟩) ws).trans t4
        have near := near_is wr
        go_wp2_with fail
        refine quiet_near (by kernel_rfl) (by kernel_rfl) ?_
        repeat (go_big_quiet_step (first
          | (rename_i nn
             refine (compareLot x0 x1 x2 x3 x4 y0 y1 y2 y3 y4 nn.u).mono ?_
             rintro e u6 ⟨rfl, b6⟩
             exact ⟨rfl, ⟨u6, next nn.b b6⟩, rfl⟩)))
        refine wpQuiet_nil ?_
        rintro u9 ⟨⟨_, b1⟩, rfl⟩
        have BB := hide ((unhide HB).trans (b1.mono (Nat.le_trans (unhide B0).size sz)))
        clear b1 HB C0 C1 C2 C3 C4 D0 D1 D2 D3 D4 near
        go_wp2
        go_ret2
        exact ⟨lo, _, unhide PL, rfl, unhide BB⟩
      · clear h HI hb
        go_wp2_with fail
        go_quiet (fail)
        have HB := hide (below_drewN (unhide HB) nq)
        go_wp2
        go_ret2
        exact ⟨lo, _, unhide PL, rfl, unhide HB⟩

end Go.Proofs.Ytdnpjjbphamcmaa.IPlace5
