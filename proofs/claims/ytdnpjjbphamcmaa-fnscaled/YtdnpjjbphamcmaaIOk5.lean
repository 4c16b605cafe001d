/- Contract of the program's LotsOk. Condition: a list of at most 2^20 lots. -/
import Derived.Test.YtdnpjjbphamcmaaCmp
import Derived.Test.YtdnpjjbphamcmaaQuieter
namespace Go.Proofs.Ytdnpjjbphamcmaa.IOk5
open Go.ChangeShapes Go.WideShapes Go.ChangeAt Go.RowKit Tup5 Lots Takes Cmp Quieter
set_option linter.unusedVariables false
set_option linter.unusedSimpArgs false

/-- The lot ahead of place k, and nothing ahead of the first one. -/
def ahead (ps : List T5) (k : Nat) : T5 := if k = 0 then (0, 0, 0, 0, 0) else el5 ps (k - 1)

theorem ahead_next (ps : List T5) (k : Nat) : ahead ps (k + 1) = el5 ps k := by unfold ahead; rw [if_neg (by omega)]; rfl

theorem row_iff (ps : List T5) (k : Nat) : RowOk ps k ↔ One (el5 ps k) ∧ Bef (ahead ps k) (el5 ps k) := by
  unfold RowOk ahead
  by_cases k0 : k = 0
  · subst k0
    rw [if_pos rfl]
    constructor
    · rintro ⟨a, _⟩
      exact ⟨a, by have := a.1; unfold NoOk at this; unfold Bef; simp only; omega⟩
    · rintro ⟨a, _⟩
      exact ⟨a, fun h => by omega⟩
  · rw [if_neg k0]
    exact ⟨fun h => ⟨h.1, h.2 (by omega)⟩, fun h => ⟨h.1, fun _ => h.2⟩⟩

theorem own_drewN {e : TypeId} {w : World} {base g n cap : Nat} {ps : List T5} (h : Own5 e w base g n cap ps) (m : Nat) : Own5 e (w.drewN m) base g n cap ps := h
theorem holds_drewN {w : World} {g o : Nat} {p : T5} (h : Holds5 w g o p) (m : Nat) : Holds5 (w.drewN m) g o p := h

/-- A lot that is stored whole into a block of its own. -/
theorem store5 {e : TypeId} {w : World} {base g : Nat} {p : T5} (h : Own5 e w base g 1 1 [p]) (x0 x1 x2 x3 x4 : Int) :
    Own5 e (((((w.setCell ⟨g, 0, none⟩ (.int .i64 x0)).setCell ⟨g, 1, none⟩ (.int .i64 x1)).setCell ⟨g, 2, none⟩ (.int .i64 x2)).setCell ⟨g, 3, none⟩ (.int .i64 x3)).setCell ⟨g, 4, none⟩ (.int .i64 x4)) base g 1 1 [(x0, x1, x2, x3, x4)] ∧
      w.grownBy (((((w.setCell ⟨g, 0, none⟩ (.int .i64 x0)).setCell ⟨g, 1, none⟩ (.int .i64 x1)).setCell ⟨g, 2, none⟩ (.int .i64 x2)).setCell ⟨g, 3, none⟩ (.int .i64 x3)).setCell ⟨g, 4, none⟩ (.int .i64 x4)) (some g) := by
  have s0 := h.set0 0 x0
  have s1 := s0.1.set1 0 x1
  have s2 := s1.1.set2 0 x2
  have s3 := s2.1.set3 0 x3
  have s4 := s3.1.set4 0 x4
  exact ⟨s4.1, grown_trans (grown_trans (grown_trans (grown_trans s0.2 s1.2) s2.2) s3.2) s4.2⟩

set_option maxRecDepth 100000 in
set_option maxHeartbeats 4000000 in
theorem iOk (w : World) (g n cap : Nat) (ps : List T5) (ok : Bool) (hl : ps.length = n) (h20 : n ≤ 1048576) (hg : g < w.heap.size) (h : At5 w g ps) (hok : Says ok (Right ps)) :
    Calls Try.prog 23 #[.slice (some ⟨g, 0, none⟩) n cap] w fun e w' => e = .returned (.bool ok) ∧ Below w.heap.size w w' := by
  by_cases nn : (120 : Int) < (n : Int)
  · obtain rfl : ok = false := hok.not (fun r => by have := r.1; omega)
    clear hok h
    go_enter Try.func23, Try.ntmps23
    go_wp2
    go_ret
    exact ⟨rfl, Below.refl _ _⟩
  have H := hide h
  clear h
  have O0 := hide (show Own5 40 (w.alloc (.cells #[.int .i64 0, .int .i64 0, .int .i64 0, .int .i64 0, .int .i64 0] 40)) w.heap.size w.heap.size 1 1 [(0, 0, 0, 0, 0)] from lit51 40 w w.heap.size 0 0 0 0 0 (Nat.le_refl _))
  go_enter Try.func23, Try.ntmps23
  go_wp2
  go_loopw [4, 5, 7, 14] (fun q c _ i wr => ∃ (k : Nat) (sq sc : Int) (bf : T5), k ≤ n ∧ i = .int .i64 k ∧ q = .int .i64 sq ∧ c = .int .i64 sc ∧ 0 ≤ sq ∧ sq ≤ 1000000000000000 ∧ 0 ≤ sc ∧ sc ≤ 1000000000000000 ∧ Hid (ahead ps k = bf) ∧ Below w.heap.size w wr ∧ Own5 40 wr w.heap.size w.heap.size 1 1 [bf] ∧ Hid (∀ i, i < k → RowOk ps i ∧ (run ps i).1 ≤ 1000000000000000 ∧ (run ps i).2 ≤ 1000000000000000) ∧ Hid (0 < k → (sq, sc) = run ps (k - 1))) (fun _ _ _ i _ => n - (intOf i).toNat)
  case atStart => exact ⟨0, 0, 0, (0, 0, 0, 0, 0), by omega, rfl, rfl, rfl, by omega, by omega, by omega, by omega, hide rfl, (Below.refl _ _).alloc (Nat.le_refl _) _, unhide O0, hide (fun i hi => absurd hi (by omega)), hide (fun h0 => absurd h0 (by omega))⟩
  case round =>
    clear O0
    obtain ⟨k, sq, sc, ⟨z0, z1, z2, z3, z4⟩, hk, rfl, rfl, rfl, sq0, sq1, sc0, sc1, HP, hb, ho, HG, HS⟩ := hrel
    by_cases t : k < n
    · have hA := (unhide H).below hb hg
      obtain ⟨e0, e1, e2, e3, e4⟩ := hA k (by omega)
      have gs : w.heap.size < wr.heap.size := ho.lt.2
      clear hA
      have HB := hide hb
      clear hb
      have HO := hide ho
      clear ho
      have ROW := hide (show RowOk ps k ↔ One ((el5 ps k).1, (el5 ps k).2.1, (el5 ps k).2.2.1, (el5 ps k).2.2.2.1, (el5 ps k).2.2.2.2) ∧ Bef (z0, z1, z2, z3, z4) ((el5 ps k).1, (el5 ps k).2.1, (el5 ps k).2.2.1, (el5 ps k).2.2.2.1, (el5 ps k).2.2.2.2) from by rw [row_iff, unhide HP])
      have RUN := hide (show RowOk ps k → run ps k = (if (el5 ps k).1 ≠ z0 ∨ (el5 ps k).2.1 ≠ z1 then ((el5 ps k).2.2.2.1, (el5 ps k).2.2.2.2) else (sq + (el5 ps k).2.2.2.1, sc + (el5 ps k).2.2.2.2)) from fun hr => by
        rw [run_next (by omega) (fun i hi => by
          by_cases e : i = k
          · subst e; exact hr
          · exact ((unhide HG) i (by omega)).1)]
        have hz := unhide HP
        unfold ahead at hz
        by_cases k0 : k = 0
        · rw [if_pos k0] at hz
          have z00 : z0 = 0 := by have := congrArg Prod.fst hz; simpa using this.symm
          have one := hr.1.1
          unfold NoOk at one
          rw [if_pos (.inl k0), if_pos (.inl (by omega))]
        · rw [if_neg k0] at hz
          have h0 : (el5 ps (k - 1)).1 = z0 := by rw [hz]
          have h1 : (el5 ps (k - 1)).2.1 = z1 := by rw [hz]
          rw [h0, h1]
          by_cases c : (el5 ps k).1 ≠ z0 ∨ (el5 ps k).2.1 ≠ z1
          · rw [if_pos (.inr c), if_pos c]
          · rw [if_neg (by omega), if_neg c, ← (unhide HS) (by omega)])
      have BAD := hide (show ¬ (RowOk ps k ∧ (run ps k).1 ≤ 1000000000000000 ∧ (run ps k).2 ≤ 1000000000000000) → ok = false from fun hr => hok.not (fun r => hr ((right_iff ps (by omega)).1 r k (by omega))))
      have GOOD := hide (show RowOk ps k ∧ (run ps k).1 ≤ 1000000000000000 ∧ (run ps k).2 ≤ 1000000000000000 → ∀ i, i < k + 1 → RowOk ps i ∧ (run ps i).1 ≤ 1000000000000000 ∧ (run ps i).2 ≤ 1000000000000000 from fun hr i hi => by
        by_cases e : i = k
        · subst e; exact hr
        · exact (unhide HG) i (by omega))
      have AN := hide (ahead_next ps k)
      obtain ⟨rq, rc, RQ⟩ : ∃ rq rc, Hid (run ps k = (rq, rc)) := ⟨_, _, rfl⟩
      rw [unhide RQ] at RUN BAD GOOD
      rw [show el5 ps k = ((el5 ps k).1, (el5 ps k).2.1, (el5 ps k).2.2.1, (el5 ps k).2.2.2.1, (el5 ps k).2.2.2.2) from rfl] at AN
      clear HG HS HP
      generalize (el5 ps k).1 = x0 at *
      generalize (el5 ps k).2.1 = x1 at *
      generalize (el5 ps k).2.2.1 = x2 at *
      generalize (el5 ps k).2.2.2.1 = x3 at *
      generalize (el5 ps k).2.2.2.2 = x4 at *
      obtain ⟨b1, B1⟩ := says_of (One (x0, x1, x2, x3, x4))
      have ONE := hide (show Below wr.heap.size wr (wr.alloc (.cells #[.int .i64 x0, .int .i64 x1, .int .i64 x2, .int .i64 x3, .int .i64 x4] 40)) from (Below.refl _ _).alloc (Nat.le_refl _) _)
      have X := hide (show Holds5 (wr.alloc (.cells #[.int .i64 x0, .int .i64 x1, .int .i64 x2, .int .i64 x3, .int .i64 x4] 40)) wr.heap.size 0 (x0, x1, x2, x3, x4) from by unfold Holds5; simp)
      have hx : wr.heap.size < (wr.alloc (.cells #[.int .i64 x0, .int .i64 x1, .int .i64 x2, .int .i64 x3, .int .i64 x4] 40)).heap.size := by simp
      have O1 := hide ((unhide HO).alloc (.cells #[.int .i64 x0, .int .i64 x1, .int .i64 x2, .int .i64 x3, .int .i64 x4] 40))
      have BB := hide (next (unhide HB) (unhide ONE))
      clear ONE HO
      go_wp2_with fail
      generalize wr.alloc (.cells #[.int .i64 x0, .int .i64 x1, .int .i64 x2, .int .i64 x3, .int .i64 x4] 40) = u at *
      generalize wr.heap.size = yb at *
      refine (lotOk x0 x1 x2 x3 x4 b1 _ B1).mono ?_
      rintro e w1 ⟨rfl, n1⟩
      have X := hide ((unhide X).below n1 hx)
      have O1 := hide ((unhide O1).below n1 (unhide O1).lt.2)
      have BB := hide (next (unhide BB) n1)
      have hx := Nat.lt_of_lt_of_le hx n1.size
      clear n1 e0 e1 e2 e3 e4
      cases b1
      · have OKF := hide ((unhide BAD) (fun hr => B1.no ((unhide ROW).1 hr.1).1))
        clear BAD GOOD ROW RUN
        go_wp2
        go_ret
        exact ⟨by rw [unhide OKF]; rfl, unhide BB⟩
      have o := B1.yes
      obtain ⟨_, _, _, ⟨x3l, x3h⟩, x4l, x4h⟩ : NoOk x0 ∧ NoOk x1 ∧ (1 ≤ x2 ∧ x2 ≤ 1000000000) ∧ (1 ≤ x3 ∧ x3 ≤ 1000000000000000) ∧ (0 ≤ x4 ∧ x4 ≤ 1000000000000000) := o
      obtain ⟨c0, c1, c2, c3, c4⟩ := at0 (unhide X)
      obtain ⟨d0, d1, d2, d3, d4⟩ := at0 ((unhide O1).at 0 (by simp))
      go_wp2_with fail
      refine (compareLot x0 x1 x2 x3 x4 z0 z1 z2 z3 z4 _).mono ?_
      rintro e w2 ⟨rfl, n2⟩
      have X := hide ((unhide X).below n2 hx)
      have O2 := hide ((unhide O1).below n2 (unhide O1).lt.2)
      have BB := hide (next (unhide BB) n2)
      have hx := Nat.lt_of_lt_of_le hx n2.size
      clear n2 c0 c1 c2 c3 c4 d0 d1 d2 d3 d4 O1
      have CLE := hide (cmpL_le (x0, x1, x2, x3, x4) (z0, z1, z2, z3, z4))
      generalize cmpL (x0, x1, x2, x3, x4) (z0, z1, z2, z3, z4) = c at *
      by_cases c9 : c ≤ 0
      · have OKF := hide ((unhide BAD) (fun hr => (unhide CLE).1 c9 ((unhide ROW).1 hr.1).2))
        clear BAD GOOD ROW RUN CLE
        go_wp2
        go_ret
        exact ⟨by rw [unhide OKF]; rfl, unhide BB⟩
      have RK := hide ((unhide ROW).2 ⟨B1.yes, Classical.byContradiction (fun h => by have := (unhide CLE).2 h; omega)⟩)
      clear CLE
      obtain ⟨c0, c1, c2, c3, c4⟩ := at0 (unhide X)
      obtain ⟨d0, d1, d2, d3, d4⟩ := at0 ((unhide O2).at 0 (by simp))
      go_wp2_with fail
      have C0 : ∀ n : Near w2, n.u.cell? ⟨yb, 0, none⟩ = some (.int .i64 x0) := fun n => (n.b.cell (p := ⟨yb, 0, none⟩) hx).trans c0
      have C1 : ∀ n : Near w2, n.u.cell? ⟨yb, 1, none⟩ = some (.int .i64 x1) := fun n => (n.b.cell (p := ⟨yb, 1, none⟩) hx).trans c1
      have C2 : ∀ n : Near w2, n.u.cell? ⟨yb, 2, none⟩ = some (.int .i64 x2) := fun n => (n.b.cell (p := ⟨yb, 2, none⟩) hx).trans c2
      have C3 : ∀ n : Near w2, n.u.cell? ⟨yb, 3, none⟩ = some (.int .i64 x3) := fun n => (n.b.cell (p := ⟨yb, 3, none⟩) hx).trans c3
      have C4 : ∀ n : Near w2, n.u.cell? ⟨yb, 4, none⟩ = some (.int .i64 x4) := fun n => (n.b.cell (p := ⟨yb, 4, none⟩) hx).trans c4
      have hz := (unhide O2).lt.2
      have D0 : ∀ n : Near w2, n.u.cell? ⟨w.heap.size, 0, none⟩ = some (.int .i64 z0) := fun n => (n.b.cell (p := ⟨w.heap.size, 0, none⟩) hz).trans d0
      have D1 : ∀ n : Near w2, n.u.cell? ⟨w.heap.size, 1, none⟩ = some (.int .i64 z1) := fun n => (n.b.cell (p := ⟨w.heap.size, 1, none⟩) hz).trans d1
      have D2 : ∀ n : Near w2, n.u.cell? ⟨w.heap.size, 2, none⟩ = some (.int .i64 z2) := fun n => (n.b.cell (p := ⟨w.heap.size, 2, none⟩) hz).trans d2
      have D3 : ∀ n : Near w2, n.u.cell? ⟨w.heap.size, 3, none⟩ = some (.int .i64 z3) := fun n => (n.b.cell (p := ⟨w.heap.size, 3, none⟩) hz).trans d3
      have D4 : ∀ n : Near w2, n.u.cell? ⟨w.heap.size, 4, none⟩ = some (.int .i64 z4) := fun n => (n.b.cell (p := ⟨w.heap.size, 4, none⟩) hz).trans d4
      have near := near_is w2
      have EQ := eqKey x0 x1 z0 z1
      have GU := guardKey
      by_cases same : x0 = z0 ∧ x1 = z1
      · obtain ⟨rfl, rfl⟩ := same
        refine quiet_near (by kernel_rfl) (by kernel_rfl) ?_
        repeat (go_big_quiet_step (first
          | (go_at_call 57
             rename_i nn
             refine (keyL _ _ _ _ _ nn.u).mono ?_
             rintro e u6 ⟨rfl, b6⟩
             exact ⟨rfl, ⟨u6, next nn.b b6⟩, rfl⟩)))
        refine wpQuiet_nil ?_
        rintro u9 ⟨⟨_, b9⟩, rfl⟩
        have X := hide ((unhide X).below b9 hx)
        have O9 := hide ((unhide O2).below b9 (unhide O2).lt.2)
        have BB := hide (next (unhide BB) b9)
        clear b9 c0 c1 c2 c3 c4 d0 d1 d2 d3 d4 C0 C1 C2 C3 C4 D0 D1 D2 D3 D4 near EQ GU O2
        obtain ⟨c0, c1, c2, c3, c4⟩ := at0 (unhide X)
        obtain ⟨d0, d1, d2, d3, d4⟩ := at0 ((unhide O9).at 0 (by simp))
        obtain ⟨b3, B3⟩ := says_of (Amt (sq + x3))
        obtain ⟨b4, B4⟩ := says_of (Amt (sc + x4))
        have RE := hide (show (rq, rc) = (sq + x3, sc + x4) from by rw [(unhide RUN) (unhide RK), if_neg (by omega)])
        have wS : IntKind.i64.wrap (sq + x3) = sq + x3 := by rw [IntKind.wrap_i64]; omega
        have wT : IntKind.i64.wrap (sc + x4) = sc + x4 := by rw [IntKind.wrap_i64]; omega
        go_wp2_with fail
        go_quiet (fail)
        have BB := hide (below_drewN (unhide BB) nq)
        have O9 := hide (own_drewN (unhide O9) nq)
        have X := hide (holds_drewN (unhide X) nq)
        clear c0 c1 c2 c3 c4 d0 d1 d2 d3 d4
        generalize u9.drewN nq = u8 at *
        obtain ⟨c0, c1, c2, c3, c4⟩ := at0 (unhide X)
        obtain ⟨d0, d1, d2, d3, d4⟩ := at0 ((unhide O9).at 0 (by simp))
        go_wp2_with fail
        refine (iAmt (sq + x3) b3 _ B3).mono ?_
        rintro e w3 ⟨rfl, rfl⟩
        cases b3
        · have OKF := hide ((unhide BAD) (fun hr => B3.no (by have e := congrArg Prod.fst (unhide RE); have := hr.2.1; unfold Amt; simp only at e; omega)))
          clear BAD GOOD ROW RUN RE
          go_wp2
          go_ret
          exact ⟨by rw [unhide OKF]; rfl, unhide BB⟩
        go_wp2_with fail
        refine (iAmt (sc + x4) b4 _ B4).mono ?_
        rintro e w4 ⟨rfl, rfl⟩
        cases b4
        · have OKF := hide ((unhide BAD) (fun hr => B4.no (by have e := congrArg Prod.snd (unhide RE); have := hr.2.2; unfold Amt; simp only at e; omega)))
          clear BAD GOOD ROW RUN RE
          go_wp2
          go_ret
          exact ⟨by rw [unhide OKF]; rfl, unhide BB⟩
        have GO := hide ((unhide GOOD) ⟨unhide RK, by have e := congrArg Prod.fst (unhide RE); have y := B3.yes; unfold Amt at y; simp only at e; omega, by have e := congrArg Prod.snd (unhide RE); have y := B4.yes; unfold Amt at y; simp only at e; omega⟩)
        have y3 := B3.yes.2
        have y4 := B4.yes.2
        have HS2 := hide (show 0 < k + 1 → (sq + x3, sc + x4) = run ps (k + 1 - 1) from fun _ => by rw [show k + 1 - 1 = k by omega, unhide RQ]; exact (unhide RE).symm)
        have st := store5 (unhide O9) x0 x1 x2 x3 x4
        have r0 : w4.frozen? ⟨w.heap.size, 0, none⟩ = false := (unhide O9).free 0
        have r1 : w4.frozen? ⟨w.heap.size, 1, none⟩ = false := (unhide O9).free 1
        have r2 : w4.frozen? ⟨w.heap.size, 2, none⟩ = false := (unhide O9).free 2
        have r3 : w4.frozen? ⟨w.heap.size, 3, none⟩ = false := (unhide O9).free 3
        have r4 : w4.frozen? ⟨w.heap.size, 4, none⟩ = false := (unhide O9).free 4
        have SO := hide st.1
        have SB := hide ((unhide BB).grown st.2 (unhide BB).size (fun j hj => by cases hj; exact Nat.le_refl _))
        clear BAD GOOD ROW RUN HB st RE RQ BB
        go_wp2
        go_roundw
        case rel => exact ⟨k + 1, sq + x3, sc + x4, (x0, x1, x2, x3, x4), by omega, by go_num, rfl, rfl, by omega, by omega, by omega, by omega, AN, unhide SB, unhide SO, GO, HS2⟩
        case measure => simp [intOf]; omega
      · have ne : (x0 == z0 && x1 == z1) = false := by
          rw [Bool.and_eq_false_iff, beq_eq_false_iff_ne, beq_eq_false_iff_ne]
          omega
        refine quiet_near (by kernel_rfl) (by kernel_rfl) ?_
        repeat (go_big_quiet_step (first
          | (go_at_call 57
             rename_i nn
             refine (keyL _ _ _ _ _ nn.u).mono ?_
             rintro e u6 ⟨rfl, b6⟩
             exact ⟨rfl, ⟨u6, next nn.b b6⟩, rfl⟩)))
        refine wpQuiet_nil ?_
        rintro u9 ⟨⟨_, b9⟩, rfl⟩
        have X := hide ((unhide X).below b9 hx)
        have O9 := hide ((unhide O2).below b9 (unhide O2).lt.2)
        have BB := hide (next (unhide BB) b9)
        clear b9 c0 c1 c2 c3 c4 d0 d1 d2 d3 d4 C0 C1 C2 C3 C4 D0 D1 D2 D3 D4 near EQ GU O2
        obtain ⟨c0, c1, c2, c3, c4⟩ := at0 (unhide X)
        obtain ⟨d0, d1, d2, d3, d4⟩ := at0 ((unhide O9).at 0 (by simp))
        obtain ⟨b3, B3⟩ := says_of (Amt (x3))
        obtain ⟨b4, B4⟩ := says_of (Amt (x4))
        have RE := hide (show (rq, rc) = (x3, x4) from by rw [(unhide RUN) (unhide RK), if_pos (by omega)])
        have wS : IntKind.i64.wrap (x3) = x3 := by rw [IntKind.wrap_i64]; omega
        have wT : IntKind.i64.wrap (x4) = x4 := by rw [IntKind.wrap_i64]; omega
        go_wp2_with fail
        go_quiet (fail)
        have BB := hide (below_drewN (unhide BB) nq)
        have O9 := hide (own_drewN (unhide O9) nq)
        have X := hide (holds_drewN (unhide X) nq)
        clear c0 c1 c2 c3 c4 d0 d1 d2 d3 d4
        generalize u9.drewN nq = u8 at *
        obtain ⟨c0, c1, c2, c3, c4⟩ := at0 (unhide X)
        obtain ⟨d0, d1, d2, d3, d4⟩ := at0 ((unhide O9).at 0 (by simp))
        go_wp2_with fail
        refine (iAmt (x3) b3 _ B3).mono ?_
        rintro e w3 ⟨rfl, rfl⟩
        cases b3
        · have OKF := hide ((unhide BAD) (fun hr => B3.no (by have e := congrArg Prod.fst (unhide RE); have := hr.2.1; unfold Amt; simp only at e; omega)))
          clear BAD GOOD ROW RUN RE
          go_wp2
          go_ret
          exact ⟨by rw [unhide OKF]; rfl, unhide BB⟩
        go_wp2_with fail
        refine (iAmt (x4) b4 _ B4).mono ?_
        rintro e w4 ⟨rfl, rfl⟩
        cases b4
        · have OKF := hide ((unhide BAD) (fun hr => B4.no (by have e := congrArg Prod.snd (unhide RE); have := hr.2.2; unfold Amt; simp only at e; omega)))
          clear BAD GOOD ROW RUN RE
          go_wp2
          go_ret
          exact ⟨by rw [unhide OKF]; rfl, unhide BB⟩
        have GO := hide ((unhide GOOD) ⟨unhide RK, by have e := congrArg Prod.fst (unhide RE); have y := B3.yes; unfold Amt at y; simp only at e; omega, by have e := congrArg Prod.snd (unhide RE); have y := B4.yes; unfold Amt at y; simp only at e; omega⟩)
        have y3 := B3.yes.2
        have y4 := B4.yes.2
        have HS2 := hide (show 0 < k + 1 → (x3, x4) = run ps (k + 1 - 1) from fun _ => by rw [show k + 1 - 1 = k by omega, unhide RQ]; exact (unhide RE).symm)
        have st := store5 (unhide O9) x0 x1 x2 x3 x4
        have r0 : w4.frozen? ⟨w.heap.size, 0, none⟩ = false := (unhide O9).free 0
        have r1 : w4.frozen? ⟨w.heap.size, 1, none⟩ = false := (unhide O9).free 1
        have r2 : w4.frozen? ⟨w.heap.size, 2, none⟩ = false := (unhide O9).free 2
        have r3 : w4.frozen? ⟨w.heap.size, 3, none⟩ = false := (unhide O9).free 3
        have r4 : w4.frozen? ⟨w.heap.size, 4, none⟩ = false := (unhide O9).free 4
        have SO := hide st.1
        have SB := hide ((unhide BB).grown st.2 (unhide BB).size (fun j hj => by cases hj; exact Nat.le_refl _))
        clear BAD GOOD ROW RUN HB st RE RQ BB
        go_wp2
        go_roundw
        case rel => exact ⟨k + 1, x3, x4, (x0, x1, x2, x3, x4), by omega, by go_num, rfl, rfl, by omega, by omega, by omega, by omega, AN, unhide SB, unhide SO, GO, HS2⟩
        case measure => simp [intOf]; omega
    · obtain rfl : k = n := by omega
      obtain rfl : ok = true := hok.of ((right_iff ps (by omega)).2 (by rw [hl]; exact unhide HG))
      have HB := hide hb
      clear hb hok ho
      go_wp2
      go_ret
      exact ⟨rfl, unhide HB⟩

end Go.Proofs.Ytdnpjjbphamcmaa.IOk5
