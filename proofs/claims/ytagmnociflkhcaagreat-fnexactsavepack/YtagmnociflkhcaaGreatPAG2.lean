/- Texts of one proof, one behind the other: IOk5, ILists, Tab, SOk3, Look, IBalsFit, AccountHelp, AccountMark, InstrHelp, InstrMark, BalHelp, LotHelp, TradeHelp, BHelp, BkEq, SBytes, ByteH, SPut11, SPuts11. -/
import Derived.Test.YtagmnociflkhcaaGreatRows
import Derived.Test.YtagmnociflkhcaaGreatPAG1
import Derived.Maps.OwnOps
import Derived.Maps.RangeWalk
import Derived.Maps.Ext
import Derived.DeepKeys4
import Derived.WalkSmall
import Derived.Deep.RegionHeld3
import Derived.WalkKit
import Derived.ProofKit
import Derived.OpenShut
import Derived.Below
import Derived.BigQuiet
import Derived.Maps.AppendAt
set_option linter.unusedVariables false
set_option linter.unusedSimpArgs false
namespace Go.Proofs.YtagmnociflkhcaaGreat.IOk5
open Go.ChangeShapes Go.WideShapes Go.ChangeAt Go.RowKit Tup5 Lots Takes CmpL Quieter
def ahead (ps : List T5) (k : Nat) : T5 := if k = 0 then (0, 0, 0, 0, 0) else el5 ps (k - 1)
theorem ahead_next (ps : List T5) (k : Nat) : ahead ps (k + 1) = el5 ps k := by unfold ahead; rw [if_neg (by omega)]; rfl
theorem row_iff (ps : List T5) (k : Nat) : RowOk ps k ↔ One (el5 ps k) ∧ Bef (ahead ps k) (el5 ps k) := by
  unfold RowOk ahead
  by_cases k0 : k = 0
  · subst k0
    rw [if_pos rfl]
    constructor
    · rintro ⟨a, _⟩
      exact ⟨a, by have := a.1; unfold NoOk at this; unfold Bef; simp only; omega⟩
    · rintro ⟨a, _⟩
      exact ⟨a, fun h => by omega⟩
  · rw [if_neg k0]
    exact ⟨fun h => ⟨h.1, h.2 (by omega)⟩, fun h => ⟨h.1, fun _ => h.2⟩⟩
theorem own_drewN {e : TypeId} {w : World} {base g n cap : Nat} {ps : List T5} (h : Own5 e w base g n cap ps) (m : Nat) : Own5 e (w.drewN m) base g n cap ps := h
theorem holds_drewN {w : World} {g o : Nat} {p : T5} (h : Holds5 w g o p) (m : Nat) : Holds5 (w.drewN m) g o p := h
theorem store5 {e : TypeId} {w : World} {base g : Nat} {p : T5} (h : Own5 e w base g 1 1 [p]) (x0 x1 x2 x3 x4 : Int) :
    Own5 e (((((w.setCell ⟨g, 0, none⟩ (.int .i64 x0)).setCell ⟨g, 1, none⟩ (.int .i64 x1)).setCell ⟨g, 2, none⟩ (.int .i64 x2)).setCell ⟨g, 3, none⟩ (.int .i64 x3)).setCell ⟨g, 4, none⟩ (.int .i64 x4)) base g 1 1 [(x0, x1, x2, x3, x4)] ∧
      w.grownBy (((((w.setCell ⟨g, 0, none⟩ (.int .i64 x0)).setCell ⟨g, 1, none⟩ (.int .i64 x1)).setCell ⟨g, 2, none⟩ (.int .i64 x2)).setCell ⟨g, 3, none⟩ (.int .i64 x3)).setCell ⟨g, 4, none⟩ (.int .i64 x4)) (some g) := by
  have s0 := h.set0 0 x0
  have s1 := s0.1.set1 0 x1
  have s2 := s1.1.set2 0 x2
  have s3 := s2.1.set3 0 x3
  have s4 := s3.1.set4 0 x4
  exact ⟨s4.1, grown_trans (grown_trans (grown_trans (grown_trans s0.2 s1.2) s2.2) s3.2) s4.2⟩
set_option maxRecDepth 100000 in
set_option maxHeartbeats 4000000 in
theorem iOk (w : World) (g n cap : Nat) (ps : List T5) (ok : Bool) (hl : ps.length = n) (h20 : n ≤ 1048576) (hg : g < w.heap.size) (h : At5 w g ps) (hok : Says ok (Right ps)) :
    Calls Tryz.prog 167 #[.slice (some ⟨g, 0, none⟩) n cap] w fun e w' => e = .returned (.bool ok) ∧ Below w.heap.size w w' := by
  by_cases nn : (120 : Int) < (n : Int)
  · obtain rfl : ok = false := hok.not (fun r => by have := r.1; omega)
    clear hok h
    go_enter Tryz.func167, Tryz.ntmps167
    go_wp2
    go_ret
    exact ⟨rfl, Below.refl _ _⟩
  have H := hide h
  clear h
  have O0 := hide (show Own5 148 (w.alloc (.cells #[.int .i64 0, .int .i64 0, .int .i64 0, .int .i64 0, .int .i64 0] 148)) w.heap.size w.heap.size 1 1 [(0, 0, 0, 0, 0)] from lit51 148 w w.heap.size 0 0 0 0 0 (Nat.le_refl _))
  go_enter Tryz.func167, Tryz.ntmps167
  go_wp2
  go_loopw [4, 5, 7, 14] (fun q c _ i wr => ∃ (k : Nat) (sq sc : Int) (bf : T5), k ≤ n ∧ i = .int .i64 k ∧ q = .int .i64 sq ∧ c = .int .i64 sc ∧ 0 ≤ sq ∧ sq ≤ 1000000000000000 ∧ 0 ≤ sc ∧ sc ≤ 1000000000000000 ∧ Hid (ahead ps k = bf) ∧ Below w.heap.size w wr ∧ Own5 148 wr w.heap.size w.heap.size 1 1 [bf] ∧ Hid (∀ i, i < k → RowOk ps i ∧ (run ps i).1 ≤ 1000000000000000 ∧ (run ps i).2 ≤ 1000000000000000) ∧ Hid (0 < k → (sq, sc) = run ps (k - 1))) (fun _ _ _ i _ => n - (intOf i).toNat)
  case atStart => exact ⟨0, 0, 0, (0, 0, 0, 0, 0), by omega, rfl, rfl, rfl, by omega, by omega, by omega, by omega, hide rfl, (Below.refl _ _).alloc (Nat.le_refl _) _, unhide O0, hide (fun i hi => absurd hi (by omega)), hide (fun h0 => absurd h0 (by omega))⟩
  case round =>
    clear O0
    obtain ⟨k, sq, sc, ⟨z0, z1, z2, z3, z4⟩, hk, rfl, rfl, rfl, sq0, sq1, sc0, sc1, HP, hb, ho, HG, HS⟩ := hrel
    by_cases t : k < n
    · have hA := (unhide H).below hb hg
      obtain ⟨e0, e1, e2, e3, e4⟩ := hA k (by omega)
      have gs : w.heap.size < wr.heap.size := ho.lt.2
      clear hA
      have HB := hide hb
      clear hb
      have HO := hide ho
      clear ho
      have ROW := hide (show RowOk ps k ↔ One ((el5 ps k).1, (el5 ps k).2.1, (el5 ps k).2.2.1, (el5 ps k).2.2.2.1, (el5 ps k).2.2.2.2) ∧ Bef (z0, z1, z2, z3, z4) ((el5 ps k).1, (el5 ps k).2.1, (el5 ps k).2.2.1, (el5 ps k).2.2.2.1, (el5 ps k).2.2.2.2) from by rw [row_iff, unhide HP])
      have RUN := hide (show RowOk ps k → run ps k = (if (el5 ps k).1 ≠ z0 ∨ (el5 ps k).2.1 ≠ z1 then ((el5 ps k).2.2.2.1, (el5 ps k).2.2.2.2) else (sq + (el5 ps k).2.2.2.1, sc + (el5 ps k).2.2.2.2)) from fun hr => by
        rw [run_next (by omega) (fun i hi => by
          by_cases e : i = k
          · subst e; exact hr
          · exact ((unhide HG) i (by omega)).1)]
        have hz := unhide HP
        unfold ahead at hz
        by_cases k0 : k = 0
        · rw [if_pos k0] at hz
          have z00 : z0 = 0 := by have := congrArg Prod.fst hz; simpa using this.symm
          have one := hr.1.1
          unfold NoOk at one
          rw [if_pos (.inl k0), if_pos (.inl (by omega))]
        · rw [if_neg k0] at hz
          have h0 : (el5 ps (k - 1)).1 = z0 := by rw [hz]
          have h1 : (el5 ps (k - 1)).2.1 = z1 := by rw [hz]
          rw [h0, h1]
          by_cases c : (el5 ps k).1 ≠ z0 ∨ (el5 ps k).2.1 ≠ z1
          · rw [if_pos (.inr c), if_pos c]
          · rw [if_neg (by omega), if_neg c, ← (unhide HS) (by omega)])
      have BAD := hide (show ¬ (RowOk ps k ∧ (run ps k).1 ≤ 1000000000000000 ∧ (run ps k).2 ≤ 1000000000000000) → ok = false from fun hr => hok.not (fun r => hr ((right_iff ps (by omega)).1 r k (by omega))))
      have GOOD := hide (show RowOk ps k ∧ (run ps k).1 ≤ 1000000000000000 ∧ (run ps k).2 ≤ 1000000000000000 → ∀ i, i < k + 1 → RowOk ps i ∧ (run ps i).1 ≤ 1000000000000000 ∧ (run ps i).2 ≤ 1000000000000000 from fun hr i hi => by
        by_cases e : i = k
        · subst e; exact hr
        · exact (unhide HG) i (by omega))
      have AN := hide (ahead_next ps k)
      obtain ⟨rq, rc, RQ⟩ : ∃ rq rc, Hid (run ps k = (rq, rc)) := ⟨_, _, rfl⟩
      rw [unhide RQ] at RUN BAD GOOD
      rw [show el5 ps k = ((el5 ps k).1, (el5 ps k).2.1, (el5 ps k).2.2.1, (el5 ps k).2.2.2.1, (el5 ps k).2.2.2.2) from rfl] at AN
      clear HG HS HP
      generalize (el5 ps k).1 = x0 at *
      generalize (el5 ps k).2.1 = x1 at *
      generalize (el5 ps k).2.2.1 = x2 at *
      generalize (el5 ps k).2.2.2.1 = x3 at *
      generalize (el5 ps k).2.2.2.2 = x4 at *
      obtain ⟨b1, B1⟩ := says_of (One (x0, x1, x2, x3, x4))
      have ONE := hide (show Below wr.heap.size wr (wr.alloc (.cells #[.int .i64 x0, .int .i64 x1, .int .i64 x2, .int .i64 x3, .int .i64 x4] 148)) from (Below.refl _ _).alloc (Nat.le_refl _) _)
      have X := hide (show Holds5 (wr.alloc (.cells #[.int .i64 x0, .int .i64 x1, .int .i64 x2, .int .i64 x3, .int .i64 x4] 148)) wr.heap.size 0 (x0, x1, x2, x3, x4) from by unfold Holds5; simp)
      have hx : wr.heap.size < (wr.alloc (.cells #[.int .i64 x0, .int .i64 x1, .int .i64 x2, .int .i64 x3, .int .i64 x4] 148)).heap.size := by simp
      have O1 := hide ((unhide HO).alloc (.cells #[.int .i64 x0, .int .i64 x1, .int .i64 x2, .int .i64 x3, .int .i64 x4] 148))
      have BB := hide (next (unhide HB) (unhide ONE))
      clear ONE HO
      go_wp2_with fail
      generalize wr.alloc (.cells #[.int .i64 x0, .int .i64 x1, .int .i64 x2, .int .i64 x3, .int .i64 x4] 148) = u at *
      generalize wr.heap.size = yb at *
      refine (lotOk x0 x1 x2 x3 x4 b1 _ B1).mono ?_
      rintro e w1 ⟨rfl, n1⟩
      have X := hide ((unhide X).below n1 hx)
      have O1 := hide ((unhide O1).below n1 (unhide O1).lt.2)
      have BB := hide (next (unhide BB) n1)
      have hx := Nat.lt_of_lt_of_le hx n1.size
      clear n1 e0 e1 e2 e3 e4
      cases b1
      · have OKF := hide ((unhide BAD) (fun hr => B1.no ((unhide ROW).1 hr.1).1))
        clear BAD GOOD ROW RUN
        go_wp2
        go_ret
        exact ⟨by rw [unhide OKF]; rfl, unhide BB⟩
      have o := B1.yes
      obtain ⟨_, _, _, ⟨x3l, x3h⟩, x4l, x4h⟩ : NoOk x0 ∧ NoOk x1 ∧ (1 ≤ x2 ∧ x2 ≤ 1000000000) ∧ (1 ≤ x3 ∧ x3 ≤ 1000000000000000) ∧ (0 ≤ x4 ∧ x4 ≤ 1000000000000000) := o
      obtain ⟨c0, c1, c2, c3, c4⟩ := at0 (unhide X)
      obtain ⟨d0, d1, d2, d3, d4⟩ := at0 ((unhide O1).at 0 (by simp))
      go_wp2_with fail
      refine (compareLot x0 x1 x2 x3 x4 z0 z1 z2 z3 z4 _).mono ?_
      rintro e w2 ⟨rfl, n2⟩
      have X := hide ((unhide X).below n2 hx)
      have O2 := hide ((unhide O1).below n2 (unhide O1).lt.2)
      have BB := hide (next (unhide BB) n2)
      have hx := Nat.lt_of_lt_of_le hx n2.size
      clear n2 c0 c1 c2 c3 c4 d0 d1 d2 d3 d4 O1
      have CLE := hide (cmpL_le (x0, x1, x2, x3, x4) (z0, z1, z2, z3, z4))
      generalize cmpL (x0, x1, x2, x3, x4) (z0, z1, z2, z3, z4) = c at *
      by_cases c9 : c ≤ 0
      · have OKF := hide ((unhide BAD) (fun hr => (unhide CLE).1 c9 ((unhide ROW).1 hr.1).2))
        clear BAD GOOD ROW RUN CLE
        go_wp2
        go_ret
        exact ⟨by rw [unhide OKF]; rfl, unhide BB⟩
      have RK := hide ((unhide ROW).2 ⟨B1.yes, Classical.byContradiction (fun h => by have := (unhide CLE).2 h; omega)⟩)
      clear CLE
      obtain ⟨c0, c1, c2, c3, c4⟩ := at0 (unhide X)
      obtain ⟨d0, d1, d2, d3, d4⟩ := at0 ((unhide O2).at 0 (by simp))
      go_wp2_with fail
      have C0 : ∀ n : Near w2, n.u.cell? ⟨yb, 0, none⟩ = some (.int .i64 x0) := fun n => (n.b.cell (p := ⟨yb, 0, none⟩) hx).trans c0
      have C1 : ∀ n : Near w2, n.u.cell? ⟨yb, 1, none⟩ = some (.int .i64 x1) := fun n => (n.b.cell (p := ⟨yb, 1, none⟩) hx).trans c1
      have C2 : ∀ n : Near w2, n.u.cell? ⟨yb, 2, none⟩ = some (.int .i64 x2) := fun n => (n.b.cell (p := ⟨yb, 2, none⟩) hx).trans c2
      have C3 : ∀ n : Near w2, n.u.cell? ⟨yb, 3, none⟩ = some (.int .i64 x3) := fun n => (n.b.cell (p := ⟨yb, 3, none⟩) hx).trans c3
      have C4 : ∀ n : Near w2, n.u.cell? ⟨yb, 4, none⟩ = some (.int .i64 x4) := fun n => (n.b.cell (p := ⟨yb, 4, none⟩) hx).trans c4
      have hz := (unhide O2).lt.2
      have D0 : ∀ n : Near w2, n.u.cell? ⟨w.heap.size, 0, none⟩ = some (.int .i64 z0) := fun n => (n.b.cell (p := ⟨w.heap.size, 0, none⟩) hz).trans d0
      have D1 : ∀ n : Near w2, n.u.cell? ⟨w.heap.size, 1, none⟩ = some (.int .i64 z1) := fun n => (n.b.cell (p := ⟨w.heap.size, 1, none⟩) hz).trans d1
      have D2 : ∀ n : Near w2, n.u.cell? ⟨w.heap.size, 2, none⟩ = some (.int .i64 z2) := fun n => (n.b.cell (p := ⟨w.heap.size, 2, none⟩) hz).trans d2
      have D3 : ∀ n : Near w2, n.u.cell? ⟨w.heap.size, 3, none⟩ = some (.int .i64 z3) := fun n => (n.b.cell (p := ⟨w.heap.size, 3, none⟩) hz).trans d3
      have D4 : ∀ n : Near w2, n.u.cell? ⟨w.heap.size, 4, none⟩ = some (.int .i64 z4) := fun n => (n.b.cell (p := ⟨w.heap.size, 4, none⟩) hz).trans d4
      have near := near_is w2
      have EQ := eqKey x0 x1 z0 z1
      have GU := guardKey
      by_cases same : x0 = z0 ∧ x1 = z1
      · obtain ⟨rfl, rfl⟩ := same
        refine quiet_near (by kernel_rfl) (by kernel_rfl) ?_
        repeat (go_big_quiet_step (first
          | (go_at_call 170
             rename_i nn
             refine (keyL _ _ _ _ _ nn.u).mono ?_
             rintro e u6 ⟨rfl, b6⟩
             exact ⟨rfl, ⟨u6, next nn.b b6⟩, rfl⟩)))
        refine wpQuiet_nil ?_
        rintro u9 ⟨⟨_, b9⟩, rfl⟩
        have X := hide ((unhide X).below b9 hx)
        have O9 := hide ((unhide O2).below b9 (unhide O2).lt.2)
        have BB := hide (next (unhide BB) b9)
        clear b9 c0 c1 c2 c3 c4 d0 d1 d2 d3 d4 C0 C1 C2 C3 C4 D0 D1 D2 D3 D4 near EQ GU O2
        obtain ⟨c0, c1, c2, c3, c4⟩ := at0 (unhide X)
        obtain ⟨d0, d1, d2, d3, d4⟩ := at0 ((unhide O9).at 0 (by simp))
        obtain ⟨b3, B3⟩ := says_of (Amt (sq + x3))
        obtain ⟨b4, B4⟩ := says_of (Amt (sc + x4))
        have RE := hide (show (rq, rc) = (sq + x3, sc + x4) from by rw [(unhide RUN) (unhide RK), if_neg (by omega)])
        have wS : IntKind.i64.wrap (sq + x3) = sq + x3 := by rw [IntKind.wrap_i64]; omega
        have wT : IntKind.i64.wrap (sc + x4) = sc + x4 := by rw [IntKind.wrap_i64]; omega
        go_wp2_with fail
        go_quiet (fail)
        have BB := hide (below_drewN (unhide BB) nq)
        have O9 := hide (own_drewN (unhide O9) nq)
        have X := hide (holds_drewN (unhide X) nq)
        clear c0 c1 c2 c3 c4 d0 d1 d2 d3 d4
        generalize u9.drewN nq = u8 at *
        obtain ⟨c0, c1, c2, c3, c4⟩ := at0 (unhide X)
        obtain ⟨d0, d1, d2, d3, d4⟩ := at0 ((unhide O9).at 0 (by simp))
        go_wp2_with fail
        refine (iAmt (sq + x3) b3 _ B3).mono ?_
        rintro e w3 ⟨rfl, rfl⟩
        cases b3
        · have OKF := hide ((unhide BAD) (fun hr => B3.no (by have e := congrArg Prod.fst (unhide RE); have := hr.2.1; unfold Amt; simp only at e; omega)))
          clear BAD GOOD ROW RUN RE
          go_wp2
          go_ret
          exact ⟨by rw [unhide OKF]; rfl, unhide BB⟩
        go_wp2_with fail
        refine (iAmt (sc + x4) b4 _ B4).mono ?_
        rintro e w4 ⟨rfl, rfl⟩
        cases b4
        · have OKF := hide ((unhide BAD) (fun hr => B4.no (by have e := congrArg Prod.snd (unhide RE); have := hr.2.2; unfold Amt; simp only at e; omega)))
          clear BAD GOOD ROW RUN RE
          go_wp2
          go_ret
          exact ⟨by rw [unhide OKF]; rfl, unhide BB⟩
        have GO := hide ((unhide GOOD) ⟨unhide RK, by have e := congrArg Prod.fst (unhide RE); have y := B3.yes; unfold Amt at y; simp only at e; omega, by have e := congrArg Prod.snd (unhide RE); have y := B4.yes; unfold Amt at y; simp only at e; omega⟩)
        have y3 := B3.yes.2
        have y4 := B4.yes.2
        have HS2 := hide (show 0 < k + 1 → (sq + x3, sc + x4) = run ps (k + 1 - 1) from fun _ => by rw [show k + 1 - 1 = k by omega, unhide RQ]; exact (unhide RE).symm)
        have st := store5 (unhide O9) x0 x1 x2 x3 x4
        have r0 : w4.frozen? ⟨w.heap.size, 0, none⟩ = false := (unhide O9).free 0
        have r1 : w4.frozen? ⟨w.heap.size, 1, none⟩ = false := (unhide O9).free 1
        have r2 : w4.frozen? ⟨w.heap.size, 2, none⟩ = false := (unhide O9).free 2
        have r3 : w4.frozen? ⟨w.heap.size, 3, none⟩ = false := (unhide O9).free 3
        have r4 : w4.frozen? ⟨w.heap.size, 4, none⟩ = false := (unhide O9).free 4
        have SO := hide st.1
        have SB := hide ((unhide BB).grown st.2 (unhide BB).size (fun j hj => by cases hj; exact Nat.le_refl _))
        clear BAD GOOD ROW RUN HB st RE RQ BB
        go_wp2
        go_roundw
        case rel => exact ⟨k + 1, sq + x3, sc + x4, (x0, x1, x2, x3, x4), by omega, by go_num, rfl, rfl, by omega, by omega, by omega, by omega, AN, unhide SB, unhide SO, GO, HS2⟩
        case measure => simp [intOf]; omega
      · have ne : (x0 == z0 && x1 == z1) = false := by
          rw [Bool.and_eq_false_iff, beq_eq_false_iff_ne, beq_eq_false_iff_ne]
          omega
        refine quiet_near (by kernel_rfl) (by kernel_rfl) ?_
        repeat (go_big_quiet_step (first
          | (go_at_call 170
             rename_i nn
             refine (keyL _ _ _ _ _ nn.u).mono ?_
             rintro e u6 ⟨rfl, b6⟩
             exact ⟨rfl, ⟨u6, next nn.b b6⟩, rfl⟩)))
        refine wpQuiet_nil ?_
        rintro u9 ⟨⟨_, b9⟩, rfl⟩
        have X := hide ((unhide X).below b9 hx)
        have O9 := hide ((unhide O2).below b9 (unhide O2).lt.2)
        have BB := hide (next (unhide BB) b9)
        clear b9 c0 c1 c2 c3 c4 d0 d1 d2 d3 d4 C0 C1 C2 C3 C4 D0 D1 D2 D3 D4 near EQ GU O2
        obtain ⟨c0, c1, c2, c3, c4⟩ := at0 (unhide X)
        obtain ⟨d0, d1, d2, d3, d4⟩ := at0 ((unhide O9).at 0 (by simp))
        obtain ⟨b3, B3⟩ := says_of (Amt (x3))
        obtain ⟨b4, B4⟩ := says_of (Amt (x4))
        have RE := hide (show (rq, rc) = (x3, x4) from by rw [(unhide RUN) (unhide RK), if_pos (by omega)])
        have wS : IntKind.i64.wrap (x3) = x3 := by rw [IntKind.wrap_i64]; omega
        have wT : IntKind.i64.wrap (x4) = x4 := by rw [IntKind.wrap_i64]; omega
        go_wp2_with fail
        go_quiet (fail)
        have BB := hide (below_drewN (unhide BB) nq)
        have O9 := hide (own_drewN (unhide O9) nq)
        have X := hide (holds_drewN (unhide X) nq)
        clear c0 c1 c2 c3 c4 d0 d1 d2 d3 d4
        generalize u9.drewN nq = u8 at *
        obtain ⟨c0, c1, c2, c3, c4⟩ := at0 (unhide X)
        obtain ⟨d0, d1, d2, d3, d4⟩ := at0 ((unhide O9).at 0 (by simp))
        go_wp2_with fail
        refine (iAmt (x3) b3 _ B3).mono ?_
        rintro e w3 ⟨rfl, rfl⟩
        cases b3
        · have OKF := hide ((unhide BAD) (fun hr => B3.no (by have e := congrArg Prod.fst (unhide RE); have := hr.2.1; unfold Amt; simp only at e; omega)))
          clear BAD GOOD ROW RUN RE
          go_wp2
          go_ret
          exact ⟨by rw [unhide OKF]; rfl, unhide BB⟩
        go_wp2_with fail
        refine (iAmt (x4) b4 _ B4).mono ?_
        rintro e w4 ⟨rfl, rfl⟩
        cases b4
        · have OKF := hide ((unhide BAD) (fun hr => B4.no (by have e := congrArg Prod.snd (unhide RE); have := hr.2.2; unfold Amt; simp only at e; omega)))
          clear BAD GOOD ROW RUN RE
          go_wp2
          go_ret
          exact ⟨by rw [unhide OKF]; rfl, unhide BB⟩
        have GO := hide ((unhide GOOD) ⟨unhide RK, by have e := congrArg Prod.fst (unhide RE); have y := B3.yes; unfold Amt at y; simp only at e; omega, by have e := congrArg Prod.snd (unhide RE); have y := B4.yes; unfold Amt at y; simp only at e; omega⟩)
        have y3 := B3.yes.2
        have y4 := B4.yes.2
        have HS2 := hide (show 0 < k + 1 → (x3, x4) = run ps (k + 1 - 1) from fun _ => by rw [show k + 1 - 1 = k by omega, unhide RQ]; exact (unhide RE).symm)
        have st := store5 (unhide O9) x0 x1 x2 x3 x4
        have r0 : w4.frozen? ⟨w.heap.size, 0, none⟩ = false := (unhide O9).free 0
        have r1 : w4.frozen? ⟨w.heap.size, 1, none⟩ = false := (unhide O9).free 1
        have r2 : w4.frozen? ⟨w.heap.size, 2, none⟩ = false := (unhide O9).free 2
        have r3 : w4.frozen? ⟨w.heap.size, 3, none⟩ = false := (unhide O9).free 3
        have r4 : w4.frozen? ⟨w.heap.size, 4, none⟩ = false := (unhide O9).free 4
        have SO := hide st.1
        have SB := hide ((unhide BB).grown st.2 (unhide BB).size (fun j hj => by cases hj; exact Nat.le_refl _))
        clear BAD GOOD ROW RUN HB st RE RQ BB
        go_wp2
        go_roundw
        case rel => exact ⟨k + 1, x3, x4, (x0, x1, x2, x3, x4), by omega, by go_num, rfl, rfl, by omega, by omega, by omega, by omega, AN, unhide SB, unhide SO, GO, HS2⟩
        case measure => simp [intOf]; omega
    · obtain rfl : k = n := by omega
      obtain rfl : ok = true := hok.of ((right_iff ps (by omega)).2 (by rw [hl]; exact unhide HG))
      have HB := hide hb
      clear hb hok ho
      go_wp2
      go_ret
      exact ⟨rfl, unhide HB⟩
end Go.Proofs.YtagmnociflkhcaaGreat.IOk5
namespace Go.Proofs.YtagmnociflkhcaaGreat.ILists
open Go.ChangeShapes Go.WideShapes Go.ChangeAt Go.RowKit BMem Bks IRead IHave ITrade
open Lots (Says says_of NoOk)
theorem boxed (w : World) (x : Bx) (e : TypeId) : Cl (w.alloc (.cells #[.slice (some ⟨x.ga, 0, none⟩) x.b.ac.length x.ca, .slice (some ⟨x.gi, 0, none⟩) x.b.ic.length x.ci, .slice (some ⟨x.gb, 0, none⟩) x.b.bs.length x.cb, .slice (some ⟨x.gl, 0, none⟩) x.b.ls.length x.cl, .slice (some ⟨x.gt, 0, none⟩) x.b.ts.length x.ct, .int .i64 x.b.lot] e)) w.heap.size x := ⟨by simp, by simp, by simp, by simp, by simp, by simp⟩
set_option maxRecDepth 100000 in
set_option maxHeartbeats 2000000 in
theorem iLists (w : World) (x : Bx) (b : Bool) (h : Rd w x) (hb : Says b (Lists x.b)) :
    Calls Tryz.prog 157 #[.agg #[.slice (some ⟨x.ga, 0, none⟩) x.b.ac.length x.ca, .slice (some ⟨x.gi, 0, none⟩) x.b.ic.length x.ci, .slice (some ⟨x.gb, 0, none⟩) x.b.bs.length x.cb, .slice (some ⟨x.gl, 0, none⟩) x.b.ls.length x.cl, .slice (some ⟨x.gt, 0, none⟩) x.b.ts.length x.ct, .int .i64 x.b.lot]] w fun e w' => e = .returned (.bool b) ∧ Below w.heap.size w w' := by
  obtain ⟨b0, h0⟩ := Chart.says_of 20 4 x.b.ac
  obtain ⟨b1, h1⟩ := Chart.says_of 8 2 x.b.ic
  obtain ⟨b2, h2⟩ := Bals.says_of (Bals.Right x.b.bs)
  obtain ⟨b3, h3⟩ := says_of (Lots.Right x.b.ls)
  obtain ⟨b4, h4⟩ := says_of (TRight x.b.ts)
  have H0 := hide h0
  have H1 := hide h1
  have H2 := hide h2
  have H3 := hide h3
  have H4 := hide h4
  have T := hide hb
  clear h0 h1 h2 h3 h4 hb
  have R0 := hide (h.alloc (.cells #[.slice (some ⟨x.ga, 0, none⟩) x.b.ac.length x.ca, .slice (some ⟨x.gi, 0, none⟩) x.b.ic.length x.ci, .slice (some ⟨x.gb, 0, none⟩) x.b.bs.length x.cb, .slice (some ⟨x.gl, 0, none⟩) x.b.ls.length x.cl, .slice (some ⟨x.gt, 0, none⟩) x.b.ts.length x.ct, .int .i64 x.b.lot] 40))
  have C0 := hide (boxed w x 40)
  have B0 := hide ((Below.refl w.heap.size w).alloc (Nat.le_refl _) (.cells #[.slice (some ⟨x.ga, 0, none⟩) x.b.ac.length x.ca, .slice (some ⟨x.gi, 0, none⟩) x.b.ic.length x.ci, .slice (some ⟨x.gb, 0, none⟩) x.b.bs.length x.cb, .slice (some ⟨x.gl, 0, none⟩) x.b.ls.length x.cl, .slice (some ⟨x.gt, 0, none⟩) x.b.ts.length x.ct, .int .i64 x.b.lot] 40))
  have s0 : w.heap.size < (w.alloc (.cells #[.slice (some ⟨x.ga, 0, none⟩) x.b.ac.length x.ca, .slice (some ⟨x.gi, 0, none⟩) x.b.ic.length x.ci, .slice (some ⟨x.gb, 0, none⟩) x.b.bs.length x.cb, .slice (some ⟨x.gl, 0, none⟩) x.b.ls.length x.cl, .slice (some ⟨x.gt, 0, none⟩) x.b.ts.length x.ct, .int .i64 x.b.lot] 40)).heap.size := by simp
  have na := h.na
  have ni := h.ni
  have nb := h.nb
  have nl := h.nl
  have nt := h.nt
  clear h
  go_enter Tryz.func157, Tryz.ntmps157
  go_wp2_with fail
  refine (AccountIKind.iOks _ x.ga _ x.ca x.b.ac b0 rfl na (unhide R0).la (unhide R0).ra (unhide H0)).mono ?_
  rintro e w1 ⟨rfl, bb⟩
  have R1 := hide ((unhide R0).below bb)
  have C1 := hide ((unhide C0).below bb s0)
  have B1 := hide ((unhide B0).trans (bb.mono (Nat.le_of_lt s0)))
  have s1 : w.heap.size < w1.heap.size := Nat.lt_of_lt_of_le s0 bb.size
  have c1 := (unhide C1).c1
  clear bb R0 C0 B0 s0
  cases b0
  · have F := hide ((unhide T).not (fun hh => (unhide H0).no hh.1))
    clear T
    go_wp2
    go_ret
    exact ⟨by rw [unhide F]; rfl, unhide B1⟩
  go_wp2_with fail
  refine (InstrIKind.iOks _ x.gi _ x.ci x.b.ic b1 rfl ni (unhide R1).li (unhide R1).ri (unhide H1)).mono ?_
  rintro e w2 ⟨rfl, bb⟩
  have R2 := hide ((unhide R1).below bb)
  have C2 := hide ((unhide C1).below bb s1)
  have B2 := hide ((unhide B1).trans (bb.mono (Nat.le_of_lt s1)))
  have s2 : w.heap.size < w2.heap.size := Nat.lt_of_lt_of_le s1 bb.size
  have c2 := (unhide C2).c2
  clear bb R1 C1 B1 s1
  cases b1
  · have F := hide ((unhide T).not (fun hh => (unhide H1).no hh.2.1))
    clear T
    go_wp2
    go_ret
    exact ⟨by rw [unhide F]; rfl, unhide B2⟩
  go_wp2_with fail
  refine (IOk3.iOk _ x.gb _ x.cb x.b.bs b2 rfl nb (unhide R2).lb (unhide R2).rb (unhide H2)).mono ?_
  rintro e w3 ⟨rfl, bb⟩
  have R3 := hide ((unhide R2).below bb)
  have C3 := hide ((unhide C2).below bb s2)
  have B3 := hide ((unhide B2).trans (bb.mono (Nat.le_of_lt s2)))
  have s3 : w.heap.size < w3.heap.size := Nat.lt_of_lt_of_le s2 bb.size
  have c3 := (unhide C3).c3
  clear bb R2 C2 B2 s2
  cases b2
  · have F := hide ((unhide T).not (fun hh => (unhide H2).no hh.2.2.1))
    clear T
    go_wp2
    go_ret
    exact ⟨by rw [unhide F]; rfl, unhide B3⟩
  go_wp2_with fail
  refine (IOk5.iOk _ x.gl _ x.cl x.b.ls b3 rfl nl (unhide R3).ll (unhide R3).rl (unhide H3)).mono ?_
  rintro e w4 ⟨rfl, bb⟩
  have R4 := hide ((unhide R3).below bb)
  have C4 := hide ((unhide C3).below bb s3)
  have B4 := hide ((unhide B3).trans (bb.mono (Nat.le_of_lt s3)))
  have s4 : w.heap.size < w4.heap.size := Nat.lt_of_lt_of_le s3 bb.size
  have c4 := (unhide C4).c4
  clear bb R3 C3 B3 s3
  cases b3
  · have F := hide ((unhide T).not (fun hh => (unhide H3).no hh.2.2.2.1))
    clear T
    go_wp2
    go_ret
    exact ⟨by rw [unhide F]; rfl, unhide B4⟩
  go_wp2_with fail
  refine (ITrade.iOk _ x.gt _ x.ct x.b.ts b4 rfl nt (unhide R4).lt (unhide R4).rt (unhide H4)).mono ?_
  rintro e w5 ⟨rfl, bb⟩
  have R5 := hide ((unhide R4).below bb)
  have C5 := hide ((unhide C4).below bb s4)
  have B5 := hide ((unhide B4).trans (bb.mono (Nat.le_of_lt s4)))
  have s5 : w.heap.size < w5.heap.size := Nat.lt_of_lt_of_le s4 bb.size
  have c5 := (unhide C5).c5
  clear bb R4 C4 B4 s4
  cases b4
  · have F := hide ((unhide T).not (fun hh => (unhide H4).no hh.2.2.2.2.1))
    clear T
    go_wp2
    go_ret
    exact ⟨by rw [unhide F]; rfl, unhide B5⟩
  by_cases d1 : 0 ≤ x.b.lot
  · have hd : decide (x.b.lot ≤ 1000000000) = b := by
      by_cases d2 : x.b.lot ≤ 1000000000
      · rw [decide_eq_true d2]
        exact ((unhide T).of ⟨(unhide H0).yes, (unhide H1).yes, (unhide H2).yes, (unhide H3).yes, (unhide H4).yes, d1, d2⟩).symm
      · rw [decide_eq_false d2]
        exact ((unhide T).not (fun hh => d2 hh.2.2.2.2.2.2)).symm
    clear T
    go_wp2
    go_ret
    exact ⟨rfl, unhide B5⟩
  · have F := hide ((unhide T).not (fun hh => d1 hh.2.2.2.2.2.1))
    have hd : decide (0 ≤ x.b.lot) = false := decide_eq_false d1
    clear T d1
    go_wp2
    go_ret
    exact ⟨by rw [unhide F]; rfl, unhide B5⟩
end Go.Proofs.YtagmnociflkhcaaGreat.ILists
namespace Go.Proofs.YtagmnociflkhcaaGreat.Tab
open Go.ChangeShapes Go.WideShapes Go.ChangeAt Go.RowKit Bals Triples
open Go.Maps (Keyed)
theorem laidOut : laidOutB Tryz.prog = true := by kernel_rfl
theorem row : (203 : TypeId) < Tryz.prog.types.size := of_decide_eq_true (by kernel_rfl)
theorem cells : Tryz.prog.cellsOf 203 = 2 := by kernel_rfl
theorem wide : (match Tryz.prog.underlying 203 with | some (.array _ _) | some (.struct _) => true | _ => false) = true := by rw [Tryz.underlying203]
theorem deep : Tryz.prog.keyTypeAt (Tryz.prog.types.size + 1) 203 = true := by kernel_rfl
set_option maxRecDepth 100000 in
theorem law : Keyed Tryz.prog 203 := Keyed.of_law (deep_law_laid laidOut (m := 2) (by omega) row (by kernel_rfl) wide)
theorem formed {c0 c1 : Value} : (Value.agg #[c0, c1]).formed Tryz.prog 203 = true := by simp [Value.formed, Tryz.underlying203, cells]
theorem zero (w : World) : (zeroValue 3).run Tryz.prog w = .ok (.int .i64 0) w := by kernel_rfl
def Wf (a i : Int) : Prop := (Lit.int .i64 a).wf = true ∧ (Lit.int .i64 i).wf = true
theorem wf_no {a i : Int} (ha : NoOk a) (hi : NoOk i) : Wf a i := by
  unfold NoOk at ha hi
  exact ⟨WalkArith.wf_i64 (by omega), WalkArith.wf_i64 (by omega)⟩
theorem wf_amt {x : Int} (h : Amt x) : (Lit.int .i64 x).wf = true := by
  unfold Amt at h
  exact WalkArith.wf_i64 (by omega)
def kl (a i : Int) : Lit := .string (keyBytes [.int .i64 a, .int .i64 i])
theorem lits (a i : Int) (h : Wf a i) : Tryz.prog.keyLits (Tryz.prog.types.size + 1) 203 [.int .i64 a, .int .i64 i] = some [.int .i64 a, .int .i64 i] := by
  obtain ⟨m, hm⟩ : ∃ m, Tryz.prog.types.size = m + 1 := Nat.exists_eq_succ_of_ne_zero (Nat.ne_of_gt (Nat.lt_of_le_of_lt (Nat.zero_le _) row))
  rw [hm]
  have c3 : Tryz.prog.cellsOf 3 = 1 := by kernel_rfl
  simp [Program.keyLits, Tryz.underlying203, cells, c3, Tryz.underlying3, h.1, h.2]
theorem key_of {a i : Int} (h : Wf a i) : keyOf Tryz.prog 203 (.agg #[.int .i64 a, .int .i64 i]) = some (kl a i) := by
  have l := lits a i h
  unfold keyOf
  rw [Tryz.underlying203]
  have kt : Tryz.prog.keyType 203 = true := deep
  simp only [kt, formed, Bool.and_self, if_true]
  show Option.map _ (Tryz.prog.keyLits (Tryz.prog.types.size + 1) 203 [.int .i64 a, .int .i64 i]) = _
  rw [l]
  rfl
set_option maxRecDepth 100000 in
theorem key_inv {v : Value} {l : Lit} (h : keyOf Tryz.prog 203 v = some l) : ∃ x : Int × Int, v = .agg #[.int .i64 x.1, .int .i64 x.2] ∧ Wf x.1 x.2 ∧ l = kl x.1 x.2 := by
  obtain ⟨xs, L, rfl, h1, rfl⟩ := keyOf_top wide h
  obtain ⟨m, hm⟩ : ∃ m, Tryz.prog.types.size = m + 1 := Nat.exists_eq_succ_of_ne_zero (Nat.ne_of_gt (Nat.lt_of_le_of_lt (Nat.zero_le _) row))
  rw [hm] at h1
  have c3 : Tryz.prog.cellsOf 3 = 1 := by kernel_rfl
  obtain ⟨xs⟩ := xs
  match xs, h1 with
  | [], h1 => simp [Program.keyLits, Tryz.underlying203, cells] at h1
  | [_], h1 => simp [Program.keyLits, Tryz.underlying203, cells] at h1
  | _ :: _ :: _ :: _, h1 => simp [Program.keyLits, Tryz.underlying203, cells] at h1
  | [v0, v1], h1 =>
    cases v0 <;> cases v1 <;> simp [Program.keyLits, Tryz.underlying203, cells, c3, Tryz.underlying3] at h1
    rename_i q0 a q1 i
    by_cases c0 : q0 = .i64 ∧ (Lit.int .i64 a).wf = true
    · by_cases c1 : q1 = .i64 ∧ (Lit.int .i64 i).wf = true
      · obtain ⟨rfl, w0⟩ := c0
        obtain ⟨rfl, w1⟩ := c1
        simp [w0, w1] at h1
        subst h1
        exact ⟨(a, i), rfl, ⟨w0, w1⟩, rfl⟩
      · simp [c0, c1] at h1
    · simp [c0] at h1
theorem kl_inj {a i b j : Int} (h : Wf a i) (k : Wf b j) (e : kl a i = kl b j) : a = b ∧ i = j := by
  have := law.inj (key_of h) (e ▸ key_of k)
  simpa using this
theorem kl_key {a i : Int} (h : Wf a i) : WideAt.IsKeyLit (kl a i) := law.key (key_of h)
abbrev D0 : Type := DataW Unit
def Tells (D : D0) (f : Int → Int → Int) : Prop := (∀ a i, Wf a i → D.atKey (kl a i) (.lit (.int .i64 0)) = .lit (.int .i64 (f a i))) ∧ ∀ a i, f a i ≠ 0 → Wf a i
def Tab (w : World) (B n : Nat) (f : Int → Int → Int) : Prop := ∃ D : D0, w.ownsMap Tryz.prog 203 (plainElem Tryz.prog 3) B n D ∧ Tells D f
theorem tab_made (w : World) : Tab (w.alloc (.map #[] 0)) w.heap.size 0 (fun _ _ => 0) :=
  ⟨.map [], World.ownsMap_made _ _ _ _, fun a i h => rfl, fun a i h => absurd rfl h⟩
theorem Tab.lt {w : World} {B n : Nat} {f : Int → Int → Int} (h : Tab w B n f) : B < w.heap.size := by
  obtain ⟨D, h1, _⟩ := h
  exact h1.lt
theorem Tab.kept {w w' : World} {B n : Nat} {f : Int → Int → Int} {row : Option Nat} (h : Tab w B n f) (hg : w.grownBy w' row) (hne : some B ≠ row) : Tab w' B n f := by
  obtain ⟨D, h1, h2⟩ := h
  exact ⟨D, h1.kept hg hne, h2⟩
theorem below_grown {b : Nat} {w w' : World} (h : Below b w w') (hb : b = w.heap.size) : w.grownBy w' none := by
  subst hb
  exact ⟨h.os, h.tape, h.output, h.size, fun k hk _ => h.block k hk⟩
theorem Tab.below {w w' : World} {B n : Nat} {f : Int → Int → Int} (h : Tab w B n f) (k : Below w.heap.size w w') : Tab w' B n f := h.kept (below_grown k rfl) (by simp)
theorem Tab.congr {w : World} {B n : Nat} {f g : Int → Int → Int} (h : Tab w B n f) (e : ∀ a i, f a i = g a i) : Tab w B n g := by
  have : f = g := funext fun a => funext fun i => e a i
  exact this ▸ h
theorem tells_put {D : D0} {f : Int → Int → Int} (h : Tells D f) (hD : Maps.IsMap D) {a i v : Int} (hw : Wf a i) : Tells (D.put (kl a i) (.lit (.int .i64 v))) (upd f a i v) := by
  refine ⟨fun b j hb => ?_, fun b j hb => ?_⟩
  · by_cases e : b = a ∧ j = i
    · obtain ⟨rfl, rfl⟩ := e
      rw [upd_same, Maps.atKey_put_same hD (kl_key hw)]
    · rw [upd_other _ _ _ _ _ _ e, Maps.atKey_put_other (fun q => e (kl_inj hb hw q)), h.1 b j hb]
  · by_cases e : b = a ∧ j = i
    · obtain ⟨rfl, rfl⟩ := e
      exact hw
    · rw [upd_other _ _ _ _ _ _ e] at hb
      exact h.2 b j hb
theorem isMap_of {w : World} {k : TypeId} {R : Value → Option (D0 × List MemPlace)} {B n : Nat} {D : D0} (h : w.ownsMap Tryz.prog k R B n D) : Maps.IsMap D := by
  obtain ⟨es, clock, _, _, _, rfl⟩ := h
  exact ⟨_, rfl⟩
theorem wp_put (w : World) {ops : Array Oper} {rest : List Oper} {o : Oper} {s : Act} {Q : Exit → Act → World → Prop}
    (hg : o.guard = none) (m x y : Operand) (t : TypeId) (hop : o.op = Op.mapUpdate t m x y) (ht : Tryz.prog.underlying t = some (.map 203 3)) (B n : Nat) (f : Int → Int → Int) (hm : s.eval m = .map (some B)) (hown : Tab w B n f) (hn : n ≤ 1048576)
    (a i v : Int) (hx : s.eval x = .agg #[.int .i64 a, .int .i64 i]) (hy : s.eval y = .int .i64 v) (hw : Wf a i) (hv : (Lit.int .i64 v).wf = true)
    (hK : ∀ w', Tab w' B (n + 1) (upd f a i v) → w.grownBy w' (some B) → wpList Tryz.prog ops Q rest (s.put o.dst undef) w') : wpList Tryz.prog ops Q (o :: rest) s w := by
  obtain ⟨D, h1, h2⟩ := hown
  refine wpList_mapUpdate_own w hg m x y t hop 203 3 law ht _ B n D hm h1 (by unfold maxLen; omega) _ _ (kl a i) hx hy (key_of hw) (.lit (.int .i64 v)) [] (plainElem_int Tryz.underlying3 hv) ?_
  intro w' h3 h4
  exact hK w' ⟨_, h3, tells_put h2 (isMap_of h1) hw⟩ h4
def RTab (w : World) (B r n : Nat) (f : Int → Int → Int) (left : Int → Int → Bool) (cnt : Nat) : Prop :=
  ∃ (D : D0) (lf : Lit → Bool), w.ranges Tryz.prog 203 (plainElem Tryz.prog 3) B r n D lf cnt ∧ Tells D f ∧ ∀ a i, Wf a i → left a i = lf (kl a i)
theorem RTab.lt {w : World} {B r n : Nat} {f : Int → Int → Int} {left : Int → Int → Bool} {cnt : Nat} (h : RTab w B r n f left cnt) : B < w.heap.size ∧ r < w.heap.size ∧ r ≠ B ∧ w.rangeLeft B r = cnt := by
  obtain ⟨D, lf, h1, _⟩ := h
  exact ⟨h1.owns.lt, h1.lt, h1.ne, h1.left_eq⟩
theorem RTab.kept {w w' : World} {B r n : Nat} {f : Int → Int → Int} {left : Int → Int → Bool} {cnt : Nat} {row : Option Nat} (h : RTab w B r n f left cnt) (hg : w.grownBy w' row) (hb : some B ≠ row) (hr : some r ≠ row) : RTab w' B r n f left cnt := by
  obtain ⟨D, lf, h1, h2⟩ := h
  exact ⟨D, lf, h1.kept hg hb hr, h2⟩
theorem wp_range (w : World) {ops : Array Oper} {rest : List Oper} {o : Oper} {s : Act} {Q : Exit → Act → World → Prop}
    (hg : o.guard = none) (m : Operand) (t : TypeId) (hop : o.op = Op.range t m) (ht : Tryz.prog.underlying t = some (.map 203 3)) (B n : Nat) (f : Int → Int → Int) (hm : s.eval m = .map (some B)) (hown : Tab w B n f)
    (hK : ∀ w' left cnt, RTab w' B w.heap.size n f left cnt → cnt ≤ n → (∀ a i, f a i ≠ 0 → left a i = true) → w.grownBy w' none → w'.heap.size = w.heap.size + 1 → wpList Tryz.prog ops Q rest (s.put o.dst (.pointer (some ⟨w.heap.size, 0, none⟩))) w') : wpList Tryz.prog ops Q (o :: rest) s w := by
  obtain ⟨D, h1, h2⟩ := hown
  refine wpList_range_own w hg m t hop 203 3 law ht _ B n D hm h1 ?_
  intro w' h3 h4 h5
  refine hK w' (fun a i => Maps.has D (kl a i)) (Maps.size D) ⟨D, Maps.has D, h3, h2, fun a i _ => rfl⟩ ?_ ?_ h4 h5
  · obtain ⟨es, clock, _, _, hs, rfl⟩ := h1
    rw [Maps.size_eq, length_sorted]
    simpa using hs
  · intro a i hf
    refine Classical.byContradiction fun nh => ?_
    have nh : Maps.has D (kl a i) = false := by simpa using nh
    have e := h2.1 a i (h2.2 a i hf)
    rw [Maps.atKey_of_not_has nh] at e
    have : (0 : Int) = f a i := by simpa using e
    exact hf this.symm
set_option maxRecDepth 100000 in
theorem wp_next (w : World) {ops : Array Oper} {rest : List Oper} {o : Oper} {s : Act} {Q : Exit → Act → World → Prop}
    (hg : o.guard = none) (it : Operand) (hop : o.op = Op.next it false) (B r n : Nat) (f : Int → Int → Int) (left : Int → Int → Bool) (cnt : Nat) (hit : s.eval it = .pointer (some ⟨r, 0, none⟩)) (h : RTab w B r n f left cnt)
    (hDone : cnt = 0 → (∀ a i, Wf a i → left a i = false) → wpList Tryz.prog ops Q rest (s.put o.dst (.tuple #[.bool false])) w)
    (hMore : ∀ (a i : Int) (w' : World) (left' : Int → Int → Bool) (cnt' : Nat), Wf a i → (Lit.int .i64 (f a i)).wf = true → left a i = true → (∀ b j, Wf b j → left' b j = (left b j && !decide (b = a ∧ j = i))) → RTab w' B r n f left' cnt' → cnt' < cnt → w.grownBy w' (some r) → w'.heap.size = w.heap.size →
      (Instr.entry (.pointer (some ⟨r, 0, none⟩))).run Tryz.prog w' = .ok (.tuple #[.agg #[.int .i64 a, .int .i64 i], .int .i64 (f a i)]) w' → wpList Tryz.prog ops Q rest (s.put o.dst (.tuple #[.bool true, .agg #[.int .i64 a, .int .i64 i], .int .i64 (f a i)])) w') :
    wpList Tryz.prog ops Q (o :: rest) s w := by
  obtain ⟨D, lf, h1, h2, h3⟩ := h
  refine wpList_next_ranges (α := Int × Int) (β := Int) w hg it hop 203 law (plainElem Tryz.prog 3) (fun x => .agg #[.int .i64 x.1, .int .i64 x.2]) (Value.int .i64) (fun key l hk => by obtain ⟨x, e, _⟩ := key_inv hk; exact ⟨x, e⟩) (fun v y hv => by obtain ⟨c, rfl, _⟩ := plainElem_int_inv Tryz.underlying3 hv; exact ⟨c, rfl⟩) B r n D lf cnt hit h1 ?_ ?_
  · intro h4 h5
    exact hDone h4 (fun a i hw => by rw [h3 a i hw, h5])
  · intro x c l y w' cnt' hkey hlk hv hat hrg hlt hgr hsz hen
    obtain ⟨⟨a, i⟩, e, hw, rfl⟩ := key_inv hkey
    obtain ⟨c', ec, rfl, hwc⟩ := plainElem_int_inv Tryz.underlying3 hv
    cases ec
    obtain ⟨x1, x2⟩ := x
    obtain ⟨rfl, rfl⟩ : x1 = a ∧ x2 = i := by simpa using e
    have ef : f x1 x2 = c := by
      have := h2.1 x1 x2 hw
      rw [hat] at this
      simpa using this.symm
    subst ef
    refine hMore x1 x2 w' (fun b j => lf (kl b j) && !(kl b j).sameKey (kl x1 x2)) cnt' hw hwc (by rw [h3 x1 x2 hw]; exact hlk) (fun b j hb => ?_) ⟨D, _, hrg, h2, fun b j _ => rfl⟩ hlt hgr hsz hen
    rw [h3 b j hb]
    congr 2
    by_cases q : b = x1 ∧ j = x2
    · obtain ⟨rfl, rfl⟩ := q
      rw [WideAt.sameKey_self (kl_key hb)]
      simp
    · rw [Maps.sameKey_ne (fun e => q (kl_inj hb hw e))]
      simp [q]
end Go.Proofs.YtagmnociflkhcaaGreat.Tab
namespace Go.Proofs.YtagmnociflkhcaaGreat.SOk3
open Go.ChangeShapes Go.WideShapes Go.ChangeAt Go.RowKit Bals Triples
theorem sIn (x lo hi : Int) (b : Bool) (w : World) (hb : Says b (lo ≤ x ∧ x ≤ hi)) :
    Calls Tryz.prog 35 #[.int .i64 x, .int .i64 lo, .int .i64 hi] w fun e w' => e = .returned (.bool b) ∧ w' = w := by
  by_cases h1 : lo ≤ x
  · by_cases h2 : x ≤ hi
    · obtain rfl : b = true := hb.of ⟨h1, h2⟩
      clear hb
      go_enter Tryz.func35, Tryz.ntmps35
      go_wp2
      go_ret
      exact ⟨rfl, rfl⟩
    · obtain rfl : b = false := hb.not (fun r => h2 r.2)
      clear hb
      go_enter Tryz.func35, Tryz.ntmps35
      go_wp2
      go_ret
      exact ⟨rfl, rfl⟩
  · obtain rfl : b = false := hb.not (fun r => h1 r.1)
    clear hb
    go_enter Tryz.func35, Tryz.ntmps35
    go_wp2
    go_ret
    exact ⟨rfl, rfl⟩
theorem sNo (x : Int) (b : Bool) (w : World) (hb : Says b (NoOk x)) :
    Calls Tryz.prog 121 #[.int .i64 x] w fun e w' => e = .returned (.bool b) ∧ w' = w := by
  go_enter Tryz.func121, Tryz.ntmps121
  go_wp2_with fail
  refine (sIn x 1 1000 b _ hb).mono ?_
  rintro e w' ⟨rfl, rfl⟩
  go_wp2
  go_ret
  exact ⟨rfl, rfl⟩
theorem sAmt (x : Int) (b : Bool) (w : World) (hb : Says b (Amt x)) :
    Calls Tryz.prog 122 #[.int .i64 x] w fun e w' => e = .returned (.bool b) ∧ w' = w := by
  go_enter Tryz.func122, Tryz.ntmps122
  go_wp2_with fail
  refine (sIn x (-1000000000000000) 1000000000000000 b _ hb).mono ?_
  rintro e w' ⟨rfl, rfl⟩
  go_wp2
  go_ret
  exact ⟨rfl, rfl⟩
theorem sBefore (a i c j : Int) (b : Bool) (w : World) (hb : Says b (a < c ∨ (a = c ∧ i < j))) :
    Calls Tryz.prog 123 #[.int .i64 a, .int .i64 i, .int .i64 c, .int .i64 j] w fun e w' => e = .returned (.bool b) ∧ w' = w := by
  by_cases h1 : a < c
  · obtain rfl : b = true := hb.of (.inl h1)
    clear hb
    go_enter Tryz.func123, Tryz.ntmps123
    go_wp2
    go_ret
    exact ⟨rfl, rfl⟩
  · by_cases h2 : a = c
    · subst h2
      by_cases h3 : i < j
      · obtain rfl : b = true := hb.of (.inr ⟨rfl, h3⟩)
        clear hb
        go_enter Tryz.func123, Tryz.ntmps123
        go_wp2
        go_ret
        exact ⟨rfl, rfl⟩
      · obtain rfl : b = false := hb.not (fun r => by omega)
        clear hb
        go_enter Tryz.func123, Tryz.ntmps123
        go_wp2
        go_ret
        exact ⟨rfl, rfl⟩
    · obtain rfl : b = false := hb.not (fun r => by omega)
      clear hb
      go_enter Tryz.func123, Tryz.ntmps123
      go_wp2
      go_ret
      exact ⟨rfl, rfl⟩
theorem one_more (w : World) (o : Obj) : Below w.heap.size w (w.alloc o) := (Below.refl _ _).alloc (Nat.le_refl _) _
set_option maxRecDepth 100000 in
set_option maxHeartbeats 4000000 in
theorem sOk (w : World) (g n cap : Nat) (ps : List T3) (ok : Bool) (hl : ps.length = n) (h20 : n ≤ 1048576) (hg : g < w.heap.size) (h : At3 w g ps) (hok : Says ok (Right ps)) :
    Calls Tryz.prog 97 #[.slice (some ⟨g, 0, none⟩) n cap] w fun e w' => e = .returned (.bool ok) ∧ Below w.heap.size w w' := by
  by_cases nn : (160 : Int) < (n : Int)
  · obtain rfl : ok = false := hok.not (fun r => by have := r.1; omega)
    clear hok h
    go_enter Tryz.func97, Tryz.ntmps97
    go_wp2
    go_ret
    exact ⟨rfl, Below.refl _ _⟩
  have H := hide h
  clear h
  go_enter Tryz.func97, Tryz.ntmps97
  go_wp2
  go_loopw [3, 4] (fun i _ wr => ∃ (k : Nat), k ≤ n ∧ i = .int .i64 k ∧ Below w.heap.size w wr ∧ Hid (∀ i, i < k → RowOk ps i)) (fun i _ _ => n - (intOf i).toNat)
  case atStart => exact ⟨0, by omega, rfl, Below.refl _ _, hide (fun i hi => absurd hi (by omega))⟩
  case round =>
    obtain ⟨k, hk, rfl, hb, HG⟩ := hrel
    by_cases t : k < n
    · have hA := (unhide H).below hb hg
      obtain ⟨e1, e2, e3⟩ := hA k (by omega)
      have e4 : 0 < k → wr.cell? ⟨g, (k - 1) * 3, none⟩ = some (.int .i64 (el3 ps (k - 1)).1) := fun k0 => (hA (k - 1) (by omega)).1
      have e5 : 0 < k → wr.cell? ⟨g, (k - 1) * 3 + 1, none⟩ = some (.int .i64 (el3 ps (k - 1)).2.1) := fun k0 => (hA (k - 1) (by omega)).2.1
      have gs : g < wr.heap.size := Nat.lt_of_lt_of_le hg hb.size
      have gne : g ≠ wr.heap.size := by omega
      clear hA
      have HB := hide hb
      clear hb
      obtain ⟨b1, B1⟩ := says_of (NoOk (el3 ps k).1)
      obtain ⟨b2, B2⟩ := says_of (NoOk (el3 ps k).2.1)
      obtain ⟨b3, B3⟩ := says_of (Amt (el3 ps k).2.2)
      obtain ⟨b4, B4⟩ := says_of ((el3 ps (k - 1)).1 < (el3 ps k).1 ∨ ((el3 ps (k - 1)).1 = (el3 ps k).1 ∧ (el3 ps (k - 1)).2.1 < (el3 ps k).2.1))
      have ROW := hide (show RowOk ps k ↔ (b1 = true) ∧ (b2 = true) ∧ (b3 = true) ∧ (el3 ps k).2.2 ≠ 0 ∧ (0 < k → b4 = true) from by unfold Says at B1 B2 B3 B4; rw [B1, B2, B3, B4]; exact Iff.rfl)
      have BAD := hide (show ¬ RowOk ps k → ok = false from fun hr => hok.not (fun r => hr (r.2 k (by omega))))
      have GOOD := hide (show RowOk ps k → ∀ i, i < k + 1 → RowOk ps i from fun hr i hi => by
        by_cases e : i = k
        · subst e; exact hr
        · exact (unhide HG) i (by omega))
      generalize (el3 ps k).1 = x at *
      generalize (el3 ps k).2.1 = y at *
      generalize (el3 ps k).2.2 = z at *
      generalize (el3 ps (k - 1)).1 = u at *
      generalize (el3 ps (k - 1)).2.1 = v at *
      have NB := hide (fun m => next (unhide HB) (below_drewN (one_more wr (.cells #[.int .i64 x, .int .i64 y, .int .i64 z] 146)) m))
      cases b1
      · clear e4 e5 B4
        have OKF := hide ((unhide BAD) (fun hr => by have := (unhide ROW).1 hr; cases this.1))
        clear BAD GOOD ROW
        go_wp2_with fail
        go_quiet (first | (go_at_call 121; refine Calls.quiet_of_same (sNo _ false _ B1)))
        go_wp2
        go_ret
        exact ⟨by rw [unhide OKF]; rfl, (unhide NB) _⟩
      · cases b2
        · clear e4 e5 B4
          have OKF := hide ((unhide BAD) (fun hr => by have := (unhide ROW).1 hr; cases this.2.1))
          clear BAD GOOD ROW
          go_wp2_with fail
          go_quiet (first | (go_at_call 121; refine Calls.quiet_of_same (sNo _ true _ B1)) | (go_at_call 121; refine Calls.quiet_of_same (sNo _ false _ B2)))
          go_wp2
          go_ret
          exact ⟨by rw [unhide OKF]; rfl, (unhide NB) _⟩
        · cases b3
          · clear e4 e5 B4
            have OKF := hide ((unhide BAD) (fun hr => by have := (unhide ROW).1 hr; cases this.2.2.1))
            clear BAD GOOD ROW
            go_wp2_with fail
            go_quiet (first | (go_at_call 121; refine Calls.quiet_of_same (sNo _ true _ B1)) | (go_at_call 121; refine Calls.quiet_of_same (sNo _ true _ B2)) | (go_at_call 122; refine Calls.quiet_of_same (sAmt _ false _ B3)))
            go_wp2
            go_ret
            exact ⟨by rw [unhide OKF]; rfl, (unhide NB) _⟩
          · by_cases z0 : z = 0
            · subst z0
              clear e4 e5 B4
              have OKF := hide ((unhide BAD) (fun hr => by have := (unhide ROW).1 hr; exact this.2.2.2.1 rfl))
              clear BAD GOOD ROW
              go_wp2_with fail
              go_quiet (first | (go_at_call 121; refine Calls.quiet_of_same (sNo _ true _ B1)) | (go_at_call 121; refine Calls.quiet_of_same (sNo _ true _ B2)) | (go_at_call 122; refine Calls.quiet_of_same (sAmt _ true _ B3)))
              go_wp2
              go_ret
              exact ⟨by rw [unhide OKF]; rfl, (unhide NB) _⟩
            · have zb : (z == 0) = false := by simpa using z0
              by_cases k0 : 0 < k
              · have e4 := e4 k0
                have e5 := e5 k0
                have k1 : (0 : Int) < (k : Int) := by omega
                have k2 : (0 : Int) ≤ (k : Int) - 1 := by omega
                have k3 : ((k : Int) - 1).toNat = k - 1 := by omega
                have k4 : IntKind.i64.wrap ((k : Int) - 1) = (k : Int) - 1 := by rw [IntKind.wrap_i64]; omega
                have k5 : (k : Int) - 1 < (n : Int) := by omega
                cases b4
                · have OKF := hide ((unhide BAD) (fun hr => by have := (unhide ROW).1 hr; cases this.2.2.2.2 k0))
                  clear BAD GOOD ROW
                  go_wp2_with fail
                  go_quiet (first | (go_at_call 121; refine Calls.quiet_of_same (sNo _ true _ B1)) | (go_at_call 121; refine Calls.quiet_of_same (sNo _ true _ B2)) | (go_at_call 122; refine Calls.quiet_of_same (sAmt _ true _ B3)) | (go_at_call 123; refine Calls.quiet_of_same (sBefore _ _ _ _ false _ B4)))
                  go_wp2
                  go_ret
                  exact ⟨by rw [unhide OKF]; rfl, (unhide NB) _⟩
                · have GO := hide ((unhide GOOD) ((unhide ROW).2 ⟨rfl, rfl, rfl, z0, fun _ => rfl⟩))
                  clear BAD GOOD ROW
                  go_wp2_with fail
                  go_quiet (first | (go_at_call 121; refine Calls.quiet_of_same (sNo _ true _ B1)) | (go_at_call 121; refine Calls.quiet_of_same (sNo _ true _ B2)) | (go_at_call 122; refine Calls.quiet_of_same (sAmt _ true _ B3)) | (go_at_call 123; refine Calls.quiet_of_same (sBefore _ _ _ _ true _ B4)))
                  go_wp2
                  go_roundw
                  case rel => exact ⟨k + 1, by omega, by go_num, (unhide NB) _, GO⟩
                  case measure => simp [intOf]; omega
              · obtain rfl : k = 0 := by omega
                clear e4 e5 B4
                have GO := hide ((unhide GOOD) ((unhide ROW).2 ⟨rfl, rfl, rfl, z0, fun h0 => absurd h0 k0⟩))
                clear BAD GOOD ROW
                go_wp2_with fail
                go_quiet (first | (go_at_call 121; refine Calls.quiet_of_same (sNo _ true _ B1)) | (go_at_call 121; refine Calls.quiet_of_same (sNo _ true _ B2)) | (go_at_call 122; refine Calls.quiet_of_same (sAmt _ true _ B3)))
                go_wp2
                go_roundw
                case rel => exact ⟨1, by omega, by go_num, (unhide NB) _, GO⟩
                case measure => simp [intOf]; omega
    · obtain rfl : k = n := by omega
      obtain rfl : ok = true := hok.of ⟨by omega, by rw [hl]; exact unhide HG⟩
      have HB := hide hb
      clear hb hok
      go_wp2
      go_ret
      exact ⟨rfl, unhide HB⟩
end Go.Proofs.YtagmnociflkhcaaGreat.SOk3
namespace Go.Proofs.YtagmnociflkhcaaGreat.Look
open Go.ChangeShapes Go.WideShapes Go.ChangeAt Go.RowKit Bals Triples Cmp SOk3 IOk3 Tab
theorem drop_next {ps : List T3} {k : Nat} (h : k < ps.length) : ps.drop k = el3 ps k :: ps.drop (k + 1) := by
  rw [List.drop_eq_getElem_cons h]
  simp [el3, List.getD, h]
theorem val_hit {ps : List T3} {k : Nat} {a i : Int} (h : k < ps.length) (e : (el3 ps k).1 = a ∧ (el3 ps k).2.1 = i) : val (ps.drop k) a i = (el3 ps k).2.2 := by
  rw [drop_next h]
  unfold val
  rw [if_pos e]
theorem val_miss {ps : List T3} {k : Nat} {a i : Int} (h : k < ps.length) (e : ¬ ((el3 ps k).1 = a ∧ (el3 ps k).2.1 = i)) : val (ps.drop k) a i = val (ps.drop (k + 1)) a i := by
  rw [drop_next h, val, if_neg e]
set_option maxRecDepth 100000 in
theorem sOf (w : World) (g n cap : Nat) (ps : List T3) (a i : Int) (hl : ps.length = n) (h20 : n ≤ 1048576) (h : At3 w g ps) :
    Calls Tryz.prog 130 #[.slice (some ⟨g, 0, none⟩) n cap, .int .i64 a, .int .i64 i] w fun e w' => e = .returned (.int .i64 (val ps a i)) ∧ w' = w := by
  go_enter Tryz.func130, Tryz.ntmps130
  go_wp2
  go_loop [7] (fun j => ∃ (k : Nat), k ≤ n ∧ j = .int .i64 k ∧ Hid (val ps a i = val (ps.drop k) a i)) (fun j => n - (intOf j).toNat)
  case atStart => exact ⟨0, by omega, rfl, hide rfl⟩
  case round =>
    obtain ⟨k, hk, rfl, HV⟩ := hrel
    by_cases t : k < n
    · obtain ⟨e1, e2, e3⟩ := h k (by omega)
      have HIT := hide (val_hit (ps := ps) (k := k) (a := a) (i := i) (by omega))
      have MISS := hide (val_miss (ps := ps) (k := k) (a := a) (i := i) (by omega))
      clear h
      generalize (el3 ps k).1 = x at *
      generalize (el3 ps k).2.1 = y at *
      generalize (el3 ps k).2.2 = z at *
      by_cases c1 : x = a
      · by_cases c2 : y = i
        · have V := hide ((unhide HV).trans ((unhide HIT) ⟨c1, c2⟩))
          clear HIT MISS HV
          subst c1 c2
          go_wp2
          go_ret
          exact ⟨by rw [unhide V]; rfl, rfl⟩
        · have V := hide ((unhide HV).trans ((unhide MISS) (fun r => c2 r.2)))
          clear HIT MISS HV
          have c2b : (y == i) = false := by simpa using c2
          subst c1
          go_wp2
          go_round
          case rel => exact ⟨k + 1, by omega, by go_num, V⟩
          case measure => simp [intOf]; omega
      · have V := hide ((unhide HV).trans ((unhide MISS) (fun r => c1 r.1)))
        clear HIT MISS HV
        have c1b : (x == a) = false := by simpa using c1
        go_wp2
        go_round
        case rel => exact ⟨k + 1, by omega, by go_num, V⟩
        case measure => simp [intOf]; omega
    · obtain rfl : k = n := by omega
      have V := hide ((unhide HV).trans (show val (ps.drop k) a i = 0 by rw [List.drop_of_length_le (by omega)]; rfl))
      clear HV h
      go_wp2
      go_ret
      exact ⟨by rw [unhide V]; rfl, rfl⟩
theorem val_more (p : T3) : ∀ (l : List T3), (∀ q ∈ l, Bef q p) → ∀ a i, val (l ++ [p]) a i = upd (val l) p.1 p.2.1 p.2.2 a i
  | [], _, a, i => by
    unfold upd
    simp only [List.nil_append, val]
    by_cases e : p.1 = a ∧ p.2.1 = i
    · rw [if_pos e, if_pos ⟨e.1.symm, e.2.symm⟩]
    · rw [if_neg e, if_neg (fun r => e ⟨r.1.symm, r.2.symm⟩)]
  | q :: r, h, a, i => by
    have ih := val_more p r (fun x hx => h x (List.mem_cons_of_mem _ hx)) a i
    have b := h q List.mem_cons_self
    unfold upd at ih ⊢
    simp only [List.cons_append, val, ih]
    by_cases e : q.1 = a ∧ q.2.1 = i
    · rw [if_pos e, if_pos e, if_neg (fun r => by unfold Bef at b; omega)]
    · rw [if_neg e, if_neg e]
theorem val_take {ps : List T3} (h : Right ps) {k : Nat} (hk : k < ps.length) : ∀ a i, val (ps.take (k + 1)) a i = upd (val (ps.take k)) (el3 ps k).1 (el3 ps k).2.1 (el3 ps k).2.2 a i := by
  rw [take_next hk]
  refine val_more _ _ (fun q hq => ?_)
  obtain ⟨j, hj, rfl⟩ := mem_getD hq
  have hj' : j < k := by simp at hj; omega
  have := h.asc k j hj' hk
  simpa [el3, List.getD, hj', show j < ps.length by omega] using this
theorem sTold (x : Int) (b c : Bool) (r : Int) (w : World) (h : (b = true ∧ Amt x ∧ r = x ∧ c = true) ∨ (¬ (b = true ∧ Amt x) ∧ r = 0 ∧ c = false)) :
    Calls Tryz.prog 136 #[.int .i64 x, .bool b] w fun e w' => e = .returned (.tuple #[.int .i64 r, .bool c]) ∧ w' = w := by
  obtain ⟨d, D⟩ := says_of (Amt x)
  cases b
  · rcases h with ⟨h1, _⟩ | ⟨_, rfl, rfl⟩
    · cases h1
    · go_enter Tryz.func136, Tryz.ntmps136
      go_wp2
      go_ret2
      exact ⟨rfl, rfl⟩
  · cases d
    · rcases h with ⟨_, h1, _⟩ | ⟨_, rfl, rfl⟩
      · exact absurd h1 D.no
      · go_enter Tryz.func136, Tryz.ntmps136
        go_wp2_with fail
        refine (sAmt x false _ D).mono ?_
        rintro e w1 ⟨rfl, rfl⟩
        go_wp2
        go_ret2
        exact ⟨rfl, rfl⟩
    · rcases h with ⟨_, h1, rfl, rfl⟩ | ⟨h1, _⟩
      · clear h1
        go_enter Tryz.func136, Tryz.ntmps136
        go_wp2_with fail
        refine (sAmt r true _ D).mono ?_
        rintro e w1 ⟨rfl, rfl⟩
        go_wp2
        go_ret2
        exact ⟨rfl, rfl⟩
      · exact absurd ⟨rfl, D.yes⟩ h1
theorem iOnly (x : Int) (c : Bool) (r : Int) (w : World) (h : (Amt x ∧ r = x ∧ c = true) ∨ (¬ Amt x ∧ r = 0 ∧ c = false)) :
    Calls Tryz.prog 180 #[.int .i64 x] w fun e w' => e = .returned (.tuple #[.int .i64 r, .bool c]) ∧ w' = w := by
  obtain ⟨d, D⟩ := says_of (Amt x)
  cases d
  · rcases h with ⟨h1, _⟩ | ⟨_, rfl, rfl⟩
    · exact absurd h1 D.no
    · go_enter Tryz.func180, Tryz.ntmps180
      go_wp2_with fail
      refine (iAmt x false _ D).mono ?_
      rintro e w1 ⟨rfl, rfl⟩
      go_wp2
      go_ret2
      exact ⟨rfl, rfl⟩
  · rcases h with ⟨h1, rfl, rfl⟩ | ⟨h1, _⟩
    · clear h1
      go_enter Tryz.func180, Tryz.ntmps180
      go_wp2_with fail
      refine (iAmt r true _ D).mono ?_
      rintro e w1 ⟨rfl, rfl⟩
      go_wp2
      go_ret2
      exact ⟨rfl, rfl⟩
    · exact absurd D.yes h1
theorem sum_near {ps : List T3} (i : Int) (hl : ps.length ≤ 160) (h : ∀ j, j < ps.length → Amt (el3 ps j).2.2) (k : Nat) (hk : k ≤ ps.length) : -200000000000000000 ≤ sumI (ps.take k) i ∧ sumI (ps.take k) i ≤ 200000000000000000 := by
  have := sumI_bound i h k hk
  omega
set_option maxRecDepth 100000 in
theorem sSum (w : World) (g n cap : Nat) (ps : List T3) (i r : Int) (c : Bool) (hl : ps.length = n) (h20 : n ≤ 1048576) (hg : g < w.heap.size) (h : At3 w g ps) (hs : IsSum ps i r c) :
    Calls Tryz.prog 127 #[.slice (some ⟨g, 0, none⟩) n cap, .int .i64 i] w fun e w' => e = .returned (.tuple #[.int .i64 r, .bool c]) ∧ Below w.heap.size w w' := by
  obtain ⟨ok, OK⟩ := says_of (Right ps)
  have H := hide h
  have HS := hide hs
  clear h hs
  go_enter Tryz.func127, Tryz.ntmps127
  go_wp2
  go_loopw [6, 7] (fun s j wr => ∃ (k : Nat), k ≤ n ∧ j = .int .i64 k ∧ s = .int .i64 (sumI (ps.take k) i) ∧ Below w.heap.size w wr ∧ (ok = false → k = 0)) (fun _ j _ => n - (intOf j).toNat)
  case atStart => exact ⟨0, by omega, rfl, rfl, Below.refl _ _, fun _ => rfl⟩
  case round =>
    obtain ⟨k, hk, rfl, rfl, hb, hf⟩ := hrel
    have A := hide ((unhide H).below hb hg)
    have HB := hide hb
    have sz := hb.size
    clear hb
    cases ok
    · obtain rfl : k = 0 := hf rfl
      by_cases t : 0 < n
      · go_wp2_with fail
        refine (sOk _ g n cap ps false hl h20 (by omega) (unhide A) OK).mono ?_
        rintro e w1 ⟨rfl, b1⟩
        have A1 := hide ((unhide A).below b1 (by omega))
        have B1 := hide (next (unhide HB) b1)
        have s1 := b1.size
        clear b1
        have z0 : sumI [] i = 0 := rfl
        rw [z0]
        go_wp2_with fail
        refine (sOk _ g n cap ps false hl h20 (by omega) (unhide A1) OK).mono ?_
        rintro e w2 ⟨rfl, b2⟩
        have B2 := hide (next (unhide B1) b2)
        clear b2
        go_wp2_with fail
        refine (sTold 0 false c r _ (by
          rcases unhide HS with ⟨h1, _⟩ | ⟨_, h2, h3⟩
          · exact absurd h1 OK.no
          · exact .inr ⟨fun q => (by have := q.1; cases this), h2, h3⟩)).mono ?_
        rintro e w3 ⟨rfl, rfl⟩
        go_wp2
        go_ret2
        exact ⟨rfl, unhide B2⟩
      · exact absurd (show Right ps from ⟨by omega, fun i hi => by omega⟩) OK.no
    · have RB := hide (fun k hk => sum_near (ps := ps) i OK.yes.1 (fun j hj => (OK.yes.2 j hj).2.2.1) k hk)
      by_cases t : k < n
      · go_wp2_with fail
        refine (sOk _ g n cap ps true hl h20 (by omega) (unhide A) OK).mono ?_
        rintro e w1 ⟨rfl, b1⟩
        obtain ⟨e1, e2, e3⟩ := ((unhide A).below b1 (by omega)) k (by omega)
        have B1 := hide (next (unhide HB) b1)
        clear b1
        have SN := hide (sumI_next (ps := ps) (k := k) (by omega) i)
        have R1 := hide ((unhide RB) (k + 1) (by omega))
        rw [unhide SN] at R1
        generalize (el3 ps k).1 = x at *
        generalize (el3 ps k).2.1 = y at *
        generalize (el3 ps k).2.2 = z at *
        generalize sumI (ps.take k) i = S at *
        by_cases c1 : y = i
        · rw [if_pos c1] at SN R1
          have R2 := unhide R1
          have wr1 : IntKind.i64.wrap (S + z) = S + z := by rw [IntKind.wrap_i64]; omega
          clear R2
          subst c1
          go_wp2
          go_roundw
          case rel => exact ⟨k + 1, by omega, by go_num, by rw [unhide SN], unhide B1, fun q => by cases q⟩
          case measure => simp [intOf]; omega
        · rw [if_neg c1] at SN R1
          have c1b : (y == i) = false := by simpa using c1
          have SN := hide ((unhide SN).trans (Int.add_zero S))
          go_wp2
          go_roundw
          case rel => exact ⟨k + 1, by omega, by go_num, by rw [unhide SN], unhide B1, fun q => by cases q⟩
          case measure => simp [intOf]; omega
      · obtain rfl : k = n := by omega
        have e0 : sumI (ps.take k) i = sumI ps i := by rw [List.take_of_length_le (by omega)]
        rw [e0]
        clear e0
        go_wp2_with fail
        refine (sOk _ g k cap ps true hl h20 (by omega) (unhide A) OK).mono ?_
        rintro e w2 ⟨rfl, b2⟩
        have B2 := hide (next (unhide HB) b2)
        clear b2
        go_wp2_with fail
        refine (sTold (sumI ps i) true c r _ (by
          rcases unhide HS with ⟨h1, h2, h3, h4⟩ | ⟨h1, h2, h3⟩
          · exact .inl ⟨rfl, h2, h3, h4⟩
          · exact .inr ⟨fun q => h1 ⟨OK.yes, q.2⟩, h2, h3⟩)).mono ?_
        rintro e w3 ⟨rfl, rfl⟩
        go_wp2
        go_ret2
        exact ⟨rfl, unhide B2⟩
set_option maxRecDepth 100000 in
theorem iSum (w : World) (g n cap : Nat) (ps : List T3) (i r : Int) (c : Bool) (hl : ps.length = n) (h20 : n ≤ 1048576) (hg : g < w.heap.size) (h : At3 w g ps) (hs : IsSum ps i r c) :
    Calls Tryz.prog 163 #[.slice (some ⟨g, 0, none⟩) n cap, .int .i64 i] w fun e w' => e = .returned (.tuple #[.int .i64 r, .bool c]) ∧ Below w.heap.size w w' := by
  obtain ⟨ok, OK⟩ := says_of (Right ps)
  have H := hide h
  have HS := hide hs
  clear h hs
  go_enter Tryz.func163, Tryz.ntmps163
  go_wp2_with fail
  refine (iOk _ g n cap ps ok hl h20 hg (unhide H) OK).mono ?_
  rintro e w1 ⟨rfl, b1⟩
  have B1 := hide b1
  clear b1
  cases ok
  · obtain ⟨rfl, rfl⟩ : r = 0 ∧ c = false := by
      rcases unhide HS with ⟨h1, _⟩ | ⟨_, h2, h3⟩
      · exact absurd h1 OK.no
      · exact ⟨h2, h3⟩
    go_wp2
    go_ret2
    exact ⟨rfl, unhide B1⟩
  have RB := hide (fun k hk => sum_near (ps := ps) i OK.yes.1 (fun j hj => (OK.yes.2 j hj).2.2.1) k hk)
  go_wp2
  go_loopw [6, 8, 14] (fun s _ j wr => ∃ (k : Nat), k ≤ n ∧ j = .int .i64 k ∧ s = .int .i64 (sumI (ps.take k) i) ∧ Below w.heap.size w wr) (fun _ _ j _ => n - (intOf j).toNat)
  case atStart => exact ⟨0, by omega, rfl, rfl, unhide B1⟩
  case round =>
    obtain ⟨k, hk, rfl, rfl, hb⟩ := hrel
    have A := hide ((unhide H).below hb hg)
    have HB := hide hb
    clear hb
    by_cases t : k < n
    · obtain ⟨e1, e2, e3⟩ := (unhide A) k (by omega)
      have SN := hide (sumI_next (ps := ps) (k := k) (by omega) i)
      have R1 := hide ((unhide RB) (k + 1) (by omega))
      rw [unhide SN] at R1
      generalize (el3 ps k).1 = x at *
      generalize (el3 ps k).2.1 = y at *
      generalize (el3 ps k).2.2 = z at *
      generalize sumI (ps.take k) i = S at *
      have NB := hide ((unhide HB).alloc (unhide HB).size (.cells #[.int .i64 x, .int .i64 y, .int .i64 z] 146))
      by_cases c1 : y = i
      · rw [if_pos c1] at SN R1
        have R2 := unhide R1
        have wr1 : IntKind.i64.wrap (S + z) = S + z := by rw [IntKind.wrap_i64]; omega
        clear R2
        subst c1
        go_wp2
        go_roundw
        case rel => exact ⟨k + 1, by omega, by go_num, by rw [unhide SN], unhide NB⟩
        case measure => simp [intOf]; omega
      · rw [if_neg c1] at SN R1
        have c1b : (y == i) = false := by simpa using c1
        have SN := hide ((unhide SN).trans (Int.add_zero S))
        go_wp2
        go_roundw
        case rel => exact ⟨k + 1, by omega, by go_num, by rw [unhide SN], unhide NB⟩
        case measure => simp [intOf]; omega
    · obtain rfl : k = n := by omega
      have e0 : sumI (ps.take k) i = sumI ps i := by rw [List.take_of_length_le (by omega)]
      rw [e0]
      clear e0
      go_wp2_with fail
      refine (iOnly (sumI ps i) c r _ (by
        rcases unhide HS with ⟨h1, h2, h3, h4⟩ | ⟨h1, h2, h3⟩
        · exact .inl ⟨h2, h3, h4⟩
        · exact .inr ⟨fun q => h1 ⟨OK.yes, q⟩, h2, h3⟩)).mono ?_
      rintro e w3 ⟨rfl, rfl⟩
      go_wp2
      go_ret2
      exact ⟨rfl, unhide HB⟩
theorem sum_is (ps : List T3) (i : Int) : ∃ r c, IsSum ps i r c := by
  by_cases h : Right ps ∧ Amt (sumI ps i)
  · exact ⟨_, _, .inl ⟨h.1, h.2, rfl, rfl⟩⟩
  · exact ⟨_, _, .inr ⟨h, rfl, rfl⟩⟩
end Go.Proofs.YtagmnociflkhcaaGreat.Look
namespace Go.Proofs.YtagmnociflkhcaaGreat.IBalsFit
open Go.ChangeShapes Go.WideShapes Go.ChangeAt Go.RowKit BMem Bks IRead IHave ITrade ILists
open Lots (Says says_of NoOk)
open Bals (T3 el3 val sumI)
open Triples (At3 Holds3)
theorem all_one {p : Int → Prop} {y : Int} {b : Bool} (h : Says b (p y)) : Says b (∀ z ∈ [y], p z) := by
  constructor
  · intro e z hz
    simp at hz
    subst hz
    exact h.1 e
  · intro e
    exact h.2 (e y (by simp))
structure St (w W : World) (x : Bx) : Prop where
  r : Rd W x
  c : Cl W w.heap.size x
  b : Below w.heap.size w W
  s : w.heap.size < W.heap.size
theorem St.step {w W W' : World} {x : Bx} (h : St w W x) (k : Below W.heap.size W W') : St w W' x :=
  ⟨h.r.below k, h.c.below k h.s, h.b.trans (k.mono (Nat.le_of_lt h.s)), Nat.lt_of_lt_of_le h.s k.size⟩
theorem St.start {w : World} {x : Bx} (h : Rd w x) (e : TypeId) : St w (w.alloc (.cells #[.slice (some ⟨x.ga, 0, none⟩) x.b.ac.length x.ca, .slice (some ⟨x.gi, 0, none⟩) x.b.ic.length x.ci, .slice (some ⟨x.gb, 0, none⟩) x.b.bs.length x.cb, .slice (some ⟨x.gl, 0, none⟩) x.b.ls.length x.cl, .slice (some ⟨x.gt, 0, none⟩) x.b.ts.length x.ct, .int .i64 x.b.lot] e)) x :=
  ⟨h.alloc _, boxed w x e, (Below.refl w.heap.size w).alloc (Nat.le_refl _) _, by simp⟩
theorem one_more (w : World) (o : Obj) : Below w.heap.size w (w.alloc o) := (Below.refl _ _).alloc (Nat.le_refl _) _
set_option maxRecDepth 100000 in
set_option maxHeartbeats 4000000 in
theorem iBalsFit (w : World) (x : Bx) (b : Bool) (h : Rd w x) (hl : Lists x.b) (hb : Says b (BalsFit x.b)) :
    Calls Tryz.prog 153 #[.agg #[.slice (some ⟨x.ga, 0, none⟩) x.b.ac.length x.ca, .slice (some ⟨x.gi, 0, none⟩) x.b.ic.length x.ci, .slice (some ⟨x.gb, 0, none⟩) x.b.bs.length x.cb, .slice (some ⟨x.gl, 0, none⟩) x.b.ls.length x.cl, .slice (some ⟨x.gt, 0, none⟩) x.b.ts.length x.ct, .int .i64 x.b.lot]] w fun e w' => e = .returned (.bool b) ∧ Below w.heap.size w w' := by
  have T := hide hb
  have L := hide hl
  have S0 := hide (St.start h 40)
  have nb := h.nb
  have ni := h.ni
  have G0 := hide h.lb
  have G1 := hide h.li
  have A0 := hide h.rb
  have A1 := hide h.ri
  clear hb hl h
  go_enter Tryz.func153, Tryz.ntmps153
  go_wp2
  go_loopw [12] (fun i wr => ∃ (k : Nat), k ≤ x.b.bs.length ∧ i = .int .i64 k ∧ St w wr x ∧ Hid (∀ j, j < k → BalFit x.b (el3 x.b.bs j))) (fun i _ => x.b.bs.length - (intOf i).toNat)
  case atStart => exact ⟨0, by omega, rfl, unhide S0, hide (fun i hi => absurd hi (by omega))⟩
  case round =>
    obtain ⟨k, hk, rfl, hS, HG⟩ := hrel
    clear S0
    by_cases t : k < x.b.bs.length
    · obtain ⟨d0, d1, d2⟩ := (hS.r.rb k t)
      obtain ⟨c0, c1, c2, c3, c4, c5⟩ := hS.c
      have BAD := hide (show ¬ BalFit x.b (el3 x.b.bs k) → b = false from fun hr => (unhide T).not (fun r => hr (r.1 k t)))
      have GOOD := hide (show BalFit x.b (el3 x.b.bs k) → ∀ i, i < k + 1 → BalFit x.b (el3 x.b.bs i) from fun hr i hi => by
        by_cases e : i = k
        · subst e; exact hr
        · exact (unhide HG) i (by omega))
      have FIT := hide (show BalFit x.b (el3 x.b.bs k) ↔ kindOf x.b.ac (el3 x.b.bs k).1 ≠ 0 ∧ kindOf x.b.ic (el3 x.b.bs k).2.1 ≠ 0 ∧ ¬ (kindOf x.b.ac (el3 x.b.bs k).1 = 1 ∧ (el3 x.b.bs k).2.2 < 0) from Iff.rfl)
      have wz := hS.s
      have S1 := hide (hS.step (one_more wr (.cells #[.int .i64 (el3 x.b.bs k).1, .int .i64 (el3 x.b.bs k).2.1, .int .i64 (el3 x.b.bs k).2.2] 146)))
      clear hS
      generalize (el3 x.b.bs k).1 = y0 at *
      generalize (el3 x.b.bs k).2.1 = y1 at *
      generalize (el3 x.b.bs k).2.2 = y2 at *
      obtain ⟨b0, h0⟩ := says_of (kindOf x.b.ac y0 ≠ 0)
      obtain ⟨b1, h1⟩ := says_of (kindOf x.b.ic y1 ≠ 0)
      obtain ⟨b2, h2⟩ := says_of (kindOf x.b.ac y0 = 1)
      have H0 := hide h0
      have H1 := hide h1
      have H2 := hide h2
      clear h0 h1 h2
      go_wp2_with fail
      have S2 := hide ((unhide S1).step (one_more _ (.cells #[.int .i64 y0] 3)))
      refine (iHaveAccounts _ x (wr.heap.size + 1) 1 1 [y0] b0 (unhide S2).r (unhide L).1 rfl (by omega) (by simp) (at_new _ [y0] _ (by simp) rfl) (all_one (unhide H0))).mono ?_
      rintro e w1 ⟨rfl, bb⟩
      have S3 := hide ((unhide S2).step bb)
      have f0 : w1.cell? ⟨wr.heap.size, 0, none⟩ = some (.int .i64 y0) := (bb.cell (p := ⟨wr.heap.size, 0, none⟩) (by simp; omega)).trans (by simp)
      have f1 : w1.cell? ⟨wr.heap.size, 1, none⟩ = some (.int .i64 y1) := (bb.cell (p := ⟨wr.heap.size, 1, none⟩) (by simp; omega)).trans (by simp)
      have f2 : w1.cell? ⟨wr.heap.size, 2, none⟩ = some (.int .i64 y2) := (bb.cell (p := ⟨wr.heap.size, 2, none⟩) (by simp; omega)).trans (by simp)
      have z1 : wr.heap.size < w1.heap.size := by have := bb.size; simp at this; omega
      clear bb c0 c1 c2 c3 c4 c5 d0 d1 d2
      obtain ⟨c0, c1, c2, c3, c4, c5⟩ := (unhide S3).c
      cases b0
      · have F := hide ((unhide BAD) (fun hh => (unhide H0).no ((unhide FIT).1 hh).1))
        clear BAD GOOD FIT T
        go_wp2
        go_ret
        exact ⟨by rw [unhide F]; rfl, (unhide S3).b⟩
      go_wp2_with fail
      have S4 := hide ((unhide S3).step (one_more _ (.cells #[.int .i64 y1] 3)))
      refine (iHaveInstrs _ x w1.heap.size 1 1 [y1] b1 (unhide S4).r (unhide L).2.1 rfl (by omega) (by simp) (at_new _ [y1] _ rfl rfl) (all_one (unhide H1))).mono ?_
      rintro e w2 ⟨rfl, bb⟩
      have S5 := hide ((unhide S4).step bb)
      have g0 : w2.cell? ⟨wr.heap.size, 0, none⟩ = some (.int .i64 y0) := (bb.cell (p := ⟨wr.heap.size, 0, none⟩) (by simp; omega)).trans ((World.cell?_alloc_past _ _ _ z1).trans f0)
      have g2 : w2.cell? ⟨wr.heap.size, 2, none⟩ = some (.int .i64 y2) := (bb.cell (p := ⟨wr.heap.size, 2, none⟩) (by simp; omega)).trans ((World.cell?_alloc_past _ _ _ z1).trans f2)
      clear bb c0 c1 c2 c3 c4 c5 f0 f1 f2
      obtain ⟨c0, c1, c2, c3, c4, c5⟩ := (unhide S5).c
      cases b1
      · have F := hide ((unhide BAD) (fun hh => (unhide H1).no ((unhide FIT).1 hh).2.1))
        clear BAD GOOD FIT T
        go_wp2
        go_ret
        exact ⟨by rw [unhide F]; rfl, (unhide S5).b⟩
      by_cases q : y2 < 0
      · go_wp2_with fail
        refine (iHolder _ x y0 b2 (unhide S5).r (unhide L).1 (unhide H2)).mono ?_
        rintro e w3 ⟨rfl, bb⟩
        have S6 := hide ((unhide S5).step bb)
        clear bb c0 c1 c2 c3 c4 c5
        cases b2
        · have G := hide ((unhide GOOD) ((unhide FIT).2 ⟨(unhide H0).yes, (unhide H1).yes, fun r => (unhide H2).no r.1⟩))
          clear BAD GOOD FIT
          go_wp2
          go_roundw
          case rel => exact ⟨k + 1, by omega, by go_num, unhide S6, G⟩
          case measure => simp [intOf]; omega
        · have F := hide ((unhide BAD) (fun hh => ((unhide FIT).1 hh).2.2 ⟨(unhide H2).yes, q⟩))
          clear BAD GOOD FIT T
          go_wp2
          go_ret
          exact ⟨by rw [unhide F]; rfl, (unhide S6).b⟩
      · have G := hide ((unhide GOOD) ((unhide FIT).2 ⟨(unhide H0).yes, (unhide H1).yes, fun r => q r.2⟩))
        have hq : decide (y2 < 0) = false := decide_eq_false q
        clear BAD GOOD FIT q
        go_wp2
        go_roundw
        case rel => exact ⟨k + 1, by omega, by go_num, unhide S5, G⟩
        case measure => simp [intOf]; omega
    · have ALL := hide (show ∀ k, k < x.b.bs.length → BalFit x.b (el3 x.b.bs k) from fun j hj => (unhide HG) j (by omega))
      obtain ⟨c0, c1, c2, c3, c4, c5⟩ := hS.c
      have S1 := hide hS
      clear hS HG
      go_wp2
      go_loopw [43] (fun i wr => ∃ (k : Nat), k ≤ x.b.ic.length ∧ i = .int .i64 k ∧ St w wr x ∧ Hid (∀ j, j < k → sumI x.b.bs (Chart.el x.b.ic j).1 = 0)) (fun i _ => x.b.ic.length - (intOf i).toNat)
      case atStart => exact ⟨0, by omega, rfl, unhide S1, hide (fun i hi => absurd hi (by omega))⟩
      case round =>
        clear c0 c1 c2 c3 c4 c5 S1 hk t
        obtain ⟨k, hk, rfl, hS, HG⟩ := hrel
        by_cases t : k < x.b.ic.length
        · obtain ⟨d0, d1⟩ := (hS.r.ri k t)
          have c2 := hS.c.c2
          have S1 := hide (hS.step (one_more _ (.cells #[.int .i64 (Chart.el x.b.ic k).1, .int .i64 (Chart.el x.b.ic k).2] 144)))
          have wz := hS.s
          clear hS
          have BAD := hide (show sumI x.b.bs (Chart.el x.b.ic k).1 ≠ 0 → b = false from fun hr => (unhide T).not (fun r => hr (r.2 _)))
          have GOOD := hide (show sumI x.b.bs (Chart.el x.b.ic k).1 = 0 → ∀ i, i < k + 1 → sumI x.b.bs (Chart.el x.b.ic i).1 = 0 from fun hr i hi => by
            by_cases e : i = k
            · subst e; exact hr
            · exact (unhide HG) i (by omega))
          generalize (Chart.el x.b.ic k).1 = y0 at *
          generalize (Chart.el x.b.ic k).2 = y1 at *
          obtain ⟨r, c, hs⟩ := Look.sum_is x.b.bs y0
          have Z := hide (sum_zero (unhide L).2.2.1 hs)
          have HS := hide hs
          clear hs
          go_wp2_with fail
          refine (Look.iSum _ x.gb _ x.cb x.b.bs y0 r c rfl nb (unhide S1).r.lb (unhide S1).r.rb (unhide HS)).mono ?_
          rintro e w1 ⟨rfl, bb⟩
          have S2 := hide ((unhide S1).step bb)
          clear bb c2 d0 d1
          cases c
          · have F := hide ((unhide BAD) (fun e => by have := (unhide Z).2 e; cases this.1))
            clear BAD GOOD T
            go_wp2
            go_ret
            exact ⟨by rw [unhide F]; rfl, (unhide S2).b⟩
          by_cases q : r = 0
          · have G := hide ((unhide GOOD) ((unhide Z).1 ⟨rfl, q⟩))
            have hq : (r != 0) = false := by simp [q]
            clear BAD GOOD q
            go_wp2
            go_roundw
            case rel => exact ⟨k + 1, by omega, by go_num, unhide S2, G⟩
            case measure => simp [intOf]; omega
          · have F := hide ((unhide BAD) (fun e => q ((unhide Z).2 e).2))
            have hq : (r != 0) = true := by simp [q]
            clear BAD GOOD T q
            go_wp2
            go_ret
            exact ⟨by rw [unhide F]; rfl, (unhide S2).b⟩
        · have F := hide ((unhide T).of (bals_impl (unhide ALL) (fun j hj => (unhide HG) j (by omega))))
          have S1 := hide hS
          clear hS
          go_wp2
          go_ret
          exact ⟨by rw [unhide F]; rfl, (unhide S1).b⟩
end Go.Proofs.YtagmnociflkhcaaGreat.IBalsFit
namespace Go.Proofs.YtagmnociflkhcaaGreat.AccountHelp
open Go.ChangeShapes Go.WideShapes Go.ChangeAt Go.RowKit Pairs
theorem info2 : (Tryz.prog.info? 143).map (fun i => (i.zero, i.size, i.bytes)) = some (some (.agg #[.int .i64 0, .int .i64 0]), 2, 16) := by kernel_rfl
set_option maxRecDepth 100000 in
theorem to1 (w : World) (x y : Int) : Calls Tryz.prog 104 #[.agg #[.int .i64 x, .int .i64 y]] w fun e w' => e = .returned (.agg #[.int .i64 x, .int .i64 y]) ∧ Below w.heap.size w w' := by
  go_enter Tryz.func104, Tryz.ntmps104
  go_wp2
  refine bodyPost_ret (v := .agg #[.int .i64 x, .int .i64 y]) (by simp [results, Tryz.results104, go_sem]) rfl ⟨rfl, ?_⟩
  exact (((Below.refl _ _).alloc (Nat.le_refl _) _).alloc (by simp) _).alloc (by simp; omega) _
theorem made_pairs (n : Nat) : (madeCells (Value.agg #[.int .i64 0, .int .i64 0]).cells (n * 2)).toList = flat (List.replicate n (0, 0)) := by
  apply List.ext_getElem?
  intro j
  by_cases hj : j < n * 2
  · have hs : (Value.agg #[Value.int .i64 0, Value.int .i64 0]).cells = #[Value.int .i64 0, Value.int .i64 0] := rfl
    rw [hs]
    obtain ⟨f0, f1⟩ := flat_get (List.replicate n (0, 0)) (j / 2) (by simp; omega)
    have hg : (List.replicate n ((0 : Int), (0 : Int))).getD (j / 2) (0, 0) = (0, 0) := by simp [List.getD, show j / 2 < n by omega]
    rw [hg] at f0 f1
    rcases (show j % 2 = 0 ∨ j % 2 = 1 by omega) with e | e
    · rw [show j / 2 * 2 = j by omega] at f0
      rw [f0]
      simp [madeCells, hj, e]
    · rw [show j / 2 * 2 + 1 = j by omega] at f1
      rw [f1]
      simp [madeCells, hj, e]
  · rw [List.getElem?_eq_none (by simp [madeCells]; omega), List.getElem?_eq_none (by rw [flat_len]; simp; omega)]
def part (ps : List (Int × Int)) (n k : Nat) : List (Int × Int) := ps.take k ++ List.replicate (n - k) (0, 0)
theorem part_zero (ps : List (Int × Int)) (n : Nat) : part ps n 0 = List.replicate n (0, 0) := by simp [part]
theorem part_all (ps : List (Int × Int)) (n : Nat) (h : ps.length = n) : part ps n n = ps := by
  unfold part
  rw [← h]; simp
theorem part_step (ps : List (Int × Int)) (n k : Nat) (h : ps.length = n) (hk : k < n) : ((part ps n k).modify k fun p => ((ps.getD k (0, 0)).1, p.2)).modify k (fun p => (p.1, (ps.getD k (0, 0)).2)) = part ps n (k + 1) := by
  subst h
  unfold part
  apply List.ext_getElem?
  intro j
  have l1 : (ps.take k).length = k := by simp; omega
  have l2 : (ps.take (k + 1)).length = k + 1 := by simp; omega
  rw [List.getElem?_modify, List.getElem?_modify]
  by_cases e : k = j
  · subst e
    rw [List.getElem?_append_right (by omega), List.getElem?_append_left (by omega), List.getElem?_take, if_pos (by omega), l1]
    simp [List.getD, hk, show 0 < ps.length - k by omega]
  · by_cases l : j < k
    · rw [List.getElem?_append_left (by omega), List.getElem?_append_left (by omega), List.getElem?_take, List.getElem?_take, if_pos l, if_pos (by omega)]
      simp [e]
    · rw [List.getElem?_append_right (by omega), List.getElem?_append_right (by omega), l1, l2]
      simp only [List.getElem?_replicate]
      by_cases m : j < ps.length
      · rw [if_pos (by omega), if_pos (by omega)]; simp [e]
      · rw [if_neg (by omega), if_neg (by omega)]; simp [e]
set_option maxRecDepth 100000 in
theorem toS (w : World) (a : Option Addr) (len cap : Nat) (ps : List (Int × Int)) (hl : ps.length = len) (h20 : len ≤ 1048576) (hr : Reads w a ps) :
    Calls Tryz.prog 60 #[.slice a len cap] w fun e w' => e = .returned (.slice (some ⟨w.heap.size, 0, none⟩) len len) ∧ Own 143 w' w.heap.size w.heap.size len len ps ∧ Below w.heap.size w w' := by
  obtain ⟨i0, hi, hz0, hz1, hz2⟩ := info_parts info2
  go_enter Tryz.func60, Tryz.ntmps60
  go_wp2_with (at_make; refine wpList_make_full _ rfl _ _ 34 rfl w.heap.size 143 i0 (.agg #[.int .i64 0, .int .i64 0]) 2 Tryz.underlying34 hi hz0 hz1 .i64 .i64 _ _ len rfl rfl rfl rfl (by rw [hz2]; omega) (by unfold maxLen; omega) (Nat.le_refl _) ?_; intro w1 hown hgrow)
  rw [made_pairs, ← part_zero ps] at hown
  have hb := grownBy_below hgrow
  have hown : Own 143 w1 w.heap.size w.heap.size len len (part ps len 0) := hown
  clear hgrow
  go_loopw [4] (fun i wr => ∃ (k : Nat), k ≤ len ∧ i = .int .i64 k ∧ Own 143 wr w.heap.size w.heap.size len len (part ps len k) ∧ Below w.heap.size w wr) (fun i _ => len - (intOf i).toNat)
  case atStart => exact ⟨0, by omega, rfl, hown, hb⟩
  case round =>
    clear hown hb
    obtain ⟨k, hk, rfl, hown, hb⟩ := hrel
    by_cases t : k < len
    · rcases hr with hz | ⟨b, off, rfl, hlt, hcell⟩
      · omega
      have hc0 := (hb.cell (p := ⟨b, off + k * 2, none⟩) hlt).trans (hcell k (by omega)).1
      have hc1 := (hb.cell (p := ⟨b, off + k * 2 + 1, none⟩) hlt).trans (hcell k (by omega)).2
      clear hcell
      have HO := hide hown
      have HB := hide hb
      clear hown hb
      generalize hx : (ps.getD k (0, 0)).1 = x at *
      generalize hy : (ps.getD k (0, 0)).2 = y at *
      have HX := hide hx
      have HY := hide hy
      clear hx hy
      go_wp2_with fail
      refine (to1 _ x y).mono ?_
      rintro e w2 ⟨rfl, b2⟩
      have o2 := (unhide HO).below b2 (unhide HO).lt.2
      have hb2 := (unhide HB).trans (b2.mono (unhide HB).size)
      clear HO HB b2 hc0 hc1
      have hs := o2.set0 k x
      have hs2 := hs.1.set1 k y
      have hd := o2.at k (by rw [o2.len]; exact t)
      have hd0 := hd.1
      have hd1 := hd.2
      have hf0 := o2.free (k * 2)
      have hf1 := o2.free (k * 2 + 1)
      have HS := hide hs2.1
      have HB := hide ((hb2.setCell (p := ⟨w.heap.size, k * 2, none⟩) (Nat.le_refl _) (.int .i64 x)).setCell (p := ⟨w.heap.size, k * 2 + 1, none⟩) (Nat.le_refl _) (.int .i64 y))
      clear hs hs2 hd o2 hb2
      go_wp2
      go_roundw
      case rel =>
        have o := unhide HS
        rw [← unhide HX, ← unhide HY] at o
        rw [part_step ps len k hl t] at o
        refine ⟨k + 1, by omega, by go_num, ?_, unhide HB⟩
        rw [← unhide HX, ← unhide HY]
        exact o
      case measure => simp [intOf]; omega
    · obtain rfl : k = len := by omega
      rw [part_all ps k hl] at hown
      have HO := hide hown
      have HB := hide hb
      clear hown hb hr
      go_wp2
      go_ret
      exact ⟨rfl, unhide HO, unhide HB⟩
set_option maxRecDepth 100000 in
theorem eq1 (w : World) (x y : Int) : Calls Tryz.prog 111 #[.agg #[.int .i64 x, .int .i64 y], .agg #[.int .i64 x, .int .i64 y]] w fun e w' => e = .returned (.bool true) ∧ w' = (w.alloc (.cells #[.int .i64 x, .int .i64 y] 143)).alloc (.cells #[.int .i64 x, .int .i64 y] 143) := by
  go_enter Tryz.func111, Tryz.ntmps111
  go_wp2
  go_ret
  exact ⟨rfl, rfl⟩
theorem two_more (w : World) (o p : Obj) : Below w.heap.size w ((w.alloc o).alloc p).drew := (((Below.refl _ _).alloc (Nat.le_refl _) _).alloc (by simp) _).drew
set_option maxRecDepth 100000 in
theorem eqS (w : World) (g1 g2 n c1 c2 : Nat) (ps : List (Int × Int)) (hl : ps.length = n) (h20 : n ≤ 1048576) (l1 : g1 < w.heap.size) (l2 : g2 < w.heap.size) (h1 : At w g1 ps) (h2 : At w g2 ps) :
    Calls Tryz.prog 69 #[.slice (some ⟨g1, 0, none⟩) n c1, .slice (some ⟨g2, 0, none⟩) n c2] w fun e w' => e = .returned (.bool true) ∧ Below w.heap.size w w' := by
  go_enter Tryz.func69, Tryz.ntmps69
  go_wp2
  go_loopw [5] (fun i wr => ∃ (k : Nat), k ≤ n ∧ i = .int .i64 k ∧ At wr g1 ps ∧ At wr g2 ps ∧ Below w.heap.size w wr) (fun i _ => n - (intOf i).toNat)
  case atStart => exact ⟨0, by omega, rfl, h1, h2, Below.refl _ _⟩
  case round =>
    clear h1 h2
    obtain ⟨k, hk, rfl, h1, h2, hb⟩ := hrel
    by_cases t : k < n
    · obtain ⟨e1, f1⟩ := h1 k (by omega)
      obtain ⟨e2, f2⟩ := h2 k (by omega)
      have s := hb.size
      have H1 := hide h1
      have H2 := hide h2
      have HB := hide hb
      clear h1 h2 hb
      generalize (ps.getD k (0, 0)).1 = x at *
      generalize (ps.getD k (0, 0)).2 = y at *
      go_wp2_with fail
      go_region_held3 (fun w' => w'.cell? ⟨g1, k * 2, none⟩ = some (.int .i64 x) ∧ w'.cell? ⟨g2, k * 2, none⟩ = some (.int .i64 x) ∧ w'.cell? ⟨g1, k * 2 + 1, none⟩ = some (.int .i64 y) ∧ w'.cell? ⟨g2, k * 2 + 1, none⟩ = some (.int .i64 y)) (go_keep)
        (first | (go_at_call 111; refine (eq1 _ _ _).mono ?_; rintro e w2 ⟨rfl, rfl⟩))
      all_goals (go_wp2; go_roundw)
      all_goals first
        | (have b2 := two_more wr (.cells #[.int .i64 x, .int .i64 y] 143) (.cells #[.int .i64 x, .int .i64 y] 143)
           exact ⟨k + 1, by omega, by go_num, (unhide H1).below b2 (by omega), (unhide H2).below b2 (by omega), next (unhide HB) b2⟩)
        | (simp [intOf]; omega)
    · have HB := hide hb
      clear h1 h2 hb
      go_wp2
      go_ret
      exact ⟨rfl, unhide HB⟩
end Go.Proofs.YtagmnociflkhcaaGreat.AccountHelp
namespace Go.Proofs.YtagmnociflkhcaaGreat.AccountMark
open Go.ChangeShapes Go.WideShapes Go.ChangeAt Go.RowKit Pairs
def marks (s : Int) (n : Nat) : List (Int × Int) := (List.range n).map fun (i : Nat) => (s + 2 * (i : Int), s + 2 * (i : Int) + 1)
theorem sz_yes (a : Option Addr) (len cap : Nat) (l : Int) (w : World) (h : (len : Int) ≤ l) (hl : l ≤ 1048576) :
    Calls Tryz.prog 51 #[.slice a len cap, .int .i64 l] w fun e w' => e = .returned (.int .i64 (l - (len : Int))) ∧ w' = w := by
  have h1 : (0 : Int) ≤ l - (len : Int) := by omega
  have h2 : wrap64 (l - (len : Int)) = l - (len : Int) := by rw [wrap64]; omega
  go_enter Tryz.func51, Tryz.ntmps51
  go_wp2
  go_ret
  exact ⟨rfl, rfl⟩
theorem sz_no (a : Option Addr) (len cap : Nat) (l : Int) (w : World) (h : ¬ (len : Int) ≤ l) (hl : l ≤ 1048576) (h0 : 0 ≤ l) (hm : len ≤ 9223372036854775807) :
    Calls Tryz.prog 51 #[.slice a len cap, .int .i64 l] w fun e w' => e = .returned (.int .i64 (-1)) ∧ w' = w := by
  have h1 : l - (len : Int) < 0 := by omega
  have h2 : wrap64 (l - (len : Int)) = l - (len : Int) := by rw [wrap64]; omega
  go_enter Tryz.func51, Tryz.ntmps51
  go_wp2
  go_ret
  exact ⟨rfl, rfl⟩
end Go.Proofs.YtagmnociflkhcaaGreat.AccountMark
namespace Go.Proofs.YtagmnociflkhcaaGreat.InstrHelp
open Go.ChangeShapes Go.WideShapes Go.ChangeAt Go.RowKit Pairs
theorem info2 : (Tryz.prog.info? 144).map (fun i => (i.zero, i.size, i.bytes)) = some (some (.agg #[.int .i64 0, .int .i64 0]), 2, 16) := by kernel_rfl
set_option maxRecDepth 100000 in
theorem to1 (w : World) (x y : Int) : Calls Tryz.prog 105 #[.agg #[.int .i64 x, .int .i64 y]] w fun e w' => e = .returned (.agg #[.int .i64 x, .int .i64 y]) ∧ Below w.heap.size w w' := by
  go_enter Tryz.func105, Tryz.ntmps105
  go_wp2
  refine bodyPost_ret (v := .agg #[.int .i64 x, .int .i64 y]) (by simp [results, Tryz.results105, go_sem]) rfl ⟨rfl, ?_⟩
  exact (((Below.refl _ _).alloc (Nat.le_refl _) _).alloc (by simp) _).alloc (by simp; omega) _
theorem made_pairs (n : Nat) : (madeCells (Value.agg #[.int .i64 0, .int .i64 0]).cells (n * 2)).toList = flat (List.replicate n (0, 0)) := by
  apply List.ext_getElem?
  intro j
  by_cases hj : j < n * 2
  · have hs : (Value.agg #[Value.int .i64 0, Value.int .i64 0]).cells = #[Value.int .i64 0, Value.int .i64 0] := rfl
    rw [hs]
    obtain ⟨f0, f1⟩ := flat_get (List.replicate n (0, 0)) (j / 2) (by simp; omega)
    have hg : (List.replicate n ((0 : Int), (0 : Int))).getD (j / 2) (0, 0) = (0, 0) := by simp [List.getD, show j / 2 < n by omega]
    rw [hg] at f0 f1
    rcases (show j % 2 = 0 ∨ j % 2 = 1 by omega) with e | e
    · rw [show j / 2 * 2 = j by omega] at f0
      rw [f0]
      simp [madeCells, hj, e]
    · rw [show j / 2 * 2 + 1 = j by omega] at f1
      rw [f1]
      simp [madeCells, hj, e]
  · rw [List.getElem?_eq_none (by simp [madeCells]; omega), List.getElem?_eq_none (by rw [flat_len]; simp; omega)]
def part (ps : List (Int × Int)) (n k : Nat) : List (Int × Int) := ps.take k ++ List.replicate (n - k) (0, 0)
theorem part_zero (ps : List (Int × Int)) (n : Nat) : part ps n 0 = List.replicate n (0, 0) := by simp [part]
theorem part_all (ps : List (Int × Int)) (n : Nat) (h : ps.length = n) : part ps n n = ps := by
  unfold part
  rw [← h]; simp
theorem part_step (ps : List (Int × Int)) (n k : Nat) (h : ps.length = n) (hk : k < n) : ((part ps n k).modify k fun p => ((ps.getD k (0, 0)).1, p.2)).modify k (fun p => (p.1, (ps.getD k (0, 0)).2)) = part ps n (k + 1) := by
  subst h
  unfold part
  apply List.ext_getElem?
  intro j
  have l1 : (ps.take k).length = k := by simp; omega
  have l2 : (ps.take (k + 1)).length = k + 1 := by simp; omega
  rw [List.getElem?_modify, List.getElem?_modify]
  by_cases e : k = j
  · subst e
    rw [List.getElem?_append_right (by omega), List.getElem?_append_left (by omega), List.getElem?_take, if_pos (by omega), l1]
    simp [List.getD, hk, show 0 < ps.length - k by omega]
  · by_cases l : j < k
    · rw [List.getElem?_append_left (by omega), List.getElem?_append_left (by omega), List.getElem?_take, List.getElem?_take, if_pos l, if_pos (by omega)]
      simp [e]
    · rw [List.getElem?_append_right (by omega), List.getElem?_append_right (by omega), l1, l2]
      simp only [List.getElem?_replicate]
      by_cases m : j < ps.length
      · rw [if_pos (by omega), if_pos (by omega)]; simp [e]
      · rw [if_neg (by omega), if_neg (by omega)]; simp [e]
set_option maxRecDepth 100000 in
theorem toS (w : World) (a : Option Addr) (len cap : Nat) (ps : List (Int × Int)) (hl : ps.length = len) (h20 : len ≤ 1048576) (hr : Reads w a ps) :
    Calls Tryz.prog 61 #[.slice a len cap] w fun e w' => e = .returned (.slice (some ⟨w.heap.size, 0, none⟩) len len) ∧ Own 144 w' w.heap.size w.heap.size len len ps ∧ Below w.heap.size w w' := by
  obtain ⟨i0, hi, hz0, hz1, hz2⟩ := info_parts info2
  go_enter Tryz.func61, Tryz.ntmps61
  go_wp2_with (at_make; refine wpList_make_full _ rfl _ _ 35 rfl w.heap.size 144 i0 (.agg #[.int .i64 0, .int .i64 0]) 2 Tryz.underlying35 hi hz0 hz1 .i64 .i64 _ _ len rfl rfl rfl rfl (by rw [hz2]; omega) (by unfold maxLen; omega) (Nat.le_refl _) ?_; intro w1 hown hgrow)
  rw [made_pairs, ← part_zero ps] at hown
  have hb := grownBy_below hgrow
  have hown : Own 144 w1 w.heap.size w.heap.size len len (part ps len 0) := hown
  clear hgrow
  go_loopw [4] (fun i wr => ∃ (k : Nat), k ≤ len ∧ i = .int .i64 k ∧ Own 144 wr w.heap.size w.heap.size len len (part ps len k) ∧ Below w.heap.size w wr) (fun i _ => len - (intOf i).toNat)
  case atStart => exact ⟨0, by omega, rfl, hown, hb⟩
  case round =>
    clear hown hb
    obtain ⟨k, hk, rfl, hown, hb⟩ := hrel
    by_cases t : k < len
    · rcases hr with hz | ⟨b, off, rfl, hlt, hcell⟩
      · omega
      have hc0 := (hb.cell (p := ⟨b, off + k * 2, none⟩) hlt).trans (hcell k (by omega)).1
      have hc1 := (hb.cell (p := ⟨b, off + k * 2 + 1, none⟩) hlt).trans (hcell k (by omega)).2
      clear hcell
      have HO := hide hown
      have HB := hide hb
      clear hown hb
      generalize hx : (ps.getD k (0, 0)).1 = x at *
      generalize hy : (ps.getD k (0, 0)).2 = y at *
      have HX := hide hx
      have HY := hide hy
      clear hx hy
      go_wp2_with fail
      refine (to1 _ x y).mono ?_
      rintro e w2 ⟨rfl, b2⟩
      have o2 := (unhide HO).below b2 (unhide HO).lt.2
      have hb2 := (unhide HB).trans (b2.mono (unhide HB).size)
      clear HO HB b2 hc0 hc1
      have hs := o2.set0 k x
      have hs2 := hs.1.set1 k y
      have hd := o2.at k (by rw [o2.len]; exact t)
      have hd0 := hd.1
      have hd1 := hd.2
      have hf0 := o2.free (k * 2)
      have hf1 := o2.free (k * 2 + 1)
      have HS := hide hs2.1
      have HB := hide ((hb2.setCell (p := ⟨w.heap.size, k * 2, none⟩) (Nat.le_refl _) (.int .i64 x)).setCell (p := ⟨w.heap.size, k * 2 + 1, none⟩) (Nat.le_refl _) (.int .i64 y))
      clear hs hs2 hd o2 hb2
      go_wp2
      go_roundw
      case rel =>
        have o := unhide HS
        rw [← unhide HX, ← unhide HY] at o
        rw [part_step ps len k hl t] at o
        refine ⟨k + 1, by omega, by go_num, ?_, unhide HB⟩
        rw [← unhide HX, ← unhide HY]
        exact o
      case measure => simp [intOf]; omega
    · obtain rfl : k = len := by omega
      rw [part_all ps k hl] at hown
      have HO := hide hown
      have HB := hide hb
      clear hown hb hr
      go_wp2
      go_ret
      exact ⟨rfl, unhide HO, unhide HB⟩
set_option maxRecDepth 100000 in
theorem eq1 (w : World) (x y : Int) : Calls Tryz.prog 112 #[.agg #[.int .i64 x, .int .i64 y], .agg #[.int .i64 x, .int .i64 y]] w fun e w' => e = .returned (.bool true) ∧ w' = (w.alloc (.cells #[.int .i64 x, .int .i64 y] 144)).alloc (.cells #[.int .i64 x, .int .i64 y] 144) := by
  go_enter Tryz.func112, Tryz.ntmps112
  go_wp2
  go_ret
  exact ⟨rfl, rfl⟩
theorem two_more (w : World) (o p : Obj) : Below w.heap.size w ((w.alloc o).alloc p).drew := (((Below.refl _ _).alloc (Nat.le_refl _) _).alloc (by simp) _).drew
set_option maxRecDepth 100000 in
theorem eqS (w : World) (g1 g2 n c1 c2 : Nat) (ps : List (Int × Int)) (hl : ps.length = n) (h20 : n ≤ 1048576) (l1 : g1 < w.heap.size) (l2 : g2 < w.heap.size) (h1 : At w g1 ps) (h2 : At w g2 ps) :
    Calls Tryz.prog 70 #[.slice (some ⟨g1, 0, none⟩) n c1, .slice (some ⟨g2, 0, none⟩) n c2] w fun e w' => e = .returned (.bool true) ∧ Below w.heap.size w w' := by
  go_enter Tryz.func70, Tryz.ntmps70
  go_wp2
  go_loopw [5] (fun i wr => ∃ (k : Nat), k ≤ n ∧ i = .int .i64 k ∧ At wr g1 ps ∧ At wr g2 ps ∧ Below w.heap.size w wr) (fun i _ => n - (intOf i).toNat)
  case atStart => exact ⟨0, by omega, rfl, h1, h2, Below.refl _ _⟩
  case round =>
    clear h1 h2
    obtain ⟨k, hk, rfl, h1, h2, hb⟩ := hrel
    by_cases t : k < n
    · obtain ⟨e1, f1⟩ := h1 k (by omega)
      obtain ⟨e2, f2⟩ := h2 k (by omega)
      have s := hb.size
      have H1 := hide h1
      have H2 := hide h2
      have HB := hide hb
      clear h1 h2 hb
      generalize (ps.getD k (0, 0)).1 = x at *
      generalize (ps.getD k (0, 0)).2 = y at *
      go_wp2_with fail
      go_region_held3 (fun w' => w'.cell? ⟨g1, k * 2, none⟩ = some (.int .i64 x) ∧ w'.cell? ⟨g2, k * 2, none⟩ = some (.int .i64 x) ∧ w'.cell? ⟨g1, k * 2 + 1, none⟩ = some (.int .i64 y) ∧ w'.cell? ⟨g2, k * 2 + 1, none⟩ = some (.int .i64 y)) (go_keep)
        (first | (go_at_call 112; refine (eq1 _ _ _).mono ?_; rintro e w2 ⟨rfl, rfl⟩))
      all_goals (go_wp2; go_roundw)
      all_goals first
        | (have b2 := two_more wr (.cells #[.int .i64 x, .int .i64 y] 144) (.cells #[.int .i64 x, .int .i64 y] 144)
           exact ⟨k + 1, by omega, by go_num, (unhide H1).below b2 (by omega), (unhide H2).below b2 (by omega), next (unhide HB) b2⟩)
        | (simp [intOf]; omega)
    · have HB := hide hb
      clear h1 h2 hb
      go_wp2
      go_ret
      exact ⟨rfl, unhide HB⟩
end Go.Proofs.YtagmnociflkhcaaGreat.InstrHelp
namespace Go.Proofs.YtagmnociflkhcaaGreat.InstrMark
open Go.ChangeShapes Go.WideShapes Go.ChangeAt Go.RowKit Pairs
def marks (s : Int) (n : Nat) : List (Int × Int) := (List.range n).map fun (i : Nat) => (s + 2 * (i : Int), s + 2 * (i : Int) + 1)
theorem sz_yes (a : Option Addr) (len cap : Nat) (l : Int) (w : World) (h : (len : Int) ≤ l) (hl : l ≤ 1048576) :
    Calls Tryz.prog 52 #[.slice a len cap, .int .i64 l] w fun e w' => e = .returned (.int .i64 (l - (len : Int))) ∧ w' = w := by
  have h1 : (0 : Int) ≤ l - (len : Int) := by omega
  have h2 : wrap64 (l - (len : Int)) = l - (len : Int) := by rw [wrap64]; omega
  go_enter Tryz.func52, Tryz.ntmps52
  go_wp2
  go_ret
  exact ⟨rfl, rfl⟩
theorem sz_no (a : Option Addr) (len cap : Nat) (l : Int) (w : World) (h : ¬ (len : Int) ≤ l) (hl : l ≤ 1048576) (h0 : 0 ≤ l) (hm : len ≤ 9223372036854775807) :
    Calls Tryz.prog 52 #[.slice a len cap, .int .i64 l] w fun e w' => e = .returned (.int .i64 (-1)) ∧ w' = w := by
  have h1 : l - (len : Int) < 0 := by omega
  have h2 : wrap64 (l - (len : Int)) = l - (len : Int) := by rw [wrap64]; omega
  go_enter Tryz.func52, Tryz.ntmps52
  go_wp2
  go_ret
  exact ⟨rfl, rfl⟩
end Go.Proofs.YtagmnociflkhcaaGreat.InstrMark
namespace Go.Proofs.YtagmnociflkhcaaGreat.BalHelp
open Go.ChangeShapes Go.WideShapes Go.ChangeAt Go.RowKit Bals Triples
theorem info2 : (Tryz.prog.info? 146).map (fun i => (i.zero, i.size, i.bytes)) = some (some (.agg #[.int .i64 0, .int .i64 0, .int .i64 0]), 3, 24) := by kernel_rfl
set_option maxRecDepth 100000 in
theorem to1 (w : World) (x y z : Int) : Calls Tryz.prog 106 #[.agg #[.int .i64 x, .int .i64 y, .int .i64 z]] w fun e w' => e = .returned (.agg #[.int .i64 x, .int .i64 y, .int .i64 z]) ∧ Below w.heap.size w w' := by
  go_enter Tryz.func106, Tryz.ntmps106
  go_wp2
  refine bodyPost_ret (v := .agg #[.int .i64 x, .int .i64 y, .int .i64 z]) (by simp [results, Tryz.results106, go_sem]) rfl ⟨rfl, ?_⟩
  exact (((Below.refl _ _).alloc (Nat.le_refl _) _).alloc (by simp) _).alloc (by simp; omega) _
theorem made_triples (n : Nat) : (madeCells (Value.agg #[.int .i64 0, .int .i64 0, .int .i64 0]).cells (n * 3)).toList = flat3 (List.replicate n (0, 0, 0)) := by
  apply List.ext_getElem?
  intro j
  by_cases hj : j < n * 3
  · have hs : (Value.agg #[Value.int .i64 0, Value.int .i64 0, Value.int .i64 0]).cells = #[Value.int .i64 0, Value.int .i64 0, Value.int .i64 0] := rfl
    rw [hs]
    obtain ⟨f0, f1, f2⟩ := flat3_get (List.replicate n (0, 0, 0)) (j / 3) (by simp; omega)
    have hg : (List.replicate n ((0 : Int), (0 : Int), (0 : Int))).getD (j / 3) (0, 0, 0) = (0, 0, 0) := by simp [List.getD, show j / 3 < n by omega]
    unfold el3 at f0 f1 f2
    rw [hg] at f0 f1 f2
    rcases (show j % 3 = 0 ∨ j % 3 = 1 ∨ j % 3 = 2 by omega) with e | e | e
    · rw [show j / 3 * 3 = j by omega] at f0
      rw [f0]
      simp [madeCells, hj, e]
    · rw [show j / 3 * 3 + 1 = j by omega] at f1
      rw [f1]
      simp [madeCells, hj, e]
    · rw [show j / 3 * 3 + 2 = j by omega] at f2
      rw [f2]
      simp [madeCells, hj, e]
  · rw [List.getElem?_eq_none (by simp [madeCells]; omega), List.getElem?_eq_none (by rw [flat3_len]; simp; omega)]
def part (ps : List T3) (n k : Nat) : List T3 := ps.take k ++ List.replicate (n - k) (0, 0, 0)
theorem part_zero (ps : List T3) (n : Nat) : part ps n 0 = List.replicate n (0, 0, 0) := by simp [part]
theorem part_all (ps : List T3) (n : Nat) (h : ps.length = n) : part ps n n = ps := by
  unfold part
  rw [← h]; simp
theorem part_step (ps : List T3) (n k : Nat) (h : ps.length = n) (hk : k < n) : (((part ps n k).modify k fun p => ((el3 ps k).1, p.2)).modify k (fun p => (p.1, (el3 ps k).2.1, p.2.2))).modify k (fun p => (p.1, p.2.1, (el3 ps k).2.2)) = part ps n (k + 1) := by
  subst h
  unfold part
  apply List.ext_getElem?
  intro j
  have l1 : (ps.take k).length = k := by simp; omega
  have l2 : (ps.take (k + 1)).length = k + 1 := by simp; omega
  rw [List.getElem?_modify, List.getElem?_modify, List.getElem?_modify]
  by_cases e : k = j
  · subst e
    rw [List.getElem?_append_right (by omega), List.getElem?_append_left (by omega), List.getElem?_take, if_pos (by omega), l1]
    simp [List.getD, hk, show 0 < ps.length - k by omega]
  · by_cases l : j < k
    · rw [List.getElem?_append_left (by omega), List.getElem?_append_left (by omega), List.getElem?_take, List.getElem?_take, if_pos l, if_pos (by omega)]
      simp [e]
    · rw [List.getElem?_append_right (by omega), List.getElem?_append_right (by omega), l1, l2]
      simp only [List.getElem?_replicate]
      by_cases m : j < ps.length
      · rw [if_pos (by omega), if_pos (by omega)]; simp [e]
      · rw [if_neg (by omega), if_neg (by omega)]; simp [e]
set_option maxRecDepth 100000 in
theorem toS (w : World) (a : Option Addr) (len cap : Nat) (ps : List T3) (hl : ps.length = len) (h20 : len ≤ 1048576) (hr : Reads3 w a ps) :
    Calls Tryz.prog 62 #[.slice a len cap] w fun e w' => e = .returned (.slice (some ⟨w.heap.size, 0, none⟩) len len) ∧ Own3 146 w' w.heap.size w.heap.size len len ps ∧ Below w.heap.size w w' := by
  obtain ⟨i0, hi, hz0, hz1, hz2⟩ := info_parts info2
  go_enter Tryz.func62, Tryz.ntmps62
  go_wp2_with (at_make; refine wpList_make_full _ rfl _ _ 36 rfl w.heap.size 146 i0 (.agg #[.int .i64 0, .int .i64 0, .int .i64 0]) 3 Tryz.underlying36 hi hz0 hz1 .i64 .i64 _ _ len rfl rfl rfl rfl (by rw [hz2]; omega) (by unfold maxLen; omega) (Nat.le_refl _) ?_; intro w1 hown hgrow)
  rw [made_triples, ← part_zero ps] at hown
  have hb := grownBy_below hgrow
  have hown : Own3 146 w1 w.heap.size w.heap.size len len (part ps len 0) := hown
  clear hgrow
  go_loopw [4] (fun i wr => ∃ (k : Nat), k ≤ len ∧ i = .int .i64 k ∧ Own3 146 wr w.heap.size w.heap.size len len (part ps len k) ∧ Below w.heap.size w wr) (fun i _ => len - (intOf i).toNat)
  case atStart => exact ⟨0, by omega, rfl, hown, hb⟩
  case round =>
    clear hown hb
    obtain ⟨k, hk, rfl, hown, hb⟩ := hrel
    by_cases t : k < len
    · rcases hr with hz | ⟨b, off, rfl, hlt, hcell⟩
      · omega
      have hc0 := (hb.cell (p := ⟨b, off + k * 3, none⟩) hlt).trans (hcell k (by omega)).1
      have hc1 := (hb.cell (p := ⟨b, off + k * 3 + 1, none⟩) hlt).trans (hcell k (by omega)).2.1
      have hc2 := (hb.cell (p := ⟨b, off + k * 3 + 2, none⟩) hlt).trans (hcell k (by omega)).2.2
      clear hcell
      have HO := hide hown
      have HB := hide hb
      clear hown hb
      have PS := hide (part_step ps len k hl t)
      generalize (el3 ps k).1 = x at *
      generalize (el3 ps k).2.1 = y at *
      generalize (el3 ps k).2.2 = z at *
      go_wp2_with fail
      refine (to1 _ x y z).mono ?_
      rintro e w2 ⟨rfl, b2⟩
      have o2 := (unhide HO).below b2 (unhide HO).lt.2
      have hb2 := (unhide HB).trans (b2.mono (unhide HB).size)
      clear HO HB b2 hc0 hc1 hc2
      have hs := o2.set0 k x
      have hs2 := hs.1.set1 k y
      have hs3 := hs2.1.set2 k z
      have hd := o2.at k (by rw [o2.len]; exact t)
      have hd0 := hd.1
      have hd1 := hd.2.1
      have hd2 := hd.2.2
      have hf0 := o2.free (k * 3)
      have hf1 := o2.free (k * 3 + 1)
      have hf2 := o2.free (k * 3 + 2)
      have HS := hide hs3.1
      have HB := hide (((hb2.setCell (p := ⟨w.heap.size, k * 3, none⟩) (Nat.le_refl _) (.int .i64 x)).setCell (p := ⟨w.heap.size, k * 3 + 1, none⟩) (Nat.le_refl _) (.int .i64 y)).setCell (p := ⟨w.heap.size, k * 3 + 2, none⟩) (Nat.le_refl _) (.int .i64 z))
      clear hs hs2 hs3 hd o2 hb2
      go_wp2
      go_roundw
      case rel =>
        have o := unhide HS
        rw [unhide PS] at o
        exact ⟨k + 1, by omega, by go_num, o, unhide HB⟩
      case measure => simp [intOf]; omega
    · obtain rfl : k = len := by omega
      rw [part_all ps k hl] at hown
      have HO := hide hown
      have HB := hide hb
      clear hown hb hr
      go_wp2
      go_ret
      exact ⟨rfl, unhide HO, unhide HB⟩
set_option maxRecDepth 100000 in
theorem eq1 (w : World) (x y z : Int) : Calls Tryz.prog 113 #[.agg #[.int .i64 x, .int .i64 y, .int .i64 z], .agg #[.int .i64 x, .int .i64 y, .int .i64 z]] w fun e w' => e = .returned (.bool true) ∧ w' = (w.alloc (.cells #[.int .i64 x, .int .i64 y, .int .i64 z] 146)).alloc (.cells #[.int .i64 x, .int .i64 y, .int .i64 z] 146) := by
  go_enter Tryz.func113, Tryz.ntmps113
  go_wp2
  go_ret
  exact ⟨rfl, rfl⟩
theorem two_more (w : World) (o p : Obj) : Below w.heap.size w ((w.alloc o).alloc p).drew := (((Below.refl _ _).alloc (Nat.le_refl _) _).alloc (by simp) _).drew
set_option maxRecDepth 100000 in
theorem eqS (w : World) (g1 g2 n c1 c2 : Nat) (ps : List T3) (hl : ps.length = n) (h20 : n ≤ 1048576) (l1 : g1 < w.heap.size) (l2 : g2 < w.heap.size) (h1 : At3 w g1 ps) (h2 : At3 w g2 ps) :
    Calls Tryz.prog 71 #[.slice (some ⟨g1, 0, none⟩) n c1, .slice (some ⟨g2, 0, none⟩) n c2] w fun e w' => e = .returned (.bool true) ∧ Below w.heap.size w w' := by
  go_enter Tryz.func71, Tryz.ntmps71
  go_wp2
  go_loopw [5] (fun i wr => ∃ (k : Nat), k ≤ n ∧ i = .int .i64 k ∧ At3 wr g1 ps ∧ At3 wr g2 ps ∧ Below w.heap.size w wr) (fun i _ => n - (intOf i).toNat)
  case atStart => exact ⟨0, by omega, rfl, h1, h2, Below.refl _ _⟩
  case round =>
    clear h1 h2
    obtain ⟨k, hk, rfl, h1, h2, hb⟩ := hrel
    by_cases t : k < n
    · obtain ⟨e1, f1, i1⟩ := h1 k (by omega)
      obtain ⟨e2, f2, i2⟩ := h2 k (by omega)
      have s := hb.size
      have H1 := hide h1
      have H2 := hide h2
      have HB := hide hb
      clear h1 h2 hb
      generalize (el3 ps k).1 = x at *
      generalize (el3 ps k).2.1 = y at *
      generalize (el3 ps k).2.2 = z at *
      go_wp2_with fail
      go_region_held3 (fun w' => w'.cell? ⟨g1, k * 3, none⟩ = some (.int .i64 x) ∧ w'.cell? ⟨g2, k * 3, none⟩ = some (.int .i64 x) ∧ w'.cell? ⟨g1, k * 3 + 1, none⟩ = some (.int .i64 y) ∧ w'.cell? ⟨g2, k * 3 + 1, none⟩ = some (.int .i64 y) ∧ w'.cell? ⟨g1, k * 3 + 2, none⟩ = some (.int .i64 z) ∧ w'.cell? ⟨g2, k * 3 + 2, none⟩ = some (.int .i64 z)) (go_keep)
        (first | (go_at_call 113; refine (eq1 _ _ _ _).mono ?_; rintro e w2 ⟨rfl, rfl⟩))
      all_goals (go_wp2; go_roundw)
      all_goals first
        | (have b2 := two_more wr (.cells #[.int .i64 x, .int .i64 y, .int .i64 z] 146) (.cells #[.int .i64 x, .int .i64 y, .int .i64 z] 146)
           exact ⟨k + 1, by omega, by go_num, (unhide H1).below b2 (by omega), (unhide H2).below b2 (by omega), next (unhide HB) b2⟩)
        | (simp [intOf]; omega)
    · have HB := hide hb
      clear h1 h2 hb
      go_wp2
      go_ret
      exact ⟨rfl, unhide HB⟩
def marks (s : Int) (n : Nat) : List T3 := (List.range n).map fun (i : Nat) => (s + 3 * (i : Int), s + 3 * (i : Int) + 1, s + 3 * (i : Int) + 2)
theorem sz_yes (a : Option Addr) (len cap : Nat) (l : Int) (w : World) (h : (len : Int) ≤ l) (hl : l ≤ 1048576) :
    Calls Tryz.prog 53 #[.slice a len cap, .int .i64 l] w fun e w' => e = .returned (.int .i64 (l - (len : Int))) ∧ w' = w := by
  have h1 : (0 : Int) ≤ l - (len : Int) := by omega
  have h2 : wrap64 (l - (len : Int)) = l - (len : Int) := by rw [wrap64]; omega
  go_enter Tryz.func53, Tryz.ntmps53
  go_wp2
  go_ret
  exact ⟨rfl, rfl⟩
theorem sz_no (a : Option Addr) (len cap : Nat) (l : Int) (w : World) (h : ¬ (len : Int) ≤ l) (hl : l ≤ 1048576) (h0 : 0 ≤ l) (hm : len ≤ 9223372036854775807) :
    Calls Tryz.prog 53 #[.slice a len cap, .int .i64 l] w fun e w' => e = .returned (.int .i64 (-1)) ∧ w' = w := by
  have h1 : l - (len : Int) < 0 := by omega
  have h2 : wrap64 (l - (len : Int)) = l - (len : Int) := by rw [wrap64]; omega
  go_enter Tryz.func53, Tryz.ntmps53
  go_wp2
  go_ret
  exact ⟨rfl, rfl⟩
end Go.Proofs.YtagmnociflkhcaaGreat.BalHelp
namespace Go.Proofs.YtagmnociflkhcaaGreat.LotHelp
open Go.ChangeShapes Go.WideShapes Go.ChangeAt Go.RowKit Tup5
theorem info2 : (Tryz.prog.info? 148).map (fun i => (i.zero, i.size, i.bytes)) = some (some (.agg #[.int .i64 0, .int .i64 0, .int .i64 0, .int .i64 0, .int .i64 0]), 5, 40) := by kernel_rfl
set_option maxRecDepth 100000 in
theorem to1 (w : World) (x0 x1 x2 x3 x4 : Int) : Calls Tryz.prog 107 #[.agg #[.int .i64 x0, .int .i64 x1, .int .i64 x2, .int .i64 x3, .int .i64 x4]] w fun e w' => e = .returned (.agg #[.int .i64 x0, .int .i64 x1, .int .i64 x2, .int .i64 x3, .int .i64 x4]) ∧ Below w.heap.size w w' := by
  go_enter Tryz.func107, Tryz.ntmps107
  go_wp2
  refine bodyPost_ret (v := .agg #[.int .i64 x0, .int .i64 x1, .int .i64 x2, .int .i64 x3, .int .i64 x4]) (by simp [results, Tryz.results107, go_sem]) rfl ⟨rfl, ?_⟩
  exact (((Below.refl _ _).alloc (Nat.le_refl _) _).alloc (by simp) _).alloc (by simp; omega) _
theorem made (n : Nat) : (madeCells (Value.agg #[.int .i64 0, .int .i64 0, .int .i64 0, .int .i64 0, .int .i64 0]).cells (n * 5)).toList = flat5 (List.replicate n (0, 0, 0, 0, 0)) := by
  apply List.ext_getElem?
  intro j
  by_cases hj : j < n * 5
  · have hs : (Value.agg #[Value.int .i64 0, Value.int .i64 0, Value.int .i64 0, Value.int .i64 0, Value.int .i64 0]).cells = #[Value.int .i64 0, Value.int .i64 0, Value.int .i64 0, Value.int .i64 0, Value.int .i64 0] := rfl
    rw [hs]
    obtain ⟨f0, f1, f2, f3, f4⟩ := flat5_get (List.replicate n (0, 0, 0, 0, 0)) (j / 5) (by simp; omega)
    have hg : (List.replicate n (((0 : Int), (0 : Int), (0 : Int), (0 : Int), (0 : Int)) : T5)).getD (j / 5) (0, 0, 0, 0, 0) = (0, 0, 0, 0, 0) := by simp [List.getD, show j / 5 < n by omega]
    unfold el5 at f0 f1 f2 f3 f4
    rw [hg] at f0 f1 f2 f3 f4
    rcases (show j % 5 = 0 ∨ j % 5 = 1 ∨ j % 5 = 2 ∨ j % 5 = 3 ∨ j % 5 = 4 by omega) with e | e | e | e | e
    · rw [show j / 5 * 5 = j by omega] at f0
      rw [f0]
      simp [madeCells, hj, e]
    · rw [show j / 5 * 5 + 1 = j by omega] at f1
      rw [f1]
      simp [madeCells, hj, e]
    · rw [show j / 5 * 5 + 2 = j by omega] at f2
      rw [f2]
      simp [madeCells, hj, e]
    · rw [show j / 5 * 5 + 3 = j by omega] at f3
      rw [f3]
      simp [madeCells, hj, e]
    · rw [show j / 5 * 5 + 4 = j by omega] at f4
      rw [f4]
      simp [madeCells, hj, e]
  · rw [List.getElem?_eq_none (by simp [madeCells]; omega), List.getElem?_eq_none (by rw [flat5_len]; simp; omega)]
def part (ps : List T5) (n k : Nat) : List T5 := ps.take k ++ List.replicate (n - k) (0, 0, 0, 0, 0)
theorem part_zero (ps : List T5) (n : Nat) : part ps n 0 = List.replicate n (0, 0, 0, 0, 0) := by simp [part]
theorem part_all (ps : List T5) (n : Nat) (h : ps.length = n) : part ps n n = ps := by
  unfold part
  rw [← h]; simp
theorem part_step (ps : List T5) (n k : Nat) (h : ps.length = n) (hk : k < n) : (((((part ps n k).modify k (fun p => ((el5 ps k).1, p.2.1, p.2.2.1, p.2.2.2.1, p.2.2.2.2))).modify k (fun p => (p.1, (el5 ps k).2.1, p.2.2.1, p.2.2.2.1, p.2.2.2.2))).modify k (fun p => (p.1, p.2.1, (el5 ps k).2.2.1, p.2.2.2.1, p.2.2.2.2))).modify k (fun p => (p.1, p.2.1, p.2.2.1, (el5 ps k).2.2.2.1, p.2.2.2.2))).modify k (fun p => (p.1, p.2.1, p.2.2.1, p.2.2.2.1, (el5 ps k).2.2.2.2)) = part ps n (k + 1) := by
  subst h
  unfold part
  apply List.ext_getElem?
  intro j
  have l1 : (ps.take k).length = k := by simp; omega
  have l2 : (ps.take (k + 1)).length = k + 1 := by simp; omega
  rw [List.getElem?_modify, List.getElem?_modify, List.getElem?_modify, List.getElem?_modify, List.getElem?_modify]
  by_cases e : k = j
  · subst e
    rw [List.getElem?_append_right (by omega), List.getElem?_append_left (by omega), List.getElem?_take, if_pos (by omega), l1]
    simp [List.getD, hk, show 0 < ps.length - k by omega]
  · by_cases l : j < k
    · rw [List.getElem?_append_left (by omega), List.getElem?_append_left (by omega), List.getElem?_take, List.getElem?_take, if_pos l, if_pos (by omega)]
      simp [e]
    · rw [List.getElem?_append_right (by omega), List.getElem?_append_right (by omega), l1, l2]
      simp only [List.getElem?_replicate]
      by_cases m : j < ps.length
      · rw [if_pos (by omega), if_pos (by omega)]; simp [e]
      · rw [if_neg (by omega), if_neg (by omega)]; simp [e]
set_option maxRecDepth 100000 in
set_option maxHeartbeats 1000000 in
theorem toS (w : World) (a : Option Addr) (len cap : Nat) (ps : List T5) (hl : ps.length = len) (h20 : len ≤ 1048576) (hr : Reads5 w a ps) :
    Calls Tryz.prog 63 #[.slice a len cap] w fun e w' => e = .returned (.slice (some ⟨w.heap.size, 0, none⟩) len len) ∧ Own5 148 w' w.heap.size w.heap.size len len ps ∧ Below w.heap.size w w' := by
  obtain ⟨i0, hi, hz0, hz1, hz2⟩ := info_parts info2
  go_enter Tryz.func63, Tryz.ntmps63
  go_wp2_with (at_make; refine wpList_make_full _ rfl _ _ 37 rfl w.heap.size 148 i0 (.agg #[.int .i64 0, .int .i64 0, .int .i64 0, .int .i64 0, .int .i64 0]) 5 Tryz.underlying37 hi hz0 hz1 .i64 .i64 _ _ len rfl rfl rfl rfl (by rw [hz2]; omega) (by unfold maxLen; omega) (Nat.le_refl _) ?_; intro w1 hown hgrow)
  rw [made, ← part_zero ps] at hown
  have hb := grownBy_below hgrow
  have hown : Own5 148 w1 w.heap.size w.heap.size len len (part ps len 0) := hown
  clear hgrow
  go_loopw [4] (fun i wr => ∃ (k : Nat), k ≤ len ∧ i = .int .i64 k ∧ Own5 148 wr w.heap.size w.heap.size len len (part ps len k) ∧ Below w.heap.size w wr) (fun i _ => len - (intOf i).toNat)
  case atStart => exact ⟨0, by omega, rfl, hown, hb⟩
  case round =>
    clear hown hb
    obtain ⟨k, hk, rfl, hown, hb⟩ := hrel
    by_cases t : k < len
    · rcases hr with hz | ⟨b, off, rfl, hlt, hcell⟩
      · omega
      have hc0 := (hb.cell (p := ⟨b, off + k * 5, none⟩) hlt).trans (hcell k (by omega)).1
      have hc1 := (hb.cell (p := ⟨b, off + k * 5 + 1, none⟩) hlt).trans (hcell k (by omega)).2.1
      have hc2 := (hb.cell (p := ⟨b, off + k * 5 + 2, none⟩) hlt).trans (hcell k (by omega)).2.2.1
      have hc3 := (hb.cell (p := ⟨b, off + k * 5 + 3, none⟩) hlt).trans (hcell k (by omega)).2.2.2.1
      have hc4 := (hb.cell (p := ⟨b, off + k * 5 + 4, none⟩) hlt).trans (hcell k (by omega)).2.2.2.2
      clear hcell
      have HO := hide hown
      have HB := hide hb
      clear hown hb
      have PS := hide (part_step ps len k hl t)
      generalize (el5 ps k).1 = x0 at *
      generalize (el5 ps k).2.1 = x1 at *
      generalize (el5 ps k).2.2.1 = x2 at *
      generalize (el5 ps k).2.2.2.1 = x3 at *
      generalize (el5 ps k).2.2.2.2 = x4 at *
      go_wp2_with fail
      refine (to1 _ x0 x1 x2 x3 x4).mono ?_
      rintro e w2 ⟨rfl, b2⟩
      have o2 := (unhide HO).below b2 (unhide HO).lt.2
      have hb2 := (unhide HB).trans (b2.mono (unhide HB).size)
      clear HO HB b2 hc0 hc1 hc2 hc3 hc4
      have hs0 := o2.set0 k x0
      have hs1 := hs0.1.set1 k x1
      have hs2 := hs1.1.set2 k x2
      have hs3 := hs2.1.set3 k x3
      have hs4 := hs3.1.set4 k x4
      have hd := o2.at k (by rw [o2.len]; exact t)
      have hd0 := hd.1
      have hd1 := hd.2.1
      have hd2 := hd.2.2.1
      have hd3 := hd.2.2.2.1
      have hd4 := hd.2.2.2.2
      have hf0 := o2.free (k * 5)
      have hf1 := o2.free (k * 5 + 1)
      have hf2 := o2.free (k * 5 + 2)
      have hf3 := o2.free (k * 5 + 3)
      have hf4 := o2.free (k * 5 + 4)
      have HS := hide hs4.1
      have HB := hide (((((hb2.setCell (p := ⟨w.heap.size, k * 5, none⟩) (Nat.le_refl _) (.int .i64 x0)).setCell (p := ⟨w.heap.size, k * 5 + 1, none⟩) (Nat.le_refl _) (.int .i64 x1)).setCell (p := ⟨w.heap.size, k * 5 + 2, none⟩) (Nat.le_refl _) (.int .i64 x2)).setCell (p := ⟨w.heap.size, k * 5 + 3, none⟩) (Nat.le_refl _) (.int .i64 x3)).setCell (p := ⟨w.heap.size, k * 5 + 4, none⟩) (Nat.le_refl _) (.int .i64 x4))
      clear hs0 hs1 hs2 hs3 hs4 hd o2 hb2
      go_wp2
      go_roundw
      case rel =>
        have o := unhide HS
        rw [unhide PS] at o
        exact ⟨k + 1, by omega, by go_num, o, unhide HB⟩
      case measure => simp [intOf]; omega
    · obtain rfl : k = len := by omega
      rw [part_all ps k hl] at hown
      have HO := hide hown
      have HB := hide hb
      clear hown hb hr
      go_wp2
      go_ret
      exact ⟨rfl, unhide HO, unhide HB⟩
set_option maxRecDepth 100000 in
theorem eq1 (w : World) (x0 x1 x2 x3 x4 : Int) : Calls Tryz.prog 114 #[.agg #[.int .i64 x0, .int .i64 x1, .int .i64 x2, .int .i64 x3, .int .i64 x4], .agg #[.int .i64 x0, .int .i64 x1, .int .i64 x2, .int .i64 x3, .int .i64 x4]] w fun e w' => e = .returned (.bool true) ∧ w' = (w.alloc (.cells #[.int .i64 x0, .int .i64 x1, .int .i64 x2, .int .i64 x3, .int .i64 x4] 148)).alloc (.cells #[.int .i64 x0, .int .i64 x1, .int .i64 x2, .int .i64 x3, .int .i64 x4] 148) := by
  go_enter Tryz.func114, Tryz.ntmps114
  go_wp2
  go_ret
  exact ⟨rfl, rfl⟩
theorem two_more (w : World) (o p : Obj) : Below w.heap.size w ((w.alloc o).alloc p).drew := (((Below.refl _ _).alloc (Nat.le_refl _) _).alloc (by simp) _).drew
set_option maxRecDepth 100000 in
set_option maxHeartbeats 1000000 in
theorem eqS (w : World) (g1 g2 n c1 c2 : Nat) (ps : List T5) (hl : ps.length = n) (h20 : n ≤ 1048576) (l1 : g1 < w.heap.size) (l2 : g2 < w.heap.size) (h1 : At5 w g1 ps) (h2 : At5 w g2 ps) :
    Calls Tryz.prog 72 #[.slice (some ⟨g1, 0, none⟩) n c1, .slice (some ⟨g2, 0, none⟩) n c2] w fun e w' => e = .returned (.bool true) ∧ Below w.heap.size w w' := by
  go_enter Tryz.func72, Tryz.ntmps72
  go_wp2
  go_loopw [5] (fun i wr => ∃ (k : Nat), k ≤ n ∧ i = .int .i64 k ∧ At5 wr g1 ps ∧ At5 wr g2 ps ∧ Below w.heap.size w wr) (fun i _ => n - (intOf i).toNat)
  case atStart => exact ⟨0, by omega, rfl, h1, h2, Below.refl _ _⟩
  case round =>
    clear h1 h2
    obtain ⟨k, hk, rfl, h1, h2, hb⟩ := hrel
    by_cases t : k < n
    · obtain ⟨e0, e1, e2, e3, e4⟩ := h1 k (by omega)
      obtain ⟨f0, f1, f2, f3, f4⟩ := h2 k (by omega)
      have s := hb.size
      have H1 := hide h1
      have H2 := hide h2
      have HB := hide hb
      clear h1 h2 hb
      generalize (el5 ps k).1 = x0 at *
      generalize (el5 ps k).2.1 = x1 at *
      generalize (el5 ps k).2.2.1 = x2 at *
      generalize (el5 ps k).2.2.2.1 = x3 at *
      generalize (el5 ps k).2.2.2.2 = x4 at *
      go_wp2_with fail
      go_region_held3 (fun w' => w'.cell? ⟨g1, k * 5, none⟩ = some (.int .i64 x0) ∧ w'.cell? ⟨g2, k * 5, none⟩ = some (.int .i64 x0) ∧ w'.cell? ⟨g1, k * 5 + 1, none⟩ = some (.int .i64 x1) ∧ w'.cell? ⟨g2, k * 5 + 1, none⟩ = some (.int .i64 x1) ∧ w'.cell? ⟨g1, k * 5 + 2, none⟩ = some (.int .i64 x2) ∧ w'.cell? ⟨g2, k * 5 + 2, none⟩ = some (.int .i64 x2) ∧ w'.cell? ⟨g1, k * 5 + 3, none⟩ = some (.int .i64 x3) ∧ w'.cell? ⟨g2, k * 5 + 3, none⟩ = some (.int .i64 x3) ∧ w'.cell? ⟨g1, k * 5 + 4, none⟩ = some (.int .i64 x4) ∧ w'.cell? ⟨g2, k * 5 + 4, none⟩ = some (.int .i64 x4)) (go_keep)
        (first | (go_at_call 114; refine (eq1 _ _ _ _ _ _).mono ?_; rintro e w2 ⟨rfl, rfl⟩))
      all_goals (go_wp2; go_roundw)
      all_goals first
        | (have b2 := two_more wr (.cells #[.int .i64 x0, .int .i64 x1, .int .i64 x2, .int .i64 x3, .int .i64 x4] 148) (.cells #[.int .i64 x0, .int .i64 x1, .int .i64 x2, .int .i64 x3, .int .i64 x4] 148)
           exact ⟨k + 1, by omega, by go_num, (unhide H1).below b2 (by omega), (unhide H2).below b2 (by omega), next (unhide HB) b2⟩)
        | (simp [intOf]; omega)
    · have HB := hide hb
      clear h1 h2 hb
      go_wp2
      go_ret
      exact ⟨rfl, unhide HB⟩
def marks (s : Int) (n : Nat) : List T5 := (List.range n).map fun (i : Nat) => (s + 5 * (i : Int), s + 5 * (i : Int) + 1, s + 5 * (i : Int) + 2, s + 5 * (i : Int) + 3, s + 5 * (i : Int) + 4)
theorem sz_yes (a : Option Addr) (len cap : Nat) (l : Int) (w : World) (h : (len : Int) ≤ l) (hl : l ≤ 1048576) :
    Calls Tryz.prog 54 #[.slice a len cap, .int .i64 l] w fun e w' => e = .returned (.int .i64 (l - (len : Int))) ∧ w' = w := by
  have h1 : (0 : Int) ≤ l - (len : Int) := by omega
  have h2 : wrap64 (l - (len : Int)) = l - (len : Int) := by rw [wrap64]; omega
  go_enter Tryz.func54, Tryz.ntmps54
  go_wp2
  go_ret
  exact ⟨rfl, rfl⟩
theorem sz_no (a : Option Addr) (len cap : Nat) (l : Int) (w : World) (h : ¬ (len : Int) ≤ l) (hl : l ≤ 1048576) (h0 : 0 ≤ l) (hm : len ≤ 9223372036854775807) :
    Calls Tryz.prog 54 #[.slice a len cap, .int .i64 l] w fun e w' => e = .returned (.int .i64 (-1)) ∧ w' = w := by
  have h1 : l - (len : Int) < 0 := by omega
  have h2 : wrap64 (l - (len : Int)) = l - (len : Int) := by rw [wrap64]; omega
  go_enter Tryz.func54, Tryz.ntmps54
  go_wp2
  go_ret
  exact ⟨rfl, rfl⟩
end Go.Proofs.YtagmnociflkhcaaGreat.LotHelp
namespace Go.Proofs.YtagmnociflkhcaaGreat.TradeHelp
open Go.ChangeShapes Go.WideShapes Go.ChangeAt Go.RowKit Tup8
theorem info2 : (Tryz.prog.info? 141).map (fun i => (i.zero, i.size, i.bytes)) = some (some (.agg #[.int .i64 0, .int .i64 0, .int .i64 0, .int .i64 0, .int .i64 0, .int .i64 0, .int .i64 0, .int .i64 0]), 8, 64) := by kernel_rfl
set_option maxRecDepth 100000 in
theorem to1 (w : World) (x0 x1 x2 x3 x4 x5 x6 x7 : Int) : Calls Tryz.prog 108 #[.agg #[.int .i64 x0, .int .i64 x1, .int .i64 x2, .int .i64 x3, .int .i64 x4, .int .i64 x5, .int .i64 x6, .int .i64 x7]] w fun e w' => e = .returned (.agg #[.int .i64 x0, .int .i64 x1, .int .i64 x2, .int .i64 x3, .int .i64 x4, .int .i64 x5, .int .i64 x6, .int .i64 x7]) ∧ Below w.heap.size w w' := by
  go_enter Tryz.func108, Tryz.ntmps108
  go_wp2
  refine bodyPost_ret (v := .agg #[.int .i64 x0, .int .i64 x1, .int .i64 x2, .int .i64 x3, .int .i64 x4, .int .i64 x5, .int .i64 x6, .int .i64 x7]) (by simp [results, Tryz.results108, go_sem]) rfl ⟨rfl, ?_⟩
  exact (((Below.refl _ _).alloc (Nat.le_refl _) _).alloc (by simp) _).alloc (by simp; omega) _
theorem made (n : Nat) : (madeCells (Value.agg #[.int .i64 0, .int .i64 0, .int .i64 0, .int .i64 0, .int .i64 0, .int .i64 0, .int .i64 0, .int .i64 0]).cells (n * 8)).toList = flat8 (List.replicate n (0, 0, 0, 0, 0, 0, 0, 0)) := by
  apply List.ext_getElem?
  intro j
  by_cases hj : j < n * 8
  · have hs : (Value.agg #[Value.int .i64 0, Value.int .i64 0, Value.int .i64 0, Value.int .i64 0, Value.int .i64 0, Value.int .i64 0, Value.int .i64 0, Value.int .i64 0]).cells = #[Value.int .i64 0, Value.int .i64 0, Value.int .i64 0, Value.int .i64 0, Value.int .i64 0, Value.int .i64 0, Value.int .i64 0, Value.int .i64 0] := rfl
    rw [hs]
    obtain ⟨f0, f1, f2, f3, f4, f5, f6, f7⟩ := flat8_get (List.replicate n (0, 0, 0, 0, 0, 0, 0, 0)) (j / 8) (by simp; omega)
    have hg : (List.replicate n (((0 : Int), (0 : Int), (0 : Int), (0 : Int), (0 : Int), (0 : Int), (0 : Int), (0 : Int)) : T8)).getD (j / 8) (0, 0, 0, 0, 0, 0, 0, 0) = (0, 0, 0, 0, 0, 0, 0, 0) := by simp [List.getD, show j / 8 < n by omega]
    unfold el8 at f0 f1 f2 f3 f4 f5 f6 f7
    rw [hg] at f0 f1 f2 f3 f4 f5 f6 f7
    rcases (show j % 8 = 0 ∨ j % 8 = 1 ∨ j % 8 = 2 ∨ j % 8 = 3 ∨ j % 8 = 4 ∨ j % 8 = 5 ∨ j % 8 = 6 ∨ j % 8 = 7 by omega) with e | e | e | e | e | e | e | e
    · rw [show j / 8 * 8 = j by omega] at f0
      rw [f0]
      simp [madeCells, hj, e]
    · rw [show j / 8 * 8 + 1 = j by omega] at f1
      rw [f1]
      simp [madeCells, hj, e]
    · rw [show j / 8 * 8 + 2 = j by omega] at f2
      rw [f2]
      simp [madeCells, hj, e]
    · rw [show j / 8 * 8 + 3 = j by omega] at f3
      rw [f3]
      simp [madeCells, hj, e]
    · rw [show j / 8 * 8 + 4 = j by omega] at f4
      rw [f4]
      simp [madeCells, hj, e]
    · rw [show j / 8 * 8 + 5 = j by omega] at f5
      rw [f5]
      simp [madeCells, hj, e]
    · rw [show j / 8 * 8 + 6 = j by omega] at f6
      rw [f6]
      simp [madeCells, hj, e]
    · rw [show j / 8 * 8 + 7 = j by omega] at f7
      rw [f7]
      simp [madeCells, hj, e]
  · rw [List.getElem?_eq_none (by simp [madeCells]; omega), List.getElem?_eq_none (by rw [flat8_len]; simp; omega)]
def part (ps : List T8) (n k : Nat) : List T8 := ps.take k ++ List.replicate (n - k) (0, 0, 0, 0, 0, 0, 0, 0)
theorem part_zero (ps : List T8) (n : Nat) : part ps n 0 = List.replicate n (0, 0, 0, 0, 0, 0, 0, 0) := by simp [part]
theorem part_all (ps : List T8) (n : Nat) (h : ps.length = n) : part ps n n = ps := by
  unfold part
  rw [← h]; simp
theorem part_step (ps : List T8) (n k : Nat) (h : ps.length = n) (hk : k < n) : ((((((((part ps n k).modify k (fun p => ((el8 ps k).1, p.2.1, p.2.2.1, p.2.2.2.1, p.2.2.2.2.1, p.2.2.2.2.2.1, p.2.2.2.2.2.2.1, p.2.2.2.2.2.2.2))).modify k (fun p => (p.1, (el8 ps k).2.1, p.2.2.1, p.2.2.2.1, p.2.2.2.2.1, p.2.2.2.2.2.1, p.2.2.2.2.2.2.1, p.2.2.2.2.2.2.2))).modify k (fun p => (p.1, p.2.1, (el8 ps k).2.2.1, p.2.2.2.1, p.2.2.2.2.1, p.2.2.2.2.2.1, p.2.2.2.2.2.2.1, p.2.2.2.2.2.2.2))).modify k (fun p => (p.1, p.2.1, p.2.2.1, (el8 ps k).2.2.2.1, p.2.2.2.2.1, p.2.2.2.2.2.1, p.2.2.2.2.2.2.1, p.2.2.2.2.2.2.2))).modify k (fun p => (p.1, p.2.1, p.2.2.1, p.2.2.2.1, (el8 ps k).2.2.2.2.1, p.2.2.2.2.2.1, p.2.2.2.2.2.2.1, p.2.2.2.2.2.2.2))).modify k (fun p => (p.1, p.2.1, p.2.2.1, p.2.2.2.1, p.2.2.2.2.1, (el8 ps k).2.2.2.2.2.1, p.2.2.2.2.2.2.1, p.2.2.2.2.2.2.2))).modify k (fun p => (p.1, p.2.1, p.2.2.1, p.2.2.2.1, p.2.2.2.2.1, p.2.2.2.2.2.1, (el8 ps k).2.2.2.2.2.2.1, p.2.2.2.2.2.2.2))).modify k (fun p => (p.1, p.2.1, p.2.2.1, p.2.2.2.1, p.2.2.2.2.1, p.2.2.2.2.2.1, p.2.2.2.2.2.2.1, (el8 ps k).2.2.2.2.2.2.2)) = part ps n (k + 1) := by
  subst h
  unfold part
  apply List.ext_getElem?
  intro j
  have l1 : (ps.take k).length = k := by simp; omega
  have l2 : (ps.take (k + 1)).length = k + 1 := by simp; omega
  rw [List.getElem?_modify, List.getElem?_modify, List.getElem?_modify, List.getElem?_modify, List.getElem?_modify, List.getElem?_modify, List.getElem?_modify, List.getElem?_modify]
  by_cases e : k = j
  · subst e
    rw [List.getElem?_append_right (by omega), List.getElem?_append_left (by omega), List.getElem?_take, if_pos (by omega), l1]
    simp [List.getD, hk, show 0 < ps.length - k by omega]
  · by_cases l : j < k
    · rw [List.getElem?_append_left (by omega), List.getElem?_append_left (by omega), List.getElem?_take, List.getElem?_take, if_pos l, if_pos (by omega)]
      simp [e]
    · rw [List.getElem?_append_right (by omega), List.getElem?_append_right (by omega), l1, l2]
      simp only [List.getElem?_replicate]
      by_cases m : j < ps.length
      · rw [if_pos (by omega), if_pos (by omega)]; simp [e]
      · rw [if_neg (by omega), if_neg (by omega)]; simp [e]
set_option maxRecDepth 100000 in
set_option maxHeartbeats 1000000 in
theorem toS (w : World) (a : Option Addr) (len cap : Nat) (ps : List T8) (hl : ps.length = len) (h20 : len ≤ 1048576) (hr : Reads8 w a ps) :
    Calls Tryz.prog 64 #[.slice a len cap] w fun e w' => e = .returned (.slice (some ⟨w.heap.size, 0, none⟩) len len) ∧ Own8 141 w' w.heap.size w.heap.size len len ps ∧ Below w.heap.size w w' := by
  obtain ⟨i0, hi, hz0, hz1, hz2⟩ := info_parts info2
  go_enter Tryz.func64, Tryz.ntmps64
  go_wp2_with (at_make; refine wpList_make_full _ rfl _ _ 38 rfl w.heap.size 141 i0 (.agg #[.int .i64 0, .int .i64 0, .int .i64 0, .int .i64 0, .int .i64 0, .int .i64 0, .int .i64 0, .int .i64 0]) 8 Tryz.underlying38 hi hz0 hz1 .i64 .i64 _ _ len rfl rfl rfl rfl (by rw [hz2]; omega) (by unfold maxLen; omega) (Nat.le_refl _) ?_; intro w1 hown hgrow)
  rw [made, ← part_zero ps] at hown
  have hb := grownBy_below hgrow
  have hown : Own8 141 w1 w.heap.size w.heap.size len len (part ps len 0) := hown
  clear hgrow
  go_loopw [4] (fun i wr => ∃ (k : Nat), k ≤ len ∧ i = .int .i64 k ∧ Own8 141 wr w.heap.size w.heap.size len len (part ps len k) ∧ Below w.heap.size w wr) (fun i _ => len - (intOf i).toNat)
  case atStart => exact ⟨0, by omega, rfl, hown, hb⟩
  case round =>
    clear hown hb
    obtain ⟨k, hk, rfl, hown, hb⟩ := hrel
    by_cases t : k < len
    · rcases hr with hz | ⟨b, off, rfl, hlt, hcell⟩
      · omega
      have hc0 := (hb.cell (p := ⟨b, off + k * 8, none⟩) hlt).trans (hcell k (by omega)).1
      have hc1 := (hb.cell (p := ⟨b, off + k * 8 + 1, none⟩) hlt).trans (hcell k (by omega)).2.1
      have hc2 := (hb.cell (p := ⟨b, off + k * 8 + 2, none⟩) hlt).trans (hcell k (by omega)).2.2.1
      have hc3 := (hb.cell (p := ⟨b, off + k * 8 + 3, none⟩) hlt).trans (hcell k (by omega)).2.2.2.1
      have hc4 := (hb.cell (p := ⟨b, off + k * 8 + 4, none⟩) hlt).trans (hcell k (by omega)).2.2.2.2.1
      have hc5 := (hb.cell (p := ⟨b, off + k * 8 + 5, none⟩) hlt).trans (hcell k (by omega)).2.2.2.2.2.1
      have hc6 := (hb.cell (p := ⟨b, off + k * 8 + 6, none⟩) hlt).trans (hcell k (by omega)).2.2.2.2.2.2.1
      have hc7 := (hb.cell (p := ⟨b, off + k * 8 + 7, none⟩) hlt).trans (hcell k (by omega)).2.2.2.2.2.2.2
      clear hcell
      have HO := hide hown
      have HB := hide hb
      clear hown hb
      have PS := hide (part_step ps len k hl t)
      generalize (el8 ps k).1 = x0 at *
      generalize (el8 ps k).2.1 = x1 at *
      generalize (el8 ps k).2.2.1 = x2 at *
      generalize (el8 ps k).2.2.2.1 = x3 at *
      generalize (el8 ps k).2.2.2.2.1 = x4 at *
      generalize (el8 ps k).2.2.2.2.2.1 = x5 at *
      generalize (el8 ps k).2.2.2.2.2.2.1 = x6 at *
      generalize (el8 ps k).2.2.2.2.2.2.2 = x7 at *
      go_wp2_with fail
      refine (to1 _ x0 x1 x2 x3 x4 x5 x6 x7).mono ?_
      rintro e w2 ⟨rfl, b2⟩
      have o2 := (unhide HO).below b2 (unhide HO).lt.2
      have hb2 := (unhide HB).trans (b2.mono (unhide HB).size)
      clear HO HB b2 hc0 hc1 hc2 hc3 hc4 hc5 hc6 hc7
      have hs0 := o2.set0 k x0
      have hs1 := hs0.1.set1 k x1
      have hs2 := hs1.1.set2 k x2
      have hs3 := hs2.1.set3 k x3
      have hs4 := hs3.1.set4 k x4
      have hs5 := hs4.1.set5 k x5
      have hs6 := hs5.1.set6 k x6
      have hs7 := hs6.1.set7 k x7
      have hd := o2.at k (by rw [o2.len]; exact t)
      have hd0 := hd.1
      have hd1 := hd.2.1
      have hd2 := hd.2.2.1
      have hd3 := hd.2.2.2.1
      have hd4 := hd.2.2.2.2.1
      have hd5 := hd.2.2.2.2.2.1
      have hd6 := hd.2.2.2.2.2.2.1
      have hd7 := hd.2.2.2.2.2.2.2
      have hf0 := o2.free (k * 8)
      have hf1 := o2.free (k * 8 + 1)
      have hf2 := o2.free (k * 8 + 2)
      have hf3 := o2.free (k * 8 + 3)
      have hf4 := o2.free (k * 8 + 4)
      have hf5 := o2.free (k * 8 + 5)
      have hf6 := o2.free (k * 8 + 6)
      have hf7 := o2.free (k * 8 + 7)
      have HS := hide hs7.1
      have HB := hide ((((((((hb2.setCell (p := ⟨w.heap.size, k * 8, none⟩) (Nat.le_refl _) (.int .i64 x0)).setCell (p := ⟨w.heap.size, k * 8 + 1, none⟩) (Nat.le_refl _) (.int .i64 x1)).setCell (p := ⟨w.heap.size, k * 8 + 2, none⟩) (Nat.le_refl _) (.int .i64 x2)).setCell (p := ⟨w.heap.size, k * 8 + 3, none⟩) (Nat.le_refl _) (.int .i64 x3)).setCell (p := ⟨w.heap.size, k * 8 + 4, none⟩) (Nat.le_refl _) (.int .i64 x4)).setCell (p := ⟨w.heap.size, k * 8 + 5, none⟩) (Nat.le_refl _) (.int .i64 x5)).setCell (p := ⟨w.heap.size, k * 8 + 6, none⟩) (Nat.le_refl _) (.int .i64 x6)).setCell (p := ⟨w.heap.size, k * 8 + 7, none⟩) (Nat.le_refl _) (.int .i64 x7))
      clear hs0 hs1 hs2 hs3 hs4 hs5 hs6 hs7 hd o2 hb2
      go_wp2
      go_roundw
      case rel =>
        have o := unhide HS
        rw [unhide PS] at o
        exact ⟨k + 1, by omega, by go_num, o, unhide HB⟩
      case measure => simp [intOf]; omega
    · obtain rfl : k = len := by omega
      rw [part_all ps k hl] at hown
      have HO := hide hown
      have HB := hide hb
      clear hown hb hr
      go_wp2
      go_ret
      exact ⟨rfl, unhide HO, unhide HB⟩
set_option maxRecDepth 100000 in
theorem eq1 (w : World) (x0 x1 x2 x3 x4 x5 x6 x7 : Int) : Calls Tryz.prog 115 #[.agg #[.int .i64 x0, .int .i64 x1, .int .i64 x2, .int .i64 x3, .int .i64 x4, .int .i64 x5, .int .i64 x6, .int .i64 x7], .agg #[.int .i64 x0, .int .i64 x1, .int .i64 x2, .int .i64 x3, .int .i64 x4, .int .i64 x5, .int .i64 x6, .int .i64 x7]] w fun e w' => e = .returned (.bool true) ∧ w' = (w.alloc (.cells #[.int .i64 x0, .int .i64 x1, .int .i64 x2, .int .i64 x3, .int .i64 x4, .int .i64 x5, .int .i64 x6, .int .i64 x7] 141)).alloc (.cells #[.int .i64 x0, .int .i64 x1, .int .i64 x2, .int .i64 x3, .int .i64 x4, .int .i64 x5, .int .i64 x6, .int .i64 x7] 141) := by
  go_enter Tryz.func115, Tryz.ntmps115
  go_wp2
  go_ret
  exact ⟨rfl, rfl⟩
theorem two_more (w : World) (o p : Obj) : Below w.heap.size w ((w.alloc o).alloc p).drew := (((Below.refl _ _).alloc (Nat.le_refl _) _).alloc (by simp) _).drew
set_option maxRecDepth 100000 in
set_option maxHeartbeats 1000000 in
theorem eqS (w : World) (g1 g2 n c1 c2 : Nat) (ps : List T8) (hl : ps.length = n) (h20 : n ≤ 1048576) (l1 : g1 < w.heap.size) (l2 : g2 < w.heap.size) (h1 : At8 w g1 ps) (h2 : At8 w g2 ps) :
    Calls Tryz.prog 73 #[.slice (some ⟨g1, 0, none⟩) n c1, .slice (some ⟨g2, 0, none⟩) n c2] w fun e w' => e = .returned (.bool true) ∧ Below w.heap.size w w' := by
  go_enter Tryz.func73, Tryz.ntmps73
  go_wp2
  go_loopw [5] (fun i wr => ∃ (k : Nat), k ≤ n ∧ i = .int .i64 k ∧ At8 wr g1 ps ∧ At8 wr g2 ps ∧ Below w.heap.size w wr) (fun i _ => n - (intOf i).toNat)
  case atStart => exact ⟨0, by omega, rfl, h1, h2, Below.refl _ _⟩
  case round =>
    clear h1 h2
    obtain ⟨k, hk, rfl, h1, h2, hb⟩ := hrel
    by_cases t : k < n
    · obtain ⟨e0, e1, e2, e3, e4, e5, e6, e7⟩ := h1 k (by omega)
      obtain ⟨f0, f1, f2, f3, f4, f5, f6, f7⟩ := h2 k (by omega)
      have s := hb.size
      have H1 := hide h1
      have H2 := hide h2
      have HB := hide hb
      clear h1 h2 hb
      generalize (el8 ps k).1 = x0 at *
      generalize (el8 ps k).2.1 = x1 at *
      generalize (el8 ps k).2.2.1 = x2 at *
      generalize (el8 ps k).2.2.2.1 = x3 at *
      generalize (el8 ps k).2.2.2.2.1 = x4 at *
      generalize (el8 ps k).2.2.2.2.2.1 = x5 at *
      generalize (el8 ps k).2.2.2.2.2.2.1 = x6 at *
      generalize (el8 ps k).2.2.2.2.2.2.2 = x7 at *
      go_wp2_with fail
      go_region_held3 (fun w' => w'.cell? ⟨g1, k * 8, none⟩ = some (.int .i64 x0) ∧ w'.cell? ⟨g2, k * 8, none⟩ = some (.int .i64 x0) ∧ w'.cell? ⟨g1, k * 8 + 1, none⟩ = some (.int .i64 x1) ∧ w'.cell? ⟨g2, k * 8 + 1, none⟩ = some (.int .i64 x1) ∧ w'.cell? ⟨g1, k * 8 + 2, none⟩ = some (.int .i64 x2) ∧ w'.cell? ⟨g2, k * 8 + 2, none⟩ = some (.int .i64 x2) ∧ w'.cell? ⟨g1, k * 8 + 3, none⟩ = some (.int .i64 x3) ∧ w'.cell? ⟨g2, k * 8 + 3, none⟩ = some (.int .i64 x3) ∧ w'.cell? ⟨g1, k * 8 + 4, none⟩ = some (.int .i64 x4) ∧ w'.cell? ⟨g2, k * 8 + 4, none⟩ = some (.int .i64 x4) ∧ w'.cell? ⟨g1, k * 8 + 5, none⟩ = some (.int .i64 x5) ∧ w'.cell? ⟨g2, k * 8 + 5, none⟩ = some (.int .i64 x5) ∧ w'.cell? ⟨g1, k * 8 + 6, none⟩ = some (.int .i64 x6) ∧ w'.cell? ⟨g2, k * 8 + 6, none⟩ = some (.int .i64 x6) ∧ w'.cell? ⟨g1, k * 8 + 7, none⟩ = some (.int .i64 x7) ∧ w'.cell? ⟨g2, k * 8 + 7, none⟩ = some (.int .i64 x7)) (go_keep)
        (first | (go_at_call 115; refine (eq1 _ _ _ _ _ _ _ _ _).mono ?_; rintro e w2 ⟨rfl, rfl⟩))
      all_goals (go_wp2; go_roundw)
      all_goals first
        | (have b2 := two_more wr (.cells #[.int .i64 x0, .int .i64 x1, .int .i64 x2, .int .i64 x3, .int .i64 x4, .int .i64 x5, .int .i64 x6, .int .i64 x7] 141) (.cells #[.int .i64 x0, .int .i64 x1, .int .i64 x2, .int .i64 x3, .int .i64 x4, .int .i64 x5, .int .i64 x6, .int .i64 x7] 141)
           exact ⟨k + 1, by omega, by go_num, (unhide H1).below b2 (by omega), (unhide H2).below b2 (by omega), next (unhide HB) b2⟩)
        | (simp [intOf]; omega)
    · have HB := hide hb
      clear h1 h2 hb
      go_wp2
      go_ret
      exact ⟨rfl, unhide HB⟩
def marks (s : Int) (n : Nat) : List T8 := (List.range n).map fun (i : Nat) => (s + 8 * (i : Int), s + 8 * (i : Int) + 1, s + 8 * (i : Int) + 2, s + 8 * (i : Int) + 3, s + 8 * (i : Int) + 4, s + 8 * (i : Int) + 5, s + 8 * (i : Int) + 6, s + 8 * (i : Int) + 7)
theorem sz_yes (a : Option Addr) (len cap : Nat) (l : Int) (w : World) (h : (len : Int) ≤ l) (hl : l ≤ 1048576) :
    Calls Tryz.prog 55 #[.slice a len cap, .int .i64 l] w fun e w' => e = .returned (.int .i64 (l - (len : Int))) ∧ w' = w := by
  have h1 : (0 : Int) ≤ l - (len : Int) := by omega
  have h2 : wrap64 (l - (len : Int)) = l - (len : Int) := by rw [wrap64]; omega
  go_enter Tryz.func55, Tryz.ntmps55
  go_wp2
  go_ret
  exact ⟨rfl, rfl⟩
theorem sz_no (a : Option Addr) (len cap : Nat) (l : Int) (w : World) (h : ¬ (len : Int) ≤ l) (hl : l ≤ 1048576) (h0 : 0 ≤ l) (hm : len ≤ 9223372036854775807) :
    Calls Tryz.prog 55 #[.slice a len cap, .int .i64 l] w fun e w' => e = .returned (.int .i64 (-1)) ∧ w' = w := by
  have h1 : l - (len : Int) < 0 := by omega
  have h2 : wrap64 (l - (len : Int)) = l - (len : Int) := by rw [wrap64]; omega
  go_enter Tryz.func55, Tryz.ntmps55
  go_wp2
  go_ret
  exact ⟨rfl, rfl⟩
end Go.Proofs.YtagmnociflkhcaaGreat.TradeHelp
namespace Go.Proofs.YtagmnociflkhcaaGreat.BHelp
open Go.ChangeShapes Go.WideShapes Go.ChangeAt Go.RowKit BMem Bks ILists
open IBalsFit (St one_more)
structure Ix where
  aa : Option Addr
  ca : Nat
  ai : Option Addr
  ci : Nat
  ab : Option Addr
  cb : Nat
  al : Option Addr
  cl : Nat
  ats : Option Addr
  ct : Nat
  b : Bk
structure RdI (w : World) (y : Ix) : Prop where
  ra : Pairs.Reads w y.aa y.b.ac
  ri : Pairs.Reads w y.ai y.b.ic
  rb : Triples.Reads3 w y.ab y.b.bs
  rl : Tup5.Reads5 w y.al y.b.ls
  rt : Tup8.Reads8 w y.ats y.b.ts
theorem RdI.below {w w' : World} {y : Ix} (h : RdI w y) (k : Below w.heap.size w w') : RdI w' y :=
  ⟨h.ra.below k, h.ri.below k, h.rb.below k, h.rl.below k, h.rt.below k⟩
structure ClI (w : World) (g : Nat) (y : Ix) : Prop where
  c0 : w.cell? ⟨g, 0, none⟩ = some (.slice y.aa y.b.ac.length y.ca)
  c1 : w.cell? ⟨g, 1, none⟩ = some (.slice y.ai y.b.ic.length y.ci)
  c2 : w.cell? ⟨g, 2, none⟩ = some (.slice y.ab y.b.bs.length y.cb)
  c3 : w.cell? ⟨g, 3, none⟩ = some (.slice y.al y.b.ls.length y.cl)
  c4 : w.cell? ⟨g, 4, none⟩ = some (.slice y.ats y.b.ts.length y.ct)
  c5 : w.cell? ⟨g, 5, none⟩ = some (.int .i64 y.b.lot)
theorem ClI.below {w w' : World} {B g : Nat} {y : Ix} (h : ClI w g y) (k : Below B w w') (hg : g < B) : ClI w' g y :=
  ⟨(k.cell (p := ⟨g, 0, none⟩) hg).trans h.c0, (k.cell (p := ⟨g, 1, none⟩) hg).trans h.c1, (k.cell (p := ⟨g, 2, none⟩) hg).trans h.c2, (k.cell (p := ⟨g, 3, none⟩) hg).trans h.c3, (k.cell (p := ⟨g, 4, none⟩) hg).trans h.c4, (k.cell (p := ⟨g, 5, none⟩) hg).trans h.c5⟩
theorem boxedI (w : World) (y : Ix) (e : TypeId) : ClI (w.alloc (.cells #[.slice y.aa y.b.ac.length y.ca, .slice y.ai y.b.ic.length y.ci, .slice y.ab y.b.bs.length y.cb, .slice y.al y.b.ls.length y.cl, .slice y.ats y.b.ts.length y.ct, .int .i64 y.b.lot] e)) w.heap.size y := ⟨by simp, by simp, by simp, by simp, by simp, by simp⟩
def Lo (x : Bx) (N : Nat) : Prop := N ≤ x.ga ∧ N ≤ x.gi ∧ N ≤ x.gb ∧ N ≤ x.gl ∧ N ≤ x.gt
structure Turn (x : Bx) (w w' : World) : Prop where
  os : w'.os = w.os
  tape : w'.tape = w.tape
  output : w'.output = w.output
  size : w.heap.size ≤ w'.heap.size
  block : ∀ k, k < w.heap.size → k ≠ x.ga → k ≠ x.gi → k ≠ x.gb → k ≠ x.gl → k ≠ x.gt → w'.heap[k]? = w.heap[k]?
theorem Turn.refl (x : Bx) (w : World) : Turn x w w := ⟨rfl, rfl, rfl, Nat.le_refl _, fun _ _ _ _ _ _ _ => rfl⟩
theorem Turn.grown {x : Bx} {w u v : World} {g : Nat} (h : Turn x w u) (k : u.grownBy v (some g)) (hg : g = x.ga ∨ g = x.gi ∨ g = x.gb ∨ g = x.gl ∨ g = x.gt) : Turn x w v :=
  ⟨k.os.trans h.os, k.tape.trans h.tape, k.output.trans h.output, Nat.le_trans h.size k.size, fun j hj a b c d e => (k.block j (Nat.lt_of_lt_of_le hj h.size) (fun q => by injection q with q; omega)).trans (h.block j hj a b c d e)⟩
theorem Turn.alloc {x : Bx} {w u : World} (h : Turn x w u) (o : Obj) : Turn x w (u.alloc o) :=
  ⟨h.os, h.tape, h.output, by have := h.size; simp; omega, fun j hj a b c d e => (Below.heap_alloc u o j (Nat.lt_of_lt_of_le hj h.size)).trans (h.block j hj a b c d e)⟩
theorem Turn.below {x : Bx} {w u : World} {B : Nat} (h : Turn x w u) (hB : B ≤ w.heap.size) (lo : Lo x B) : Below B w u :=
  ⟨h.os, h.tape, h.output, h.size, fun k hk => h.block k (by omega) (by have := lo.1; omega) (by have := lo.2.1; omega) (by have := lo.2.2.1; omega) (by have := lo.2.2.2.1; omega) (by have := lo.2.2.2.2; omega)⟩
structure TB (w W : World) (y : Ix) (v0 v1 v2 v3 v4 v5 : Value) : Prop where
  b : Below w.heap.size w W
  ci : ClI W w.heap.size y
  o : Box W w.heap.size (w.heap.size + 1 + 1) v0 v1 v2 v3 v4 v5
  r : Box W w.heap.size (w.heap.size + 1) (.slice none 0 0) (.slice none 0 0) (.slice none 0 0) (.slice none 0 0) (.slice none 0 0) (.int .i64 0)
section
variable {w W W' : World} {y : Ix} {v0 v1 v2 v3 v4 v5 : Value}
theorem TB.call (h : TB w W y v0 v1 v2 v3 v4 v5) (k : Below W.heap.size W W') : TB w W' y v0 v1 v2 v3 v4 v5 := by
  have l := h.o.lt
  exact ⟨h.b.trans (k.mono h.b.size), h.ci.below k (by omega), h.o.below k (by omega), h.r.below k (by omega)⟩
theorem TB.set0 (h : TB w W y v0 v1 v2 v3 v4 v5) (u : Value) : TB w (W.setCell ⟨w.heap.size + 1 + 1, 0, none⟩ u) y u v1 v2 v3 v4 v5 := by
  obtain ⟨b, g⟩ := h.o.set0 u
  have n0 : some w.heap.size ≠ some (w.heap.size + 1 + 1) := fun e => by injection e; omega
  exact ⟨h.b.setCell (by simp; omega) u, ⟨g.cell h.ci.c0 n0, g.cell h.ci.c1 n0, g.cell h.ci.c2 n0, g.cell h.ci.c3 n0, g.cell h.ci.c4 n0, g.cell h.ci.c5 n0⟩, b, h.r.kept g (fun e => by injection e; omega)⟩
theorem TB.set1 (h : TB w W y v0 v1 v2 v3 v4 v5) (u : Value) : TB w (W.setCell ⟨w.heap.size + 1 + 1, 1, none⟩ u) y v0 u v2 v3 v4 v5 := by
  obtain ⟨b, g⟩ := h.o.set1 u
  have n0 : some w.heap.size ≠ some (w.heap.size + 1 + 1) := fun e => by injection e; omega
  exact ⟨h.b.setCell (by simp; omega) u, ⟨g.cell h.ci.c0 n0, g.cell h.ci.c1 n0, g.cell h.ci.c2 n0, g.cell h.ci.c3 n0, g.cell h.ci.c4 n0, g.cell h.ci.c5 n0⟩, b, h.r.kept g (fun e => by injection e; omega)⟩
theorem TB.set2 (h : TB w W y v0 v1 v2 v3 v4 v5) (u : Value) : TB w (W.setCell ⟨w.heap.size + 1 + 1, 2, none⟩ u) y v0 v1 u v3 v4 v5 := by
  obtain ⟨b, g⟩ := h.o.set2 u
  have n0 : some w.heap.size ≠ some (w.heap.size + 1 + 1) := fun e => by injection e; omega
  exact ⟨h.b.setCell (by simp; omega) u, ⟨g.cell h.ci.c0 n0, g.cell h.ci.c1 n0, g.cell h.ci.c2 n0, g.cell h.ci.c3 n0, g.cell h.ci.c4 n0, g.cell h.ci.c5 n0⟩, b, h.r.kept g (fun e => by injection e; omega)⟩
theorem TB.set3 (h : TB w W y v0 v1 v2 v3 v4 v5) (u : Value) : TB w (W.setCell ⟨w.heap.size + 1 + 1, 3, none⟩ u) y v0 v1 v2 u v4 v5 := by
  obtain ⟨b, g⟩ := h.o.set3 u
  have n0 : some w.heap.size ≠ some (w.heap.size + 1 + 1) := fun e => by injection e; omega
  exact ⟨h.b.setCell (by simp; omega) u, ⟨g.cell h.ci.c0 n0, g.cell h.ci.c1 n0, g.cell h.ci.c2 n0, g.cell h.ci.c3 n0, g.cell h.ci.c4 n0, g.cell h.ci.c5 n0⟩, b, h.r.kept g (fun e => by injection e; omega)⟩
theorem TB.set4 (h : TB w W y v0 v1 v2 v3 v4 v5) (u : Value) : TB w (W.setCell ⟨w.heap.size + 1 + 1, 4, none⟩ u) y v0 v1 v2 v3 u v5 := by
  obtain ⟨b, g⟩ := h.o.set4 u
  have n0 : some w.heap.size ≠ some (w.heap.size + 1 + 1) := fun e => by injection e; omega
  exact ⟨h.b.setCell (by simp; omega) u, ⟨g.cell h.ci.c0 n0, g.cell h.ci.c1 n0, g.cell h.ci.c2 n0, g.cell h.ci.c3 n0, g.cell h.ci.c4 n0, g.cell h.ci.c5 n0⟩, b, h.r.kept g (fun e => by injection e; omega)⟩
theorem TB.set5 (h : TB w W y v0 v1 v2 v3 v4 v5) (u : Value) : TB w (W.setCell ⟨w.heap.size + 1 + 1, 5, none⟩ u) y v0 v1 v2 v3 v4 u := by
  obtain ⟨b, g⟩ := h.o.set5 u
  have n0 : some w.heap.size ≠ some (w.heap.size + 1 + 1) := fun e => by injection e; omega
  exact ⟨h.b.setCell (by simp; omega) u, ⟨g.cell h.ci.c0 n0, g.cell h.ci.c1 n0, g.cell h.ci.c2 n0, g.cell h.ci.c3 n0, g.cell h.ci.c4 n0, g.cell h.ci.c5 n0⟩, b, h.r.kept g (fun e => by injection e; omega)⟩
end
theorem row_store {w : World} {base : Nat} {e : TypeId} {size : Nat} {g n cap : Nat} {xs : List Value} (h : w.ownsRow base e size (.slice (some ⟨g, 0, none⟩) n cap) n xs) {a : Addr} (ha : a.block < base) (u : Value) : (w.setCell a u).ownsRow base e size (.slice (some ⟨g, 0, none⟩) n cap) n xs := ownsRow_setCell_below h ha u
theorem toAccount (w : World) (a : Option Addr) (len cap : Nat) (ps : List (Int × Int)) (hl : ps.length = len) (h20 : len ≤ 1048576) (hr : Pairs.Reads w a ps) :
    Calls Tryz.prog 60 #[.slice a len cap] w fun e w' => ∃ g, e = .returned (.slice (some ⟨g, 0, none⟩) len len) ∧ Pairs.Own 143 w' w.heap.size g len len ps ∧ Below w.heap.size w w' :=
  (AccountHelp.toS w a len cap ps hl h20 hr).mono fun e w' ⟨h1, h2, h3⟩ => ⟨_, h1, h2, h3⟩
theorem toInstr (w : World) (a : Option Addr) (len cap : Nat) (ps : List (Int × Int)) (hl : ps.length = len) (h20 : len ≤ 1048576) (hr : Pairs.Reads w a ps) :
    Calls Tryz.prog 61 #[.slice a len cap] w fun e w' => ∃ g, e = .returned (.slice (some ⟨g, 0, none⟩) len len) ∧ Pairs.Own 144 w' w.heap.size g len len ps ∧ Below w.heap.size w w' :=
  (InstrHelp.toS w a len cap ps hl h20 hr).mono fun e w' ⟨h1, h2, h3⟩ => ⟨_, h1, h2, h3⟩
theorem toBal (w : World) (a : Option Addr) (len cap : Nat) (ps : List Bals.T3) (hl : ps.length = len) (h20 : len ≤ 1048576) (hr : Triples.Reads3 w a ps) :
    Calls Tryz.prog 62 #[.slice a len cap] w fun e w' => ∃ g, e = .returned (.slice (some ⟨g, 0, none⟩) len len) ∧ Triples.Own3 146 w' w.heap.size g len len ps ∧ Below w.heap.size w w' :=
  (BalHelp.toS w a len cap ps hl h20 hr).mono fun e w' ⟨h1, h2, h3⟩ => ⟨_, h1, h2, h3⟩
theorem toLot (w : World) (a : Option Addr) (len cap : Nat) (ps : List Tup5.T5) (hl : ps.length = len) (h20 : len ≤ 1048576) (hr : Tup5.Reads5 w a ps) :
    Calls Tryz.prog 63 #[.slice a len cap] w fun e w' => ∃ g, e = .returned (.slice (some ⟨g, 0, none⟩) len len) ∧ Tup5.Own5 148 w' w.heap.size g len len ps ∧ Below w.heap.size w w' :=
  (LotHelp.toS w a len cap ps hl h20 hr).mono fun e w' ⟨h1, h2, h3⟩ => ⟨_, h1, h2, h3⟩
theorem toTrade (w : World) (a : Option Addr) (len cap : Nat) (ps : List Tup8.T8) (hl : ps.length = len) (h20 : len ≤ 1048576) (hr : Tup8.Reads8 w a ps) :
    Calls Tryz.prog 64 #[.slice a len cap] w fun e w' => ∃ g, e = .returned (.slice (some ⟨g, 0, none⟩) len len) ∧ Tup8.Own8 141 w' w.heap.size g len len ps ∧ Below w.heap.size w w' :=
  (TradeHelp.toS w a len cap ps hl h20 hr).mono fun e w' ⟨h1, h2, h3⟩ => ⟨_, h1, h2, h3⟩
set_option maxRecDepth 100000 in
set_option maxHeartbeats 4000000 in
theorem toB (w : World) (y : Ix) (h : RdI w y) (hs : Small y.b) :
    Calls Tryz.prog 26 #[.agg #[.slice y.aa y.b.ac.length y.ca, .slice y.ai y.b.ic.length y.ci, .slice y.ab y.b.bs.length y.cb, .slice y.al y.b.ls.length y.cl, .slice y.ats y.b.ts.length y.ct, .int .i64 y.b.lot]] w fun e w' => ∃ x : Bx, x.b = y.b ∧ e = .returned (.agg #[.slice (some ⟨x.ga, 0, none⟩) x.b.ac.length x.ca, .slice (some ⟨x.gi, 0, none⟩) x.b.ic.length x.ci, .slice (some ⟨x.gb, 0, none⟩) x.b.bs.length x.cb, .slice (some ⟨x.gl, 0, none⟩) x.b.ls.length x.cl, .slice (some ⟨x.gt, 0, none⟩) x.b.ts.length x.ct, .int .i64 x.b.lot]) ∧ Ow w' w.heap.size x ∧ Below w.heap.size w w' := by
  obtain ⟨na, ni, nb, nl, nt⟩ := hs
  have H := hide h
  have T0 := hide (show TB w (((w.alloc (.cells #[.slice y.aa y.b.ac.length y.ca, .slice y.ai y.b.ic.length y.ci, .slice y.ab y.b.bs.length y.cb, .slice y.al y.b.ls.length y.cl, .slice y.ats y.b.ts.length y.ct, .int .i64 y.b.lot] 28)).alloc (.cells #[.slice none 0 0, .slice none 0 0, .slice none 0 0, .slice none 0 0, .slice none 0 0, .int .i64 0] 40)).alloc (.cells #[.slice none 0 0, .slice none 0 0, .slice none 0 0, .slice none 0 0, .slice none 0 0, .int .i64 0] 40)) y (.slice none 0 0) (.slice none 0 0) (.slice none 0 0) (.slice none 0 0) (.slice none 0 0) (.int .i64 0) from by
    have b2 : Below (w.alloc (.cells #[.slice y.aa y.b.ac.length y.ca, .slice y.ai y.b.ic.length y.ci, .slice y.ab y.b.bs.length y.cb, .slice y.al y.b.ls.length y.cl, .slice y.ats y.b.ts.length y.ct, .int .i64 y.b.lot] 28)).heap.size (w.alloc (.cells #[.slice y.aa y.b.ac.length y.ca, .slice y.ai y.b.ic.length y.ci, .slice y.ab y.b.bs.length y.cb, .slice y.al y.b.ls.length y.cl, .slice y.ats y.b.ts.length y.ct, .int .i64 y.b.lot] 28)) (((w.alloc (.cells #[.slice y.aa y.b.ac.length y.ca, .slice y.ai y.b.ic.length y.ci, .slice y.ab y.b.bs.length y.cb, .slice y.al y.b.ls.length y.cl, .slice y.ats y.b.ts.length y.ct, .int .i64 y.b.lot] 28)).alloc (.cells #[.slice none 0 0, .slice none 0 0, .slice none 0 0, .slice none 0 0, .slice none 0 0, .int .i64 0] 40)).alloc (.cells #[.slice none 0 0, .slice none 0 0, .slice none 0 0, .slice none 0 0, .slice none 0 0, .int .i64 0] 40)) := ((Below.refl _ _).alloc (Nat.le_refl _) _).alloc (by simp) _
    exact ⟨((Below.refl w.heap.size w).alloc (Nat.le_refl _) _).trans (b2.mono (by simp)), (boxedI w y 28).below b2 (by simp), Box.made _ _ _ _ _ _ (by simp; omega) (by simp), (Box.made (w := w.alloc (.cells #[.slice y.aa y.b.ac.length y.ca, .slice y.ai y.b.ic.length y.ci, .slice y.ab y.b.bs.length y.cb, .slice y.al y.b.ls.length y.cl, .slice y.ats y.b.ts.length y.ct, .int .i64 y.b.lot] 28)) (g := w.heap.size + 1) _ _ _ _ _ _ (by simp) (by simp)).below (one_more _ _) (by simp)⟩)
  clear h
  go_enter Tryz.func26, Tryz.ntmps26
  go_wp2_with fail
  have U0 := T0
  refine (toAccount _ y.aa _ y.ca y.b.ac rfl na ((unhide H).below (unhide U0).b).ra).mono ?_
  rintro e w1 ⟨g0, rfl, o, bb⟩
  have T1 := hide ((unhide U0).call bb)
  have O0 := hide (show Pairs.Own 143 w1 (w.heap.size + 3) g0 y.b.ac.length y.b.ac.length y.b.ac from o.rebase (by have := (unhide U0).o.lt; have := o.lt; omega))
  clear bb o
  have c0 := (unhide T1).o.c0
  have d0 := (unhide T1).o.free 0
  have e1 := (unhide T1).ci.c1
  go_wp2_with fail
  have U1 := hide ((unhide T1).set0 (.slice (some ⟨g0, 0, none⟩) y.b.ac.length y.b.ac.length))
  replace O0 := hide (row_store (unhide O0) (a := ⟨w.heap.size + 1 + 1, 0, none⟩) (by simp) (.slice (some ⟨g0, 0, none⟩) y.b.ac.length y.b.ac.length))
  refine (toInstr _ y.ai _ y.ci y.b.ic rfl ni ((unhide H).below (unhide U1).b).ri).mono ?_
  rintro e w2 ⟨g1, rfl, o, bb⟩
  have T2 := hide ((unhide U1).call bb)
  have O1 := hide (show Pairs.Own 144 w2 (w.heap.size + 3) g1 y.b.ic.length y.b.ic.length y.b.ic from o.rebase (by have := (unhide U1).o.lt; have := o.lt; omega))
  replace O0 := hide (show Pairs.Own 143 w2 (w.heap.size + 3) g0 y.b.ac.length y.b.ac.length y.b.ac from Pairs.Own.below (unhide O0) bb (by have := World.ownsRow.lt (unhide O0) g0 rfl; omega))
  clear bb o
  have c1 := (unhide T2).o.c1
  have d1 := (unhide T2).o.free 1
  have e2 := (unhide T2).ci.c2
  go_wp2_with fail
  have U2 := hide ((unhide T2).set1 (.slice (some ⟨g1, 0, none⟩) y.b.ic.length y.b.ic.length))
  replace O0 := hide (row_store (unhide O0) (a := ⟨w.heap.size + 1 + 1, 1, none⟩) (by simp) (.slice (some ⟨g1, 0, none⟩) y.b.ic.length y.b.ic.length))
  replace O1 := hide (row_store (unhide O1) (a := ⟨w.heap.size + 1 + 1, 1, none⟩) (by simp) (.slice (some ⟨g1, 0, none⟩) y.b.ic.length y.b.ic.length))
  refine (toBal _ y.ab _ y.cb y.b.bs rfl nb ((unhide H).below (unhide U2).b).rb).mono ?_
  rintro e w3 ⟨g2, rfl, o, bb⟩
  have T3 := hide ((unhide U2).call bb)
  have O2 := hide (show Triples.Own3 146 w3 (w.heap.size + 3) g2 y.b.bs.length y.b.bs.length y.b.bs from o.rebase (by have := (unhide U2).o.lt; have := o.lt; omega))
  replace O0 := hide (show Pairs.Own 143 w3 (w.heap.size + 3) g0 y.b.ac.length y.b.ac.length y.b.ac from Pairs.Own.below (unhide O0) bb (by have := World.ownsRow.lt (unhide O0) g0 rfl; omega))
  replace O1 := hide (show Pairs.Own 144 w3 (w.heap.size + 3) g1 y.b.ic.length y.b.ic.length y.b.ic from Pairs.Own.below (unhide O1) bb (by have := World.ownsRow.lt (unhide O1) g1 rfl; omega))
  clear bb o
  have c2 := (unhide T3).o.c2
  have d2 := (unhide T3).o.free 2
  have e3 := (unhide T3).ci.c3
  go_wp2_with fail
  have U3 := hide ((unhide T3).set2 (.slice (some ⟨g2, 0, none⟩) y.b.bs.length y.b.bs.length))
  replace O0 := hide (row_store (unhide O0) (a := ⟨w.heap.size + 1 + 1, 2, none⟩) (by simp) (.slice (some ⟨g2, 0, none⟩) y.b.bs.length y.b.bs.length))
  replace O1 := hide (row_store (unhide O1) (a := ⟨w.heap.size + 1 + 1, 2, none⟩) (by simp) (.slice (some ⟨g2, 0, none⟩) y.b.bs.length y.b.bs.length))
  replace O2 := hide (row_store (unhide O2) (a := ⟨w.heap.size + 1 + 1, 2, none⟩) (by simp) (.slice (some ⟨g2, 0, none⟩) y.b.bs.length y.b.bs.length))
  refine (toLot _ y.al _ y.cl y.b.ls rfl nl ((unhide H).below (unhide U3).b).rl).mono ?_
  rintro e w4 ⟨g3, rfl, o, bb⟩
  have T4 := hide ((unhide U3).call bb)
  have O3 := hide (show Tup5.Own5 148 w4 (w.heap.size + 3) g3 y.b.ls.length y.b.ls.length y.b.ls from o.rebase (by have := (unhide U3).o.lt; have := o.lt; omega))
  replace O0 := hide (show Pairs.Own 143 w4 (w.heap.size + 3) g0 y.b.ac.length y.b.ac.length y.b.ac from Pairs.Own.below (unhide O0) bb (by have := World.ownsRow.lt (unhide O0) g0 rfl; omega))
  replace O1 := hide (show Pairs.Own 144 w4 (w.heap.size + 3) g1 y.b.ic.length y.b.ic.length y.b.ic from Pairs.Own.below (unhide O1) bb (by have := World.ownsRow.lt (unhide O1) g1 rfl; omega))
  replace O2 := hide (show Triples.Own3 146 w4 (w.heap.size + 3) g2 y.b.bs.length y.b.bs.length y.b.bs from Triples.Own3.below (unhide O2) bb (by have := World.ownsRow.lt (unhide O2) g2 rfl; omega))
  clear bb o
  have c3 := (unhide T4).o.c3
  have d3 := (unhide T4).o.free 3
  have e4 := (unhide T4).ci.c4
  go_wp2_with fail
  have U4 := hide ((unhide T4).set3 (.slice (some ⟨g3, 0, none⟩) y.b.ls.length y.b.ls.length))
  replace O0 := hide (row_store (unhide O0) (a := ⟨w.heap.size + 1 + 1, 3, none⟩) (by simp) (.slice (some ⟨g3, 0, none⟩) y.b.ls.length y.b.ls.length))
  replace O1 := hide (row_store (unhide O1) (a := ⟨w.heap.size + 1 + 1, 3, none⟩) (by simp) (.slice (some ⟨g3, 0, none⟩) y.b.ls.length y.b.ls.length))
  replace O2 := hide (row_store (unhide O2) (a := ⟨w.heap.size + 1 + 1, 3, none⟩) (by simp) (.slice (some ⟨g3, 0, none⟩) y.b.ls.length y.b.ls.length))
  replace O3 := hide (row_store (unhide O3) (a := ⟨w.heap.size + 1 + 1, 3, none⟩) (by simp) (.slice (some ⟨g3, 0, none⟩) y.b.ls.length y.b.ls.length))
  refine (toTrade _ y.ats _ y.ct y.b.ts rfl nt ((unhide H).below (unhide U4).b).rt).mono ?_
  rintro e w5 ⟨g4, rfl, o, bb⟩
  have T5 := hide ((unhide U4).call bb)
  have O4 := hide (show Tup8.Own8 141 w5 (w.heap.size + 3) g4 y.b.ts.length y.b.ts.length y.b.ts from o.rebase (by have := (unhide U4).o.lt; have := o.lt; omega))
  replace O0 := hide (show Pairs.Own 143 w5 (w.heap.size + 3) g0 y.b.ac.length y.b.ac.length y.b.ac from Pairs.Own.below (unhide O0) bb (by have := World.ownsRow.lt (unhide O0) g0 rfl; omega))
  replace O1 := hide (show Pairs.Own 144 w5 (w.heap.size + 3) g1 y.b.ic.length y.b.ic.length y.b.ic from Pairs.Own.below (unhide O1) bb (by have := World.ownsRow.lt (unhide O1) g1 rfl; omega))
  replace O2 := hide (show Triples.Own3 146 w5 (w.heap.size + 3) g2 y.b.bs.length y.b.bs.length y.b.bs from Triples.Own3.below (unhide O2) bb (by have := World.ownsRow.lt (unhide O2) g2 rfl; omega))
  replace O3 := hide (show Tup5.Own5 148 w5 (w.heap.size + 3) g3 y.b.ls.length y.b.ls.length y.b.ls from Tup5.Own5.below (unhide O3) bb (by have := World.ownsRow.lt (unhide O3) g3 rfl; omega))
  clear bb o
  have c4 := (unhide T5).o.c4
  have d4 := (unhide T5).o.free 4
  clear c0 c1 c2 c3 d0 d1 d2 d3 e1 e2 e3 e4
  have e5 := (unhide T5).ci.c5
  have c0 := (unhide T5).o.c0
  have c1 := (unhide T5).o.c1
  have c2 := (unhide T5).o.c2
  have c3 := (unhide T5).o.c3
  have c5 := (unhide T5).o.c5
  have d5 := (unhide T5).o.free 5
  have r0 := (unhide T5).r.c0
  have f0 := (unhide T5).r.free 0
  have r1 := (unhide T5).r.c1
  have f1 := (unhide T5).r.free 1
  have r2 := (unhide T5).r.c2
  have f2 := (unhide T5).r.free 2
  have r3 := (unhide T5).r.c3
  have f3 := (unhide T5).r.free 3
  have r4 := (unhide T5).r.c4
  have f4 := (unhide T5).r.free 4
  have r5 := (unhide T5).r.c5
  have f5 := (unhide T5).r.free 5
  have B5 := hide (unhide T5).b
  go_wp2
  refine bodyPost_ret (v := .agg #[.slice (some ⟨g0, 0, none⟩) y.b.ac.length y.b.ac.length, .slice (some ⟨g1, 0, none⟩) y.b.ic.length y.b.ic.length, .slice (some ⟨g2, 0, none⟩) y.b.bs.length y.b.bs.length, .slice (some ⟨g3, 0, none⟩) y.b.ls.length y.b.ls.length, .slice (some ⟨g4, 0, none⟩) y.b.ts.length y.b.ts.length, .int .i64 y.b.lot]) (by simp [results, Tryz.results26, go_sem, r0, r1, r2, r3, r4, r5]) rfl ⟨⟨g0, y.b.ac.length, g1, y.b.ic.length, g2, y.b.bs.length, g3, y.b.ls.length, g4, y.b.ts.length, y.b⟩, rfl, rfl, ?_, ?_⟩
  · exact Ow.rebase (base := w.heap.size + 3) ⟨(row_store (row_store (row_store (row_store (row_store (row_store (row_store (row_store (unhide O0) (a := ⟨w.heap.size + 1 + 1, 4, none⟩) (by simp) _) (a := ⟨w.heap.size + 1 + 1, 5, none⟩) (by simp) _) (a := ⟨w.heap.size + 1, 0, none⟩) (by simp) _) (a := ⟨w.heap.size + 1, 1, none⟩) (by simp) _) (a := ⟨w.heap.size + 1, 2, none⟩) (by simp) _) (a := ⟨w.heap.size + 1, 3, none⟩) (by simp) _) (a := ⟨w.heap.size + 1, 4, none⟩) (by simp) _) (a := ⟨w.heap.size + 1, 5, none⟩) (by simp) _), (row_store (row_store (row_store (row_store (row_store (row_store (row_store (row_store (unhide O1) (a := ⟨w.heap.size + 1 + 1, 4, none⟩) (by simp) _) (a := ⟨w.heap.size + 1 + 1, 5, none⟩) (by simp) _) (a := ⟨w.heap.size + 1, 0, none⟩) (by simp) _) (a := ⟨w.heap.size + 1, 1, none⟩) (by simp) _) (a := ⟨w.heap.size + 1, 2, none⟩) (by simp) _) (a := ⟨w.heap.size + 1, 3, none⟩) (by simp) _) (a := ⟨w.heap.size + 1, 4, none⟩) (by simp) _) (a := ⟨w.heap.size + 1, 5, none⟩) (by simp) _), (row_store (row_store (row_store (row_store (row_store (row_store (row_store (row_store (unhide O2) (a := ⟨w.heap.size + 1 + 1, 4, none⟩) (by simp) _) (a := ⟨w.heap.size + 1 + 1, 5, none⟩) (by simp) _) (a := ⟨w.heap.size + 1, 0, none⟩) (by simp) _) (a := ⟨w.heap.size + 1, 1, none⟩) (by simp) _) (a := ⟨w.heap.size + 1, 2, none⟩) (by simp) _) (a := ⟨w.heap.size + 1, 3, none⟩) (by simp) _) (a := ⟨w.heap.size + 1, 4, none⟩) (by simp) _) (a := ⟨w.heap.size + 1, 5, none⟩) (by simp) _), (row_store (row_store (row_store (row_store (row_store (row_store (row_store (row_store (unhide O3) (a := ⟨w.heap.size + 1 + 1, 4, none⟩) (by simp) _) (a := ⟨w.heap.size + 1 + 1, 5, none⟩) (by simp) _) (a := ⟨w.heap.size + 1, 0, none⟩) (by simp) _) (a := ⟨w.heap.size + 1, 1, none⟩) (by simp) _) (a := ⟨w.heap.size + 1, 2, none⟩) (by simp) _) (a := ⟨w.heap.size + 1, 3, none⟩) (by simp) _) (a := ⟨w.heap.size + 1, 4, none⟩) (by simp) _) (a := ⟨w.heap.size + 1, 5, none⟩) (by simp) _), (row_store (row_store (row_store (row_store (row_store (row_store (row_store (row_store (unhide O4) (a := ⟨w.heap.size + 1 + 1, 4, none⟩) (by simp) _) (a := ⟨w.heap.size + 1 + 1, 5, none⟩) (by simp) _) (a := ⟨w.heap.size + 1, 0, none⟩) (by simp) _) (a := ⟨w.heap.size + 1, 1, none⟩) (by simp) _) (a := ⟨w.heap.size + 1, 2, none⟩) (by simp) _) (a := ⟨w.heap.size + 1, 3, none⟩) (by simp) _) (a := ⟨w.heap.size + 1, 4, none⟩) (by simp) _) (a := ⟨w.heap.size + 1, 5, none⟩) (by simp) _)⟩ (by omega)
  · exact (((((((((unhide B5).setCell (p := ⟨w.heap.size + 1 + 1, 4, none⟩) (by simp; omega) _).setCell (p := ⟨w.heap.size + 1 + 1, 5, none⟩) (by simp; omega) _).setCell (p := ⟨w.heap.size + 1, 0, none⟩) (by simp) _).setCell (p := ⟨w.heap.size + 1, 1, none⟩) (by simp) _).setCell (p := ⟨w.heap.size + 1, 2, none⟩) (by simp) _).setCell (p := ⟨w.heap.size + 1, 3, none⟩) (by simp) _).setCell (p := ⟨w.heap.size + 1, 4, none⟩) (by simp) _).setCell (p := ⟨w.heap.size + 1, 5, none⟩) (by simp) _)
end Go.Proofs.YtagmnociflkhcaaGreat.BHelp
namespace Go.Proofs.YtagmnociflkhcaaGreat.BkEq
open Go.ChangeShapes Go.WideShapes Go.ChangeAt Go.RowKit BMem Bks ILists BHelp
open IBalsFit (St one_more)
def Fits (b : Bk) : Prop := b.ac.length ≤ 9223372036854775807 ∧ b.ic.length ≤ 9223372036854775807 ∧ b.bs.length ≤ 9223372036854775807 ∧ b.ls.length ≤ 9223372036854775807 ∧ b.ts.length ≤ 9223372036854775807
structure Two (w W : World) (x y : Bx) : Prop where
  rx : Rd W x
  ry : Rd W y
  cx : Cl W w.heap.size x
  cy : Cl W (w.heap.size + 1) y
  b : Below w.heap.size w W
  s : w.heap.size + 1 < W.heap.size
theorem Two.step {w W W' : World} {x y : Bx} (h : Two w W x y) (k : Below W.heap.size W W') : Two w W' x y :=
  ⟨h.rx.below k, h.ry.below k, h.cx.below k (by have := h.s; omega), h.cy.below k h.s, h.b.trans (k.mono h.b.size), Nat.lt_of_lt_of_le h.s k.size⟩
theorem Two.start {w : World} {x y : Bx} (hx : Rd w x) (hy : Rd w y) (e : TypeId) : Two w ((w.alloc (.cells #[.slice (some ⟨x.ga, 0, none⟩) x.b.ac.length x.ca, .slice (some ⟨x.gi, 0, none⟩) x.b.ic.length x.ci, .slice (some ⟨x.gb, 0, none⟩) x.b.bs.length x.cb, .slice (some ⟨x.gl, 0, none⟩) x.b.ls.length x.cl, .slice (some ⟨x.gt, 0, none⟩) x.b.ts.length x.ct, .int .i64 x.b.lot] e)).alloc (.cells #[.slice (some ⟨y.ga, 0, none⟩) y.b.ac.length y.ca, .slice (some ⟨y.gi, 0, none⟩) y.b.ic.length y.ci, .slice (some ⟨y.gb, 0, none⟩) y.b.bs.length y.cb, .slice (some ⟨y.gl, 0, none⟩) y.b.ls.length y.cl, .slice (some ⟨y.gt, 0, none⟩) y.b.ts.length y.ct, .int .i64 y.b.lot] e)) x y := by
  have c := boxed (w.alloc (.cells #[.slice (some ⟨x.ga, 0, none⟩) x.b.ac.length x.ca, .slice (some ⟨x.gi, 0, none⟩) x.b.ic.length x.ci, .slice (some ⟨x.gb, 0, none⟩) x.b.bs.length x.cb, .slice (some ⟨x.gl, 0, none⟩) x.b.ls.length x.cl, .slice (some ⟨x.gt, 0, none⟩) x.b.ts.length x.ct, .int .i64 x.b.lot] e)) y e
  have c' : Cl ((w.alloc (.cells #[.slice (some ⟨x.ga, 0, none⟩) x.b.ac.length x.ca, .slice (some ⟨x.gi, 0, none⟩) x.b.ic.length x.ci, .slice (some ⟨x.gb, 0, none⟩) x.b.bs.length x.cb, .slice (some ⟨x.gl, 0, none⟩) x.b.ls.length x.cl, .slice (some ⟨x.gt, 0, none⟩) x.b.ts.length x.ct, .int .i64 x.b.lot] e)).alloc (.cells #[.slice (some ⟨y.ga, 0, none⟩) y.b.ac.length y.ca, .slice (some ⟨y.gi, 0, none⟩) y.b.ic.length y.ci, .slice (some ⟨y.gb, 0, none⟩) y.b.bs.length y.cb, .slice (some ⟨y.gl, 0, none⟩) y.b.ls.length y.cl, .slice (some ⟨y.gt, 0, none⟩) y.b.ts.length y.ct, .int .i64 y.b.lot] e)) (w.heap.size + 1) y := by simpa using c
  exact ⟨(hx.alloc _).alloc _, (hy.alloc _).alloc _, (boxed w x e).below (one_more _ _) (by simp), c', ((Below.refl w.heap.size w).alloc (Nat.le_refl _) _).alloc (by simp) _, by simp⟩
set_option maxRecDepth 100000 in
set_option maxHeartbeats 2000000 in
theorem eqB (w : World) (x y : Bx) (hb : y.b = x.b) (hx : Rd w x) (hy : Rd w y) :
    Calls Tryz.prog 32 #[.agg #[.slice (some ⟨x.ga, 0, none⟩) x.b.ac.length x.ca, .slice (some ⟨x.gi, 0, none⟩) x.b.ic.length x.ci, .slice (some ⟨x.gb, 0, none⟩) x.b.bs.length x.cb, .slice (some ⟨x.gl, 0, none⟩) x.b.ls.length x.cl, .slice (some ⟨x.gt, 0, none⟩) x.b.ts.length x.ct, .int .i64 x.b.lot], .agg #[.slice (some ⟨y.ga, 0, none⟩) y.b.ac.length y.ca, .slice (some ⟨y.gi, 0, none⟩) y.b.ic.length y.ci, .slice (some ⟨y.gb, 0, none⟩) y.b.bs.length y.cb, .slice (some ⟨y.gl, 0, none⟩) y.b.ls.length y.cl, .slice (some ⟨y.gt, 0, none⟩) y.b.ts.length y.ct, .int .i64 y.b.lot]] w fun e w' => e = .returned (.bool true) ∧ Below w.heap.size w w' := by
  obtain ⟨ga, ca, gi, ci, gb, cb, gl, cl, gt, ct, b⟩ := y
  obtain rfl : b = x.b := hb
  have T0 := hide (Two.start hx hy 40)
  have na := hx.na
  have ni := hx.ni
  have nb := hx.nb
  have nl := hx.nl
  have nt := hx.nt
  clear hx hy
  go_enter Tryz.func32, Tryz.ntmps32
  go_wp2_with fail
  refine (AccountHelp.eqS _ x.ga ga _ x.ca ca x.b.ac rfl na (unhide T0).rx.la (unhide T0).ry.la (unhide T0).rx.ra (unhide T0).ry.ra).mono ?_
  rintro e w1 ⟨rfl, bb⟩
  have T1 := hide ((unhide T0).step bb)
  clear bb
  have p1 := (unhide T1).cx.c1
  have r1 := (unhide T1).cy.c1
  go_wp2_with fail
  refine (InstrHelp.eqS _ x.gi gi _ x.ci ci x.b.ic rfl ni (unhide T1).rx.li (unhide T1).ry.li (unhide T1).rx.ri (unhide T1).ry.ri).mono ?_
  rintro e w2 ⟨rfl, bb⟩
  have T2 := hide ((unhide T1).step bb)
  clear bb
  have p2 := (unhide T2).cx.c2
  have r2 := (unhide T2).cy.c2
  go_wp2_with fail
  refine (BalHelp.eqS _ x.gb gb _ x.cb cb x.b.bs rfl nb (unhide T2).rx.lb (unhide T2).ry.lb (unhide T2).rx.rb (unhide T2).ry.rb).mono ?_
  rintro e w3 ⟨rfl, bb⟩
  have T3 := hide ((unhide T2).step bb)
  clear bb
  have p3 := (unhide T3).cx.c3
  have r3 := (unhide T3).cy.c3
  go_wp2_with fail
  refine (LotHelp.eqS _ x.gl gl _ x.cl cl x.b.ls rfl nl (unhide T3).rx.ll (unhide T3).ry.ll (unhide T3).rx.rl (unhide T3).ry.rl).mono ?_
  rintro e w4 ⟨rfl, bb⟩
  have T4 := hide ((unhide T3).step bb)
  clear bb
  have p4 := (unhide T4).cx.c4
  have r4 := (unhide T4).cy.c4
  go_wp2_with fail
  refine (TradeHelp.eqS _ x.gt gt _ x.ct ct x.b.ts rfl nt (unhide T4).rx.lt (unhide T4).ry.lt (unhide T4).rx.rt (unhide T4).ry.rt).mono ?_
  rintro e w5 ⟨rfl, bb⟩
  have T5 := hide ((unhide T4).step bb)
  clear bb
  have p5 := (unhide T5).cx.c5
  have r5 := (unhide T5).cy.c5
  go_wp2
  go_ret
  exact ⟨rfl, (unhide T5).b⟩
def e1 (b : Bk) : Int := 1 + 2 * (b.ac.length : Int)
def e2 (b : Bk) : Int := e1 b + 2 * (b.ic.length : Int)
def e3 (b : Bk) : Int := e2 b + 3 * (b.bs.length : Int)
def e4 (b : Bk) : Int := e3 b + 5 * (b.ls.length : Int)
structure OwM (w : World) (base : Nat) (x : Bx) : Prop where
  oa : Pairs.Own 143 w base x.ga x.b.ac.length x.ca (AccountMark.marks 1 x.b.ac.length)
  oi : Pairs.Own 144 w base x.gi x.b.ic.length x.ci (InstrMark.marks (e1 x.b) x.b.ic.length)
  ob : Triples.Own3 146 w base x.gb x.b.bs.length x.cb (BalHelp.marks (e2 x.b) x.b.bs.length)
  ol : Tup5.Own5 148 w base x.gl x.b.ls.length x.cl (LotHelp.marks (e3 x.b) x.b.ls.length)
  ot : Tup8.Own8 141 w base x.gt x.b.ts.length x.ct (TradeHelp.marks (e4 x.b) x.b.ts.length)
theorem OwM.below {w w' : World} {base : Nat} {x : Bx} (h : OwM w base x) (k : Below w.heap.size w w') : OwM w' base x :=
  ⟨h.oa.below k h.oa.lt.2, h.oi.below k h.oi.lt.2, h.ob.below k h.ob.lt.2, h.ol.below k h.ol.lt.2, h.ot.below k h.ot.lt.2⟩
end Go.Proofs.YtagmnociflkhcaaGreat.BkEq
namespace Go.Proofs.YtagmnociflkhcaaGreat.SBytes
open Go.ChangeShapes Go.WideShapes Go.ChangeAt Go.RowKit
theorem hide {p : Prop} (h : p) : Hid p := h
theorem unhide {p : Prop} (h : Hid p) : p := h
def AtB (w : World) (g : Nat) (xs : List Int) : Prop := ∀ i, i < xs.length → w.cell? ⟨g, i, none⟩ = some (.int .u8 (xs.getD i 0)) ∧ 0 ≤ xs.getD i 0 ∧ xs.getD i 0 ≤ 255
def stepC (p : Int × Int) (d : Int) : Int × Int := ((p.1 + d + 1) % 65535, (p.2 + (p.1 + d + 1) % 65535) % 65535)
def chk (xs : List Int) : Nat → Int × Int
  | 0 => (0, 0)
  | k + 1 => stepC (chk xs k) (xs.getD k 0)
theorem chk_in (xs : List Int) (k : Nat) : 0 ≤ (chk xs k).1 ∧ (chk xs k).1 < 65535 ∧ 0 ≤ (chk xs k).2 ∧ (chk xs k).2 < 65535 := by
  cases k with
  | zero => simp [chk]
  | succ k => simp only [chk, stepC]; omega
theorem AtB.below {w w' : World} {g B : Nat} {xs : List Int} (h : AtB w g xs) (k : Below B w w') (hg : g < B) : AtB w' g xs := fun i hi => ⟨(k.cell (p := ⟨g, i, none⟩) hg).trans (h i hi).1, (h i hi).2⟩
def chkB (xs : List Int) : Int := 65536 * (chk xs xs.length).2 + (chk xs xs.length).1
theorem tmod_pos (a : Int) (h : 0 ≤ a) : a.tmod 65535 = a % 65535 := Int.tmod_eq_emod_of_nonneg h
set_option maxRecDepth 100000 in
set_option maxHeartbeats 4000000 in
theorem sCheck (w : World) (g cap : Nat) (xs : List Int) (h20 : xs.length ≤ 1048576) (hr : AtB w g xs) :
    Calls Tryz.prog 59 #[.slice (some ⟨g, 0, none⟩) xs.length cap] w fun e w' => e = .returned (.int .i64 (65536 * (chk xs xs.length).2 + (chk xs xs.length).1)) ∧ w' = w := by
  have R := hide hr
  clear hr
  go_enter Tryz.func59, Tryz.ntmps59
  go_wp2
  go_loopw [3, 4, 5] (fun a b i wr => ∃ (k : Nat) (x y : Int), k ≤ xs.length ∧ i = .int .i64 k ∧ a = .int .i64 x ∧ b = .int .i64 y ∧ Hid ((x, y) = chk xs k) ∧ wr = w) (fun _ _ i _ => xs.length - (intOf i).toNat)
  case atStart => exact ⟨0, 0, 0, by omega, rfl, rfl, rfl, rfl, rfl⟩
  case round =>
    obtain ⟨k, x, y, hk, rfl, rfl, rfl, HC, rfl⟩ := hrel
    have q := chk_in xs k
    rw [← unhide HC] at q
    obtain ⟨q0, q1, q2, q3⟩ := q
    simp only at q0 q1 q2 q3
    by_cases t : k < xs.length
    · obtain ⟨d, d0, d1⟩ := (unhide R) k t
      have N := hide (show ((x + xs.getD k 0 + 1) % 65535, (y + (x + xs.getD k 0 + 1) % 65535) % 65535) = chk xs (k + 1) from by simp only [chk]; rw [← unhide HC]; rfl)
      clear HC
      generalize xs.getD k 0 = v at *
      have a1 : wrap64 (x + v) = x + v := by rw [wrap64]; omega
      have a2 : wrap64 (x + v + 1) = x + v + 1 := by rw [wrap64]; omega
      have a3 : (x + v + 1).tmod 65535 = (x + v + 1) % 65535 := tmod_pos _ (by omega)
      have m1 : 0 ≤ (x + v + 1) % 65535 ∧ (x + v + 1) % 65535 < 65535 := by omega
      generalize (x + v + 1) % 65535 = m at *
      have a4 : wrap64 m = m := by rw [wrap64]; omega
      have a5 : wrap64 (y + m) = y + m := by rw [wrap64]; omega
      have a6 : (y + m).tmod 65535 = (y + m) % 65535 := tmod_pos _ (by omega)
      have m2 : 0 ≤ (y + m) % 65535 ∧ (y + m) % 65535 < 65535 := by omega
      generalize (y + m) % 65535 = n at *
      have a7 : wrap64 n = n := by rw [wrap64]; omega
      have a8 : wrap64 v = v := by rw [wrap64]; omega
      go_wp2
      go_roundw
      case rel => exact ⟨k + 1, m, n, by omega, by go_num, by simp [a1, a2, a3, a4], by simp [a1, a2, a3, a4, a5, a6, a7], N, trivial⟩
      case measure => simp [intOf]; omega
    · have e : k = xs.length := by omega
      subst e
      have a1 : wrap64 (65536 * y) = 65536 * y := by rw [wrap64]; omega
      have a2 : wrap64 (65536 * y + x) = 65536 * y + x := by rw [wrap64]; omega
      have c1 : x = (chk xs xs.length).1 := congrArg Prod.fst (unhide HC)
      have c2 : y = (chk xs xs.length).2 := congrArg Prod.snd (unhide HC)
      have C1 := hide c1
      have C2 := hide c2
      clear c1 c2
      go_wp2
      go_ret
      exact ⟨by rw [← unhide C1, ← unhide C2]; simp [a1, a2], rfl⟩
end Go.Proofs.YtagmnociflkhcaaGreat.SBytes
namespace Go.Proofs.YtagmnociflkhcaaGreat.ByteH
open Go.ChangeShapes Go.WideShapes Go.ChangeAt Go.RowKit
theorem info8 : (Tryz.prog.info? 5).map (fun i => (i.zero, i.size, i.bytes)) = some (some (.int .u8 0), 1, 1) := by kernel_rfl
def At (w : World) (g : Nat) (xs : List Int) : Prop := ∀ i, i < xs.length → w.cell? ⟨g, i, none⟩ = some (.int .u8 (xs.getD i 0))
def Reads (w : World) (a : Option Addr) (xs : List Int) : Prop :=
  xs.length = 0 ∨ ∃ b off, a = some ⟨b, off, none⟩ ∧ b < w.heap.size ∧ ∀ i, i < xs.length → w.cell? ⟨b, off + i, none⟩ = some (.int .u8 (xs.getD i 0))
def Own (w : World) (base g n cap : Nat) (xs : List Int) : Prop := w.ownsRow base 5 1 (.slice (some ⟨g, 0, none⟩) n cap) n (xs.map (Value.int .u8))
theorem Own.len {w : World} {base g n cap : Nat} {xs : List Int} (h : Own w base g n cap xs) : xs.length = n := by
  have := h.1
  simpa using this
theorem Own.lt {w : World} {base g n cap : Nat} {xs : List Int} (h : Own w base g n cap xs) : base ≤ g ∧ g < w.heap.size := World.ownsRow.lt h g rfl
theorem Own.at {w : World} {base g n cap : Nat} {xs : List Int} (h : Own w base g n cap xs) : At w g xs := by
  intro i hi
  have hl := h.len
  have := World.ownsRow.cellAt h i (by omega)
  rw [this]
  simp [List.getD, hi]
theorem Own.free {w : World} {base g n cap : Nat} {xs : List Int} (h : Own w base g n cap xs) (i : Nat) : w.frozen? ⟨g, i, none⟩ = false := World.ownsRow.frozenAt h i
theorem Own.mono {w : World} {base base' g n cap : Nat} {xs : List Int} (h : Own w base g n cap xs) (hb : base' ≤ base) : Own w base' g n cap xs := by
  refine ⟨h.1, ?_⟩
  rcases h.2 with ⟨h1, _⟩ | ⟨g', c, cur, h1, h2, h3⟩
  · simp at h1
  · exact Or.inr ⟨g', c, cur, h1, Nat.le_trans hb h2, h3⟩
theorem Own.rebase {w : World} {base base' g n cap : Nat} {xs : List Int} (h : Own w base g n cap xs) (hb : base' ≤ g) : Own w base' g n cap xs := by
  refine ⟨h.1, ?_⟩
  rcases h.2 with ⟨h1, _⟩ | ⟨g', c, cur, h1, h2, h3⟩
  · simp at h1
  · obtain ⟨e, _⟩ : g = g' ∧ cap = c := by simpa using h1
    subst e
    exact Or.inr ⟨g, c, cur, h1, hb, h3⟩
theorem Own.kept {w w' : World} {base g n cap : Nat} {xs : List Int} {row : Option Nat} (h : Own w base g n cap xs) (k : w.grownBy w' row) (hne : some g ≠ row) : Own w' base g n cap xs :=
  World.ownsRow.kept h k (Or.inr hne)
theorem Own.below {w w' : World} {base g n cap B : Nat} {xs : List Int} (h : Own w base g n cap xs) (k : Below B w w') (hg : g < B) : Own w' base g n cap xs := by
  refine ⟨h.1, ?_⟩
  rcases h.2 with ⟨h1, _⟩ | ⟨g', c, cur, h1, h2, h3, h4⟩
  · simp at h1
  · obtain ⟨e, _⟩ : g = g' ∧ cap = c := by simpa using h1
    subst e
    exact Or.inr ⟨g, c, cur, h1, h2, by rw [k.block g hg]; exact h3, h4⟩
theorem At.below {w w' : World} {g B : Nat} {xs : List Int} (h : At w g xs) (k : Below B w w') (hg : g < B) : At w' g xs := fun i hi => (k.cell (p := ⟨g, i, none⟩) hg).trans (h i hi)
theorem Reads.below {w w' : World} {a : Option Addr} {xs : List Int} (h : Reads w a xs) (k : Below w.heap.size w w') : Reads w' a xs := by
  rcases h with h | ⟨b, off, rfl, hb, hc⟩
  · exact Or.inl h
  · exact Or.inr ⟨b, off, rfl, Nat.lt_of_lt_of_le hb k.size, fun i hi => (k.cell (p := ⟨b, off + i, none⟩) hb).trans (hc i hi)⟩
theorem Own.set {w : World} {base g n cap : Nat} {xs : List Int} (h : Own w base g n cap xs) (i : Nat) (x : Int) :
    Own (w.setCell ⟨g, i, none⟩ (.int .u8 x)) base g n cap (xs.set i x) ∧ w.grownBy (w.setCell ⟨g, i, none⟩ (.int .u8 x)) (some g) := by
  have := World.ownsRow.stored h i (.int .u8 x)
  refine ⟨?_, this.2⟩
  unfold Own
  rw [List.map_set]
  exact this.1
end Go.Proofs.YtagmnociflkhcaaGreat.ByteH
namespace Go.Proofs.YtagmnociflkhcaaGreat.SPut11
open Go.ChangeShapes Go.WideShapes Go.ChangeAt Go.RowKit SBytes
open ByteH (Own At)
theorem own_of_row {w : World} {base n n' : Nat} {v : Value} {vs : List Value} {xs : List Int} (h : w.ownsRow base 5 1 v n vs) (hn : n = n') (e : vs = xs.map (Value.int .u8)) (hv : ¬ v = .slice none 0 0) :
    ∃ g c, v = .slice (some ⟨g, 0, none⟩) n' c ∧ Own w base g n' c xs := by
  subst hn e
  have h' := h
  rcases h.2 with ⟨h1, _⟩ | ⟨g, c, cur, rfl, _⟩
  · exact absurd h1 hv
  · exact ⟨g, c, rfl, h'⟩
theorem own_alloc {w : World} {base g n cap : Nat} {xs : List Int} (h : Own w base g n cap xs) (o : Obj) : Own (w.alloc o) base g n cap xs := World.ownsRow.alloc h o
theorem lit0 (w : World) (base : Nat) {g : Nat} (hb : base ≤ w.heap.size) (hg : g = w.heap.size) : Own (w.alloc (.cells #[] 5)) base g 0 0 [] := by
  subst hg
  exact World.ownsRow_lit w #[] 0 hb (by decide) rfl
def AtO (w : World) (g o : Nat) (xs : List Int) : Prop := ∀ i, i < xs.length → w.cell? ⟨g, o + i, none⟩ = some (.int .u8 (xs.getD i 0))
theorem AtO.of {w : World} {g : Nat} {xs : List Int} (h : At w g xs) : AtO w g 0 xs := fun i hi => by rw [Nat.zero_add]; exact h i hi
theorem wp_catB (u : World) {ops : Array Oper} {rest : List Oper} {o : Oper} {a : Act} {Q : Exit → Act → World → Prop} (hgd : o.guard = none) (s x : Operand)
    (ho : o.op = .call { callee := .builtin .append, args := #[s, x], argTypes := #[63, 63] }) (base g n cap m : Nat) (xs ys : List Int) (vb off c : Nat)
    (hs : a.eval s = .slice (some ⟨g, 0, none⟩) n cap) (hx : a.eval x = .slice (some ⟨vb, off, none⟩) m c) (hown : Own u base g n cap xs) (hl : ys.length = m) (hv : AtO u vb off ys) (hn : n + m ≤ 9223372036854) (hb : base ≤ u.heap.size)
    (h : ∀ g' c' w', Own w' base g' (n + m) c' (xs ++ ys) → u.grownBy w' (some g) → (g' = g ∨ g' = u.heap.size) → wpList Tryz.prog ops Q rest (a.put o.dst (.slice (some ⟨g', 0, none⟩) (n + m) c')) w') : wpList Tryz.prog ops Q (o :: rest) a u := by
  obtain ⟨i0, hi, hz0, hz1, hz2⟩ := info_parts ByteH.info8
  refine wpList_append_own_at u hgd s x 63 ho base 5 i0 (.int .u8 0) 1 1 Tryz.underlying63 hi hz0 hz1 hz2 rfl (by decide) _ n _ hs hown ⟨vb, off, none⟩ m c (ys.map (Value.int .u8)) hx (by simp [hl]) (fun j v hj => by
    have hj' : j < ys.length := by
      have := (List.getElem?_eq_some_iff.1 hj).1
      simpa using this
    have := hv j hj'
    rw [Addr.add_lit, this]
    rw [← hj]
    simp [List.getD, hj']) (by intro u hu; obtain ⟨y, _, rfl⟩ := List.mem_map.1 hu; simp [Value.oneCell']) (by unfold maxLen; omega) (by omega) hb ?_
  intro v' w' own' gr' nil' loc'
  obtain ⟨g', c', rfl, o'⟩ := own_of_row (n' := n + m) (xs := xs ++ ys) own' rfl (by simp) (by rw [nil']; simp)
  exact h g' c' w' o' gr' (by simpa [Value.ownBlock] using loc')
theorem lit_one (w : World) (y : Int) : AtO (w.alloc (.cells #[.int .u8 y] 5)) w.heap.size 0 [y] := by
  intro i hi
  have : i = 0 := by simpa using hi
  subst this
  simp
def numF (x : Nat) : List Int := if 127 < x then ((x % 128 + 128 : Nat) : Int) :: numF (x / 128) else [(x : Int)]
termination_by x
theorem numF_more {x : Nat} (h : 127 < x) : numF x = ((x % 128 + 128 : Nat) : Int) :: numF (x / 128) := by rw [numF, if_pos h]
theorem numF_last {x : Nat} (h : ¬ 127 < x) : numF x = [(x : Int)] := by rw [numF, if_neg h]
theorem numF_len (n : Nat) : ∀ x : Nat, x < 128 ^ (n + 1) → (numF x).length ≤ n + 1 := by
  induction n with
  | zero => intro x h; rw [numF_last (by omega)]; simp
  | succ n ih =>
    intro x h
    by_cases t : 127 < x
    · rw [numF_more t]
      have := ih (x / 128) (by rw [Nat.pow_succ] at h; omega)
      simp
      omega
    · rw [numF_last t]; simp
theorem numF_in (n : Nat) : ∀ x : Nat, x < 128 ^ (n + 1) → ∀ y ∈ numF x, 0 ≤ y ∧ y ≤ 255 := by
  induction n with
  | zero =>
    intro x h y hy
    rw [numF_last (by omega)] at hy
    simp at hy
    omega
  | succ n ih =>
    intro x h y hy
    by_cases t : 127 < x
    · rw [numF_more t] at hy
      rcases List.mem_cons.1 hy with rfl | hy
      · omega
      · exact ih (x / 128) (by rw [Nat.pow_succ] at h; omega) y hy
    · rw [numF_last t] at hy
      simp at hy
      omega
def numB (x : Int) : List Int := if x < 0 then [] else numF x.toNat
theorem numF_nine {x : Nat} (h : x ≤ 9223372036854775807) : (numF x).length ≤ 9 := numF_len 8 x (by omega)
theorem numB_nine {x : Int} (h : x ≤ 9223372036854775807) : (numB x).length ≤ 9 := by
  unfold numB
  split
  · simp
  · exact numF_nine (by omega)
theorem one_more (w : World) (o : Obj) : Below w.heap.size w (w.alloc o) := (Below.refl _ _).alloc (Nat.le_refl _) _
set_option maxRecDepth 100000 in
set_option maxHeartbeats 4000000 in
theorem sPutNum (w : World) (x0 : Int) (hx : x0 ≤ 9223372036854775807) :
    Calls Tryz.prog 25 #[.int .i64 x0] w fun e w' => ∃ g c, e = .returned (.slice (some ⟨g, 0, none⟩) (numB x0).length c) ∧ Own w' w.heap.size g (numB x0).length c (numB x0) ∧ Below w.heap.size w w' := by
  have O0 := hide (lit0 w w.heap.size (Nat.le_refl _) rfl)
  have B0 := hide (one_more w (.cells #[] 5))
  by_cases h0 : x0 < 0
  · have e : numB x0 = [] := if_pos h0
    rw [e]
    clear e hx
    go_enter Tryz.func25, Tryz.ntmps25
    go_wp2
    go_ret
    exact ⟨w.heap.size, 0, rfl, unhide O0, unhide B0⟩
  have e : numB x0 = numF x0.toNat := if_neg h0
  rw [e]
  have L := hide (numF_nine (x := x0.toNat) (by omega))
  clear e
  obtain ⟨r, hr⟩ : ∃ r, Hid (numF x0.toNat = r) := ⟨_, rfl⟩
  rw [unhide hr] at L ⊢
  have h1 : 0 ≤ x0 := by omega
  have S0 := hide (show ([] : List Int) ++ numF x0.toNat = r from unhide hr)
  clear hr h0
  go_enter Tryz.func25, Tryz.ntmps25
  go_wp2
  go_loopw [0, 3] (fun a l wr => ∃ (x : Int) (p : List Int) (g c : Nat), a = .int .i64 x ∧ l = .slice (some ⟨g, 0, none⟩) p.length c ∧ 0 ≤ x ∧ x ≤ 9223372036854775807 ∧ Hid (p ++ numF x.toNat = r) ∧ Hid (Own wr w.heap.size g p.length c p) ∧ Hid (Below w.heap.size w wr)) (fun a _ _ => (intOf a).toNat)
  case atStart => exact ⟨x0, [], w.heap.size, 0, rfl, rfl, h1, hx, S0, O0, B0⟩
  case round =>
    clear O0 B0 S0 hx h1
    obtain ⟨x, p, g, c, rfl, rfl, x1, x2, HR, HO, HB⟩ := hrel
    have bs := (unhide HB).size
    have pl : p.length ≤ 9 := by have a := unhide L; rw [← unhide HR] at a; simp at a; omega
    have og := (unhide HO).lt
    have HX := hide (And.intro x1 x2)
    by_cases t : 127 < x
    · have N := hide (show (p ++ [x % 128 + 128]) ++ numF (x / 128).toNat = r from by
        rw [← unhide HR, numF_more (x := x.toNat) (by omega), List.append_assoc]
        have e1 : ((x.toNat % 128 + 128 : Nat) : Int) = x % 128 + 128 := by omega
        have e2 : x.toNat / 128 = (x / 128).toNat := by omega
        rw [e1, e2]; rfl)
      have E := hide (show wrap64 (x.tdiv 128) = x / 128 from by rw [Int.tdiv_eq_ediv_of_nonneg x1, wrap64]; omega)
      clear HR x1 x2
      go_wp2_with (first | (at_builtin; refine wp_catB _ rfl _ _ rfl w.heap.size g p.length c 1 p [x % 128 + 128] wr.heap.size 0 1 rfl rfl (own_alloc (unhide HO) _) rfl (lit_one _ _) (by omega) (by simp; omega) ?_) | go_in)
      intro g5 c5 w5 o5 gr5 loc5
      have O5 := hide o5
      have B5 := hide (((unhide HB).alloc (by omega) (.cells #[.int .u8 (x % 128 + 128)] 5)).grown gr5 (by simp; omega) (fun j hj => by cases hj; exact og.1))
      clear o5 gr5 loc5
      go_wp2
      go_roundw
      case rel =>
        have xx := unhide HX
        exact ⟨x / 128, p ++ [x % 128 + 128], g5, c5, congrArg (Value.int .i64) (unhide E), by rw [show (p ++ [x % 128 + 128]).length = p.length + 1 by simp], by omega, by omega, N, hide (by rw [show (p ++ [x % 128 + 128]).length = p.length + 1 by simp]; exact unhide O5), B5⟩
      case measure =>
        have xx := unhide HX
        have e := unhide E
        simp [intOf, e]
        omega
    · have N := hide (show p ++ [x] = r from by
        rw [← unhide HR, numF_last (x := x.toNat) (by omega)]
        have e1 : ((x.toNat : Nat) : Int) = x := by omega
        rw [e1])
      clear HR
      go_wp2_with (first | (at_builtin; refine wp_catB _ rfl _ _ rfl w.heap.size g p.length c 1 p [x] wr.heap.size 0 1 rfl rfl (own_alloc (unhide HO) _) rfl (lit_one _ _) (by omega) (by simp; omega) ?_) | go_in)
      intro g5 c5 w5 o5 gr5 loc5
      have O5 := hide o5
      have B5 := hide (((unhide HB).alloc (by omega) (.cells #[.int .u8 x] 5)).grown gr5 (by simp; omega) (fun j hj => by cases hj; exact og.1))
      clear o5 gr5 loc5
      go_wp2
      go_ret
      have e := unhide N
      have e1 : r.length = p.length + 1 := by rw [← e]; simp
      exact ⟨g5, c5, by rw [e1]; rfl, by rw [e1, ← e]; exact unhide O5, unhide B5⟩
end Go.Proofs.YtagmnociflkhcaaGreat.SPut11
namespace Go.Proofs.YtagmnociflkhcaaGreat.SPuts11
open Go.ChangeShapes Go.WideShapes Go.ChangeAt Go.RowKit SBytes SPut11
open ByteH (Own At)
def numsB (xs : List Int) : List Int := if ∀ i, i < xs.length → 0 ≤ xs.getD i 0 then xs.flatMap numB else []
theorem flat_next {xs : List Int} {k : Nat} (h : k < xs.length) : (xs.take (k + 1)).flatMap numB = (xs.take k).flatMap numB ++ numB (xs.getD k 0) := by
  rw [List.take_succ_eq_append_getElem h, List.flatMap_append]
  simp [List.getD, h]
theorem flat_len (xs : List Int) (h : ∀ i, i < xs.length → xs.getD i 0 ≤ 9223372036854775807) (k : Nat) (hk : k ≤ xs.length) : ((xs.take k).flatMap numB).length ≤ 9 * k := by
  induction k with
  | zero => simp
  | succ k ih =>
    rw [flat_next (by omega), List.length_append]
    have a := ih (by omega)
    have b := numB_nine (h k (by omega))
    omega
theorem numB_pos {x : Int} (h : 0 ≤ x) : numB x = numF x.toNat := if_neg (by omega)
set_option maxRecDepth 100000 in
set_option maxHeartbeats 4000000 in
theorem sPutNums (w : World) (gl cl : Nat) (xs : List Int) (h20 : xs.length ≤ 1048576) (hg : gl < w.heap.size) (hr : Ints.At w gl xs) (hi : ∀ i, i < xs.length → xs.getD i 0 ≤ 9223372036854775807) :
    Calls Tryz.prog 57 #[.slice (some ⟨gl, 0, none⟩) xs.length cl] w fun e w' => ∃ g c, e = .returned (.slice (some ⟨g, 0, none⟩) (numsB xs).length c) ∧ Own w' w.heap.size g (numsB xs).length c (numsB xs) ∧ Below w.heap.size w w' := by
  have O0 := hide (lit0 w w.heap.size (Nat.le_refl _) rfl)
  have B0 := hide (one_more w (.cells #[] 5))
  have R := hide hr
  have HI := hide hi
  have HG := hide hg
  obtain ⟨r, hq⟩ : ∃ r, Hid (numsB xs = r) := ⟨_, rfl⟩
  rw [unhide hq]
  clear hr hi hg
  go_enter Tryz.func57, Tryz.ntmps57
  go_wp2
  go_loopw [3, 4] (fun l a wr => ∃ (k g c n : Nat), a = .int .i64 k ∧ k ≤ xs.length ∧ l = .slice (some ⟨g, 0, none⟩) n c ∧ n ≤ 9 * k ∧ Hid (n = ((xs.take k).flatMap numB).length) ∧ Hid (∀ i, i < k → 0 ≤ xs.getD i 0) ∧ Hid (Own wr w.heap.size g n c ((xs.take k).flatMap numB)) ∧ Hid (Below w.heap.size w wr)) (fun _ a _ => xs.length - (intOf a).toNat)
  case atStart => exact ⟨0, w.heap.size, 0, 0, rfl, by omega, rfl, by omega, hide (by simp), hide (fun i h => absurd h (by omega)), hide (by simpa using unhide O0), B0⟩
  case round =>
    clear O0 B0
    obtain ⟨k, g, c, n, rfl, hk, rfl, nk, HN, HP, HO, HB⟩ := hrel
    have bs := (unhide HB).size
    have og := (unhide HO).lt
    by_cases t : k < xs.length
    · have d := (((unhide R).below (unhide HB) (unhide HG)) k t)
      have NX := hide (flat_next t)
      have HX := hide ((unhide HI) k t)
      have SG := hide (show 0 ≤ xs.getD k 0 → ∀ i, i < k + 1 → 0 ≤ xs.getD i 0 from fun h i hi => by
        by_cases e : i = k
        · subst e; exact h
        · exact (unhide HP) i (by omega))
      have BAD := hide (show xs.getD k 0 < 0 → r = [] from fun h => by rw [← unhide hq]; exact if_neg (fun a => by have := a k t; omega))
      clear HP
      generalize xs.getD k 0 = y at *
      have kx : (k : Int) < xs.length := by omega
      by_cases y0 : y < 0
      · have e := (unhide BAD) y0
        subst e
        have O5 := hide (lit0 wr w.heap.size bs rfl)
        have B5 := hide ((unhide HB).alloc bs (.cells #[] 5))
        clear BAD SG NX HX hq HI R
        go_wp2
        go_ret
        exact ⟨_, 0, rfl, unhide O5, unhide B5⟩
      · have S1 := hide ((unhide SG) (by omega))
        have nine := numB_nine (unhide HX)
        have xl := unhide HX
        clear BAD SG
        go_wp2_with fail
        refine (sPutNum _ y xl).mono ?_
        rintro e u ⟨g1, c1, rfl, o1, b1⟩
        have O1 := hide o1
        have B1 := hide ((unhide HB).trans (b1.mono bs))
        have HO1 := hide ((unhide HO).below b1 og.2)
        have us := b1.size
        clear o1 b1
        go_wp2_with (first | (at_builtin; refine wp_catB _ rfl _ _ rfl w.heap.size g n c (numB y).length _ (numB y) g1 0 c1 rfl rfl (unhide HO1) rfl (AtO.of (unhide O1).at) (by omega) (by omega) ?_) | go_in)
        intro g5 c5 w5 o5 gr5 loc5
        have O5 := hide o5
        have B5 := hide ((unhide B1).grown gr5 (by omega) (fun j hj => by cases hj; exact og.1))
        clear o5 gr5 loc5
        go_wp2
        go_roundw
        case rel => exact ⟨k + 1, g5, c5, n + (numB y).length, by go_num, by omega, rfl, by omega, hide (by rw [unhide NX, List.length_append, ← unhide HN]), S1, hide (by rw [unhide NX]; exact unhide O5), B5⟩
        case measure => simp [intOf]; omega
    · have e : k = xs.length := by omega
      subst e
      have E := hide (show xs.flatMap numB = r from by rw [← unhide hq]; exact (if_pos (unhide HP)).symm)
      have N := unhide HN
      have O := unhide HO
      rw [List.take_length] at N O
      rw [unhide E] at N O
      have O5 := hide O
      have N5 := hide N
      clear N O HN HO HP
      go_wp2
      go_ret
      have e := unhide N5
      subst e
      exact ⟨g, c, rfl, unhide O5, unhide HB⟩
theorem own_of_rowI {w : World} {base n n' : Nat} {v : Value} {vs : List Value} {xs : List Int} (h : w.ownsRow base 3 1 v n vs) (hn : n = n') (e : vs = xs.map (Value.int .i64)) (hv : ¬ v = .slice none 0 0) :
    ∃ g c, v = .slice (some ⟨g, 0, none⟩) n' c ∧ Ints.Own w base g n' c xs := by
  subst hn e
  have h' := h
  rcases h.2 with ⟨h1, _⟩ | ⟨g, c, cur, rfl, _⟩
  · exact absurd h1 hv
  · exact ⟨g, c, rfl, h'⟩
theorem own_allocI {w : World} {base g n cap : Nat} {xs : List Int} (h : Ints.Own w base g n cap xs) (o : Obj) : Ints.Own (w.alloc o) base g n cap xs := World.ownsRow.alloc h o
end Go.Proofs.YtagmnociflkhcaaGreat.SPuts11
