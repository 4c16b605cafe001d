/- Contracts of the model's InstrsOk and InstrKind. Conditions: a list of at most 2^20 pairs. -/
import Derived.Test.YtkbdlgbfgpoeiaaPairs
import Derived.Test.YtkbdlgbfgpoeiaaChart
namespace Go.Proofs.Ytkbdlgbfgpoeiaa.InstrSOk
open Go.ChangeShapes Go.WideShapes Go.ChangeAt Go.RowKit Pairs Chart
set_option linter.unusedVariables false

/-- b tells whether x is between two numbers. -/
def Tells (b : Bool) (x lo hi : Int) : Prop := b = true ↔ lo ≤ x ∧ x ≤ hi

theorem tells_of (x lo hi : Int) : ∃ b, Tells b x lo hi := bool_of _

/-- Between two numbers. -/
theorem sIn (x lo hi : Int) (b : Bool) (w : World) (hb : Tells b x lo hi) :
    Calls Try.prog 43 #[.int .i64 x, .int .i64 lo, .int .i64 hi] w fun e w' => e = .returned (.bool b) ∧ w' = w := by
  cases b
  · have H := hide (show lo ≤ x → ¬ x ≤ hi from fun h1 h2 => Bool.noConfusion ((unhide hb).2 ⟨h1, h2⟩))
    clear hb
    by_cases h1 : lo ≤ x
    · have h2 := (unhide H) h1
      clear H
      go_enter Try.func43, Try.ntmps43
      go_wp2
      go_ret
      exact ⟨rfl, rfl⟩
    · clear H
      go_enter Try.func43, Try.ntmps43
      go_wp2
      go_ret
      exact ⟨rfl, rfl⟩
  · obtain ⟨h1, h2⟩ := (unhide hb).1 rfl
    clear hb
    go_enter Try.func43, Try.ntmps43
    go_wp2
    go_ret
    exact ⟨rfl, rfl⟩

theorem sNo (x : Int) (b : Bool) (w : World) (hb : Tells b x 1 1000) :
    Calls Try.prog 42 #[.int .i64 x] w fun e w' => e = .returned (.bool b) ∧ w' = w := by
  go_enter Try.func42, Try.ntmps42
  go_wp2_with fail
  refine (sIn x 1 1000 b _ hb).mono ?_
  rintro e w' ⟨rfl, rfl⟩
  go_wp2
  go_ret
  exact ⟨rfl, rfl⟩

theorem drewN_more {w wr : World} (h : ∃ q, wr = w.drewN q) (m : Nat) : ∃ q, wr.drewN m = w.drewN q := by
  obtain ⟨q, rfl⟩ := h
  exact ⟨q + m, World.drewN_drewN ..⟩

set_option maxRecDepth 100000 in
set_option maxHeartbeats 2000000 in
theorem sOk (w : World) (g n cap : Nat) (ps : List (Int × Int)) (ok : Bool) (hl : ps.length = n) (h20 : n ≤ 1048576) (h : At w g ps) (hok : Says ok 8 2 ps) :
    Calls Try.prog 22 #[.slice (some ⟨g, 0, none⟩) n cap] w fun e w' => e = .returned (.bool ok) ∧ ∃ q, w' = w.drewN q := by
  by_cases nn : (8 : Int) < (n : Int)
  · obtain rfl : ok = false := hok.not (fun r => by have := r.1; omega)
    clear hok h
    go_enter Try.func22, Try.ntmps22
    go_wp2
    go_ret
    exact ⟨rfl, 0, rfl⟩
  go_enter Try.func22, Try.ntmps22
  go_wp2
  go_loopw [3] (fun i wr => ∃ (k : Nat), k ≤ n ∧ i = .int .i64 k ∧ At wr g ps ∧ Hid (∃ q, wr = w.drewN q) ∧ Hid (∀ i, i < k → RowOk 2 ps i)) (fun i _ => n - (intOf i).toNat)
  case atStart => exact ⟨0, by omega, rfl, h, hide ⟨0, rfl⟩, hide (fun i hi => absurd hi (by omega))⟩
  case round =>
    clear h
    obtain ⟨k, hk, rfl, h, HQ, HG⟩ := hrel
    by_cases t : k < n
    · obtain ⟨e1, e2⟩ := h k (by omega)
      have e3 : 0 < k → wr.cell? ⟨g, (k - 1) * 2, none⟩ = some (.int .i64 (el ps (k - 1)).1) := fun k0 => (h (k - 1) (by omega)).1
      obtain ⟨b1, B1⟩ := tells_of (el ps k).1 1 1000
      obtain ⟨b2, B2⟩ := tells_of (el ps k).2 1 2
      have ROW := hide (show RowOk 2 ps k ↔ (b1 = true) ∧ (b2 = true) ∧ (0 < k → (el ps (k - 1)).1 < (el ps k).1) from by unfold Tells at B1 B2; rw [B1, B2]; exact Iff.rfl)
      have HA := hide h
      clear h
      have BAD := hide (show ¬ RowOk 2 ps k → ok = false from fun hr => hok.not (fun r => hr (r.2 k (by omega))))
      have GOOD := hide (show RowOk 2 ps k → ∀ i, i < k + 1 → RowOk 2 ps i from fun hr i hi => by
        by_cases e : i = k
        · subst e; exact hr
        · exact (unhide HG) i (by omega))
      generalize (el ps k).1 = x at *
      generalize (el ps k).2 = y at *
      cases b1
      · have OKF := hide ((unhide BAD) (fun hr => by have := ((unhide ROW).1 hr).1; cases this))
        clear BAD GOOD ROW e3
        go_wp2_with fail
        go_quiet (first | (go_at_call 42; refine Calls.quiet_of_same (sNo _ false _ B1)))
        go_wp2
        go_ret
        exact ⟨by rw [unhide OKF]; rfl, drewN_more (unhide HQ) _⟩
      · cases b2
        · have OKF := hide ((unhide BAD) (fun hr => by have := ((unhide ROW).1 hr).2.1; cases this))
          clear BAD GOOD ROW e3
          go_wp2_with fail
          go_quiet (first | (go_at_call 42; refine Calls.quiet_of_same (sNo _ true _ B1)) | (go_at_call 43; refine Calls.quiet_of_same (sIn _ _ _ false _ B2)))
          go_wp2
          go_ret
          exact ⟨by rw [unhide OKF]; rfl, drewN_more (unhide HQ) _⟩
        · by_cases k0 : 0 < k
          · have e3 := e3 k0
            have k1 : (0 : Int) < (k : Int) := by omega
            have k2 : (0 : Int) ≤ (k : Int) - 1 := by omega
            have k3 : ((k : Int) - 1).toNat = k - 1 := by omega
            by_cases lt : (el ps (k - 1)).1 < x
            · have GO := hide ((unhide GOOD) ((unhide ROW).2 ⟨rfl, rfl, fun _ => lt⟩))
              clear BAD GOOD ROW
              have ge : ¬ x ≤ (el ps (k - 1)).1 := by omega
              generalize (el ps (k - 1)).1 = z at *
              go_wp2_with fail
              go_quiet (first | (go_at_call 42; refine Calls.quiet_of_same (sNo _ true _ B1)) | (go_at_call 43; refine Calls.quiet_of_same (sIn _ _ _ true _ B2)))
              go_wp2
              go_roundw
              case rel => exact ⟨k + 1, by omega, by go_num, unhide HA, hide (drewN_more (unhide HQ) _), GO⟩
              case measure => simp [intOf]; omega
            · have OKF := hide ((unhide BAD) (fun hr => lt (((unhide ROW).1 hr).2.2 k0)))
              clear BAD GOOD ROW
              have ge : x ≤ (el ps (k - 1)).1 := by omega
              generalize (el ps (k - 1)).1 = z at *
              go_wp2_with fail
              go_quiet (first | (go_at_call 42; refine Calls.quiet_of_same (sNo _ true _ B1)) | (go_at_call 43; refine Calls.quiet_of_same (sIn _ _ _ true _ B2)))
              go_wp2
              go_ret
              exact ⟨by rw [unhide OKF]; rfl, drewN_more (unhide HQ) _⟩
          · obtain rfl : k = 0 := by omega
            have GO := hide ((unhide GOOD) ((unhide ROW).2 ⟨rfl, rfl, fun h0 => absurd h0 k0⟩))
            clear BAD GOOD ROW e3
            go_wp2_with fail
            go_quiet (first | (go_at_call 42; refine Calls.quiet_of_same (sNo _ true _ B1)) | (go_at_call 43; refine Calls.quiet_of_same (sIn _ _ _ true _ B2)))
            go_wp2
            go_roundw
            case rel => exact ⟨1, by omega, by go_num, unhide HA, hide (drewN_more (unhide HQ) _), GO⟩
            case measure => simp [intOf]; omega
    · obtain rfl : k = n := by omega
      obtain rfl : ok = true := hok.of ⟨by omega, by rw [hl]; exact unhide HG⟩
      clear h hok
      go_wp2
      go_ret
      exact ⟨rfl, unhide HQ⟩

set_option maxRecDepth 100000 in
set_option maxHeartbeats 2000000 in
theorem sKind (w : World) (g n cap : Nat) (ps : List (Int × Int)) (no : Int) (hl : ps.length = n) (h20 : n ≤ 1048576) (h : At w g ps) :
    Calls Try.prog 35 #[.slice (some ⟨g, 0, none⟩) n cap, .int .i64 no] w fun e w' => ∃ r, IsKind 8 2 ps no r ∧ e = .returned (.int .i64 r) ∧ ∃ q, w' = w.drewN q := by
  obtain ⟨ok, OK⟩ := says_of 8 2 ps
  go_enter Try.func35, Try.ntmps35
  go_wp2
  go_loopw [5] (fun i wr => ∃ (k : Nat), k ≤ n ∧ i = .int .i64 k ∧ At wr g ps ∧ Hid (∃ q, wr = w.drewN q) ∧ Hid (∀ i, i < k → (el ps i).1 ≠ no)) (fun i _ => n - (intOf i).toNat)
  case atStart => exact ⟨0, by omega, rfl, h, hide ⟨0, rfl⟩, hide (fun i hi => absurd hi (by omega))⟩
  case round =>
    clear h
    obtain ⟨k, hk, rfl, h, HQ, HG⟩ := hrel
    by_cases t : k < n
    · obtain ⟨e1, e2⟩ := h k (by omega)
      have HA := hide h
      clear h
      have GO := hide (show (el ps k).1 ≠ no → ∀ i, i < k + 1 → (el ps i).1 ≠ no from fun hn i hi => by
        by_cases e : i = k
        · subst e; exact hn
        · exact (unhide HG) i (by omega))
      have YES := hide (show ok = true → (el ps k).1 = no → IsKind 8 2 ps no (el ps k).2 from fun ho he => .inl ⟨OK.1 ho, k, by omega, he, rfl⟩)
      generalize (el ps k).1 = x at *
      generalize (el ps k).2 = y at *
      cases ok
      · go_wp2_with fail
        refine (sOk _ _ _ _ ps false hl h20 (unhide HA) OK).mono ?_
        rintro e w2 ⟨rfl, nq, rfl⟩
        go_wp2
        go_ret
        exact ⟨0, .inr ⟨.inl OK.no, rfl⟩, rfl, drewN_more (unhide HQ) _⟩
      · go_wp2_with fail
        refine (sOk _ _ _ _ ps true hl h20 (unhide HA) OK).mono ?_
        rintro e w2 ⟨rfl, nq, rfl⟩
        by_cases eq : x = no
        · have Y := hide ((unhide YES) (by trivial) eq)
          clear YES GO
          subst eq
          go_wp2
          go_ret
          exact ⟨y, unhide Y, rfl, drewN_more (unhide HQ) _⟩
        · have eqb : (x == no) = false := by simpa using eq
          have G := hide ((unhide GO) eq)
          clear YES GO
          go_wp2
          go_roundw
          case rel => exact ⟨k + 1, by omega, by go_num, unhide HA, hide (drewN_more (unhide HQ) _), G⟩
          case measure => simp [intOf]; omega
    · obtain rfl : k = n := by omega
      have K0 := hide (show IsKind 8 2 ps no 0 from .inr ⟨.inr (fun i hi => (unhide HG) i (by omega)), rfl⟩)
      clear h
      go_wp2
      go_ret
      exact ⟨0, unhide K0, rfl, unhide HQ⟩

end Go.Proofs.Ytkbdlgbfgpoeiaa.InstrSOk
