/- Contracts of the model's BalsOk and what it calls. Condition: a list of at most 2^20 triples. -/
import Derived.Test.YtiecflifopmmoaaTriples
import Derived.WalkSmall
namespace Go.Proofs.Ytiecflifopmmoaa.SOk3
open Go.ChangeShapes Go.WideShapes Go.ChangeAt Go.RowKit Bals Triples
set_option linter.unusedVariables false
set_option linter.unusedSimpArgs false

theorem sIn (x lo hi : Int) (b : Bool) (w : World) (hb : Says b (lo ≤ x ∧ x ≤ hi)) :
    Calls Try.prog 55 #[.int .i64 x, .int .i64 lo, .int .i64 hi] w fun e w' => e = .returned (.bool b) ∧ w' = w := by
  by_cases h1 : lo ≤ x
  · by_cases h2 : x ≤ hi
    · obtain rfl : b = true := hb.of ⟨h1, h2⟩
      clear hb
      go_enter Try.func55, Try.ntmps55
      go_wp2
      go_ret
      exact ⟨rfl, rfl⟩
    · obtain rfl : b = false := hb.not (fun r => h2 r.2)
      clear hb
      go_enter Try.func55, Try.ntmps55
      go_wp2
      go_ret
      exact ⟨rfl, rfl⟩
  · obtain rfl : b = false := hb.not (fun r => h1 r.1)
    clear hb
    go_enter Try.func55, Try.ntmps55
    go_wp2
    go_ret
    exact ⟨rfl, rfl⟩

theorem sNo (x : Int) (b : Bool) (w : World) (hb : Says b (NoOk x)) :
    Calls Try.prog 33 #[.int .i64 x] w fun e w' => e = .returned (.bool b) ∧ w' = w := by
  go_enter Try.func33, Try.ntmps33
  go_wp2_with fail
  refine (sIn x 1 1000 b _ hb).mono ?_
  rintro e w' ⟨rfl, rfl⟩
  go_wp2
  go_ret
  exact ⟨rfl, rfl⟩

theorem sAmt (x : Int) (b : Bool) (w : World) (hb : Says b (Amt x)) :
    Calls Try.prog 34 #[.int .i64 x] w fun e w' => e = .returned (.bool b) ∧ w' = w := by
  go_enter Try.func34, Try.ntmps34
  go_wp2_with fail
  refine (sIn x (-1000000000000000) 1000000000000000 b _ hb).mono ?_
  rintro e w' ⟨rfl, rfl⟩
  go_wp2
  go_ret
  exact ⟨rfl, rfl⟩

theorem sBefore (a i c j : Int) (b : Bool) (w : World) (hb : Says b (a < c ∨ (a = c ∧ i < j))) :
    Calls Try.prog 35 #[.int .i64 a, .int .i64 i, .int .i64 c, .int .i64 j] w fun e w' => e = .returned (.bool b) ∧ w' = w := by
  by_cases h1 : a < c
  · obtain rfl : b = true := hb.of (.inl h1)
    clear hb
    go_enter Try.func35, Try.ntmps35
    go_wp2
    go_ret
    exact ⟨rfl, rfl⟩
  · by_cases h2 : a = c
    · subst h2
      by_cases h3 : i < j
      · obtain rfl : b = true := hb.of (.inr ⟨rfl, h3⟩)
        clear hb
        go_enter Try.func35, Try.ntmps35
        go_wp2
        go_ret
        exact ⟨rfl, rfl⟩
      · obtain rfl : b = false := hb.not (fun r => by omega)
        clear hb
        go_enter Try.func35, Try.ntmps35
        go_wp2
        go_ret
        exact ⟨rfl, rfl⟩
    · obtain rfl : b = false := hb.not (fun r => by omega)
      clear hb
      go_enter Try.func35, Try.ntmps35
      go_wp2
      go_ret
      exact ⟨rfl, rfl⟩

theorem one_more (w : World) (o : Obj) : Below w.heap.size w (w.alloc o) := (Below.refl _ _).alloc (Nat.le_refl _) _

set_option maxRecDepth 100000 in
set_option maxHeartbeats 4000000 in
theorem sOk (w : World) (g n cap : Nat) (ps : List T3) (ok : Bool) (hl : ps.length = n) (h20 : n ≤ 1048576) (hg : g < w.heap.size) (h : At3 w g ps) (hok : Says ok (Right ps)) :
    Calls Try.prog 10 #[.slice (some ⟨g, 0, none⟩) n cap] w fun e w' => e = .returned (.bool ok) ∧ Below w.heap.size w w' := by
  by_cases nn : (160 : Int) < (n : Int)
  · obtain rfl : ok = false := hok.not (fun r => by have := r.1; omega)
    clear hok h
    go_enter Try.func10, Try.ntmps10
    go_wp2
    go_ret
    exact ⟨rfl, Below.refl _ _⟩
  have H := hide h
  clear h
  go_enter Try.func10, Try.ntmps10
  go_wp2
  go_loopw [3, 4] (fun i _ wr => ∃ (k : Nat), k ≤ n ∧ i = .int .i64 k ∧ Below w.heap.size w wr ∧ Hid (∀ i, i < k → RowOk ps i)) (fun i _ _ => n - (intOf i).toNat)
  case atStart => exact ⟨0, by omega, rfl, Below.refl _ _, hide (fun i hi => absurd hi (by omega))⟩
  case round =>
    obtain ⟨k, hk, rfl, hb, HG⟩ := hrel
    by_cases t : k < n
    · have hA := (unhide H).below hb hg
      obtain ⟨e1, e2, e3⟩ := hA k (by omega)
      have e4 : 0 < k → wr.cell? ⟨g, (k - 1) * 3, none⟩ = some (.int .i64 (el3 ps (k - 1)).1) := fun k0 => (hA (k - 1) (by omega)).1
      have e5 : 0 < k → wr.cell? ⟨g, (k - 1) * 3 + 1, none⟩ = some (.int .i64 (el3 ps (k - 1)).2.1) := fun k0 => (hA (k - 1) (by omega)).2.1
      have gs : g < wr.heap.size := Nat.lt_of_lt_of_le hg hb.size
      have gne : g ≠ wr.heap.size := by omega
      clear hA
      have HB := hide hb
      clear hb
      obtain ⟨b1, B1⟩ := says_of (NoOk (el3 ps k).1)
      obtain ⟨b2, B2⟩ := says_of (NoOk (el3 ps k).2.1)
      obtain ⟨b3, B3⟩ := says_of (Amt (el3 ps k).2.2)
      obtain ⟨b4, B4⟩ := says_of ((el3 ps (k - 1)).1 < (el3 ps k).1 ∨ ((el3 ps (k - 1)).1 = (el3 ps k).1 ∧ (el3 ps (k - 1)).2.1 < (el3 ps k).2.1))
      have ROW := hide (show RowOk ps k ↔ (b1 = true) ∧ (b2 = true) ∧ (b3 = true) ∧ (el3 ps k).2.2 ≠ 0 ∧ (0 < k → b4 = true) from by unfold Says at B1 B2 B3 B4; rw [B1, B2, B3, B4]; exact Iff.rfl)
      have BAD := hide (show ¬ RowOk ps k → ok = false from fun hr => hok.not (fun r => hr (r.2 k (by omega))))
      have GOOD := hide (show RowOk ps k → ∀ i, i < k + 1 → RowOk ps i from fun hr i hi => by
        by_cases e : i = k
        · subst e; exact hr
        · exact (unhide HG) i (by omega))
      generalize (el3 ps k).1 = x at *
      generalize (el3 ps k).2.1 = y at *
      generalize (el3 ps k).2.2 = z at *
      generalize (el3 ps (k - 1)).1 = u at *
      generalize (el3 ps (k - 1)).2.1 = v at *
      have NB := hide (fun m => next (unhide HB) (below_drewN (one_more wr (.cells #[.int .i64 x, .int .i64 y, .int .i64 z] 54)) m))
      cases b1
      · clear e4 e5 B4
        have OKF := hide ((unhide BAD) (fun hr => by have := (unhide ROW).1 hr; cases this.1))
        clear BAD GOOD ROW
        go_wp2_with fail
        go_quiet (first | (go_at_call 33; refine Calls.quiet_of_same (sNo _ false _ B1)))
        go_wp2
        go_ret
        exact ⟨by rw [unhide OKF]; rfl, (unhide NB) _⟩
      · cases b2
        · clear e4 e5 B4
          have OKF := hide ((unhide BAD) (fun hr => by have := (unhide ROW).1 hr; cases this.2.1))
          clear BAD GOOD ROW
          go_wp2_with fail
          go_quiet (first | (go_at_call 33; refine Calls.quiet_of_same (sNo _ true _ B1)) | (go_at_call 33; refine Calls.quiet_of_same (sNo _ false _ B2)))
          go_wp2
          go_ret
          exact ⟨by rw [unhide OKF]; rfl, (unhide NB) _⟩
        · cases b3
          · clear e4 e5 B4
            have OKF := hide ((unhide BAD) (fun hr => by have := (unhide ROW).1 hr; cases this.2.2.1))
            clear BAD GOOD ROW
            go_wp2_with fail
            go_quiet (first | (go_at_call 33; refine Calls.quiet_of_same (sNo _ true _ B1)) | (go_at_call 33; refine Calls.quiet_of_same (sNo _ true _ B2)) | (go_at_call 34; refine Calls.quiet_of_same (sAmt _ false _ B3)))
            go_wp2
            go_ret
            exact ⟨by rw [unhide OKF]; rfl, (unhide NB) _⟩
          · by_cases z0 : z = 0
            · subst z0
              clear e4 e5 B4
              have OKF := hide ((unhide BAD) (fun hr => by have := (unhide ROW).1 hr; exact this.2.2.2.1 rfl))
              clear BAD GOOD ROW
              go_wp2_with fail
              go_quiet (first | (go_at_call 33; refine Calls.quiet_of_same (sNo _ true _ B1)) | (go_at_call 33; refine Calls.quiet_of_same (sNo _ true _ B2)) | (go_at_call 34; refine Calls.quiet_of_same (sAmt _ true _ B3)))
              go_wp2
              go_ret
              exact ⟨by rw [unhide OKF]; rfl, (unhide NB) _⟩
            · have zb : (z == 0) = false := by simpa using z0
              by_cases k0 : 0 < k
              · have e4 := e4 k0
                have e5 := e5 k0
                have k1 : (0 : Int) < (k : Int) := by omega
                have k2 : (0 : Int) ≤ (k : Int) - 1 := by omega
                have k3 : ((k : Int) - 1).toNat = k - 1 := by omega
                have k4 : IntKind.i64.wrap ((k : Int) - 1) = (k : Int) - 1 := by rw [IntKind.wrap_i64]; omega
                have k5 : (k : Int) - 1 < (n : Int) := by omega
                cases b4
                · have OKF := hide ((unhide BAD) (fun hr => by have := (unhide ROW).1 hr; cases this.2.2.2.2 k0))
                  clear BAD GOOD ROW
                  go_wp2_with fail
                  go_quiet (first | (go_at_call 33; refine Calls.quiet_of_same (sNo _ true _ B1)) | (go_at_call 33; refine Calls.quiet_of_same (sNo _ true _ B2)) | (go_at_call 34; refine Calls.quiet_of_same (sAmt _ true _ B3)) | (go_at_call 35; refine Calls.quiet_of_same (sBefore _ _ _ _ false _ B4)))
                  go_wp2
                  go_ret
                  exact ⟨by rw [unhide OKF]; rfl, (unhide NB) _⟩
                · have GO := hide ((unhide GOOD) ((unhide ROW).2 ⟨rfl, rfl, rfl, z0, fun _ => rfl⟩))
                  clear BAD GOOD ROW
                  go_wp2_with fail
                  go_quiet (first | (go_at_call 33; refine Calls.quiet_of_same (sNo _ true _ B1)) | (go_at_call 33; refine Calls.quiet_of_same (sNo _ true _ B2)) | (go_at_call 34; refine Calls.quiet_of_same (sAmt _ true _ B3)) | (go_at_call 35; refine Calls.quiet_of_same (sBefore _ _ _ _ true _ B4)))
                  go_wp2
                  go_roundw
                  case rel => exact ⟨k + 1, by omega, by go_num, (unhide NB) _, GO⟩
                  case measure => simp [intOf]; omega
              · obtain rfl : k = 0 := by omega
                clear e4 e5 B4
                have GO := hide ((unhide GOOD) ((unhide ROW).2 ⟨rfl, rfl, rfl, z0, fun h0 => absurd h0 k0⟩))
                clear BAD GOOD ROW
                go_wp2_with fail
                go_quiet (first | (go_at_call 33; refine Calls.quiet_of_same (sNo _ true _ B1)) | (go_at_call 33; refine Calls.quiet_of_same (sNo _ true _ B2)) | (go_at_call 34; refine Calls.quiet_of_same (sAmt _ true _ B3)))
                go_wp2
                go_roundw
                case rel => exact ⟨1, by omega, by go_num, (unhide NB) _, GO⟩
                case measure => simp [intOf]; omega
    · obtain rfl : k = n := by omega
      obtain rfl : ok = true := hok.of ⟨by omega, by rw [hl]; exact unhide HG⟩
      have HB := hide hb
      clear hb hok
      go_wp2
      go_ret
      exact ⟨rfl, unhide HB⟩

end Go.Proofs.Ytiecflifopmmoaa.SOk3
