/- Trades that are right: what the program and the specification tell of one and of a list. -/
import Derived.Test.YtlbdfaahcmlddaaIHave
import Derived.Test.YtlbdfaahcmlddaaSOk5
namespace Go.Proofs.Ytlbdfaahcmlddaa.ITrade
open Go.ChangeShapes Go.WideShapes Go.ChangeAt Go.RowKit BMem Bks IRead IHave
open Tup8 (T8 el8 At8 Holds8 Own8 Reads8)
open Lots (Says says_of NoOk)
open SOk5 (one_more)
set_option linter.unusedVariables false
set_option linter.unusedSimpArgs false

/-- Numbers in a new block. -/
theorem at_new (w : World) (xs : List Int) (e : TypeId) {g : Nat} {cur : Array Value} (hg : g = w.heap.size) (hc : cur = (xs.map (Value.int .i64)).toArray) : Ints.At (w.alloc (.cells cur e)) g xs := by
  subst hg hc
  intro i hi
  unfold World.cell?
  simp only [heap_alloc_new]
  simp [hi]

set_option maxRecDepth 100000 in
set_option maxHeartbeats 2000000 in
theorem iOne (w : World) (x0 x1 x2 x3 x4 x5 x6 x7 : Int) (b : Bool) (hb : Says b (TOne (x0, x1, x2, x3, x4, x5, x6, x7))) :
    Calls Try.prog 13 #[.agg #[.int .i64 x0, .int .i64 x1, .int .i64 x2, .int .i64 x3, .int .i64 x4, .int .i64 x5, .int .i64 x6, .int .i64 x7]] w fun e w' => e = .returned (.bool b) ∧ Below w.heap.size w w' := by
  have T := hide hb
  obtain ⟨b1, h1⟩ := says_of (∀ x ∈ [x0, x1, x2, x3, x5], NoOk x)
  have H1 := hide h1
  obtain ⟨b4, h4⟩ := says_of (1 ≤ x4 ∧ x4 ≤ 1000000000000000)
  have H4 := hide h4
  obtain ⟨b6, h6⟩ := says_of (0 ≤ x6 ∧ x6 ≤ 1000000000000000)
  have H6 := hide h6
  clear hb h1 h4 h6
  go_enter Try.func13, Try.ntmps13
  go_wp2_with fail
  refine (iNumbers _ (w.heap.size + 1) 5 5 [x0, x1, x2, x3, x5] b1 rfl (by omega) (by simp) (at_new _ [x0, x1, x2, x3, x5] _ (by simp) rfl) (unhide H1)).mono ?_
  rintro e w1 ⟨rfl, b1'⟩
  have B1 := hide ((((Below.refl w.heap.size w).alloc (Nat.le_refl _) _).alloc (by simp) _).trans (b1'.mono (by simp; omega)))
  have e1 : w1.cell? ⟨w.heap.size, 1, none⟩ = some (.int .i64 x1) := (b1'.cell (p := ⟨w.heap.size, 1, none⟩) (by simp; omega)).trans (by simp)
  have e2 : w1.cell? ⟨w.heap.size, 2, none⟩ = some (.int .i64 x2) := (b1'.cell (p := ⟨w.heap.size, 2, none⟩) (by simp; omega)).trans (by simp)
  have e4 : w1.cell? ⟨w.heap.size, 4, none⟩ = some (.int .i64 x4) := (b1'.cell (p := ⟨w.heap.size, 4, none⟩) (by simp; omega)).trans (by simp)
  have e6 : w1.cell? ⟨w.heap.size, 6, none⟩ = some (.int .i64 x6) := (b1'.cell (p := ⟨w.heap.size, 6, none⟩) (by simp; omega)).trans (by simp)
  have e7 : w1.cell? ⟨w.heap.size, 7, none⟩ = some (.int .i64 x7) := (b1'.cell (p := ⟨w.heap.size, 7, none⟩) (by simp; omega)).trans (by simp)
  clear b1'
  cases b1
  · have F := hide ((unhide T).not (fun h => (unhide H1).no (by
      obtain ⟨k0, k1, k2, k3, k5, _⟩ := h
      intro x hx
      simp at hx
      rcases hx with rfl | rfl | rfl | rfl | rfl
      · exact k0
      · exact k1
      · exact k2
      · exact k3
      · exact k5)))
    clear T H1 H4 H6
    go_wp2
    go_ret
    exact ⟨by rw [unhide F]; rfl, unhide B1⟩
  have N := hide (unhide H1).yes
  by_cases c : x1 = x2
  · have F := hide ((unhide T).not (fun h => h.2.2.2.2.2.1 c))
    have hz : (x1 != x2) = false := by simp [c]
    clear T H1 H4 H6 N c
    go_wp2
    go_ret
    exact ⟨by rw [unhide F]; rfl, unhide B1⟩
  have hz : (x1 != x2) = true := by simp [c]
  have C := hide c
  clear c
  go_wp2_with fail
  refine (iFrom _ _ b4 _ (unhide H4)).mono ?_
  rintro e w2 ⟨rfl, rfl⟩
  cases b4
  · have F := hide ((unhide T).not (fun h => (unhide H4).no h.2.2.2.2.2.2.1))
    clear T H1 H4 H6 N C
    go_wp2
    go_ret
    exact ⟨by rw [unhide F]; rfl, unhide B1⟩
  go_wp2_with fail
  refine (iFrom _ _ b6 _ (unhide H6)).mono ?_
  rintro e w2 ⟨rfl, rfl⟩
  cases b6
  · have F := hide ((unhide T).not (fun h => (unhide H6).no h.2.2.2.2.2.2.2.1))
    clear T H1 H4 H6 N C
    go_wp2
    go_ret
    exact ⟨by rw [unhide F]; rfl, unhide B1⟩
  by_cases c1 : 1 ≤ x7
  · have hd : decide (x7 ≤ 3) = b := by
      by_cases c2 : x7 ≤ 3
      · rw [decide_eq_true c2]
        exact ((unhide T).of ⟨(unhide N) _ (by simp), (unhide N) _ (by simp), (unhide N) _ (by simp), (unhide N) _ (by simp), (unhide N) _ (by simp), unhide C, (unhide H4).yes, (unhide H6).yes, c1, c2⟩).symm
      · rw [decide_eq_false c2]
        exact ((unhide T).not (fun h => c2 h.2.2.2.2.2.2.2.2.2)).symm
    clear T H1 H4 H6 N C
    go_wp2
    go_ret
    exact ⟨rfl, unhide B1⟩
  · have F := hide ((unhide T).not (fun h => c1 h.2.2.2.2.2.2.2.2.1))
    have hd : decide (1 ≤ x7) = false := decide_eq_false c1
    clear T H1 H4 H6 N C c1
    go_wp2
    go_ret
    exact ⟨by rw [unhide F]; rfl, unhide B1⟩

/-- The number ahead of element k. -/
def ahead (ps : List T8) (k : Nat) : Int := if k = 0 then 0 else (el8 ps (k - 1)).1
theorem ahead_next (ps : List T8) (k : Nat) : ahead ps (k + 1) = (el8 ps k).1 := by simp [ahead]
theorem row_iff (ps : List T8) (k : Nat) : TRowOk ps k ↔ TOne (el8 ps k) ∧ ¬ (el8 ps k).1 ≤ ahead ps k := by
  unfold TRowOk ahead
  by_cases k0 : k = 0
  · subst k0
    constructor
    · rintro ⟨h, _⟩
      have := h.1.1
      refine ⟨h, ?_⟩
      rw [if_pos rfl]
      omega
    · rintro ⟨h, _⟩
      exact ⟨h, fun h => by omega⟩
  · rw [if_neg k0]
    constructor
    · rintro ⟨h, k⟩
      have := k (by omega)
      exact ⟨h, by omega⟩
    · rintro ⟨h, k⟩
      exact ⟨h, fun _ => by omega⟩

set_option maxRecDepth 100000 in
set_option maxHeartbeats 2000000 in
theorem iOk (w : World) (g n cap : Nat) (ps : List T8) (ok : Bool) (hl : ps.length = n) (h20 : n ≤ 1048576) (hg : g < w.heap.size) (h : At8 w g ps) (hok : Says ok (TRight ps)) :
    Calls Try.prog 7 #[.slice (some ⟨g, 0, none⟩) n cap] w fun e w' => e = .returned (.bool ok) ∧ Below w.heap.size w w' := by
  have HL := hide hl
  by_cases nn : (30 : Int) < (n : Int)
  · obtain rfl : ok = false := hok.not (fun r => by have := r.1; omega)
    clear hok h hl
    go_enter Try.func7, Try.ntmps7
    go_wp2
    go_ret
    exact ⟨rfl, Below.refl _ _⟩
  have OK := hide hok
  have H := hide h
  clear hok h hl
  go_enter Try.func7, Try.ntmps7
  go_wp2
  go_loopw [3, 11] (fun p i wr => ∃ (k : Nat) (bf : Int), k ≤ n ∧ i = .int .i64 k ∧ p = .int .i64 bf ∧ Hid (ahead ps k = bf) ∧ Below w.heap.size w wr ∧ Hid (∀ i, i < k → TRowOk ps i)) (fun _ i _ => n - (intOf i).toNat)
  case atStart => exact ⟨0, 0, by omega, rfl, rfl, hide rfl, Below.refl _ _, hide (fun i hi => absurd hi (by omega))⟩
  case round =>
    obtain ⟨k, bf, hk, rfl, rfl, HP, hb, HG⟩ := hrel
    have HB := hide hb
    have hs := hb.size
    by_cases t : k < n
    · obtain ⟨d0, d1, d2, d3, d4, d5, d6, d7⟩ := (((unhide H) k (by rw [unhide HL]; exact t)).below hb hg)
      clear hb
      have ROW := hide (row_iff ps k)
      rw [unhide HP] at ROW
      have AN := hide (ahead_next ps k)
      have BAD := hide (show ¬ TRowOk ps k → ok = false from fun hr => (unhide OK).not (fun r => hr (r.2 k (by rw [unhide HL]; exact t))))
      have GOOD := hide (show TRowOk ps k → ∀ i, i < k + 1 → TRowOk ps i from fun hr i hi => by
        by_cases e : i = k
        · subst e; exact hr
        · exact (unhide HG) i (by omega))
      have EL : Hid (el8 ps k = ((el8 ps k).1, (el8 ps k).2.1, (el8 ps k).2.2.1, (el8 ps k).2.2.2.1, (el8 ps k).2.2.2.2.1, (el8 ps k).2.2.2.2.2.1, (el8 ps k).2.2.2.2.2.2.1, (el8 ps k).2.2.2.2.2.2.2)) := rfl
      generalize (el8 ps k).1 = x0 at *
      generalize (el8 ps k).2.1 = x1 at *
      generalize (el8 ps k).2.2.1 = x2 at *
      generalize (el8 ps k).2.2.2.1 = x3 at *
      generalize (el8 ps k).2.2.2.2.1 = x4 at *
      generalize (el8 ps k).2.2.2.2.2.1 = x5 at *
      generalize (el8 ps k).2.2.2.2.2.2.1 = x6 at *
      generalize (el8 ps k).2.2.2.2.2.2.2 = x7 at *
      rw [unhide EL] at ROW
      obtain ⟨b1, h1⟩ := says_of (TOne (x0, x1, x2, x3, x4, x5, x6, x7))
      have H1 := hide h1
      clear h1 EL
      go_wp2_with fail
      refine (iOne _ x0 x1 x2 x3 x4 x5 x6 x7 b1 (unhide H1)).mono ?_
      rintro e w1 ⟨rfl, b1'⟩
      have e0 : w1.cell? ⟨wr.heap.size, 0, none⟩ = some (.int .i64 x0) := (b1'.cell (p := ⟨wr.heap.size, 0, none⟩) (by simp)).trans (by simp)
      have B1 := hide ((unhide HB).trans ((((Below.refl wr.heap.size wr).alloc (Nat.le_refl _) _).trans (b1'.mono (by simp))).mono hs))
      clear b1' d0 d1 d2 d3 d4 d5 d6 d7
      cases b1
      · have F := hide ((unhide BAD) (fun hr => (unhide H1).no ((unhide ROW).1 hr).1))
        clear BAD GOOD ROW H1
        go_wp2
        go_ret
        exact ⟨by rw [unhide F]; rfl, unhide B1⟩
      by_cases c : x0 ≤ bf
      · have F := hide ((unhide BAD) (fun hr => by have := ((unhide ROW).1 hr).2; omega))
        clear BAD GOOD ROW H1
        go_wp2
        go_ret
        exact ⟨by rw [unhide F]; rfl, unhide B1⟩
      · have G := hide ((unhide GOOD) ((unhide ROW).2 ⟨(unhide H1).yes, by omega⟩))
        have hc : decide (x0 ≤ bf) = false := decide_eq_false c
        clear BAD GOOD ROW H1 c
        go_wp2
        go_roundw
        case rel => exact ⟨k + 1, x0, by omega, by go_num, rfl, AN, unhide B1, G⟩
        case measure => simp [intOf]; omega
    · clear hb
      have F := hide ((unhide OK).of ⟨by rw [unhide HL]; omega, fun i hi => (unhide HG) i (by rw [unhide HL] at hi; omega)⟩)
      go_wp2
      go_ret
      exact ⟨by rw [unhide F]; rfl, unhide HB⟩

set_option maxRecDepth 100000 in
set_option maxHeartbeats 4000000 in
theorem sOk (w : World) (g n cap : Nat) (ps : List T8) (ok : Bool) (hl : ps.length = n) (h20 : n ≤ 1048576) (hg : g < w.heap.size) (h : At8 w g ps) (hok : Says ok (TRight ps)) :
    Calls Try.prog 5 #[.slice (some ⟨g, 0, none⟩) n cap] w fun e w' => e = .returned (.bool ok) ∧ Below w.heap.size w w' := by
  have HL := hide hl
  by_cases nn : (30 : Int) < (n : Int)
  · obtain rfl : ok = false := hok.not (fun r => by have := r.1; omega)
    clear hok h hl
    go_enter Try.func5, Try.ntmps5
    go_wp2
    go_ret
    exact ⟨rfl, Below.refl _ _⟩
  have OK := hide hok
  have H := hide h
  clear hok h hl
  go_enter Try.func5, Try.ntmps5
  go_wp2
  go_loopw [3] (fun i wr => ∃ (k : Nat), k ≤ n ∧ i = .int .i64 k ∧ Below w.heap.size w wr ∧ Hid (∀ i, i < k → TRowOk ps i)) (fun i _ => n - (intOf i).toNat)
  case atStart => exact ⟨0, by omega, rfl, Below.refl _ _, hide (fun i hi => absurd hi (by omega))⟩
  case round =>
    obtain ⟨k, hk, rfl, hb, HG⟩ := hrel
    have HB := hide hb
    have hs := hb.size
    by_cases t : k < n
    · obtain ⟨d0, d1, d2, d3, d4, d5, d6, d7⟩ := (((unhide H) k (by rw [unhide HL]; exact t)).below hb hg)
      have PR : k = 0 ∨ ∃ z : Int, Hid ((el8 ps (k - 1)).1 = z) ∧ 0 < k ∧ wr.cell? ⟨g, (k - 1) * 8, none⟩ = some (.int .i64 z) := by
        by_cases k0 : k = 0
        · exact .inl k0
        · exact .inr ⟨_, hide rfl, by omega, (((unhide H) (k - 1) (by rw [unhide HL]; omega)).below hb hg).1⟩
      clear hb
      have ROW := hide (show TRowOk ps k ↔ TOne (el8 ps k) ∧ (0 < k → (el8 ps (k - 1)).1 < (el8 ps k).1) from Iff.rfl)
      have BAD := hide (show ¬ TRowOk ps k → ok = false from fun hr => (unhide OK).not (fun r => hr (r.2 k (by rw [unhide HL]; exact t))))
      have GOOD := hide (show TRowOk ps k → ∀ i, i < k + 1 → TRowOk ps i from fun hr i hi => by
        by_cases e : i = k
        · subst e; exact hr
        · exact (unhide HG) i (by omega))
      have EL : Hid (el8 ps k = ((el8 ps k).1, (el8 ps k).2.1, (el8 ps k).2.2.1, (el8 ps k).2.2.2.1, (el8 ps k).2.2.2.2.1, (el8 ps k).2.2.2.2.2.1, (el8 ps k).2.2.2.2.2.2.1, (el8 ps k).2.2.2.2.2.2.2)) := rfl
      generalize (el8 ps k).1 = x0 at *
      generalize (el8 ps k).2.1 = x1 at *
      generalize (el8 ps k).2.2.1 = x2 at *
      generalize (el8 ps k).2.2.2.1 = x3 at *
      generalize (el8 ps k).2.2.2.2.1 = x4 at *
      generalize (el8 ps k).2.2.2.2.2.1 = x5 at *
      generalize (el8 ps k).2.2.2.2.2.2.1 = x6 at *
      generalize (el8 ps k).2.2.2.2.2.2.2 = x7 at *
      rw [unhide EL] at ROW
      clear EL
      have NB := hide (fun m => (unhide HB).trans ((below_drewN (one_more wr (.cells #[.int .i64 x0, .int .i64 x1, .int .i64 x2, .int .i64 x3, .int .i64 x4, .int .i64 x5, .int .i64 x6, .int .i64 x7] 30)) m).mono hs))
      obtain ⟨b0, B0⟩ := says_of (NoOk x0)
      obtain ⟨b1, B1⟩ := says_of (NoOk x1)
      obtain ⟨b2, B2⟩ := says_of (NoOk x2)
      obtain ⟨b3, B3⟩ := says_of (NoOk x3)
      obtain ⟨b4, B4⟩ := says_of (NoOk x5)
      obtain ⟨b6, B6⟩ := says_of (1 ≤ x4 ∧ x4 ≤ 1000000000000000)
      obtain ⟨b7, B7⟩ := says_of (0 ≤ x6 ∧ x6 ≤ 1000000000000000)
      obtain ⟨b8, B8⟩ := says_of (1 ≤ x7 ∧ x7 ≤ 3)
      cases b0
      · have F := hide ((unhide BAD) (fun hr => B0.no ((unhide ROW).1 hr).1.1))
        clear BAD GOOD ROW PR
        go_wp2_with fail
        go_quiet (first | (go_at_call 9; refine Calls.quiet_of_same (SOk5.sNo _ false _ B0)))
        go_wp2
        go_ret
        exact ⟨by rw [unhide F]; rfl, (unhide NB) _⟩
      cases b1
      · have F := hide ((unhide BAD) (fun hr => B1.no ((unhide ROW).1 hr).1.2.1))
        clear BAD GOOD ROW PR
        go_wp2_with fail
        go_quiet (first | (go_at_call 9; refine Calls.quiet_of_same (SOk5.sNo _ true _ B0)) | (go_at_call 9; refine Calls.quiet_of_same (SOk5.sNo _ false _ B1)))
        go_wp2
        go_ret
        exact ⟨by rw [unhide F]; rfl, (unhide NB) _⟩
      cases b2
      · have F := hide ((unhide BAD) (fun hr => B2.no ((unhide ROW).1 hr).1.2.2.1))
        clear BAD GOOD ROW PR
        go_wp2_with fail
        go_quiet (first | (go_at_call 9; refine Calls.quiet_of_same (SOk5.sNo _ true _ B0)) | (go_at_call 9; refine Calls.quiet_of_same (SOk5.sNo _ true _ B1)) | (go_at_call 9; refine Calls.quiet_of_same (SOk5.sNo _ false _ B2)))
        go_wp2
        go_ret
        exact ⟨by rw [unhide F]; rfl, (unhide NB) _⟩
      cases b3
      · have F := hide ((unhide BAD) (fun hr => B3.no ((unhide ROW).1 hr).1.2.2.2.1))
        clear BAD GOOD ROW PR
        go_wp2_with fail
        go_quiet (first | (go_at_call 9; refine Calls.quiet_of_same (SOk5.sNo _ true _ B0)) | (go_at_call 9; refine Calls.quiet_of_same (SOk5.sNo _ true _ B1)) | (go_at_call 9; refine Calls.quiet_of_same (SOk5.sNo _ true _ B2)) | (go_at_call 9; refine Calls.quiet_of_same (SOk5.sNo _ false _ B3)))
        go_wp2
        go_ret
        exact ⟨by rw [unhide F]; rfl, (unhide NB) _⟩
      cases b4
      · have F := hide ((unhide BAD) (fun hr => B4.no ((unhide ROW).1 hr).1.2.2.2.2.1))
        clear BAD GOOD ROW PR
        go_wp2_with fail
        go_quiet (first | (go_at_call 9; refine Calls.quiet_of_same (SOk5.sNo _ true _ B0)) | (go_at_call 9; refine Calls.quiet_of_same (SOk5.sNo _ true _ B1)) | (go_at_call 9; refine Calls.quiet_of_same (SOk5.sNo _ true _ B2)) | (go_at_call 9; refine Calls.quiet_of_same (SOk5.sNo _ true _ B3)) | (go_at_call 9; refine Calls.quiet_of_same (SOk5.sNo _ false _ B4)))
        go_wp2
        go_ret
        exact ⟨by rw [unhide F]; rfl, (unhide NB) _⟩
      by_cases c : x1 = x2
      · have F := hide ((unhide BAD) (fun hr => ((unhide ROW).1 hr).1.2.2.2.2.2.1 c))
        have hz : (x1 == x2) = true := by simp [c]
        clear BAD GOOD ROW c PR
        go_wp2_with fail
        go_quiet (first | (go_at_call 9; refine Calls.quiet_of_same (SOk5.sNo _ true _ B0)) | (go_at_call 9; refine Calls.quiet_of_same (SOk5.sNo _ true _ B1)) | (go_at_call 9; refine Calls.quiet_of_same (SOk5.sNo _ true _ B2)) | (go_at_call 9; refine Calls.quiet_of_same (SOk5.sNo _ true _ B3)) | (go_at_call 9; refine Calls.quiet_of_same (SOk5.sNo _ true _ B4)))
        go_wp2
        go_ret
        exact ⟨by rw [unhide F]; rfl, (unhide NB) _⟩
      have hz : (x1 == x2) = false := by simp [c]
      have C := hide c
      clear c
      cases b6
      · have F := hide ((unhide BAD) (fun hr => B6.no ((unhide ROW).1 hr).1.2.2.2.2.2.2.1))
        clear BAD GOOD ROW PR
        go_wp2_with fail
        go_quiet (first | (go_at_call 9; refine Calls.quiet_of_same (SOk5.sNo _ true _ B0)) | (go_at_call 9; refine Calls.quiet_of_same (SOk5.sNo _ true _ B1)) | (go_at_call 9; refine Calls.quiet_of_same (SOk5.sNo _ true _ B2)) | (go_at_call 9; refine Calls.quiet_of_same (SOk5.sNo _ true _ B3)) | (go_at_call 9; refine Calls.quiet_of_same (SOk5.sNo _ true _ B4)) | (go_at_call 10; refine Calls.quiet_of_same (SOk5.sSome _ _ false _ B6)))
        go_wp2
        go_ret
        exact ⟨by rw [unhide F]; rfl, (unhide NB) _⟩
      cases b7
      · have F := hide ((unhide BAD) (fun hr => B7.no ((unhide ROW).1 hr).1.2.2.2.2.2.2.2.1))
        clear BAD GOOD ROW PR
        go_wp2_with fail
        go_quiet (first | (go_at_call 9; refine Calls.quiet_of_same (SOk5.sNo _ true _ B0)) | (go_at_call 9; refine Calls.quiet_of_same (SOk5.sNo _ true _ B1)) | (go_at_call 9; refine Calls.quiet_of_same (SOk5.sNo _ true _ B2)) | (go_at_call 9; refine Calls.quiet_of_same (SOk5.sNo _ true _ B3)) | (go_at_call 9; refine Calls.quiet_of_same (SOk5.sNo _ true _ B4)) | (go_at_call 10; refine Calls.quiet_of_same (SOk5.sSome _ _ true _ B6)) | (go_at_call 10; refine Calls.quiet_of_same (SOk5.sSome _ _ false _ B7)))
        go_wp2
        go_ret
        exact ⟨by rw [unhide F]; rfl, (unhide NB) _⟩
      cases b8
      · have F := hide ((unhide BAD) (fun hr => B8.no ((unhide ROW).1 hr).1.2.2.2.2.2.2.2.2))
        clear BAD GOOD ROW PR
        go_wp2_with fail
        go_quiet (first | (go_at_call 9; refine Calls.quiet_of_same (SOk5.sNo _ true _ B0)) | (go_at_call 9; refine Calls.quiet_of_same (SOk5.sNo _ true _ B1)) | (go_at_call 9; refine Calls.quiet_of_same (SOk5.sNo _ true _ B2)) | (go_at_call 9; refine Calls.quiet_of_same (SOk5.sNo _ true _ B3)) | (go_at_call 9; refine Calls.quiet_of_same (SOk5.sNo _ true _ B4)) | (go_at_call 10; refine Calls.quiet_of_same (SOk5.sSome _ _ true _ B6)) | (go_at_call 10; refine Calls.quiet_of_same (SOk5.sSome _ _ true _ B7)) | (go_at_call 11; refine Calls.quiet_of_same (SOk5.sIn _ _ _ false _ B8)))
        go_wp2
        go_ret
        exact ⟨by rw [unhide F]; rfl, (unhide NB) _⟩
      have ONE := hide (show TOne (x0, x1, x2, x3, x4, x5, x6, x7) from ⟨B0.yes, B1.yes, B2.yes, B3.yes, B4.yes, unhide C, B6.yes, B7.yes, B8.yes⟩)
      rcases PR with rfl | ⟨z, Z, k0, pc⟩
      · have G := hide ((unhide GOOD) ((unhide ROW).2 ⟨unhide ONE, fun h => by omega⟩))
        clear BAD GOOD ROW ONE
        go_wp2_with fail
        go_quiet (first | (go_at_call 9; refine Calls.quiet_of_same (SOk5.sNo _ true _ B0)) | (go_at_call 9; refine Calls.quiet_of_same (SOk5.sNo _ true _ B1)) | (go_at_call 9; refine Calls.quiet_of_same (SOk5.sNo _ true _ B2)) | (go_at_call 9; refine Calls.quiet_of_same (SOk5.sNo _ true _ B3)) | (go_at_call 9; refine Calls.quiet_of_same (SOk5.sNo _ true _ B4)) | (go_at_call 10; refine Calls.quiet_of_same (SOk5.sSome _ _ true _ B6)) | (go_at_call 10; refine Calls.quiet_of_same (SOk5.sSome _ _ true _ B7)) | (go_at_call 11; refine Calls.quiet_of_same (SOk5.sIn _ _ _ true _ B8)))
        go_wp2
        go_roundw
        case rel => exact ⟨1, by omega, by go_num, (unhide NB) _, G⟩
        case measure => simp [intOf]; omega
      · have k1 : (0 : Int) < (k : Int) := by omega
        have k2 : (0 : Int) ≤ (k : Int) - 1 := by omega
        have k3 : ((k : Int) - 1).toNat = k - 1 := by omega
        have k4 : IntKind.i64.wrap ((k : Int) - 1) = (k : Int) - 1 := by rw [IntKind.wrap_i64]; omega
        have k5 : (k : Int) - 1 < (n : Int) := by omega
        have gne : g ≠ wr.heap.size := by omega
        have gs : g < wr.heap.size := by omega
        by_cases c : z ≥ x0
        · have F := hide ((unhide BAD) (fun hr => by have := ((unhide ROW).1 hr).2 k0; rw [unhide Z] at this; omega))
          have hc : decide (z ≥ x0) = true := decide_eq_true c
          clear BAD GOOD ROW ONE c
          go_wp2_with fail
          go_quiet (first | (go_at_call 9; refine Calls.quiet_of_same (SOk5.sNo _ true _ B0)) | (go_at_call 9; refine Calls.quiet_of_same (SOk5.sNo _ true _ B1)) | (go_at_call 9; refine Calls.quiet_of_same (SOk5.sNo _ true _ B2)) | (go_at_call 9; refine Calls.quiet_of_same (SOk5.sNo _ true _ B3)) | (go_at_call 9; refine Calls.quiet_of_same (SOk5.sNo _ true _ B4)) | (go_at_call 10; refine Calls.quiet_of_same (SOk5.sSome _ _ true _ B6)) | (go_at_call 10; refine Calls.quiet_of_same (SOk5.sSome _ _ true _ B7)) | (go_at_call 11; refine Calls.quiet_of_same (SOk5.sIn _ _ _ true _ B8)))
          go_wp2
          go_ret
          exact ⟨by rw [unhide F]; rfl, (unhide NB) _⟩
        · have G := hide ((unhide GOOD) ((unhide ROW).2 ⟨unhide ONE, fun _ => by rw [unhide Z]; omega⟩))
          have hc : decide (z ≥ x0) = false := decide_eq_false c
          clear BAD GOOD ROW c ONE
          go_wp2_with fail
          go_quiet (first | (go_at_call 9; refine Calls.quiet_of_same (SOk5.sNo _ true _ B0)) | (go_at_call 9; refine Calls.quiet_of_same (SOk5.sNo _ true _ B1)) | (go_at_call 9; refine Calls.quiet_of_same (SOk5.sNo _ true _ B2)) | (go_at_call 9; refine Calls.quiet_of_same (SOk5.sNo _ true _ B3)) | (go_at_call 9; refine Calls.quiet_of_same (SOk5.sNo _ true _ B4)) | (go_at_call 10; refine Calls.quiet_of_same (SOk5.sSome _ _ true _ B6)) | (go_at_call 10; refine Calls.quiet_of_same (SOk5.sSome _ _ true _ B7)) | (go_at_call 11; refine Calls.quiet_of_same (SOk5.sIn _ _ _ true _ B8)))
          go_wp2
          go_roundw
          case rel => exact ⟨k + 1, by omega, by go_num, (unhide NB) _, G⟩
          case measure => simp [intOf]; omega
    · clear hb
      have F := hide ((unhide OK).of ⟨by rw [unhide HL]; omega, fun i hi => (unhide HG) i (by rw [unhide HL] at hi; omega)⟩)
      go_wp2
      go_ret
      exact ⟨by rw [unhide F]; rfl, unhide HB⟩

end Go.Proofs.Ytlbdfaahcmlddaa.ITrade
