/- Contracts of the program's chart (Account): ok. Condition: a list of at most 2^20 pairs. -/
import Derived.Test.YtkbdlgbfgpoeiaaPairs
import Derived.Test.YtkbdlgbfgpoeiaaChart
import Derived.WalkSmall
namespace Go.Proofs.Ytkbdlgbfgpoeiaa.AccountIOk
open Go.ChangeShapes Go.WideShapes Go.ChangeAt Go.RowKit Pairs Chart
set_option linter.unusedVariables false
set_option linter.unusedSimpArgs false

/-- The number ahead of place k, and 0 ahead of the first one. -/
def ahead (ps : List (Int × Int)) (k : Nat) : Int := if k = 0 then 0 else (el ps (k - 1)).1

theorem ahead_next (ps : List (Int × Int)) (k : Nat) : ahead ps (k + 1) = (el ps k).1 := by unfold ahead; rw [if_neg (by omega)]; rfl

theorem row_iff (last : Int) (ps : List (Int × Int)) (k : Nat) (hG : ∀ i, i < k → RowOk last ps i) : RowOk last ps k ↔ ¬ (el ps k).1 ≤ ahead ps k ∧ (el ps k).1 ≤ 1000 ∧ 1 ≤ (el ps k).2 ∧ (el ps k).2 ≤ last := by
  unfold RowOk ahead
  by_cases k0 : k = 0
  · subst k0
    rw [if_pos rfl]
    constructor
    · rintro ⟨⟨a, b⟩, ⟨c, d⟩, _⟩
      exact ⟨by omega, b, c, d⟩
    · rintro ⟨a, b, c, d⟩
      exact ⟨⟨by omega, b⟩, ⟨c, d⟩, fun h => by omega⟩
  · rw [if_neg k0]
    have := (hG (k - 1) (by omega)).1.1
    constructor
    · rintro ⟨⟨a, b⟩, ⟨c, d⟩, e⟩
      have := e (by omega)
      exact ⟨by omega, b, c, d⟩
    · rintro ⟨a, b, c, d⟩
      exact ⟨⟨by omega, b⟩, ⟨c, d⟩, fun h => by omega⟩

set_option maxRecDepth 100000 in
set_option maxHeartbeats 2000000 in
theorem iOk (w : World) (g n cap : Nat) (ps : List (Int × Int)) (ok : Bool) (hl : ps.length = n) (h20 : n ≤ 1048576) (hg : g < w.heap.size) (h : At w g ps) (hok : Says ok 20 4 ps) :
    Calls Try.prog 45 #[.agg #[.slice (some ⟨g, 0, none⟩) n cap, .int .i64 20, .int .i64 4]] w fun e w' => e = .returned (.bool ok) ∧ Below w.heap.size w w' := by
  by_cases nn : (20 : Int) < (n : Int)
  · obtain rfl : ok = false := hok.not (fun r => by have := r.1; omega)
    clear hok h
    go_enter Try.func45, Try.ntmps45
    go_wp2
    go_ret
    exact ⟨rfl, (Below.refl _ _).alloc (Nat.le_refl _) _⟩
  go_enter Try.func45, Try.ntmps45
  go_wp2
  go_loopw [3, 16] (fun p i wr => ∃ (k : Nat) (bf : Int), k ≤ n ∧ i = .int .i64 k ∧ p = .int .i64 bf ∧ Hid (ahead ps k = bf) ∧ At wr g ps ∧ wr.cell? ⟨w.heap.size, 2, none⟩ = some (.int .i64 4) ∧ Below w.heap.size w wr ∧ w.heap.size < wr.heap.size ∧ Hid (∀ i, i < k → RowOk 4 ps i)) (fun _ i _ => n - (intOf i).toNat)
  case atStart =>
    have b1 : Below w.heap.size w (w.alloc (.cells #[.slice (some ⟨g, 0, none⟩) n cap, .int .i64 20, .int .i64 4] 65)) := (Below.refl _ _).alloc (Nat.le_refl _) _
    exact ⟨0, 0, by omega, rfl, rfl, hide rfl, h.below b1 hg, by simp, b1, by simp, hide (fun i hi => absurd hi (by omega))⟩
  case round =>
    clear h
    obtain ⟨k, bf, hk, rfl, rfl, HP, h, cl, hb, sz, HG⟩ := hrel
    by_cases t : k < n
    · obtain ⟨e1, e2⟩ := h k (by omega)
      have HA := hide h
      have HB := hide hb
      clear h hb
      have ROW := hide (row_iff 4 ps k (unhide HG))
      rw [unhide HP] at ROW
      have AN := hide (ahead_next ps k)
      have BAD := hide (show ¬ RowOk 4 ps k → ok = false from fun hr => hok.not (fun r => hr (r.2 k (by omega))))
      have GOOD := hide (show RowOk 4 ps k → ∀ i, i < k + 1 → RowOk 4 ps i from fun hr i hi => by
        by_cases e : i = k
        · subst e; exact hr
        · exact (unhide HG) i (by omega))
      generalize (el ps k).1 = x at *
      generalize (el ps k).2 = y at *
      by_cases c1 : x ≤ bf
      · have OKF := hide ((unhide BAD) (fun hr => by have := (unhide ROW).1 hr; omega))
        clear BAD GOOD ROW
        go_wp2
        go_ret
        exact ⟨by rw [unhide OKF]; rfl, next (unhide HB) (by repeat (first | exact Below.refl _ _ | refine Below.alloc ?_ (by simp; try omega) _))⟩
      · by_cases c2 : x ≤ 1000
        · by_cases c3 : 1 ≤ y
          · by_cases c4 : y ≤ 4
            · have GO := hide ((unhide GOOD) ((unhide ROW).2 ⟨c1, c2, c3, c4⟩))
              clear BAD GOOD ROW
              go_wp2
              go_roundw
              case rel =>
                have b2 : Below wr.heap.size wr ((wr.alloc (.cells #[.int .i64 x, .int .i64 y] 26)).alloc (.cells #[.int .i64 x, .int .i64 y] 85)) := by repeat (first | exact Below.refl _ _ | refine Below.alloc ?_ (by simp; try omega) _)
                exact ⟨k + 1, _, by omega, by go_num, rfl, unhide AN, (unhide HA).below b2 (by omega), (b2.cell (p := ⟨w.heap.size, 2, none⟩) (by omega)).trans cl, next (unhide HB) b2, by simp; omega, GO⟩
              case measure => simp [intOf]; omega
            · have OKF := hide ((unhide BAD) (fun hr => by have := (unhide ROW).1 hr; omega))
              clear BAD GOOD ROW
              go_wp2
              go_ret
              exact ⟨by rw [unhide OKF]; rfl, next (unhide HB) (by repeat (first | exact Below.refl _ _ | refine Below.alloc ?_ (by simp; try omega) _))⟩
          · have OKF := hide ((unhide BAD) (fun hr => by have := (unhide ROW).1 hr; omega))
            clear BAD GOOD ROW
            go_wp2
            go_ret
            exact ⟨by rw [unhide OKF]; rfl, next (unhide HB) (by repeat (first | exact Below.refl _ _ | refine Below.alloc ?_ (by simp; try omega) _))⟩
        · have OKF := hide ((unhide BAD) (fun hr => by have := (unhide ROW).1 hr; omega))
          clear BAD GOOD ROW
          go_wp2
          go_ret
          exact ⟨by rw [unhide OKF]; rfl, next (unhide HB) (by repeat (first | exact Below.refl _ _ | refine Below.alloc ?_ (by simp; try omega) _))⟩
    · obtain rfl : k = n := by omega
      obtain rfl : ok = true := hok.of ⟨by omega, by rw [hl]; exact unhide HG⟩
      have HB := hide hb
      clear h hok hb
      go_wp2
      go_ret
      exact ⟨rfl, unhide HB⟩

end Go.Proofs.Ytkbdlgbfgpoeiaa.AccountIOk
