/- Contract of the program's BalsOk. Condition: a list of at most 2^20 triples. -/
import Derived.Test.YtiecflifopmmoaaCmp
namespace Go.Proofs.Ytiecflifopmmoaa.IOk3
open Go.ChangeShapes Go.WideShapes Go.ChangeAt Go.RowKit Bals Triples Cmp
set_option linter.unusedVariables false
set_option linter.unusedSimpArgs false

/-- The account and the instrument ahead of place k, and 0 ahead of the first one. -/
def ahead (ps : List T3) (k : Nat) : Int × Int := if k = 0 then (0, 0) else ((el3 ps (k - 1)).1, (el3 ps (k - 1)).2.1)

theorem ahead_next (ps : List T3) (k : Nat) : ahead ps (k + 1) = ((el3 ps k).1, (el3 ps k).2.1) := by unfold ahead; rw [if_neg (by omega)]; rfl

theorem row_iff (ps : List T3) (k : Nat) : RowOk ps k ↔ (NoOk (el3 ps k).1 ∧ NoOk (el3 ps k).2.1) ∧ ((ahead ps k).1 < (el3 ps k).1 ∨ ((ahead ps k).1 = (el3 ps k).1 ∧ (ahead ps k).2 < (el3 ps k).2.1)) ∧ Amt (el3 ps k).2.2 ∧ (el3 ps k).2.2 ≠ 0 := by
  unfold RowOk ahead
  by_cases k0 : k = 0
  · subst k0
    rw [if_pos rfl]
    constructor
    · rintro ⟨a, b, c, d, _⟩
      exact ⟨⟨a, b⟩, by unfold NoOk at a; simp only; omega, c, d⟩
    · rintro ⟨⟨a, b⟩, _, c, d⟩
      exact ⟨a, b, c, d, fun h => by omega⟩
  · rw [if_neg k0]
    constructor
    · rintro ⟨a, b, c, d, e⟩
      exact ⟨⟨a, b⟩, e (by omega), c, d⟩
    · rintro ⟨⟨a, b⟩, e, c, d⟩
      exact ⟨a, b, c, d, fun h => e⟩

set_option maxRecDepth 100000 in
set_option maxHeartbeats 4000000 in
theorem iOk (w : World) (g n cap : Nat) (ps : List T3) (ok : Bool) (hl : ps.length = n) (h20 : n ≤ 1048576) (hg : g < w.heap.size) (h : At3 w g ps) (hok : Says ok (Right ps)) :
    Calls Try.prog 12 #[.slice (some ⟨g, 0, none⟩) n cap] w fun e w' => e = .returned (.bool ok) ∧ Below w.heap.size w w' := by
  by_cases nn : (160 : Int) < (n : Int)
  · obtain rfl : ok = false := hok.not (fun r => by have := r.1; omega)
    clear hok h
    go_enter Try.func12, Try.ntmps12
    go_wp2
    go_ret
    exact ⟨rfl, Below.refl _ _⟩
  have H := hide h
  clear h
  go_enter Try.func12, Try.ntmps12
  go_wp2
  go_loopw [5, 6, 13] (fun _ _ i wr => ∃ (k : Nat) (bf : Int × Int), k ≤ n ∧ i = .int .i64 k ∧ Hid (ahead ps k = bf) ∧ Below w.heap.size w wr ∧ Pairs.Own 60 wr w.heap.size w.heap.size 1 1 [bf] ∧ Hid (∀ i, i < k → RowOk ps i)) (fun _ _ i _ => n - (intOf i).toNat)
  case atStart =>
    exact ⟨0, (0, 0), by omega, rfl, hide rfl, (Below.refl _ _).alloc (Nat.le_refl _) _, World.ownsRow_lit w #[.int .i64 0, .int .i64 0] 1 (Nat.le_refl _) (by decide) rfl, hide (fun i hi => absurd hi (by omega))⟩
  case round =>
    obtain ⟨k, ⟨p, q⟩, hk, rfl, HP, hb, ho, HG⟩ := hrel
    by_cases t : k < n
    · have hA := (unhide H).below hb hg
      obtain ⟨e1, e2, e3⟩ := hA k (by omega)
      have gs : w.heap.size < wr.heap.size := ho.lt.2
      clear hA
      have HB := hide hb
      clear hb
      have HO := hide ho
      clear ho
      have ROW := hide (row_iff ps k)
      rw [unhide HP] at ROW
      obtain ⟨b1, B1⟩ := says_of (NoOk (el3 ps k).1 ∧ NoOk (el3 ps k).2.1)
      obtain ⟨b3, B3⟩ := says_of (Amt (el3 ps k).2.2)
      have AN := hide (ahead_next ps k)
      have BAD := hide (show ¬ RowOk ps k → ok = false from fun hr => hok.not (fun r => hr (r.2 k (by omega))))
      have GOOD := hide (show RowOk ps k → ∀ i, i < k + 1 → RowOk ps i from fun hr i hi => by
        by_cases e : i = k
        · subst e; exact hr
        · exact (unhide HG) i (by omega))
      generalize (el3 ps k).1 = x at *
      generalize (el3 ps k).2.1 = y at *
      generalize (el3 ps k).2.2 = z at *
      go_wp2_with fail
      refine (keyOk x y b1 _ B1).mono ?_
      rintro e w1 ⟨rfl, n1⟩
      have s1 := n1.size
      have n2 : Below wr.heap.size wr ((wr.alloc (.cells #[.int .i64 x, .int .i64 y, .int .i64 z] 54)).alloc (.cells #[.int .i64 x, .int .i64 y] 60)) := ((Below.refl _ _).alloc (Nat.le_refl _) _).alloc (by simp) _
      have nb := next n2 n1
      have f0 : w1.cell? ⟨wr.heap.size + 1, 0, none⟩ = some (.int .i64 x) := (n1.cell (p := ⟨wr.heap.size + 1, 0, none⟩) (by simp)).trans (by simp)
      have f1 : w1.cell? ⟨wr.heap.size + 1, 1, none⟩ = some (.int .i64 y) := (n1.cell (p := ⟨wr.heap.size + 1, 1, none⟩) (by simp)).trans (by simp)
      have f2 : w1.cell? ⟨wr.heap.size, 2, none⟩ = some (.int .i64 z) := (n1.cell (p := ⟨wr.heap.size, 2, none⟩) (by simp; omega)).trans (by simp)
      have NB := hide nb
      have O1 := hide ((unhide HO).below nb (unhide HO).lt.2)
      simp only [World.size_alloc] at s1
      clear n1 n2 nb e1 e2 e3
      cases b1
      · have OKF := hide ((unhide BAD) (fun hr => B1.no ((unhide ROW).1 hr).1))
        clear BAD GOOD ROW
        go_wp2
        go_ret
        exact ⟨by rw [unhide OKF]; rfl, next (unhide HB) (unhide NB)⟩
      obtain ⟨o0, o1⟩ := (unhide O1).at 0 (by simp)
      have o0 : w1.cell? ⟨w.heap.size, 0, none⟩ = some (.int .i64 p) := o0
      have o1 : w1.cell? ⟨w.heap.size, 1, none⟩ = some (.int .i64 q) := o1
      go_wp2_with fail
      refine (compareK x y p q _).mono ?_
      rintro e w2 ⟨rfl, n2⟩
      have s2 := n2.size
      have f0 := (n2.cell (p := ⟨wr.heap.size + 1, 0, none⟩) (show wr.heap.size + 1 < _ by omega)).trans f0
      have f1 := (n2.cell (p := ⟨wr.heap.size + 1, 1, none⟩) (show wr.heap.size + 1 < _ by omega)).trans f1
      have f2 := (n2.cell (p := ⟨wr.heap.size, 2, none⟩) (show wr.heap.size < _ by omega)).trans f2
      have O2 := hide ((unhide O1).below n2 (unhide O1).lt.2)
      have NB2 := hide (next (unhide NB) n2)
      have CLE := hide (cmpK_le x y p q)
      generalize cmpK x y p q = c at *
      clear n2 o0 o1
      by_cases c0 : c ≤ 0
      · have OKF := hide ((unhide BAD) (fun hr => (unhide CLE).1 c0 ((unhide ROW).1 hr).2.1))
        clear BAD GOOD ROW CLE
        go_wp2
        go_ret
        exact ⟨by rw [unhide OKF]; rfl, next (unhide HB) (unhide NB2)⟩
      go_wp2_with fail
      refine (iAmt z b3 _ B3).mono ?_
      rintro e w3 ⟨rfl, rfl⟩
      cases b3
      · have OKF := hide ((unhide BAD) (fun hr => B3.no ((unhide ROW).1 hr).2.2.1))
        clear BAD GOOD ROW CLE
        go_wp2
        go_ret
        exact ⟨by rw [unhide OKF]; rfl, next (unhide HB) (unhide NB2)⟩
      by_cases z0 : z = 0
      · have OKF := hide ((unhide BAD) (fun hr => ((unhide ROW).1 hr).2.2.2 z0))
        clear BAD GOOD ROW CLE
        subst z0
        go_wp2
        go_ret
        exact ⟨by rw [unhide OKF]; rfl, next (unhide HB) (unhide NB2)⟩
      have zb : (z == 0) = false := by simpa using z0
      have GO := hide ((unhide GOOD) ((unhide ROW).2 ⟨B1.yes, Classical.byContradiction (fun h => by have := (unhide CLE).2 h; omega), B3.yes, z0⟩))
      clear BAD GOOD ROW CLE
      have S0 := (unhide O2).set0 0 x
      have S1 := S0.1.set1 0 y
      obtain ⟨d0, d1⟩ := (unhide O2).at 0 (by simp)
      have d0 : w3.cell? ⟨w.heap.size, 0, none⟩ = some (.int .i64 p) := d0
      have d1 : w3.cell? ⟨w.heap.size, 1, none⟩ = some (.int .i64 q) := d1
      have r0 : w3.frozen? ⟨w.heap.size, 0, none⟩ = false := (unhide O2).free 0
      have r1 : w3.frozen? ⟨w.heap.size, 1, none⟩ = false := (unhide O2).free 1
      have HS := hide S1.1
      have BB := hide (((next (unhide HB) (unhide NB2)).setCell (p := ⟨w.heap.size, 0, none⟩) (Nat.le_refl _) (.int .i64 x)).setCell (p := ⟨w.heap.size, 1, none⟩) (Nat.le_refl _) (.int .i64 y))
      clear S0 S1
      go_wp2
      go_roundw
      case rel => exact ⟨k + 1, (x, y), by omega, by go_num, AN, unhide BB, unhide HS, GO⟩
      case measure => simp [intOf]; omega
    · obtain rfl : k = n := by omega
      obtain rfl : ok = true := hok.of ⟨by omega, by rw [hl]; exact unhide HG⟩
      have HB := hide hb
      clear hb hok ho
      go_wp2
      go_ret
      exact ⟨rfl, unhide HB⟩

end Go.Proofs.Ytiecflifopmmoaa.IOk3
