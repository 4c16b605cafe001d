/- The program's BooksSame: whether two books are the same. slices.Equal is walked at each of the five kinds of rows. -/
import Derived.Test.YtophnnmbgpinfaaSSame
namespace Go.Proofs.Ytophnnmbgpinfaa.SameI
open Go.ChangeShapes Go.WideShapes Go.ChangeAt Go.RowKit BMem Bks ILists SSame
open Lots (Says says_of)
open IBalsFit (St one_more)
open Bals (T3 el3)
open Tup5 (T5 el5)
open Tup8 (T8 el8)
set_option linter.unusedVariables false
set_option linter.unusedSimpArgs false

theorem low_drew {w W : World} (h : Below w.heap.size w W) : Below w.heap.size w W.drew := ⟨h.os, h.tape, h.output, h.size, h.block⟩

structure SmAccount (w W : World) (g h : Nat) (ps qs : List (Int × Int)) : Prop where
  rp : Pairs.At W g ps
  rq : Pairs.At W h qs
  b : Below w.heap.size w W

set_option maxRecDepth 100000 in
set_option maxHeartbeats 8000000 in
theorem eqAccount (w : World) (g h cp cq : Nat) (ps qs : List (Int × Int)) (b : Bool) (n0 : ps.length ≤ 1048576) (hp : Pairs.At w g ps) (hq : Pairs.At w h qs) (hb : Says b (ps = qs)) :
    Calls Try.prog 35 #[.slice (some ⟨g, 0, none⟩) ps.length cp, .slice (some ⟨h, 0, none⟩) qs.length cq] w fun e w' => e = .returned (.bool b) ∧ Below w.heap.size w w' := by
  have T := hide hb
  have S0 := hide (SmAccount.mk hp hq (Below.refl w.heap.size w))
  clear hb hp hq
  by_cases e0 : ps.length = qs.length
  case neg =>
    have F := hide ((unhide T).not (fun h => e0 (by rw [h])))
    have h0 : ((ps.length : Int) != (qs.length : Int)) = true := by simp; omega
    clear e0 T n0
    go_enter Try.func35, Try.ntmps35
    go_wp2
    go_ret
    exact ⟨by rw [unhide F]; rfl, (unhide S0).b⟩
  have h0 : ((ps.length : Int) != (qs.length : Int)) = false := by simp; omega
  have E0 := hide e0
  clear e0
  go_enter Try.func35, Try.ntmps35
  go_wp2
  clear h0
  go_loopw [13] (fun i wr => ∃ (k : Nat), k ≤ ps.length ∧ i = .int .i64 k ∧ SmAccount w wr g h ps qs ∧ Hid (∀ j, j < k → Chart.el ps j = Chart.el qs j)) (fun i _ => ps.length - (intOf i).toNat)
  case atStart => exact ⟨0, by omega, rfl, unhide S0, hide (fun i hi => absurd hi (by omega))⟩
  case round =>
    obtain ⟨k, hk, rfl, hS, HG⟩ := hrel
    clear S0
    by_cases t : k < ps.length
    · have d := hS.rp k t
      have f := hS.rq k (by rw [← unhide E0]; exact t)
      have BAD := hide (show Chart.el ps k ≠ Chart.el qs k → b = false from fun hr => (unhide T).not (fun r => hr (by rw [r])))
      have GOOD := hide (show Chart.el ps k = Chart.el qs k → ∀ i, i < k + 1 → Chart.el ps i = Chart.el qs i from fun hr i hi => by
        by_cases e : i = k
        · subst e; exact hr
        · exact (unhide HG) i (by omega))
      change wr.cell? ⟨g, k * 2, none⟩ = some (.int .i64 (Chart.el ps k).1) ∧ wr.cell? ⟨g, k * 2 + 1, none⟩ = some (.int .i64 (Chart.el ps k).2) at d
      change wr.cell? ⟨h, k * 2, none⟩ = some (.int .i64 (Chart.el qs k).1) ∧ wr.cell? ⟨h, k * 2 + 1, none⟩ = some (.int .i64 (Chart.el qs k).2) at f
      clear HG
      generalize Chart.el ps k = p at *
      generalize Chart.el qs k = q at *
      obtain ⟨p0, p1⟩ := p
      obtain ⟨q0, q1⟩ := q
      obtain ⟨d0, d1⟩ := d
      obtain ⟨f0, f1⟩ := f
      have S1 := hide (SmAccount.mk (W := wr.drew) hS.rp hS.rq (low_drew hS.b))
      have kx : (k : Int) < ps.length := by omega
      have e9 := unhide E0
      have ky : (k : Int) < qs.length := by omega
      clear e9 hS
      by_cases t0 : p0 = q0
      case neg =>
        have F := hide ((unhide BAD) (by simp [t0]))
        clear BAD GOOD T
        go_wp2_with fail
        go_region
        go_wp2
        go_ret
        exact ⟨by rw [unhide F]; rfl, (unhide S1).b⟩
      subst t0
      by_cases t1 : p1 = q1
      case neg =>
        have F := hide ((unhide BAD) (by simp [t1]))
        clear BAD GOOD T
        go_wp2_with fail
        go_region
        go_wp2
        go_ret
        exact ⟨by rw [unhide F]; rfl, (unhide S1).b⟩
      subst t1
      have G := hide ((unhide GOOD) rfl)
      clear BAD GOOD
      go_wp2_with fail
      go_region
      go_wp2
      go_roundw
      case rel => exact ⟨k + 1, by omega, by go_num, unhide S1, G⟩
      case measure => simp [intOf]; omega
    · have A0 := hide ((unhide T).of (same_of (unhide E0) (fun i hi => (unhide HG) i (by omega))))
      have S0 := hide hS
      clear hS HG hk
      go_wp2
      go_ret
      exact ⟨by rw [unhide A0]; rfl, (unhide S0).b⟩

structure SmInstr (w W : World) (g h : Nat) (ps qs : List (Int × Int)) : Prop where
  rp : Pairs.At W g ps
  rq : Pairs.At W h qs
  b : Below w.heap.size w W

set_option maxRecDepth 100000 in
set_option maxHeartbeats 8000000 in
theorem eqInstr (w : World) (g h cp cq : Nat) (ps qs : List (Int × Int)) (b : Bool) (n0 : ps.length ≤ 1048576) (hp : Pairs.At w g ps) (hq : Pairs.At w h qs) (hb : Says b (ps = qs)) :
    Calls Try.prog 36 #[.slice (some ⟨g, 0, none⟩) ps.length cp, .slice (some ⟨h, 0, none⟩) qs.length cq] w fun e w' => e = .returned (.bool b) ∧ Below w.heap.size w w' := by
  have T := hide hb
  have S0 := hide (SmInstr.mk hp hq (Below.refl w.heap.size w))
  clear hb hp hq
  by_cases e0 : ps.length = qs.length
  case neg =>
    have F := hide ((unhide T).not (fun h => e0 (by rw [h])))
    have h0 : ((ps.length : Int) != (qs.length : Int)) = true := by simp; omega
    clear e0 T n0
    go_enter Try.func36, Try.ntmps36
    go_wp2
    go_ret
    exact ⟨by rw [unhide F]; rfl, (unhide S0).b⟩
  have h0 : ((ps.length : Int) != (qs.length : Int)) = false := by simp; omega
  have E0 := hide e0
  clear e0
  go_enter Try.func36, Try.ntmps36
  go_wp2
  clear h0
  go_loopw [13] (fun i wr => ∃ (k : Nat), k ≤ ps.length ∧ i = .int .i64 k ∧ SmInstr w wr g h ps qs ∧ Hid (∀ j, j < k → Chart.el ps j = Chart.el qs j)) (fun i _ => ps.length - (intOf i).toNat)
  case atStart => exact ⟨0, by omega, rfl, unhide S0, hide (fun i hi => absurd hi (by omega))⟩
  case round =>
    obtain ⟨k, hk, rfl, hS, HG⟩ := hrel
    clear S0
    by_cases t : k < ps.length
    · have d := hS.rp k t
      have f := hS.rq k (by rw [← unhide E0]; exact t)
      have BAD := hide (show Chart.el ps k ≠ Chart.el qs k → b = false from fun hr => (unhide T).not (fun r => hr (by rw [r])))
      have GOOD := hide (show Chart.el ps k = Chart.el qs k → ∀ i, i < k + 1 → Chart.el ps i = Chart.el qs i from fun hr i hi => by
        by_cases e : i = k
        · subst e; exact hr
        · exact (unhide HG) i (by omega))
      change wr.cell? ⟨g, k * 2, none⟩ = some (.int .i64 (Chart.el ps k).1) ∧ wr.cell? ⟨g, k * 2 + 1, none⟩ = some (.int .i64 (Chart.el ps k).2) at d
      change wr.cell? ⟨h, k * 2, none⟩ = some (.int .i64 (Chart.el qs k).1) ∧ wr.cell? ⟨h, k * 2 + 1, none⟩ = some (.int .i64 (Chart.el qs k).2) at f
      clear HG
      generalize Chart.el ps k = p at *
      generalize Chart.el qs k = q at *
      obtain ⟨p0, p1⟩ := p
      obtain ⟨q0, q1⟩ := q
      obtain ⟨d0, d1⟩ := d
      obtain ⟨f0, f1⟩ := f
      have S1 := hide (SmInstr.mk (W := wr.drew) hS.rp hS.rq (low_drew hS.b))
      have kx : (k : Int) < ps.length := by omega
      have e9 := unhide E0
      have ky : (k : Int) < qs.length := by omega
      clear e9 hS
      by_cases t0 : p0 = q0
      case neg =>
        have F := hide ((unhide BAD) (by simp [t0]))
        clear BAD GOOD T
        go_wp2_with fail
        go_region
        go_wp2
        go_ret
        exact ⟨by rw [unhide F]; rfl, (unhide S1).b⟩
      subst t0
      by_cases t1 : p1 = q1
      case neg =>
        have F := hide ((unhide BAD) (by simp [t1]))
        clear BAD GOOD T
        go_wp2_with fail
        go_region
        go_wp2
        go_ret
        exact ⟨by rw [unhide F]; rfl, (unhide S1).b⟩
      subst t1
      have G := hide ((unhide GOOD) rfl)
      clear BAD GOOD
      go_wp2_with fail
      go_region
      go_wp2
      go_roundw
      case rel => exact ⟨k + 1, by omega, by go_num, unhide S1, G⟩
      case measure => simp [intOf]; omega
    · have A0 := hide ((unhide T).of (same_of (unhide E0) (fun i hi => (unhide HG) i (by omega))))
      have S0 := hide hS
      clear hS HG hk
      go_wp2
      go_ret
      exact ⟨by rw [unhide A0]; rfl, (unhide S0).b⟩

structure SmBal (w W : World) (g h : Nat) (ps qs : List T3) : Prop where
  rp : Triples.At3 W g ps
  rq : Triples.At3 W h qs
  b : Below w.heap.size w W

set_option maxRecDepth 100000 in
set_option maxHeartbeats 8000000 in
theorem eqBal (w : World) (g h cp cq : Nat) (ps qs : List T3) (b : Bool) (n0 : ps.length ≤ 1048576) (hp : Triples.At3 w g ps) (hq : Triples.At3 w h qs) (hb : Says b (ps = qs)) :
    Calls Try.prog 37 #[.slice (some ⟨g, 0, none⟩) ps.length cp, .slice (some ⟨h, 0, none⟩) qs.length cq] w fun e w' => e = .returned (.bool b) ∧ Below w.heap.size w w' := by
  have T := hide hb
  have S0 := hide (SmBal.mk hp hq (Below.refl w.heap.size w))
  clear hb hp hq
  by_cases e0 : ps.length = qs.length
  case neg =>
    have F := hide ((unhide T).not (fun h => e0 (by rw [h])))
    have h0 : ((ps.length : Int) != (qs.length : Int)) = true := by simp; omega
    clear e0 T n0
    go_enter Try.func37, Try.ntmps37
    go_wp2
    go_ret
    exact ⟨by rw [unhide F]; rfl, (unhide S0).b⟩
  have h0 : ((ps.length : Int) != (qs.length : Int)) = false := by simp; omega
  have E0 := hide e0
  clear e0
  go_enter Try.func37, Try.ntmps37
  go_wp2
  clear h0
  go_loopw [13] (fun i wr => ∃ (k : Nat), k ≤ ps.length ∧ i = .int .i64 k ∧ SmBal w wr g h ps qs ∧ Hid (∀ j, j < k → el3 ps j = el3 qs j)) (fun i _ => ps.length - (intOf i).toNat)
  case atStart => exact ⟨0, by omega, rfl, unhide S0, hide (fun i hi => absurd hi (by omega))⟩
  case round =>
    obtain ⟨k, hk, rfl, hS, HG⟩ := hrel
    clear S0
    by_cases t : k < ps.length
    · have d := hS.rp k t
      have f := hS.rq k (by rw [← unhide E0]; exact t)
      have BAD := hide (show el3 ps k ≠ el3 qs k → b = false from fun hr => (unhide T).not (fun r => hr (by rw [r])))
      have GOOD := hide (show el3 ps k = el3 qs k → ∀ i, i < k + 1 → el3 ps i = el3 qs i from fun hr i hi => by
        by_cases e : i = k
        · subst e; exact hr
        · exact (unhide HG) i (by omega))
      change wr.cell? ⟨g, k * 3, none⟩ = some (.int .i64 (el3 ps k).1) ∧ wr.cell? ⟨g, k * 3 + 1, none⟩ = some (.int .i64 (el3 ps k).2.1) ∧ wr.cell? ⟨g, k * 3 + 2, none⟩ = some (.int .i64 (el3 ps k).2.2) at d
      change wr.cell? ⟨h, k * 3, none⟩ = some (.int .i64 (el3 qs k).1) ∧ wr.cell? ⟨h, k * 3 + 1, none⟩ = some (.int .i64 (el3 qs k).2.1) ∧ wr.cell? ⟨h, k * 3 + 2, none⟩ = some (.int .i64 (el3 qs k).2.2) at f
      clear HG
      generalize el3 ps k = p at *
      generalize el3 qs k = q at *
      obtain ⟨p0, p1, p2⟩ := p
      obtain ⟨q0, q1, q2⟩ := q
      obtain ⟨d0, d1, d2⟩ := d
      obtain ⟨f0, f1, f2⟩ := f
      have S1 := hide (SmBal.mk (W := wr.drew) hS.rp hS.rq (low_drew hS.b))
      have kx : (k : Int) < ps.length := by omega
      have e9 := unhide E0
      have ky : (k : Int) < qs.length := by omega
      clear e9 hS
      by_cases t0 : p0 = q0
      case neg =>
        have F := hide ((unhide BAD) (by simp [t0]))
        clear BAD GOOD T
        go_wp2_with fail
        go_region
        go_wp2
        go_ret
        exact ⟨by rw [unhide F]; rfl, (unhide S1).b⟩
      subst t0
      by_cases t1 : p1 = q1
      case neg =>
        have F := hide ((unhide BAD) (by simp [t1]))
        clear BAD GOOD T
        go_wp2_with fail
        go_region
        go_wp2
        go_ret
        exact ⟨by rw [unhide F]; rfl, (unhide S1).b⟩
      subst t1
      by_cases t2 : p2 = q2
      case neg =>
        have F := hide ((unhide BAD) (by simp [t2]))
        clear BAD GOOD T
        go_wp2_with fail
        go_region
        go_wp2
        go_ret
        exact ⟨by rw [unhide F]; rfl, (unhide S1).b⟩
      subst t2
      have G := hide ((unhide GOOD) rfl)
      clear BAD GOOD
      go_wp2_with fail
      go_region
      go_wp2
      go_roundw
      case rel => exact ⟨k + 1, by omega, by go_num, unhide S1, G⟩
      case measure => simp [intOf]; omega
    · have A0 := hide ((unhide T).of (same_of (unhide E0) (fun i hi => (unhide HG) i (by omega))))
      have S0 := hide hS
      clear hS HG hk
      go_wp2
      go_ret
      exact ⟨by rw [unhide A0]; rfl, (unhide S0).b⟩

structure SmLot (w W : World) (g h : Nat) (ps qs : List T5) : Prop where
  rp : Tup5.At5 W g ps
  rq : Tup5.At5 W h qs
  b : Below w.heap.size w W

set_option maxRecDepth 100000 in
set_option maxHeartbeats 8000000 in
theorem eqLot (w : World) (g h cp cq : Nat) (ps qs : List T5) (b : Bool) (n0 : ps.length ≤ 1048576) (hp : Tup5.At5 w g ps) (hq : Tup5.At5 w h qs) (hb : Says b (ps = qs)) :
    Calls Try.prog 38 #[.slice (some ⟨g, 0, none⟩) ps.length cp, .slice (some ⟨h, 0, none⟩) qs.length cq] w fun e w' => e = .returned (.bool b) ∧ Below w.heap.size w w' := by
  have T := hide hb
  have S0 := hide (SmLot.mk hp hq (Below.refl w.heap.size w))
  clear hb hp hq
  by_cases e0 : ps.length = qs.length
  case neg =>
    have F := hide ((unhide T).not (fun h => e0 (by rw [h])))
    have h0 : ((ps.length : Int) != (qs.length : Int)) = true := by simp; omega
    clear e0 T n0
    go_enter Try.func38, Try.ntmps38
    go_wp2
    go_ret
    exact ⟨by rw [unhide F]; rfl, (unhide S0).b⟩
  have h0 : ((ps.length : Int) != (qs.length : Int)) = false := by simp; omega
  have E0 := hide e0
  clear e0
  go_enter Try.func38, Try.ntmps38
  go_wp2
  clear h0
  go_loopw [13] (fun i wr => ∃ (k : Nat), k ≤ ps.length ∧ i = .int .i64 k ∧ SmLot w wr g h ps qs ∧ Hid (∀ j, j < k → el5 ps j = el5 qs j)) (fun i _ => ps.length - (intOf i).toNat)
  case atStart => exact ⟨0, by omega, rfl, unhide S0, hide (fun i hi => absurd hi (by omega))⟩
  case round =>
    obtain ⟨k, hk, rfl, hS, HG⟩ := hrel
    clear S0
    by_cases t : k < ps.length
    · have d := hS.rp k t
      have f := hS.rq k (by rw [← unhide E0]; exact t)
      have BAD := hide (show el5 ps k ≠ el5 qs k → b = false from fun hr => (unhide T).not (fun r => hr (by rw [r])))
      have GOOD := hide (show el5 ps k = el5 qs k → ∀ i, i < k + 1 → el5 ps i = el5 qs i from fun hr i hi => by
        by_cases e : i = k
        · subst e; exact hr
        · exact (unhide HG) i (by omega))
      change wr.cell? ⟨g, k * 5, none⟩ = some (.int .i64 (el5 ps k).1) ∧ wr.cell? ⟨g, k * 5 + 1, none⟩ = some (.int .i64 (el5 ps k).2.1) ∧ wr.cell? ⟨g, k * 5 + 2, none⟩ = some (.int .i64 (el5 ps k).2.2.1) ∧ wr.cell? ⟨g, k * 5 + 3, none⟩ = some (.int .i64 (el5 ps k).2.2.2.1) ∧ wr.cell? ⟨g, k * 5 + 4, none⟩ = some (.int .i64 (el5 ps k).2.2.2.2) at d
      change wr.cell? ⟨h, k * 5, none⟩ = some (.int .i64 (el5 qs k).1) ∧ wr.cell? ⟨h, k * 5 + 1, none⟩ = some (.int .i64 (el5 qs k).2.1) ∧ wr.cell? ⟨h, k * 5 + 2, none⟩ = some (.int .i64 (el5 qs k).2.2.1) ∧ wr.cell? ⟨h, k * 5 + 3, none⟩ = some (.int .i64 (el5 qs k).2.2.2.1) ∧ wr.cell? ⟨h, k * 5 + 4, none⟩ = some (.int .i64 (el5 qs k).2.2.2.2) at f
      clear HG
      generalize el5 ps k = p at *
      generalize el5 qs k = q at *
      obtain ⟨p0, p1, p2, p3, p4⟩ := p
      obtain ⟨q0, q1, q2, q3, q4⟩ := q
      obtain ⟨d0, d1, d2, d3, d4⟩ := d
      obtain ⟨f0, f1, f2, f3, f4⟩ := f
      have S1 := hide (SmLot.mk (W := wr.drew) hS.rp hS.rq (low_drew hS.b))
      have kx : (k : Int) < ps.length := by omega
      have e9 := unhide E0
      have ky : (k : Int) < qs.length := by omega
      clear e9 hS
      by_cases t0 : p0 = q0
      case neg =>
        have F := hide ((unhide BAD) (by simp [t0]))
        clear BAD GOOD T
        go_wp2_with fail
        go_region
        go_wp2
        go_ret
        exact ⟨by rw [unhide F]; rfl, (unhide S1).b⟩
      subst t0
      by_cases t1 : p1 = q1
      case neg =>
        have F := hide ((unhide BAD) (by simp [t1]))
        clear BAD GOOD T
        go_wp2_with fail
        go_region
        go_wp2
        go_ret
        exact ⟨by rw [unhide F]; rfl, (unhide S1).b⟩
      subst t1
      by_cases t2 : p2 = q2
      case neg =>
        have F := hide ((unhide BAD) (by simp [t2]))
        clear BAD GOOD T
        go_wp2_with fail
        go_region
        go_wp2
        go_ret
        exact ⟨by rw [unhide F]; rfl, (unhide S1).b⟩
      subst t2
      by_cases t3 : p3 = q3
      case neg =>
        have F := hide ((unhide BAD) (by simp [t3]))
        clear BAD GOOD T
        go_wp2_with fail
        go_region
        go_wp2
        go_ret
        exact ⟨by rw [unhide F]; rfl, (unhide S1).b⟩
      subst t3
      by_cases t4 : p4 = q4
      case neg =>
        have F := hide ((unhide BAD) (by simp [t4]))
        clear BAD GOOD T
        go_wp2_with fail
        go_region
        go_wp2
        go_ret
        exact ⟨by rw [unhide F]; rfl, (unhide S1).b⟩
      subst t4
      have G := hide ((unhide GOOD) rfl)
      clear BAD GOOD
      go_wp2_with fail
      go_region
      go_wp2
      go_roundw
      case rel => exact ⟨k + 1, by omega, by go_num, unhide S1, G⟩
      case measure => simp [intOf]; omega
    · have A0 := hide ((unhide T).of (same_of (unhide E0) (fun i hi => (unhide HG) i (by omega))))
      have S0 := hide hS
      clear hS HG hk
      go_wp2
      go_ret
      exact ⟨by rw [unhide A0]; rfl, (unhide S0).b⟩

structure SmTrade (w W : World) (g h : Nat) (ps qs : List T8) : Prop where
  rp : Tup8.At8 W g ps
  rq : Tup8.At8 W h qs
  b : Below w.heap.size w W

set_option maxRecDepth 100000 in
set_option maxHeartbeats 8000000 in
theorem eqTrade (w : World) (g h cp cq : Nat) (ps qs : List T8) (b : Bool) (n0 : ps.length ≤ 1048576) (hp : Tup8.At8 w g ps) (hq : Tup8.At8 w h qs) (hb : Says b (ps = qs)) :
    Calls Try.prog 39 #[.slice (some ⟨g, 0, none⟩) ps.length cp, .slice (some ⟨h, 0, none⟩) qs.length cq] w fun e w' => e = .returned (.bool b) ∧ Below w.heap.size w w' := by
  have T := hide hb
  have S0 := hide (SmTrade.mk hp hq (Below.refl w.heap.size w))
  clear hb hp hq
  by_cases e0 : ps.length = qs.length
  case neg =>
    have F := hide ((unhide T).not (fun h => e0 (by rw [h])))
    have h0 : ((ps.length : Int) != (qs.length : Int)) = true := by simp; omega
    clear e0 T n0
    go_enter Try.func39, Try.ntmps39
    go_wp2
    go_ret
    exact ⟨by rw [unhide F]; rfl, (unhide S0).b⟩
  have h0 : ((ps.length : Int) != (qs.length : Int)) = false := by simp; omega
  have E0 := hide e0
  clear e0
  go_enter Try.func39, Try.ntmps39
  go_wp2
  clear h0
  go_loopw [13] (fun i wr => ∃ (k : Nat), k ≤ ps.length ∧ i = .int .i64 k ∧ SmTrade w wr g h ps qs ∧ Hid (∀ j, j < k → el8 ps j = el8 qs j)) (fun i _ => ps.length - (intOf i).toNat)
  case atStart => exact ⟨0, by omega, rfl, unhide S0, hide (fun i hi => absurd hi (by omega))⟩
  case round =>
    obtain ⟨k, hk, rfl, hS, HG⟩ := hrel
    clear S0
    by_cases t : k < ps.length
    · have d := hS.rp k t
      have f := hS.rq k (by rw [← unhide E0]; exact t)
      have BAD := hide (show el8 ps k ≠ el8 qs k → b = false from fun hr => (unhide T).not (fun r => hr (by rw [r])))
      have GOOD := hide (show el8 ps k = el8 qs k → ∀ i, i < k + 1 → el8 ps i = el8 qs i from fun hr i hi => by
        by_cases e : i = k
        · subst e; exact hr
        · exact (unhide HG) i (by omega))
      change wr.cell? ⟨g, k * 8, none⟩ = some (.int .i64 (el8 ps k).1) ∧ wr.cell? ⟨g, k * 8 + 1, none⟩ = some (.int .i64 (el8 ps k).2.1) ∧ wr.cell? ⟨g, k * 8 + 2, none⟩ = some (.int .i64 (el8 ps k).2.2.1) ∧ wr.cell? ⟨g, k * 8 + 3, none⟩ = some (.int .i64 (el8 ps k).2.2.2.1) ∧ wr.cell? ⟨g, k * 8 + 4, none⟩ = some (.int .i64 (el8 ps k).2.2.2.2.1) ∧ wr.cell? ⟨g, k * 8 + 5, none⟩ = some (.int .i64 (el8 ps k).2.2.2.2.2.1) ∧ wr.cell? ⟨g, k * 8 + 6, none⟩ = some (.int .i64 (el8 ps k).2.2.2.2.2.2.1) ∧ wr.cell? ⟨g, k * 8 + 7, none⟩ = some (.int .i64 (el8 ps k).2.2.2.2.2.2.2) at d
      change wr.cell? ⟨h, k * 8, none⟩ = some (.int .i64 (el8 qs k).1) ∧ wr.cell? ⟨h, k * 8 + 1, none⟩ = some (.int .i64 (el8 qs k).2.1) ∧ wr.cell? ⟨h, k * 8 + 2, none⟩ = some (.int .i64 (el8 qs k).2.2.1) ∧ wr.cell? ⟨h, k * 8 + 3, none⟩ = some (.int .i64 (el8 qs k).2.2.2.1) ∧ wr.cell? ⟨h, k * 8 + 4, none⟩ = some (.int .i64 (el8 qs k).2.2.2.2.1) ∧ wr.cell? ⟨h, k * 8 + 5, none⟩ = some (.int .i64 (el8 qs k).2.2.2.2.2.1) ∧ wr.cell? ⟨h, k * 8 + 6, none⟩ = some (.int .i64 (el8 qs k).2.2.2.2.2.2.1) ∧ wr.cell? ⟨h, k * 8 + 7, none⟩ = some (.int .i64 (el8 qs k).2.2.2.2.2.2.2) at f
      clear HG
      generalize el8 ps k = p at *
      generalize el8 qs k = q at *
      obtain ⟨p0, p1, p2, p3, p4, p5, p6, p7⟩ := p
      obtain ⟨q0, q1, q2, q3, q4, q5, q6, q7⟩ := q
      obtain ⟨d0, d1, d2, d3, d4, d5, d6, d7⟩ := d
      obtain ⟨f0, f1, f2, f3, f4, f5, f6, f7⟩ := f
      have S1 := hide (SmTrade.mk (W := wr.drew) hS.rp hS.rq (low_drew hS.b))
      have kx : (k : Int) < ps.length := by omega
      have e9 := unhide E0
      have ky : (k : Int) < qs.length := by omega
      clear e9 hS
      by_cases t0 : p0 = q0
      case neg =>
        have F := hide ((unhide BAD) (by simp [t0]))
        clear BAD GOOD T
        go_wp2_with fail
        go_region
        go_wp2
        go_ret
        exact ⟨by rw [unhide F]; rfl, (unhide S1).b⟩
      subst t0
      by_cases t1 : p1 = q1
      case neg =>
        have F := hide ((unhide BAD) (by simp [t1]))
        clear BAD GOOD T
        go_wp2_with fail
        go_region
        go_wp2
        go_ret
        exact ⟨by rw [unhide F]; rfl, (unhide S1).b⟩
      subst t1
      by_cases t2 : p2 = q2
      case neg =>
        have F := hide ((unhide BAD) (by simp [t2]))
        clear BAD GOOD T
        go_wp2_with fail
        go_region
        go_wp2
        go_ret
        exact ⟨by rw [unhide F]; rfl, (unhide S1).b⟩
      subst t2
      by_cases t3 : p3 = q3
      case neg =>
        have F := hide ((unhide BAD) (by simp [t3]))
        clear BAD GOOD T
        go_wp2_with fail
        go_region
        go_wp2
        go_ret
        exact ⟨by rw [unhide F]; rfl, (unhide S1).b⟩
      subst t3
      by_cases t4 : p4 = q4
      case neg =>
        have F := hide ((unhide BAD) (by simp [t4]))
        clear BAD GOOD T
        go_wp2_with fail
        go_region
        go_wp2
        go_ret
        exact ⟨by rw [unhide F]; rfl, (unhide S1).b⟩
      subst t4
      by_cases t5 : p5 = q5
      case neg =>
        have F := hide ((unhide BAD) (by simp [t5]))
        clear BAD GOOD T
        go_wp2_with fail
        go_region
        go_wp2
        go_ret
        exact ⟨by rw [unhide F]; rfl, (unhide S1).b⟩
      subst t5
      by_cases t6 : p6 = q6
      case neg =>
        have F := hide ((unhide BAD) (by simp [t6]))
        clear BAD GOOD T
        go_wp2_with fail
        go_region
        go_wp2
        go_ret
        exact ⟨by rw [unhide F]; rfl, (unhide S1).b⟩
      subst t6
      by_cases t7 : p7 = q7
      case neg =>
        have F := hide ((unhide BAD) (by simp [t7]))
        clear BAD GOOD T
        go_wp2_with fail
        go_region
        go_wp2
        go_ret
        exact ⟨by rw [unhide F]; rfl, (unhide S1).b⟩
      subst t7
      have G := hide ((unhide GOOD) rfl)
      clear BAD GOOD
      go_wp2_with fail
      go_region
      go_wp2
      go_roundw
      case rel => exact ⟨k + 1, by omega, by go_num, unhide S1, G⟩
      case measure => simp [intOf]; omega
    · have A0 := hide ((unhide T).of (same_of (unhide E0) (fun i hi => (unhide HG) i (by omega))))
      have S0 := hide hS
      clear hS HG hk
      go_wp2
      go_ret
      exact ⟨by rw [unhide A0]; rfl, (unhide S0).b⟩

theorem no_says {p : Prop} (h : ¬ p) : Says false p := ⟨fun e => Bool.noConfusion e, fun r => absurd r h⟩

theorem yes_says {p : Prop} (h : p) : Says true p := ⟨fun _ => h, fun _ => rfl⟩

theorem all_same {a b : Bk} (h0 : a.ac = b.ac) (h1 : a.ic = b.ic) (h2 : a.bs = b.bs) (h3 : a.ls = b.ls) (h4 : a.ts = b.ts) (h5 : a.lot = b.lot) : a = b := by
  cases a; cases b; simp only at *; subst h0 h1 h2 h3 h4 h5; rfl

set_option maxRecDepth 100000 in
set_option maxHeartbeats 8000000 in
theorem iSame (w : World) (x y : Bx) (b : Bool) (hx : Rd w x) (hy : Rd w y) (hb : Says b (x.b = y.b)) :
    Calls Try.prog 16 #[.agg #[.slice (some ⟨x.ga, 0, none⟩) x.b.ac.length x.ca, .slice (some ⟨x.gi, 0, none⟩) x.b.ic.length x.ci, .slice (some ⟨x.gb, 0, none⟩) x.b.bs.length x.cb, .slice (some ⟨x.gl, 0, none⟩) x.b.ls.length x.cl, .slice (some ⟨x.gt, 0, none⟩) x.b.ts.length x.ct, .int .i64 x.b.lot], .agg #[.slice (some ⟨y.ga, 0, none⟩) y.b.ac.length y.ca, .slice (some ⟨y.gi, 0, none⟩) y.b.ic.length y.ci, .slice (some ⟨y.gb, 0, none⟩) y.b.bs.length y.cb, .slice (some ⟨y.gl, 0, none⟩) y.b.ls.length y.cl, .slice (some ⟨y.gt, 0, none⟩) y.b.ts.length y.ct, .int .i64 y.b.lot]] w fun e w' => e = .returned (.bool b) ∧ Below w.heap.size w w' := by
  have T := hide hb
  have S0 := hide (Tw.start hx hy 48)
  clear hb hx hy
  by_cases e0 : x.b.ac = y.b.ac
  case neg =>
    have F := hide ((unhide T).not (fun h => e0 (by rw [h])))
    have Q0 : Hid (Says false (x.b.ac = y.b.ac)) := hide (no_says e0)
    clear e0 T
    go_enter Try.func16, Try.ntmps16
    obtain ⟨c0, c1, c2, c3, c4, c5⟩ := (unhide S0).cx
    obtain ⟨g0, g1, g2, g3, g4, g5⟩ := (unhide S0).cy
    go_wp2_with fail
    refine (eqAccount _ x.ga y.ga x.ca y.ca x.b.ac y.b.ac false (unhide S0).rx.na (unhide S0).rx.ra (unhide S0).ry.ra (unhide Q0)).mono ?_
    rintro e u0 ⟨rfl, bb⟩
    have S1 := hide ((unhide S0).step bb)
    clear bb S0 c0 c1 c2 c3 c4 c5 g0 g1 g2 g3 g4 g5
    have S0 := S1
    clear S1
    obtain ⟨c0, c1, c2, c3, c4, c5⟩ := (unhide S0).cx
    obtain ⟨g0, g1, g2, g3, g4, g5⟩ := (unhide S0).cy
    go_wp2
    go_ret
    exact ⟨by rw [unhide F]; rfl, (unhide S0).b⟩
  have Q0 : Hid (Says true (x.b.ac = y.b.ac)) := hide (yes_says e0)
  have E0 := hide e0
  clear e0
  by_cases e1 : x.b.ic = y.b.ic
  case neg =>
    have F := hide ((unhide T).not (fun h => e1 (by rw [h])))
    have Q1 : Hid (Says false (x.b.ic = y.b.ic)) := hide (no_says e1)
    clear e1 T
    go_enter Try.func16, Try.ntmps16
    obtain ⟨c0, c1, c2, c3, c4, c5⟩ := (unhide S0).cx
    obtain ⟨g0, g1, g2, g3, g4, g5⟩ := (unhide S0).cy
    go_wp2_with fail
    refine (eqAccount _ x.ga y.ga x.ca y.ca x.b.ac y.b.ac true (unhide S0).rx.na (unhide S0).rx.ra (unhide S0).ry.ra (unhide Q0)).mono ?_
    rintro e u0 ⟨rfl, bb⟩
    have S1 := hide ((unhide S0).step bb)
    clear bb S0 c0 c1 c2 c3 c4 c5 g0 g1 g2 g3 g4 g5
    have S0 := S1
    clear S1
    obtain ⟨c0, c1, c2, c3, c4, c5⟩ := (unhide S0).cx
    obtain ⟨g0, g1, g2, g3, g4, g5⟩ := (unhide S0).cy
    go_wp2_with fail
    refine (eqInstr _ x.gi y.gi x.ci y.ci x.b.ic y.b.ic false (unhide S0).rx.ni (unhide S0).rx.ri (unhide S0).ry.ri (unhide Q1)).mono ?_
    rintro e u1 ⟨rfl, bb⟩
    have S1 := hide ((unhide S0).step bb)
    clear bb S0 c0 c1 c2 c3 c4 c5 g0 g1 g2 g3 g4 g5
    have S0 := S1
    clear S1
    obtain ⟨c0, c1, c2, c3, c4, c5⟩ := (unhide S0).cx
    obtain ⟨g0, g1, g2, g3, g4, g5⟩ := (unhide S0).cy
    go_wp2
    go_ret
    exact ⟨by rw [unhide F]; rfl, (unhide S0).b⟩
  have Q1 : Hid (Says true (x.b.ic = y.b.ic)) := hide (yes_says e1)
  have E1 := hide e1
  clear e1
  by_cases e2 : x.b.bs = y.b.bs
  case neg =>
    have F := hide ((unhide T).not (fun h => e2 (by rw [h])))
    have Q2 : Hid (Says false (x.b.bs = y.b.bs)) := hide (no_says e2)
    clear e2 T
    go_enter Try.func16, Try.ntmps16
    obtain ⟨c0, c1, c2, c3, c4, c5⟩ := (unhide S0).cx
    obtain ⟨g0, g1, g2, g3, g4, g5⟩ := (unhide S0).cy
    go_wp2_with fail
    refine (eqAccount _ x.ga y.ga x.ca y.ca x.b.ac y.b.ac true (unhide S0).rx.na (unhide S0).rx.ra (unhide S0).ry.ra (unhide Q0)).mono ?_
    rintro e u0 ⟨rfl, bb⟩
    have S1 := hide ((unhide S0).step bb)
    clear bb S0 c0 c1 c2 c3 c4 c5 g0 g1 g2 g3 g4 g5
    have S0 := S1
    clear S1
    obtain ⟨c0, c1, c2, c3, c4, c5⟩ := (unhide S0).cx
    obtain ⟨g0, g1, g2, g3, g4, g5⟩ := (unhide S0).cy
    go_wp2_with fail
    refine (eqInstr _ x.gi y.gi x.ci y.ci x.b.ic y.b.ic true (unhide S0).rx.ni (unhide S0).rx.ri (unhide S0).ry.ri (unhide Q1)).mono ?_
    rintro e u1 ⟨rfl, bb⟩
    have S1 := hide ((unhide S0).step bb)
    clear bb S0 c0 c1 c2 c3 c4 c5 g0 g1 g2 g3 g4 g5
    have S0 := S1
    clear S1
    obtain ⟨c0, c1, c2, c3, c4, c5⟩ := (unhide S0).cx
    obtain ⟨g0, g1, g2, g3, g4, g5⟩ := (unhide S0).cy
    go_wp2_with fail
    refine (eqBal _ x.gb y.gb x.cb y.cb x.b.bs y.b.bs false (unhide S0).rx.nb (unhide S0).rx.rb (unhide S0).ry.rb (unhide Q2)).mono ?_
    rintro e u2 ⟨rfl, bb⟩
    have S1 := hide ((unhide S0).step bb)
    clear bb S0 c0 c1 c2 c3 c4 c5 g0 g1 g2 g3 g4 g5
    have S0 := S1
    clear S1
    obtain ⟨c0, c1, c2, c3, c4, c5⟩ := (unhide S0).cx
    obtain ⟨g0, g1, g2, g3, g4, g5⟩ := (unhide S0).cy
    go_wp2
    go_ret
    exact ⟨by rw [unhide F]; rfl, (unhide S0).b⟩
  have Q2 : Hid (Says true (x.b.bs = y.b.bs)) := hide (yes_says e2)
  have E2 := hide e2
  clear e2
  by_cases e3 : x.b.ls = y.b.ls
  case neg =>
    have F := hide ((unhide T).not (fun h => e3 (by rw [h])))
    have Q3 : Hid (Says false (x.b.ls = y.b.ls)) := hide (no_says e3)
    clear e3 T
    go_enter Try.func16, Try.ntmps16
    obtain ⟨c0, c1, c2, c3, c4, c5⟩ := (unhide S0).cx
    obtain ⟨g0, g1, g2, g3, g4, g5⟩ := (unhide S0).cy
    go_wp2_with fail
    refine (eqAccount _ x.ga y.ga x.ca y.ca x.b.ac y.b.ac true (unhide S0).rx.na (unhide S0).rx.ra (unhide S0).ry.ra (unhide Q0)).mono ?_
    rintro e u0 ⟨rfl, bb⟩
    have S1 := hide ((unhide S0).step bb)
    clear bb S0 c0 c1 c2 c3 c4 c5 g0 g1 g2 g3 g4 g5
    have S0 := S1
    clear S1
    obtain ⟨c0, c1, c2, c3, c4, c5⟩ := (unhide S0).cx
    obtain ⟨g0, g1, g2, g3, g4, g5⟩ := (unhide S0).cy
    go_wp2_with fail
    refine (eqInstr _ x.gi y.gi x.ci y.ci x.b.ic y.b.ic true (unhide S0).rx.ni (unhide S0).rx.ri (unhide S0).ry.ri (unhide Q1)).mono ?_
    rintro e u1 ⟨rfl, bb⟩
    have S1 := hide ((unhide S0).step bb)
    clear bb S0 c0 c1 c2 c3 c4 c5 g0 g1 g2 g3 g4 g5
    have S0 := S1
    clear S1
    obtain ⟨c0, c1, c2, c3, c4, c5⟩ := (unhide S0).cx
    obtain ⟨g0, g1, g2, g3, g4, g5⟩ := (unhide S0).cy
    go_wp2_with fail
    refine (eqBal _ x.gb y.gb x.cb y.cb x.b.bs y.b.bs true (unhide S0).rx.nb (unhide S0).rx.rb (unhide S0).ry.rb (unhide Q2)).mono ?_
    rintro e u2 ⟨rfl, bb⟩
    have S1 := hide ((unhide S0).step bb)
    clear bb S0 c0 c1 c2 c3 c4 c5 g0 g1 g2 g3 g4 g5
    have S0 := S1
    clear S1
    obtain ⟨c0, c1, c2, c3, c4, c5⟩ := (unhide S0).cx
    obtain ⟨g0, g1, g2, g3, g4, g5⟩ := (unhide S0).cy
    go_wp2_with fail
    refine (eqLot _ x.gl y.gl x.cl y.cl x.b.ls y.b.ls false (unhide S0).rx.nl (unhide S0).rx.rl (unhide S0).ry.rl (unhide Q3)).mono ?_
    rintro e u3 ⟨rfl, bb⟩
    have S1 := hide ((unhide S0).step bb)
    clear bb S0 c0 c1 c2 c3 c4 c5 g0 g1 g2 g3 g4 g5
    have S0 := S1
    clear S1
    obtain ⟨c0, c1, c2, c3, c4, c5⟩ := (unhide S0).cx
    obtain ⟨g0, g1, g2, g3, g4, g5⟩ := (unhide S0).cy
    go_wp2
    go_ret
    exact ⟨by rw [unhide F]; rfl, (unhide S0).b⟩
  have Q3 : Hid (Says true (x.b.ls = y.b.ls)) := hide (yes_says e3)
  have E3 := hide e3
  clear e3
  by_cases e4 : x.b.ts = y.b.ts
  case neg =>
    have F := hide ((unhide T).not (fun h => e4 (by rw [h])))
    have Q4 : Hid (Says false (x.b.ts = y.b.ts)) := hide (no_says e4)
    clear e4 T
    go_enter Try.func16, Try.ntmps16
    obtain ⟨c0, c1, c2, c3, c4, c5⟩ := (unhide S0).cx
    obtain ⟨g0, g1, g2, g3, g4, g5⟩ := (unhide S0).cy
    go_wp2_with fail
    refine (eqAccount _ x.ga y.ga x.ca y.ca x.b.ac y.b.ac true (unhide S0).rx.na (unhide S0).rx.ra (unhide S0).ry.ra (unhide Q0)).mono ?_
    rintro e u0 ⟨rfl, bb⟩
    have S1 := hide ((unhide S0).step bb)
    clear bb S0 c0 c1 c2 c3 c4 c5 g0 g1 g2 g3 g4 g5
    have S0 := S1
    clear S1
    obtain ⟨c0, c1, c2, c3, c4, c5⟩ := (unhide S0).cx
    obtain ⟨g0, g1, g2, g3, g4, g5⟩ := (unhide S0).cy
    go_wp2_with fail
    refine (eqInstr _ x.gi y.gi x.ci y.ci x.b.ic y.b.ic true (unhide S0).rx.ni (unhide S0).rx.ri (unhide S0).ry.ri (unhide Q1)).mono ?_
    rintro e u1 ⟨rfl, bb⟩
    have S1 := hide ((unhide S0).step bb)
    clear bb S0 c0 c1 c2 c3 c4 c5 g0 g1 g2 g3 g4 g5
    have S0 := S1
    clear S1
    obtain ⟨c0, c1, c2, c3, c4, c5⟩ := (unhide S0).cx
    obtain ⟨g0, g1, g2, g3, g4, g5⟩ := (unhide S0).cy
    go_wp2_with fail
    refine (eqBal _ x.gb y.gb x.cb y.cb x.b.bs y.b.bs true (unhide S0).rx.nb (unhide S0).rx.rb (unhide S0).ry.rb (unhide Q2)).mono ?_
    rintro e u2 ⟨rfl, bb⟩
    have S1 := hide ((unhide S0).step bb)
    clear bb S0 c0 c1 c2 c3 c4 c5 g0 g1 g2 g3 g4 g5
    have S0 := S1
    clear S1
    obtain ⟨c0, c1, c2, c3, c4, c5⟩ := (unhide S0).cx
    obtain ⟨g0, g1, g2, g3, g4, g5⟩ := (unhide S0).cy
    go_wp2_with fail
    refine (eqLot _ x.gl y.gl x.cl y.cl x.b.ls y.b.ls true (unhide S0).rx.nl (unhide S0).rx.rl (unhide S0).ry.rl (unhide Q3)).mono ?_
    rintro e u3 ⟨rfl, bb⟩
    have S1 := hide ((unhide S0).step bb)
    clear bb S0 c0 c1 c2 c3 c4 c5 g0 g1 g2 g3 g4 g5
    have S0 := S1
    clear S1
    obtain ⟨c0, c1, c2, c3, c4, c5⟩ := (unhide S0).cx
    obtain ⟨g0, g1, g2, g3, g4, g5⟩ := (unhide S0).cy
    go_wp2_with fail
    refine (eqTrade _ x.gt y.gt x.ct y.ct x.b.ts y.b.ts false (unhide S0).rx.nt (unhide S0).rx.rt (unhide S0).ry.rt (unhide Q4)).mono ?_
    rintro e u4 ⟨rfl, bb⟩
    have S1 := hide ((unhide S0).step bb)
    clear bb S0 c0 c1 c2 c3 c4 c5 g0 g1 g2 g3 g4 g5
    have S0 := S1
    clear S1
    obtain ⟨c0, c1, c2, c3, c4, c5⟩ := (unhide S0).cx
    obtain ⟨g0, g1, g2, g3, g4, g5⟩ := (unhide S0).cy
    go_wp2
    go_ret
    exact ⟨by rw [unhide F]; rfl, (unhide S0).b⟩
  have Q4 : Hid (Says true (x.b.ts = y.b.ts)) := hide (yes_says e4)
  have E4 := hide e4
  clear e4
  by_cases e5 : x.b.lot = y.b.lot
  case neg =>
    have F := hide ((unhide T).not (fun h => e5 (by rw [h])))
    have h5 : (x.b.lot == y.b.lot) = false := by simp; omega
    clear e5 T
    go_enter Try.func16, Try.ntmps16
    obtain ⟨c0, c1, c2, c3, c4, c5⟩ := (unhide S0).cx
    obtain ⟨g0, g1, g2, g3, g4, g5⟩ := (unhide S0).cy
    go_wp2_with fail
    refine (eqAccount _ x.ga y.ga x.ca y.ca x.b.ac y.b.ac true (unhide S0).rx.na (unhide S0).rx.ra (unhide S0).ry.ra (unhide Q0)).mono ?_
    rintro e u0 ⟨rfl, bb⟩
    have S1 := hide ((unhide S0).step bb)
    clear bb S0 c0 c1 c2 c3 c4 c5 g0 g1 g2 g3 g4 g5
    have S0 := S1
    clear S1
    obtain ⟨c0, c1, c2, c3, c4, c5⟩ := (unhide S0).cx
    obtain ⟨g0, g1, g2, g3, g4, g5⟩ := (unhide S0).cy
    go_wp2_with fail
    refine (eqInstr _ x.gi y.gi x.ci y.ci x.b.ic y.b.ic true (unhide S0).rx.ni (unhide S0).rx.ri (unhide S0).ry.ri (unhide Q1)).mono ?_
    rintro e u1 ⟨rfl, bb⟩
    have S1 := hide ((unhide S0).step bb)
    clear bb S0 c0 c1 c2 c3 c4 c5 g0 g1 g2 g3 g4 g5
    have S0 := S1
    clear S1
    obtain ⟨c0, c1, c2, c3, c4, c5⟩ := (unhide S0).cx
    obtain ⟨g0, g1, g2, g3, g4, g5⟩ := (unhide S0).cy
    go_wp2_with fail
    refine (eqBal _ x.gb y.gb x.cb y.cb x.b.bs y.b.bs true (unhide S0).rx.nb (unhide S0).rx.rb (unhide S0).ry.rb (unhide Q2)).mono ?_
    rintro e u2 ⟨rfl, bb⟩
    have S1 := hide ((unhide S0).step bb)
    clear bb S0 c0 c1 c2 c3 c4 c5 g0 g1 g2 g3 g4 g5
    have S0 := S1
    clear S1
    obtain ⟨c0, c1, c2, c3, c4, c5⟩ := (unhide S0).cx
    obtain ⟨g0, g1, g2, g3, g4, g5⟩ := (unhide S0).cy
    go_wp2_with fail
    refine (eqLot _ x.gl y.gl x.cl y.cl x.b.ls y.b.ls true (unhide S0).rx.nl (unhide S0).rx.rl (unhide S0).ry.rl (unhide Q3)).mono ?_
    rintro e u3 ⟨rfl, bb⟩
    have S1 := hide ((unhide S0).step bb)
    clear bb S0 c0 c1 c2 c3 c4 c5 g0 g1 g2 g3 g4 g5
    have S0 := S1
    clear S1
    obtain ⟨c0, c1, c2, c3, c4, c5⟩ := (unhide S0).cx
    obtain ⟨g0, g1, g2, g3, g4, g5⟩ := (unhide S0).cy
    go_wp2_with fail
    refine (eqTrade _ x.gt y.gt x.ct y.ct x.b.ts y.b.ts true (unhide S0).rx.nt (unhide S0).rx.rt (unhide S0).ry.rt (unhide Q4)).mono ?_
    rintro e u4 ⟨rfl, bb⟩
    have S1 := hide ((unhide S0).step bb)
    clear bb S0 c0 c1 c2 c3 c4 c5 g0 g1 g2 g3 g4 g5
    have S0 := S1
    clear S1
    obtain ⟨c0, c1, c2, c3, c4, c5⟩ := (unhide S0).cx
    obtain ⟨g0, g1, g2, g3, g4, g5⟩ := (unhide S0).cy
    go_wp2
    go_ret
    exact ⟨by rw [unhide F]; rfl, (unhide S0).b⟩
  have F : Hid (b = true) := hide ((unhide T).of (all_same (unhide E0) (unhide E1) (unhide E2) (unhide E3) (unhide E4) e5))
  have h5 : (x.b.lot == y.b.lot) = true := by simp; omega
  clear e5 T
  go_enter Try.func16, Try.ntmps16
  obtain ⟨c0, c1, c2, c3, c4, c5⟩ := (unhide S0).cx
  obtain ⟨g0, g1, g2, g3, g4, g5⟩ := (unhide S0).cy
  go_wp2_with fail
  refine (eqAccount _ x.ga y.ga x.ca y.ca x.b.ac y.b.ac true (unhide S0).rx.na (unhide S0).rx.ra (unhide S0).ry.ra (unhide Q0)).mono ?_
  rintro e u0 ⟨rfl, bb⟩
  have S1 := hide ((unhide S0).step bb)
  clear bb S0 c0 c1 c2 c3 c4 c5 g0 g1 g2 g3 g4 g5
  have S0 := S1
  clear S1
  obtain ⟨c0, c1, c2, c3, c4, c5⟩ := (unhide S0).cx
  obtain ⟨g0, g1, g2, g3, g4, g5⟩ := (unhide S0).cy
  go_wp2_with fail
  refine (eqInstr _ x.gi y.gi x.ci y.ci x.b.ic y.b.ic true (unhide S0).rx.ni (unhide S0).rx.ri (unhide S0).ry.ri (unhide Q1)).mono ?_
  rintro e u1 ⟨rfl, bb⟩
  have S1 := hide ((unhide S0).step bb)
  clear bb S0 c0 c1 c2 c3 c4 c5 g0 g1 g2 g3 g4 g5
  have S0 := S1
  clear S1
  obtain ⟨c0, c1, c2, c3, c4, c5⟩ := (unhide S0).cx
  obtain ⟨g0, g1, g2, g3, g4, g5⟩ := (unhide S0).cy
  go_wp2_with fail
  refine (eqBal _ x.gb y.gb x.cb y.cb x.b.bs y.b.bs true (unhide S0).rx.nb (unhide S0).rx.rb (unhide S0).ry.rb (unhide Q2)).mono ?_
  rintro e u2 ⟨rfl, bb⟩
  have S1 := hide ((unhide S0).step bb)
  clear bb S0 c0 c1 c2 c3 c4 c5 g0 g1 g2 g3 g4 g5
  have S0 := S1
  clear S1
  obtain ⟨c0, c1, c2, c3, c4, c5⟩ := (unhide S0).cx
  obtain ⟨g0, g1, g2, g3, g4, g5⟩ := (unhide S0).cy
  go_wp2_with fail
  refine (eqLot _ x.gl y.gl x.cl y.cl x.b.ls y.b.ls true (unhide S0).rx.nl (unhide S0).rx.rl (unhide S0).ry.rl (unhide Q3)).mono ?_
  rintro e u3 ⟨rfl, bb⟩
  have S1 := hide ((unhide S0).step bb)
  clear bb S0 c0 c1 c2 c3 c4 c5 g0 g1 g2 g3 g4 g5
  have S0 := S1
  clear S1
  obtain ⟨c0, c1, c2, c3, c4, c5⟩ := (unhide S0).cx
  obtain ⟨g0, g1, g2, g3, g4, g5⟩ := (unhide S0).cy
  go_wp2_with fail
  refine (eqTrade _ x.gt y.gt x.ct y.ct x.b.ts y.b.ts true (unhide S0).rx.nt (unhide S0).rx.rt (unhide S0).ry.rt (unhide Q4)).mono ?_
  rintro e u4 ⟨rfl, bb⟩
  have S1 := hide ((unhide S0).step bb)
  clear bb S0 c0 c1 c2 c3 c4 c5 g0 g1 g2 g3 g4 g5
  have S0 := S1
  clear S1
  obtain ⟨c0, c1, c2, c3, c4, c5⟩ := (unhide S0).cx
  obtain ⟨g0, g1, g2, g3, g4, g5⟩ := (unhide S0).cy
  go_wp2
  go_ret
  exact ⟨by rw [unhide F]; rfl, (unhide S0).b⟩

end Go.Proofs.Ytophnnmbgpinfaa.SameI
