/- The specification's BooksSame: whether two books are the same. -/
import Derived.Test.YtophnnmbgpinfaaLawB
import Derived.Test.YtophnnmbgpinfaaQuieter
namespace Go.Proofs.Ytophnnmbgpinfaa.SSame
open Go.ChangeShapes Go.WideShapes Go.ChangeAt Go.RowKit BMem Bks ILists
open Lots (Says says_of)
open IBalsFit (St one_more)
open Bals (T3 el3)
open Tup5 (T5 el5)
open Tup8 (T8 el8)
set_option linter.unusedVariables false
set_option linter.unusedSimpArgs false

/-- Two books in two boxes. -/
structure Tw (w W : World) (x y : Bx) : Prop where
  rx : Rd W x
  ry : Rd W y
  cx : Cl W w.heap.size x
  cy : Cl W (w.heap.size + 1) y
  b : Below w.heap.size w W
  s : w.heap.size + 1 < W.heap.size

theorem Tw.start {w : World} {x y : Bx} (hx : Rd w x) (hy : Rd w y) (e : TypeId) : Tw w ((w.alloc (.cells #[.slice (some ⟨x.ga, 0, none⟩) x.b.ac.length x.ca, .slice (some ⟨x.gi, 0, none⟩) x.b.ic.length x.ci, .slice (some ⟨x.gb, 0, none⟩) x.b.bs.length x.cb, .slice (some ⟨x.gl, 0, none⟩) x.b.ls.length x.cl, .slice (some ⟨x.gt, 0, none⟩) x.b.ts.length x.ct, .int .i64 x.b.lot] e)).alloc (.cells #[.slice (some ⟨y.ga, 0, none⟩) y.b.ac.length y.ca, .slice (some ⟨y.gi, 0, none⟩) y.b.ic.length y.ci, .slice (some ⟨y.gb, 0, none⟩) y.b.bs.length y.cb, .slice (some ⟨y.gl, 0, none⟩) y.b.ls.length y.cl, .slice (some ⟨y.gt, 0, none⟩) y.b.ts.length y.ct, .int .i64 y.b.lot] e)) x y := by
  have s := one_more (w.alloc (.cells #[.slice (some ⟨x.ga, 0, none⟩) x.b.ac.length x.ca, .slice (some ⟨x.gi, 0, none⟩) x.b.ic.length x.ci, .slice (some ⟨x.gb, 0, none⟩) x.b.bs.length x.cb, .slice (some ⟨x.gl, 0, none⟩) x.b.ls.length x.cl, .slice (some ⟨x.gt, 0, none⟩) x.b.ts.length x.ct, .int .i64 x.b.lot] e)) (.cells #[.slice (some ⟨y.ga, 0, none⟩) y.b.ac.length y.ca, .slice (some ⟨y.gi, 0, none⟩) y.b.ic.length y.ci, .slice (some ⟨y.gb, 0, none⟩) y.b.bs.length y.cb, .slice (some ⟨y.gl, 0, none⟩) y.b.ls.length y.cl, .slice (some ⟨y.gt, 0, none⟩) y.b.ts.length y.ct, .int .i64 y.b.lot] e)
  have c := boxed (w.alloc (.cells #[.slice (some ⟨x.ga, 0, none⟩) x.b.ac.length x.ca, .slice (some ⟨x.gi, 0, none⟩) x.b.ic.length x.ci, .slice (some ⟨x.gb, 0, none⟩) x.b.bs.length x.cb, .slice (some ⟨x.gl, 0, none⟩) x.b.ls.length x.cl, .slice (some ⟨x.gt, 0, none⟩) x.b.ts.length x.ct, .int .i64 x.b.lot] e)) y e
  rw [show (w.alloc (.cells #[.slice (some ⟨x.ga, 0, none⟩) x.b.ac.length x.ca, .slice (some ⟨x.gi, 0, none⟩) x.b.ic.length x.ci, .slice (some ⟨x.gb, 0, none⟩) x.b.bs.length x.cb, .slice (some ⟨x.gl, 0, none⟩) x.b.ls.length x.cl, .slice (some ⟨x.gt, 0, none⟩) x.b.ts.length x.ct, .int .i64 x.b.lot] e)).heap.size = w.heap.size + 1 by simp] at c
  exact ⟨(hx.alloc _).alloc _, (hy.alloc _).alloc _, (boxed w x e).below s (by simp), c, next (one_more _ _) s, by simp⟩

theorem Tw.step {w W W' : World} {x y : Bx} (h : Tw w W x y) (k : Below W.heap.size W W') : Tw w W' x y :=
  ⟨h.rx.below k, h.ry.below k, h.cx.below k (Nat.lt_of_succ_lt h.s), h.cy.below k h.s, h.b.trans (k.mono (Nat.le_of_lt (Nat.lt_of_succ_lt h.s))), Nat.lt_of_lt_of_le h.s k.size⟩

theorem Tw.drew {w W : World} {x y : Bx} (h : Tw w W x y) : Tw w W.drew x y :=
  ⟨LawB.rd_drew h.rx, LawB.rd_drew h.ry, ⟨h.cx.c0, h.cx.c1, h.cx.c2, h.cx.c3, h.cx.c4, h.cx.c5⟩, ⟨h.cy.c0, h.cy.c1, h.cy.c2, h.cy.c3, h.cy.c4, h.cy.c5⟩, ⟨h.b.os, h.b.tape, h.b.output, h.b.size, h.b.block⟩, h.s⟩

theorem same_of {α : Type} {d : α} {ps qs : List α} (hl : ps.length = qs.length) (h : ∀ i, i < ps.length → ps.getD i d = qs.getD i d) : ps = qs :=
  List.ext_getElem hl fun i a b => by
    have := h i a
    simpa [List.getD, a, b] using this

set_option maxRecDepth 100000 in
set_option maxHeartbeats 8000000 in
theorem sSame (w : World) (x y : Bx) (b : Bool) (hx : Rd w x) (hy : Rd w y) (hb : Says b (x.b = y.b)) :
    Calls Try.prog 14 #[.agg #[.slice (some ⟨x.ga, 0, none⟩) x.b.ac.length x.ca, .slice (some ⟨x.gi, 0, none⟩) x.b.ic.length x.ci, .slice (some ⟨x.gb, 0, none⟩) x.b.bs.length x.cb, .slice (some ⟨x.gl, 0, none⟩) x.b.ls.length x.cl, .slice (some ⟨x.gt, 0, none⟩) x.b.ts.length x.ct, .int .i64 x.b.lot], .agg #[.slice (some ⟨y.ga, 0, none⟩) y.b.ac.length y.ca, .slice (some ⟨y.gi, 0, none⟩) y.b.ic.length y.ci, .slice (some ⟨y.gb, 0, none⟩) y.b.bs.length y.cb, .slice (some ⟨y.gl, 0, none⟩) y.b.ls.length y.cl, .slice (some ⟨y.gt, 0, none⟩) y.b.ts.length y.ct, .int .i64 y.b.lot]] w fun e w' => e = .returned (.bool b) ∧ Below w.heap.size w w' := by
  have T := hide hb
  have S0 := hide (Tw.start hx hy 48)
  have na := hx.na
  have ni := hx.ni
  have nb := hx.nb
  have nl := hx.nl
  have nt := hx.nt
  clear hb hx hy
  by_cases e0 : x.b.ac.length = y.b.ac.length
  case neg =>
    have F := hide ((unhide T).not (fun h => e0 (by rw [h])))
    have h0 : ((x.b.ac.length : Int) != (y.b.ac.length : Int)) = true := by simp; omega
    clear e0 T na ni nb nl nt
    go_enter Try.func14, Try.ntmps14
    go_wp2
    go_ret
    exact ⟨by rw [unhide F]; rfl, (unhide S0).b⟩
  have h0 : ((x.b.ac.length : Int) != (y.b.ac.length : Int)) = false := by simp; omega
  have E0 := hide e0
  clear e0
  by_cases e1 : x.b.ic.length = y.b.ic.length
  case neg =>
    have F := hide ((unhide T).not (fun h => e1 (by rw [h])))
    have h1 : ((x.b.ic.length : Int) != (y.b.ic.length : Int)) = true := by simp; omega
    clear e1 T na ni nb nl nt
    go_enter Try.func14, Try.ntmps14
    go_wp2
    go_ret
    exact ⟨by rw [unhide F]; rfl, (unhide S0).b⟩
  have h1 : ((x.b.ic.length : Int) != (y.b.ic.length : Int)) = false := by simp; omega
  have E1 := hide e1
  clear e1
  by_cases e2 : x.b.bs.length = y.b.bs.length
  case neg =>
    have F := hide ((unhide T).not (fun h => e2 (by rw [h])))
    have h2 : ((x.b.bs.length : Int) != (y.b.bs.length : Int)) = true := by simp; omega
    clear e2 T na ni nb nl nt
    go_enter Try.func14, Try.ntmps14
    go_wp2
    go_ret
    exact ⟨by rw [unhide F]; rfl, (unhide S0).b⟩
  have h2 : ((x.b.bs.length : Int) != (y.b.bs.length : Int)) = false := by simp; omega
  have E2 := hide e2
  clear e2
  by_cases e3 : x.b.ls.length = y.b.ls.length
  case neg =>
    have F := hide ((unhide T).not (fun h => e3 (by rw [h])))
    have h3 : ((x.b.ls.length : Int) != (y.b.ls.length : Int)) = true := by simp; omega
    clear e3 T na ni nb nl nt
    go_enter Try.func14, Try.ntmps14
    go_wp2
    go_ret
    exact ⟨by rw [unhide F]; rfl, (unhide S0).b⟩
  have h3 : ((x.b.ls.length : Int) != (y.b.ls.length : Int)) = false := by simp; omega
  have E3 := hide e3
  clear e3
  by_cases e4 : x.b.ts.length = y.b.ts.length
  case neg =>
    have F := hide ((unhide T).not (fun h => e4 (by rw [h])))
    have h4 : ((x.b.ts.length : Int) != (y.b.ts.length : Int)) = true := by simp; omega
    clear e4 T na ni nb nl nt
    go_enter Try.func14, Try.ntmps14
    go_wp2
    go_ret
    exact ⟨by rw [unhide F]; rfl, (unhide S0).b⟩
  have h4 : ((x.b.ts.length : Int) != (y.b.ts.length : Int)) = false := by simp; omega
  have E4 := hide e4
  clear e4
  by_cases e5 : x.b.lot = y.b.lot
  case neg =>
    have F := hide ((unhide T).not (fun h => e5 (by rw [h])))
    have h5 : (x.b.lot != y.b.lot) = true := by simp; omega
    clear e5 T na ni nb nl nt
    go_enter Try.func14, Try.ntmps14
    go_wp2
    go_ret
    exact ⟨by rw [unhide F]; rfl, (unhide S0).b⟩
  have h5 : (x.b.lot != y.b.lot) = false := by simp; omega
  have E5 := hide e5
  clear e5
  go_enter Try.func14, Try.ntmps14
  go_wp2
  clear h0 h1 h2 h3 h4 h5
  go_loopw [5] (fun i wr => ∃ (k : Nat), k ≤ x.b.ac.length ∧ i = .int .i64 k ∧ Tw w wr x y ∧ Hid (∀ j, j < k → Chart.el x.b.ac j = Chart.el y.b.ac j)) (fun i _ => x.b.ac.length - (intOf i).toNat)
  case atStart => exact ⟨0, by omega, rfl, unhide S0, hide (fun i hi => absurd hi (by omega))⟩
  case round =>
    obtain ⟨k, hk, rfl, hS, HG⟩ := hrel
    clear S0
    by_cases t : k < x.b.ac.length
    · have d := hS.rx.ra k t
      have f := hS.ry.ra k (by rw [← unhide E0]; exact t)
      have BAD := hide (show Chart.el x.b.ac k ≠ Chart.el y.b.ac k → b = false from fun hr => (unhide T).not (fun r => hr (by rw [r])))
      have GOOD := hide (show Chart.el x.b.ac k = Chart.el y.b.ac k → ∀ i, i < k + 1 → Chart.el x.b.ac i = Chart.el y.b.ac i from fun hr i hi => by
        by_cases e : i = k
        · subst e; exact hr
        · exact (unhide HG) i (by omega))
      change wr.cell? ⟨x.ga, k * 2, none⟩ = some (.int .i64 (Chart.el x.b.ac k).1) ∧ wr.cell? ⟨x.ga, k * 2 + 1, none⟩ = some (.int .i64 (Chart.el x.b.ac k).2) at d
      change wr.cell? ⟨y.ga, k * 2, none⟩ = some (.int .i64 (Chart.el y.b.ac k).1) ∧ wr.cell? ⟨y.ga, k * 2 + 1, none⟩ = some (.int .i64 (Chart.el y.b.ac k).2) at f
      clear HG
      generalize Chart.el x.b.ac k = p at *
      generalize Chart.el y.b.ac k = q at *
      obtain ⟨p0, p1⟩ := p
      obtain ⟨q0, q1⟩ := q
      obtain ⟨d0, d1⟩ := d
      obtain ⟨f0, f1⟩ := f
      obtain ⟨c0, c1, c2, c3, c4, c5⟩ := hS.cx
      obtain ⟨g0, g1, g2, g3, g4, g5⟩ := hS.cy
      have S1 := hide hS.drew
      have kx : (k : Int) < x.b.ac.length := by omega
      have e9 := unhide E0
      have ky : (k : Int) < y.b.ac.length := by omega
      clear e9 hS
      by_cases t0 : p0 = q0
      case neg =>
        have F := hide ((unhide BAD) (by simp [t0]))
        clear BAD GOOD T
        go_wp2_with fail
        go_region
        go_wp2
        go_ret
        exact ⟨by rw [unhide F]; rfl, (unhide S1).b⟩
      subst t0
      by_cases t1 : p1 = q1
      case neg =>
        have F := hide ((unhide BAD) (by simp [t1]))
        clear BAD GOOD T
        go_wp2_with fail
        go_region
        go_wp2
        go_ret
        exact ⟨by rw [unhide F]; rfl, (unhide S1).b⟩
      subst t1
      have G := hide ((unhide GOOD) rfl)
      clear BAD GOOD
      go_wp2_with fail
      go_region
      go_wp2
      go_roundw
      case rel => exact ⟨k + 1, by omega, by go_num, unhide S1, G⟩
      case measure => simp [intOf]; omega
    · have A0 := hide (same_of (unhide E0) (fun i hi => (unhide HG) i (by omega)))
      obtain ⟨c0, c1, c2, c3, c4, c5⟩ := hS.cx
      obtain ⟨g0, g1, g2, g3, g4, g5⟩ := hS.cy
      have S0 := hide hS
      clear hS HG hk
      go_wp2
      clear t c0 c1 c2 c3 c4 c5 g0 g1 g2 g3 g4 g5
      go_loopw [6] (fun i wr => ∃ (k : Nat), k ≤ x.b.ic.length ∧ i = .int .i64 k ∧ Tw w wr x y ∧ Hid (∀ j, j < k → Chart.el x.b.ic j = Chart.el y.b.ic j)) (fun i _ => x.b.ic.length - (intOf i).toNat)
      case atStart => exact ⟨0, by omega, rfl, unhide S0, hide (fun i hi => absurd hi (by omega))⟩
      case round =>
        obtain ⟨k, hk, rfl, hS, HG⟩ := hrel
        clear S0
        by_cases t : k < x.b.ic.length
        · have d := hS.rx.ri k t
          have f := hS.ry.ri k (by rw [← unhide E1]; exact t)
          have BAD := hide (show Chart.el x.b.ic k ≠ Chart.el y.b.ic k → b = false from fun hr => (unhide T).not (fun r => hr (by rw [r])))
          have GOOD := hide (show Chart.el x.b.ic k = Chart.el y.b.ic k → ∀ i, i < k + 1 → Chart.el x.b.ic i = Chart.el y.b.ic i from fun hr i hi => by
            by_cases e : i = k
            · subst e; exact hr
            · exact (unhide HG) i (by omega))
          change wr.cell? ⟨x.gi, k * 2, none⟩ = some (.int .i64 (Chart.el x.b.ic k).1) ∧ wr.cell? ⟨x.gi, k * 2 + 1, none⟩ = some (.int .i64 (Chart.el x.b.ic k).2) at d
          change wr.cell? ⟨y.gi, k * 2, none⟩ = some (.int .i64 (Chart.el y.b.ic k).1) ∧ wr.cell? ⟨y.gi, k * 2 + 1, none⟩ = some (.int .i64 (Chart.el y.b.ic k).2) at f
          clear HG
          generalize Chart.el x.b.ic k = p at *
          generalize Chart.el y.b.ic k = q at *
          obtain ⟨p0, p1⟩ := p
          obtain ⟨q0, q1⟩ := q
          obtain ⟨d0, d1⟩ := d
          obtain ⟨f0, f1⟩ := f
          obtain ⟨c0, c1, c2, c3, c4, c5⟩ := hS.cx
          obtain ⟨g0, g1, g2, g3, g4, g5⟩ := hS.cy
          have S1 := hide hS.drew
          have kx : (k : Int) < x.b.ic.length := by omega
          have e9 := unhide E1
          have ky : (k : Int) < y.b.ic.length := by omega
          clear e9 hS
          by_cases t0 : p0 = q0
          case neg =>
            have F := hide ((unhide BAD) (by simp [t0]))
            clear BAD GOOD T
            go_wp2_with fail
            go_region
            go_wp2
            go_ret
            exact ⟨by rw [unhide F]; rfl, (unhide S1).b⟩
          subst t0
          by_cases t1 : p1 = q1
          case neg =>
            have F := hide ((unhide BAD) (by simp [t1]))
            clear BAD GOOD T
            go_wp2_with fail
            go_region
            go_wp2
            go_ret
            exact ⟨by rw [unhide F]; rfl, (unhide S1).b⟩
          subst t1
          have G := hide ((unhide GOOD) rfl)
          clear BAD GOOD
          go_wp2_with fail
          go_region
          go_wp2
          go_roundw
          case rel => exact ⟨k + 1, by omega, by go_num, unhide S1, G⟩
          case measure => simp [intOf]; omega
        · have A1 := hide (same_of (unhide E1) (fun i hi => (unhide HG) i (by omega)))
          obtain ⟨c0, c1, c2, c3, c4, c5⟩ := hS.cx
          obtain ⟨g0, g1, g2, g3, g4, g5⟩ := hS.cy
          have S0 := hide hS
          clear hS HG hk
          go_wp2
          clear t c0 c1 c2 c3 c4 c5 g0 g1 g2 g3 g4 g5
          go_loopw [7] (fun i wr => ∃ (k : Nat), k ≤ x.b.bs.length ∧ i = .int .i64 k ∧ Tw w wr x y ∧ Hid (∀ j, j < k → el3 x.b.bs j = el3 y.b.bs j)) (fun i _ => x.b.bs.length - (intOf i).toNat)
          case atStart => exact ⟨0, by omega, rfl, unhide S0, hide (fun i hi => absurd hi (by omega))⟩
          case round =>
            obtain ⟨k, hk, rfl, hS, HG⟩ := hrel
            clear S0
            by_cases t : k < x.b.bs.length
            · have d := hS.rx.rb k t
              have f := hS.ry.rb k (by rw [← unhide E2]; exact t)
              have BAD := hide (show el3 x.b.bs k ≠ el3 y.b.bs k → b = false from fun hr => (unhide T).not (fun r => hr (by rw [r])))
              have GOOD := hide (show el3 x.b.bs k = el3 y.b.bs k → ∀ i, i < k + 1 → el3 x.b.bs i = el3 y.b.bs i from fun hr i hi => by
                by_cases e : i = k
                · subst e; exact hr
                · exact (unhide HG) i (by omega))
              change wr.cell? ⟨x.gb, k * 3, none⟩ = some (.int .i64 (el3 x.b.bs k).1) ∧ wr.cell? ⟨x.gb, k * 3 + 1, none⟩ = some (.int .i64 (el3 x.b.bs k).2.1) ∧ wr.cell? ⟨x.gb, k * 3 + 2, none⟩ = some (.int .i64 (el3 x.b.bs k).2.2) at d
              change wr.cell? ⟨y.gb, k * 3, none⟩ = some (.int .i64 (el3 y.b.bs k).1) ∧ wr.cell? ⟨y.gb, k * 3 + 1, none⟩ = some (.int .i64 (el3 y.b.bs k).2.1) ∧ wr.cell? ⟨y.gb, k * 3 + 2, none⟩ = some (.int .i64 (el3 y.b.bs k).2.2) at f
              clear HG
              generalize el3 x.b.bs k = p at *
              generalize el3 y.b.bs k = q at *
              obtain ⟨p0, p1, p2⟩ := p
              obtain ⟨q0, q1, q2⟩ := q
              obtain ⟨d0, d1, d2⟩ := d
              obtain ⟨f0, f1, f2⟩ := f
              obtain ⟨c0, c1, c2, c3, c4, c5⟩ := hS.cx
              obtain ⟨g0, g1, g2, g3, g4, g5⟩ := hS.cy
              have S1 := hide hS.drew
              have kx : (k : Int) < x.b.bs.length := by omega
              have e9 := unhide E2
              have ky : (k : Int) < y.b.bs.length := by omega
              clear e9 hS
              by_cases t0 : p0 = q0
              case neg =>
                have F := hide ((unhide BAD) (by simp [t0]))
                clear BAD GOOD T
                go_wp2_with fail
                go_region
                go_wp2
                go_ret
                exact ⟨by rw [unhide F]; rfl, (unhide S1).b⟩
              subst t0
              by_cases t1 : p1 = q1
              case neg =>
                have F := hide ((unhide BAD) (by simp [t1]))
                clear BAD GOOD T
                go_wp2_with fail
                go_region
                go_wp2
                go_ret
                exact ⟨by rw [unhide F]; rfl, (unhide S1).b⟩
              subst t1
              by_cases t2 : p2 = q2
              case neg =>
                have F := hide ((unhide BAD) (by simp [t2]))
                clear BAD GOOD T
                go_wp2_with fail
                go_region
                go_wp2
                go_ret
                exact ⟨by rw [unhide F]; rfl, (unhide S1).b⟩
              subst t2
              have G := hide ((unhide GOOD) rfl)
              clear BAD GOOD
              go_wp2_with fail
              go_region
              go_wp2
              go_roundw
              case rel => exact ⟨k + 1, by omega, by go_num, unhide S1, G⟩
              case measure => simp [intOf]; omega
            · have A2 := hide (same_of (unhide E2) (fun i hi => (unhide HG) i (by omega)))
              obtain ⟨c0, c1, c2, c3, c4, c5⟩ := hS.cx
              obtain ⟨g0, g1, g2, g3, g4, g5⟩ := hS.cy
              have S0 := hide hS
              clear hS HG hk
              go_wp2
              clear t c0 c1 c2 c3 c4 c5 g0 g1 g2 g3 g4 g5
              go_loopw [8] (fun i wr => ∃ (k : Nat), k ≤ x.b.ls.length ∧ i = .int .i64 k ∧ Tw w wr x y ∧ Hid (∀ j, j < k → el5 x.b.ls j = el5 y.b.ls j)) (fun i _ => x.b.ls.length - (intOf i).toNat)
              case atStart => exact ⟨0, by omega, rfl, unhide S0, hide (fun i hi => absurd hi (by omega))⟩
              case round =>
                obtain ⟨k, hk, rfl, hS, HG⟩ := hrel
                clear S0
                by_cases t : k < x.b.ls.length
                · have d := hS.rx.rl k t
                  have f := hS.ry.rl k (by rw [← unhide E3]; exact t)
                  have BAD := hide (show el5 x.b.ls k ≠ el5 y.b.ls k → b = false from fun hr => (unhide T).not (fun r => hr (by rw [r])))
                  have GOOD := hide (show el5 x.b.ls k = el5 y.b.ls k → ∀ i, i < k + 1 → el5 x.b.ls i = el5 y.b.ls i from fun hr i hi => by
                    by_cases e : i = k
                    · subst e; exact hr
                    · exact (unhide HG) i (by omega))
                  change wr.cell? ⟨x.gl, k * 5, none⟩ = some (.int .i64 (el5 x.b.ls k).1) ∧ wr.cell? ⟨x.gl, k * 5 + 1, none⟩ = some (.int .i64 (el5 x.b.ls k).2.1) ∧ wr.cell? ⟨x.gl, k * 5 + 2, none⟩ = some (.int .i64 (el5 x.b.ls k).2.2.1) ∧ wr.cell? ⟨x.gl, k * 5 + 3, none⟩ = some (.int .i64 (el5 x.b.ls k).2.2.2.1) ∧ wr.cell? ⟨x.gl, k * 5 + 4, none⟩ = some (.int .i64 (el5 x.b.ls k).2.2.2.2) at d
                  change wr.cell? ⟨y.gl, k * 5, none⟩ = some (.int .i64 (el5 y.b.ls k).1) ∧ wr.cell? ⟨y.gl, k * 5 + 1, none⟩ = some (.int .i64 (el5 y.b.ls k).2.1) ∧ wr.cell? ⟨y.gl, k * 5 + 2, none⟩ = some (.int .i64 (el5 y.b.ls k).2.2.1) ∧ wr.cell? ⟨y.gl, k * 5 + 3, none⟩ = some (.int .i64 (el5 y.b.ls k).2.2.2.1) ∧ wr.cell? ⟨y.gl, k * 5 + 4, none⟩ = some (.int .i64 (el5 y.b.ls k).2.2.2.2) at f
                  clear HG
                  generalize el5 x.b.ls k = p at *
                  generalize el5 y.b.ls k = q at *
                  obtain ⟨p0, p1, p2, p3, p4⟩ := p
                  obtain ⟨q0, q1, q2, q3, q4⟩ := q
                  obtain ⟨d0, d1, d2, d3, d4⟩ := d
                  obtain ⟨f0, f1, f2, f3, f4⟩ := f
                  obtain ⟨c0, c1, c2, c3, c4, c5⟩ := hS.cx
                  obtain ⟨g0, g1, g2, g3, g4, g5⟩ := hS.cy
                  have S1 := hide hS.drew
                  have kx : (k : Int) < x.b.ls.length := by omega
                  have e9 := unhide E3
                  have ky : (k : Int) < y.b.ls.length := by omega
                  clear e9 hS
                  by_cases t0 : p0 = q0
                  case neg =>
                    have F := hide ((unhide BAD) (by simp [t0]))
                    clear BAD GOOD T
                    go_wp2_with fail
                    go_region
                    go_wp2
                    go_ret
                    exact ⟨by rw [unhide F]; rfl, (unhide S1).b⟩
                  subst t0
                  by_cases t1 : p1 = q1
                  case neg =>
                    have F := hide ((unhide BAD) (by simp [t1]))
                    clear BAD GOOD T
                    go_wp2_with fail
                    go_region
                    go_wp2
                    go_ret
                    exact ⟨by rw [unhide F]; rfl, (unhide S1).b⟩
                  subst t1
                  by_cases t2 : p2 = q2
                  case neg =>
                    have F := hide ((unhide BAD) (by simp [t2]))
                    clear BAD GOOD T
                    go_wp2_with fail
                    go_region
                    go_wp2
                    go_ret
                    exact ⟨by rw [unhide F]; rfl, (unhide S1).b⟩
                  subst t2
                  by_cases t3 : p3 = q3
                  case neg =>
                    have F := hide ((unhide BAD) (by simp [t3]))
                    clear BAD GOOD T
                    go_wp2_with fail
                    go_region
                    go_wp2
                    go_ret
                    exact ⟨by rw [unhide F]; rfl, (unhide S1).b⟩
                  subst t3
                  by_cases t4 : p4 = q4
                  case neg =>
                    have F := hide ((unhide BAD) (by simp [t4]))
                    clear BAD GOOD T
                    go_wp2_with fail
                    go_region
                    go_wp2
                    go_ret
                    exact ⟨by rw [unhide F]; rfl, (unhide S1).b⟩
                  subst t4
                  have G := hide ((unhide GOOD) rfl)
                  clear BAD GOOD
                  go_wp2_with fail
                  go_region
                  go_wp2
                  go_roundw
                  case rel => exact ⟨k + 1, by omega, by go_num, unhide S1, G⟩
                  case measure => simp [intOf]; omega
                · have A3 := hide (same_of (unhide E3) (fun i hi => (unhide HG) i (by omega)))
                  obtain ⟨c0, c1, c2, c3, c4, c5⟩ := hS.cx
                  obtain ⟨g0, g1, g2, g3, g4, g5⟩ := hS.cy
                  have S0 := hide hS
                  clear hS HG hk
                  go_wp2
                  clear t c0 c1 c2 c3 c4 c5 g0 g1 g2 g3 g4 g5
                  go_loopw [9] (fun i wr => ∃ (k : Nat), k ≤ x.b.ts.length ∧ i = .int .i64 k ∧ Tw w wr x y ∧ Hid (∀ j, j < k → el8 x.b.ts j = el8 y.b.ts j)) (fun i _ => x.b.ts.length - (intOf i).toNat)
                  case atStart => exact ⟨0, by omega, rfl, unhide S0, hide (fun i hi => absurd hi (by omega))⟩
                  case round =>
                    obtain ⟨k, hk, rfl, hS, HG⟩ := hrel
                    clear S0
                    by_cases t : k < x.b.ts.length
                    · have d := hS.rx.rt k t
                      have f := hS.ry.rt k (by rw [← unhide E4]; exact t)
                      have BAD := hide (show el8 x.b.ts k ≠ el8 y.b.ts k → b = false from fun hr => (unhide T).not (fun r => hr (by rw [r])))
                      have GOOD := hide (show el8 x.b.ts k = el8 y.b.ts k → ∀ i, i < k + 1 → el8 x.b.ts i = el8 y.b.ts i from fun hr i hi => by
                        by_cases e : i = k
                        · subst e; exact hr
                        · exact (unhide HG) i (by omega))
                      change wr.cell? ⟨x.gt, k * 8, none⟩ = some (.int .i64 (el8 x.b.ts k).1) ∧ wr.cell? ⟨x.gt, k * 8 + 1, none⟩ = some (.int .i64 (el8 x.b.ts k).2.1) ∧ wr.cell? ⟨x.gt, k * 8 + 2, none⟩ = some (.int .i64 (el8 x.b.ts k).2.2.1) ∧ wr.cell? ⟨x.gt, k * 8 + 3, none⟩ = some (.int .i64 (el8 x.b.ts k).2.2.2.1) ∧ wr.cell? ⟨x.gt, k * 8 + 4, none⟩ = some (.int .i64 (el8 x.b.ts k).2.2.2.2.1) ∧ wr.cell? ⟨x.gt, k * 8 + 5, none⟩ = some (.int .i64 (el8 x.b.ts k).2.2.2.2.2.1) ∧ wr.cell? ⟨x.gt, k * 8 + 6, none⟩ = some (.int .i64 (el8 x.b.ts k).2.2.2.2.2.2.1) ∧ wr.cell? ⟨x.gt, k * 8 + 7, none⟩ = some (.int .i64 (el8 x.b.ts k).2.2.2.2.2.2.2) at d
                      change wr.cell? ⟨y.gt, k * 8, none⟩ = some (.int .i64 (el8 y.b.ts k).1) ∧ wr.cell? ⟨y.gt, k * 8 + 1, none⟩ = some (.int .i64 (el8 y.b.ts k).2.1) ∧ wr.cell? ⟨y.gt, k * 8 + 2, none⟩ = some (.int .i64 (el8 y.b.ts k).2.2.1) ∧ wr.cell? ⟨y.gt, k * 8 + 3, none⟩ = some (.int .i64 (el8 y.b.ts k).2.2.2.1) ∧ wr.cell? ⟨y.gt, k * 8 + 4, none⟩ = some (.int .i64 (el8 y.b.ts k).2.2.2.2.1) ∧ wr.cell? ⟨y.gt, k * 8 + 5, none⟩ = some (.int .i64 (el8 y.b.ts k).2.2.2.2.2.1) ∧ wr.cell? ⟨y.gt, k * 8 + 6, none⟩ = some (.int .i64 (el8 y.b.ts k).2.2.2.2.2.2.1) ∧ wr.cell? ⟨y.gt, k * 8 + 7, none⟩ = some (.int .i64 (el8 y.b.ts k).2.2.2.2.2.2.2) at f
                      clear HG
                      generalize el8 x.b.ts k = p at *
                      generalize el8 y.b.ts k = q at *
                      obtain ⟨p0, p1, p2, p3, p4, p5, p6, p7⟩ := p
                      obtain ⟨q0, q1, q2, q3, q4, q5, q6, q7⟩ := q
                      obtain ⟨d0, d1, d2, d3, d4, d5, d6, d7⟩ := d
                      obtain ⟨f0, f1, f2, f3, f4, f5, f6, f7⟩ := f
                      obtain ⟨c0, c1, c2, c3, c4, c5⟩ := hS.cx
                      obtain ⟨g0, g1, g2, g3, g4, g5⟩ := hS.cy
                      have S1 := hide hS.drew
                      have kx : (k : Int) < x.b.ts.length := by omega
                      have e9 := unhide E4
                      have ky : (k : Int) < y.b.ts.length := by omega
                      clear e9 hS
                      by_cases t0 : p0 = q0
                      case neg =>
                        have F := hide ((unhide BAD) (by simp [t0]))
                        clear BAD GOOD T
                        go_wp2_with fail
                        go_region
                        go_wp2
                        go_ret
                        exact ⟨by rw [unhide F]; rfl, (unhide S1).b⟩
                      subst t0
                      by_cases t1 : p1 = q1
                      case neg =>
                        have F := hide ((unhide BAD) (by simp [t1]))
                        clear BAD GOOD T
                        go_wp2_with fail
                        go_region
                        go_wp2
                        go_ret
                        exact ⟨by rw [unhide F]; rfl, (unhide S1).b⟩
                      subst t1
                      by_cases t2 : p2 = q2
                      case neg =>
                        have F := hide ((unhide BAD) (by simp [t2]))
                        clear BAD GOOD T
                        go_wp2_with fail
                        go_region
                        go_wp2
                        go_ret
                        exact ⟨by rw [unhide F]; rfl, (unhide S1).b⟩
                      subst t2
                      by_cases t3 : p3 = q3
                      case neg =>
                        have F := hide ((unhide BAD) (by simp [t3]))
                        clear BAD GOOD T
                        go_wp2_with fail
                        go_region
                        go_wp2
                        go_ret
                        exact ⟨by rw [unhide F]; rfl, (unhide S1).b⟩
                      subst t3
                      by_cases t4 : p4 = q4
                      case neg =>
                        have F := hide ((unhide BAD) (by simp [t4]))
                        clear BAD GOOD T
                        go_wp2_with fail
                        go_region
                        go_wp2
                        go_ret
                        exact ⟨by rw [unhide F]; rfl, (unhide S1).b⟩
                      subst t4
                      by_cases t5 : p5 = q5
                      case neg =>
                        have F := hide ((unhide BAD) (by simp [t5]))
                        clear BAD GOOD T
                        go_wp2_with fail
                        go_region
                        go_wp2
                        go_ret
                        exact ⟨by rw [unhide F]; rfl, (unhide S1).b⟩
                      subst t5
                      by_cases t6 : p6 = q6
                      case neg =>
                        have F := hide ((unhide BAD) (by simp [t6]))
                        clear BAD GOOD T
                        go_wp2_with fail
                        go_region
                        go_wp2
                        go_ret
                        exact ⟨by rw [unhide F]; rfl, (unhide S1).b⟩
                      subst t6
                      by_cases t7 : p7 = q7
                      case neg =>
                        have F := hide ((unhide BAD) (by simp [t7]))
                        clear BAD GOOD T
                        go_wp2_with fail
                        go_region
                        go_wp2
                        go_ret
                        exact ⟨by rw [unhide F]; rfl, (unhide S1).b⟩
                      subst t7
                      have G := hide ((unhide GOOD) rfl)
                      clear BAD GOOD
                      go_wp2_with fail
                      go_region
                      go_wp2
                      go_roundw
                      case rel => exact ⟨k + 1, by omega, by go_num, unhide S1, G⟩
                      case measure => simp [intOf]; omega
                    · have A4 := hide (same_of (unhide E4) (fun i hi => (unhide HG) i (by omega)))
                      obtain ⟨c0, c1, c2, c3, c4, c5⟩ := hS.cx
                      obtain ⟨g0, g1, g2, g3, g4, g5⟩ := hS.cy
                      have S0 := hide hS
                      clear hS HG hk
                      have F := hide ((unhide T).of (show x.b = y.b from by
                        have a0 := unhide A0
                        have a1 := unhide A1
                        have a2 := unhide A2
                        have a3 := unhide A3
                        have a4 := unhide A4
                        have a5 := unhide E5
                        revert a0 a1 a2 a3 a4 a5
                        cases x.b
                        cases y.b
                        rintro rfl rfl rfl rfl rfl rfl
                        rfl))
                      go_wp2
                      go_ret
                      exact ⟨by rw [unhide F]; rfl, (unhide S0).b⟩

end Go.Proofs.Ytophnnmbgpinfaa.SSame
