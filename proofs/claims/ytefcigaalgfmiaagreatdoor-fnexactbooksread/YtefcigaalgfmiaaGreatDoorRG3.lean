/- Texts of one proof, one behind the other: SBalsV13, SLotsV13, SBooksOkV13. -/
import Derived.Test.YtefcigaalgfmiaaGreatDoorRows
import Derived.Test.YtefcigaalgfmiaaGreatDoorCards
import Derived.Test.YtefcigaalgfmiaaGreatDoorTie
import Derived.Test.YtefcigaalgfmiaaGreatDoorRG1
import Derived.Test.YtefcigaalgfmiaaGreatDoorRG2
import Derived.Deep.RegionHeld3
set_option linter.unusedVariables false
set_option linter.unusedSimpArgs false
namespace Go.Proofs.YtefcigaalgfmiaaGreatDoor.SBalsV13
open Go.ChangeShapes Go.WideShapes Go.ChangeAt Go.RowKit BMem Bks BHelp BMemV13
open IBalsFit (one_more)
open Lots (Says says_of NoOk)
open Bals (T3 el3 val sumI)
set_option maxRecDepth 100000 in
set_option maxHeartbeats 4000000 in
theorem sBals (w : World) (x : Ix) (b : Bool) (h : RdV w x) (hl : Lists x.b) (hb : Says b (BalsFit x.b)) :
    Calls Tryz.prog 39 #[.agg #[.slice x.aa x.b.ac.length x.ca, .slice x.ai x.b.ic.length x.ci, .slice x.ab x.b.bs.length x.cb, .slice x.al x.b.ls.length x.cl, .slice x.ats x.b.ts.length x.ct, .int .i64 x.b.lot]] w fun e w' => e = .returned (.bool b) ∧ Below w.heap.size w w' := by
  have T := hide hb
  have L := hide hl
  have S0 := hide (StV.start h 29)
  have nb := h.nb
  clear hb hl h
  go_enter Tryz.func39, Tryz.ntmps39
  go_wp2
  go_loopw [3] (fun i wr => ∃ (k : Nat), k ≤ x.b.bs.length ∧ i = .int .i64 k ∧ StV w wr x ∧ Hid (∀ j, j < k → BalFit x.b (el3 x.b.bs j) ∧ sumI x.b.bs (el3 x.b.bs j).2.1 = 0)) (fun i _ => x.b.bs.length - (intOf i).toNat)
  case atStart => exact ⟨0, by omega, rfl, unhide S0, hide (fun i hi => absurd hi (by omega))⟩
  case round =>
    obtain ⟨k, hk, rfl, hS, HG⟩ := hrel
    clear S0
    by_cases t : k < x.b.bs.length
    · obtain ⟨gb, eb⟩ := hS.r.eb (by omega)
      obtain ⟨d0, d1, d2⟩ := (hS.r.rb gb eb).2 k t
      have EB := hide eb
      obtain ⟨c0, c1, c2, c3, c4, c5⟩ := hS.c
      rw [eb] at c2
      clear eb
      have BAD := hide (show ¬ (BalFit x.b (el3 x.b.bs k) ∧ sumI x.b.bs (el3 x.b.bs k).2.1 = 0) → b = false from fun hr => (unhide T).not (fun r => hr ⟨r.1 k t, r.2 _⟩))
      have GOOD := hide (show (BalFit x.b (el3 x.b.bs k) ∧ sumI x.b.bs (el3 x.b.bs k).2.1 = 0) → ∀ i, i < k + 1 → BalFit x.b (el3 x.b.bs i) ∧ sumI x.b.bs (el3 x.b.bs i).2.1 = 0 from fun hr i hi => by
        by_cases e : i = k
        · subst e; exact hr
        · exact (unhide HG) i (by omega))
      have FIT := hide (show BalFit x.b (el3 x.b.bs k) ↔ kindOf x.b.ac (el3 x.b.bs k).1 ≠ 0 ∧ kindOf x.b.ic (el3 x.b.bs k).2.1 ≠ 0 ∧ ¬ (kindOf x.b.ac (el3 x.b.bs k).1 = 1 ∧ (el3 x.b.bs k).2.2 < 0) from Iff.rfl)
      have wz := hS.s
      have S1 := hide (hS.step (one_more wr (.cells #[.int .i64 (el3 x.b.bs k).1, .int .i64 (el3 x.b.bs k).2.1, .int .i64 (el3 x.b.bs k).2.2] 46)))
      clear hS
      generalize BalFit x.b (el3 x.b.bs k) = FP at *
      generalize (el3 x.b.bs k).1 = y0 at *
      generalize (el3 x.b.bs k).2.1 = y1 at *
      generalize (el3 x.b.bs k).2.2 = y2 at *
      generalize hK : kindOf x.b.ac y0 = K at *
      generalize hJ : kindOf x.b.ic y1 = J at *
      have HK := hide hK
      have HJ := hide hJ
      clear hK hJ
      go_wp2_with fail
      refine (sKindA _ x y0 K (unhide S1).r (unhide L).1 (unhide HK)).mono ?_
      rintro e w1 ⟨rfl, bb⟩
      have S2 := hide ((unhide S1).step bb)
      have f0 : w1.cell? ⟨wr.heap.size, 0, none⟩ = some (.int .i64 y0) := (bb.cell (p := ⟨wr.heap.size, 0, none⟩) (by simp)).trans (by simp)
      have f1 : w1.cell? ⟨wr.heap.size, 1, none⟩ = some (.int .i64 y1) := (bb.cell (p := ⟨wr.heap.size, 1, none⟩) (by simp)).trans (by simp)
      have f2 : w1.cell? ⟨wr.heap.size, 2, none⟩ = some (.int .i64 y2) := (bb.cell (p := ⟨wr.heap.size, 2, none⟩) (by simp)).trans (by simp)
      have z1 : wr.heap.size < w1.heap.size := by have := bb.size; simp at this; omega
      clear bb c0 c1 c2 c3 c4 c5 d0 d1 d2
      obtain ⟨c0, c1, c2, c3, c4, c5⟩ := (unhide S2).c
      by_cases q0 : K = 0
      · have F := hide ((unhide BAD) (fun hh => ((unhide FIT).1 hh.1).1 q0))
        have hq : (K == 0) = true := by simp [q0]
        clear BAD GOOD FIT T q0
        go_wp2
        go_ret
        exact ⟨by rw [unhide F]; rfl, (unhide S2).b⟩
      have hq0 : (K == 0) = false := by simp [q0]
      have Q0 := hide q0
      clear q0
      go_wp2_with fail
      refine (sKindI _ x y1 J (unhide S2).r (unhide L).2.1 (unhide HJ)).mono ?_
      rintro e w2 ⟨rfl, bb⟩
      have S3 := hide ((unhide S2).step bb)
      replace f0 : w2.cell? ⟨wr.heap.size, 0, none⟩ = some (.int .i64 y0) := (bb.cell (p := ⟨wr.heap.size, 0, none⟩) z1).trans f0
      replace f1 : w2.cell? ⟨wr.heap.size, 1, none⟩ = some (.int .i64 y1) := (bb.cell (p := ⟨wr.heap.size, 1, none⟩) z1).trans f1
      replace f2 : w2.cell? ⟨wr.heap.size, 2, none⟩ = some (.int .i64 y2) := (bb.cell (p := ⟨wr.heap.size, 2, none⟩) z1).trans f2
      have z2 : wr.heap.size < w2.heap.size := Nat.lt_of_lt_of_le z1 bb.size
      clear bb c0 c1 c2 c3 c4 c5
      obtain ⟨c0, c1, c2, c3, c4, c5⟩ := (unhide S3).c
      rw [unhide EB] at c2
      by_cases q1 : J = 0
      · have F := hide ((unhide BAD) (fun hh => ((unhide FIT).1 hh.1).2.1 q1))
        have hq : (J == 0) = true := by simp [q1]
        clear BAD GOOD FIT T q1
        go_wp2
        go_ret
        exact ⟨by rw [unhide F]; rfl, (unhide S3).b⟩
      have hq1 : (J == 0) = false := by simp [q1]
      have Q1 := hide q1
      clear q1
      by_cases q2 : K = 1
      · have hq2 : (K == 1) = true := by simp [q2]
        by_cases q3 : y2 < 0
        · have F := hide ((unhide BAD) (fun hh => ((unhide FIT).1 hh.1).2.2 ⟨q2, q3⟩))
          clear BAD GOOD FIT T q2
          go_wp2
          go_ret
          exact ⟨by rw [unhide F]; rfl, (unhide S3).b⟩
        have FP' := hide ((unhide FIT).2 ⟨unhide Q0, unhide Q1, fun r => q3 r.2⟩)
        have hq3 : decide (y2 < 0) = false := decide_eq_false q3
        clear q2 q3 FIT
        obtain ⟨r, c, hs⟩ := Look.sum_is x.b.bs y1
        have Z := hide (sum_zero (unhide L).2.2.1 hs)
        have HS := hide hs
        clear hs
        go_wp2_with fail
        refine (Look.sSum _ gb _ x.cb x.b.bs y1 r c rfl nb ((unhide S3).r.rb gb (unhide EB)).1 ((unhide S3).r.rb gb (unhide EB)).2 (unhide HS)).mono ?_
        rintro e w3 ⟨rfl, bb⟩
        have S4 := hide ((unhide S3).step bb)
        clear bb c0 c1 c2 c3 c4 c5 f0 f1 f2
        cases c
        · have F := hide ((unhide BAD) (fun e => by have := (unhide Z).2 e.2; cases this.1))
          clear BAD GOOD T
          go_wp2
          go_ret
          exact ⟨by rw [unhide F]; rfl, (unhide S4).b⟩
        by_cases q : r = 0
        · have G := hide ((unhide GOOD) ⟨unhide FP', (unhide Z).1 ⟨rfl, q⟩⟩)
          have hq : (r != 0) = false := by simp [q]
          clear BAD GOOD q
          go_wp2
          go_roundw
          case rel => exact ⟨k + 1, by omega, by go_num, unhide S4, G⟩
          case measure => simp [intOf]; omega
        · have F := hide ((unhide BAD) (fun e => q ((unhide Z).2 e.2).2))
          have hq : (r != 0) = true := by simp [q]
          clear BAD GOOD T q
          go_wp2
          go_ret
          exact ⟨by rw [unhide F]; rfl, (unhide S4).b⟩
      · have hq2 : (K == 1) = false := by simp [q2]
        have FP' := hide ((unhide FIT).2 ⟨unhide Q0, unhide Q1, fun r => q2 r.1⟩)
        clear q2 FIT
        obtain ⟨r, c, hs⟩ := Look.sum_is x.b.bs y1
        have Z := hide (sum_zero (unhide L).2.2.1 hs)
        have HS := hide hs
        clear hs
        go_wp2_with fail
        refine (Look.sSum _ gb _ x.cb x.b.bs y1 r c rfl nb ((unhide S3).r.rb gb (unhide EB)).1 ((unhide S3).r.rb gb (unhide EB)).2 (unhide HS)).mono ?_
        rintro e w3 ⟨rfl, bb⟩
        have S4 := hide ((unhide S3).step bb)
        clear bb c0 c1 c2 c3 c4 c5 f0 f1 f2
        cases c
        · have F := hide ((unhide BAD) (fun e => by have := (unhide Z).2 e.2; cases this.1))
          clear BAD GOOD T
          go_wp2
          go_ret
          exact ⟨by rw [unhide F]; rfl, (unhide S4).b⟩
        by_cases q : r = 0
        · have G := hide ((unhide GOOD) ⟨unhide FP', (unhide Z).1 ⟨rfl, q⟩⟩)
          have hq : (r != 0) = false := by simp [q]
          clear BAD GOOD q
          go_wp2
          go_roundw
          case rel => exact ⟨k + 1, by omega, by go_num, unhide S4, G⟩
          case measure => simp [intOf]; omega
        · have F := hide ((unhide BAD) (fun e => q ((unhide Z).2 e.2).2))
          have hq : (r != 0) = true := by simp [q]
          clear BAD GOOD T q
          go_wp2
          go_ret
          exact ⟨by rw [unhide F]; rfl, (unhide S4).b⟩
    · have F := hide ((unhide T).of (bals_spec (fun j hj => (unhide HG) j (by omega))))
      obtain ⟨c0, c1, c2, c3, c4, c5⟩ := hS.c
      have S1 := hide hS
      clear hS
      go_wp2
      go_ret
      exact ⟨by rw [unhide F]; rfl, (unhide S1).b⟩
end Go.Proofs.YtefcigaalgfmiaaGreatDoor.SBalsV13
namespace Go.Proofs.YtefcigaalgfmiaaGreatDoor.SLotsV13
open Go.ChangeShapes Go.WideShapes Go.ChangeAt Go.RowKit BMem Bks BHelp BMemV13
open IBalsFit (one_more)
open Lots (Says says_of NoOk ownL restL)
open Bals (T3 el3 val sumI)
open Tup5 (T5 el5)
open Takes (sumQ)
theorem below_of_drew {w w' : World} (h : Below w.drew.heap.size w.drew w') : Below w.heap.size w w' := ⟨h.os, h.tape, h.output, h.size, h.block⟩
theorem rd_drew {w : World} {x : Ix} (h : RdV w x) : RdV w.drew x := ⟨h.ea, h.ra, h.na, h.ei, h.ri, h.ni, h.eb, h.rb, h.nb, h.el, h.rl, h.nl, h.et, h.rt, h.nt⟩
/-- What is asked of account j and instrument k. -/
def Even (b : Bk) (j k : Nat) : Prop := (Chart.el b.ac j).2 = 1 → (Chart.el b.ic k).2 = 2 → sumQ (ownL b.ls (Chart.el b.ac j).1 (Chart.el b.ic k).1) = val b.bs (Chart.el b.ac j).1 (Chart.el b.ic k).1
set_option maxRecDepth 100000 in
set_option maxHeartbeats 8000000 in
theorem sLots (w : World) (x : Ix) (b : Bool) (h : RdV w x) (hl : Lists x.b) (hb : Says b (LotsFit x.b)) :
    Calls Tryz.prog 40 #[.agg #[.slice x.aa x.b.ac.length x.ca, .slice x.ai x.b.ic.length x.ci, .slice x.ab x.b.bs.length x.cb, .slice x.al x.b.ls.length x.cl, .slice x.ats x.b.ts.length x.ct, .int .i64 x.b.lot]] w fun e w' => e = .returned (.bool b) ∧ Below w.heap.size w w' := by
  have T := hide hb
  have L := hide hl
  have S0 := hide (StV.start h 29)
  have nl := h.nl
  have na := h.na
  have ni := h.ni
  have nb := h.nb
  have n120 : x.b.ls.length ≤ 120 := hl.2.2.2.1.1
  clear hb hl h
  go_enter Tryz.func40, Tryz.ntmps40
  go_wp2
  go_loopw [3] (fun i wr => ∃ (k : Nat), k ≤ x.b.ls.length ∧ i = .int .i64 k ∧ StV w wr x ∧ Hid (∀ j, j < k → LotFit x.b (el5 x.b.ls j))) (fun i _ => x.b.ls.length - (intOf i).toNat)
  case atStart => exact ⟨0, by omega, rfl, unhide S0, hide (fun i hi => absurd hi (by omega))⟩
  case round =>
    obtain ⟨k, hk, rfl, hS, HG⟩ := hrel
    clear S0
    by_cases t : k < x.b.ls.length
    · obtain ⟨gL, eL⟩ := hS.r.el (by omega)
      obtain ⟨d0, d1, d2, d3, d4⟩ := (hS.r.rl gL eL).2 k t
      obtain ⟨c0, c1, c2, c3, c4, c5⟩ := hS.c
      rw [eL] at c3
      clear eL
      have BAD := hide (show ¬ LotFit x.b (el5 x.b.ls k) → b = false from fun hr => (unhide T).not (fun r => hr (r.1 k t)))
      have GOOD := hide (show LotFit x.b (el5 x.b.ls k) → ∀ i, i < k + 1 → LotFit x.b (el5 x.b.ls i) from fun hr i hi => by
        by_cases e : i = k
        · subst e; exact hr
        · exact (unhide HG) i (by omega))
      have FIT := hide (show LotFit x.b (el5 x.b.ls k) ↔ kindOf x.b.ac (el5 x.b.ls k).1 = 1 ∧ kindOf x.b.ic (el5 x.b.ls k).2.1 = 2 ∧ (el5 x.b.ls k).2.2.1 ≤ x.b.lot from Iff.rfl)
      have wz := hS.s
      have S1 := hide (hS.step (one_more wr (.cells #[.int .i64 (el5 x.b.ls k).1, .int .i64 (el5 x.b.ls k).2.1, .int .i64 (el5 x.b.ls k).2.2.1, .int .i64 (el5 x.b.ls k).2.2.2.1, .int .i64 (el5 x.b.ls k).2.2.2.2] 48)))
      clear hS
      generalize LotFit x.b (el5 x.b.ls k) = FP at *
      generalize (el5 x.b.ls k).1 = y0 at *
      generalize (el5 x.b.ls k).2.1 = y1 at *
      generalize (el5 x.b.ls k).2.2.1 = y2 at *
      generalize (el5 x.b.ls k).2.2.2.1 = y3 at *
      generalize (el5 x.b.ls k).2.2.2.2 = y4 at *
      generalize hK : kindOf x.b.ac y0 = K at *
      generalize hJ : kindOf x.b.ic y1 = J at *
      have HK := hide hK
      have HJ := hide hJ
      clear hK hJ
      go_wp2_with fail
      refine (sKindA _ x y0 K (unhide S1).r (unhide L).1 (unhide HK)).mono ?_
      rintro e w1 ⟨rfl, bb⟩
      have S2 := hide ((unhide S1).step bb)
      have f1 : w1.cell? ⟨wr.heap.size, 1, none⟩ = some (.int .i64 y1) := (bb.cell (p := ⟨wr.heap.size, 1, none⟩) (by simp)).trans (by simp)
      have f2 : w1.cell? ⟨wr.heap.size, 2, none⟩ = some (.int .i64 y2) := (bb.cell (p := ⟨wr.heap.size, 2, none⟩) (by simp)).trans (by simp)
      have z1 : wr.heap.size < w1.heap.size := by have := bb.size; simp at this; omega
      clear bb c0 c1 c2 c3 c4 c5 d0 d1 d2 d3 d4
      obtain ⟨c0, c1, c2, c3, c4, c5⟩ := (unhide S2).c
      by_cases q0 : K = 1
      · have hq0 : (K != 1) = false := by simp [q0]
        have Q0 := hide q0
        clear q0
        go_wp2_with fail
        refine (sKindI _ x y1 J (unhide S2).r (unhide L).2.1 (unhide HJ)).mono ?_
        rintro e w2 ⟨rfl, bb⟩
        have S3 := hide ((unhide S2).step bb)
        replace f2 : w2.cell? ⟨wr.heap.size, 2, none⟩ = some (.int .i64 y2) := (bb.cell (p := ⟨wr.heap.size, 2, none⟩) z1).trans f2
        clear bb c0 c1 c2 c3 c4 c5
        obtain ⟨c0, c1, c2, c3, c4, c5⟩ := (unhide S3).c
        by_cases q1 : J = 2
        · have hq1 : (J != 2) = false := by simp [q1]
          by_cases q2 : y2 > x.b.lot
          · have F := hide ((unhide BAD) (fun hh => by have := ((unhide FIT).1 hh).2.2; omega))
            clear BAD GOOD FIT T q1
            go_wp2
            go_ret
            exact ⟨by rw [unhide F]; rfl, (unhide S3).b⟩
          · have G := hide ((unhide GOOD) ((unhide FIT).2 ⟨unhide Q0, q1, by omega⟩))
            have hq2 : decide (y2 > x.b.lot) = false := decide_eq_false q2
            clear BAD GOOD FIT q1 q2
            go_wp2
            go_roundw
            case rel => exact ⟨k + 1, by omega, by go_num, unhide S3, G⟩
            case measure => simp [intOf]; omega
        · have F := hide ((unhide BAD) (fun hh => q1 ((unhide FIT).1 hh).2.1))
          have hq1 : (J != 2) = true := by simp [q1]
          clear BAD GOOD FIT T q1
          go_wp2
          go_ret
          exact ⟨by rw [unhide F]; rfl, (unhide S3).b⟩
      · have F := hide ((unhide BAD) (fun hh => q0 ((unhide FIT).1 hh).1))
        have hq : (K != 1) = true := by simp [q0]
        clear BAD GOOD FIT T q0
        go_wp2
        go_ret
        exact ⟨by rw [unhide F]; rfl, (unhide S2).b⟩
    · have ALL := hide (show ∀ j, j < x.b.ls.length → LotFit x.b (el5 x.b.ls j) from fun j hj => (unhide HG) j (by omega))
      have IFF := hide (lots_spec (unhide L).1 (unhide L).2.1 (unhide ALL))
      obtain ⟨c0, c1, c2, c3, c4, c5⟩ := hS.c
      have S1 := hide hS
      clear hS HG
      go_wp2
      go_loopw [5] (fun i wr => ∃ (j : Nat), j ≤ x.b.ac.length ∧ i = .int .i64 j ∧ StV w wr x ∧ Hid (∀ j', j' < j → ∀ k, k < x.b.ic.length → Even x.b j' k)) (fun i _ => x.b.ac.length - (intOf i).toNat)
      case atStart => exact ⟨0, by omega, rfl, unhide S1, hide (fun i hi => absurd hi (by omega))⟩
      case round =>
        clear c0 c1 c2 c3 c4 c5 S1 hk t
        obtain ⟨j, hj, rfl, hS, HG⟩ := hrel
        obtain ⟨c0, c1, c2, c3, c4, c5⟩ := hS.c
        have S1 := hide hS
        clear hS
        by_cases t : j < x.b.ac.length
        · go_wp2
          go_loopw [6] (fun i wr => ∃ (k : Nat), k ≤ x.b.ic.length ∧ i = .int .i64 k ∧ StV w wr x ∧ Hid (∀ k', k' < k → Even x.b j k')) (fun i _ => x.b.ic.length - (intOf i).toNat)
          case atStart => exact ⟨0, by omega, rfl, unhide S1, hide (fun i hi => absurd hi (by omega))⟩
          case round =>
            clear c0 c1 c2 c3 c4 c5 S1
            obtain ⟨k, hk, rfl, hS, HK⟩ := hrel
            obtain ⟨c0, c1, c2, c3, c4, c5⟩ := hS.c
            by_cases u : k < x.b.ic.length
            · obtain ⟨gA, eA⟩ := hS.r.ea (by omega)
              obtain ⟨gI, eI⟩ := hS.r.ei (by omega)
              obtain ⟨a0, a1⟩ := (hS.r.ra gA eA).2 j t
              obtain ⟨i0, i1⟩ := (hS.r.ri gI eI).2 k u
              rw [eA] at c0
              rw [eI] at c1
              have EA := hide eA
              have EI := hide eI
              clear eA eI
              have S2 := hide hS
              have wz := hS.s
              clear hS
              have BAD := hide (show ¬ Even x.b j k → b = false from fun hr => (unhide T).not (fun r => hr (((unhide IFF).1 r) j t k u)))
              have GOOD := hide (show Even x.b j k → ∀ i, i < k + 1 → Even x.b j i from fun hr i hi => by
                by_cases e : i = k
                · subst e; exact hr
                · exact (unhide HK) i (by omega))
              have DEF := hide (show Even x.b j k ↔ ((Chart.el x.b.ac j).2 = 1 → (Chart.el x.b.ic k).2 = 2 → sumQ (ownL x.b.ls (Chart.el x.b.ac j).1 (Chart.el x.b.ic k).1) = val x.b.bs (Chart.el x.b.ac j).1 (Chart.el x.b.ic k).1) from Iff.rfl)
              generalize Even x.b j k = EP at *
              generalize (Chart.el x.b.ac j).1 = y0 at *
              generalize (Chart.el x.b.ac j).2 = y1 at *
              generalize (Chart.el x.b.ic k).1 = z0 at *
              generalize (Chart.el x.b.ic k).2 = z1 at *
              by_cases q0 : y1 = 1
              · by_cases q1 : z1 = 2
                · have DEF2 := hide (show EP ↔ sumQ (ownL x.b.ls y0 z0) = val x.b.bs y0 z0 from (unhide DEF).trans ⟨fun hh => hh q0 q1, fun hh _ _ => hh⟩)
                  have hq0 : (y1 == 1) = true := by simp [q0]
                  have hq1 : (z1 == 2) = true := by simp [q1]
                  have kj : (0 : Int) ≤ (j : Int) := by omega
                  have kj2 : (j : Int) < (x.b.ac.length : Int) := by omega
                  have kk : (0 : Int) ≤ (k : Int) := by omega
                  have kk2 : (k : Int) < (x.b.ic.length : Int) := by omega
                  clear DEF q0 q1
                  go_wp2_with fail
                  have ga := ((unhide S2).r.ra gA (unhide EA)).1
                  have gi := ((unhide S2).r.ri gI (unhide EI)).1
                  go_region_held3 (fun w' => w'.cell? ⟨w.heap.size, 0, none⟩ = some (.slice (some ⟨gA, 0, none⟩) x.b.ac.length x.ca) ∧ w'.cell? ⟨w.heap.size, 1, none⟩ = some (.slice (some ⟨gI, 0, none⟩) x.b.ic.length x.ci) ∧ w'.cell? ⟨w.heap.size, 2, none⟩ = some (.slice x.ab x.b.bs.length x.cb) ∧ w'.cell? ⟨w.heap.size, 3, none⟩ = some (.slice x.al x.b.ls.length x.cl) ∧ w'.cell? ⟨gA, j * 2, none⟩ = some (.int .i64 y0) ∧ w'.cell? ⟨gI, k * 2, none⟩ = some (.int .i64 z0)) (go_keep)
                    (first | (go_at_call 59; refine (sSplitV wr.drew x y0 z0 (rd_drew (unhide S2).r) (by omega)).mono ?_; rintro e w3 ⟨g1, k1, g2, n2, k2, rfl, o1, bb⟩; have bW : Below wr.heap.size wr w3 := below_of_drew bb; have pc0 : w3.cell? ⟨w.heap.size, 0, none⟩ = some (.slice (some ⟨gA, 0, none⟩) x.b.ac.length x.ca) := (bW.cell (p := ⟨w.heap.size, 0, none⟩) wz).trans c0; have pc1 : w3.cell? ⟨w.heap.size, 1, none⟩ = some (.slice (some ⟨gI, 0, none⟩) x.b.ic.length x.ci) := (bW.cell (p := ⟨w.heap.size, 1, none⟩) wz).trans c1; have pc2 : w3.cell? ⟨w.heap.size, 2, none⟩ = some (.slice x.ab x.b.bs.length x.cb) := (bW.cell (p := ⟨w.heap.size, 2, none⟩) wz).trans c2; have pc3 : w3.cell? ⟨w.heap.size, 3, none⟩ = some (.slice x.al x.b.ls.length x.cl) := (bW.cell (p := ⟨w.heap.size, 3, none⟩) wz).trans c3; have pa0 : w3.cell? ⟨gA, j * 2, none⟩ = some (.int .i64 y0) := (bW.cell (p := ⟨gA, j * 2, none⟩) ga).trans a0; have pi0 : w3.cell? ⟨gI, k * 2, none⟩ = some (.int .i64 z0) := (bW.cell (p := ⟨gI, k * 2, none⟩) gi).trans i0))
                  have S3 := hide ((unhide S2).step bW)
                  have O1 := hide o1
                  have l1 := o1.lt.2
                  clear c0 c1 c2 c3 c4 c5 a0 a1 i0 i1 bb bW o1
                  obtain ⟨ps1, ps2, ps3⟩ := Takes.own_pos (unhide L).2.2.2.1 y0 z0
                  have P1 := hide ps1
                  have n1 : (ownL x.b.ls y0 z0).length ≤ 1048576 := Nat.le_trans (List.length_filter_le _ _) nl
                  have w3z := (unhide S3).s
                  have ga3 := ((unhide S3).r.ra gA (unhide EA)).1
                  have gi3 := ((unhide S3).r.ri gI (unhide EI)).1
                  clear ps1 ps3
                  generalize hQ : sumQ (ownL x.b.ls y0 z0) = QV at *
                  generalize hV : val x.b.bs y0 z0 = VV at *
                  have HQ := hide hQ
                  have HV := hide hV
                  clear hQ hV
                  go_wp2_with fail
                  go_region_held3 (fun w' => w'.cell? ⟨w.heap.size, 0, none⟩ = some (.slice (some ⟨gA, 0, none⟩) x.b.ac.length x.ca) ∧ w'.cell? ⟨w.heap.size, 1, none⟩ = some (.slice (some ⟨gI, 0, none⟩) x.b.ic.length x.ci) ∧ w'.cell? ⟨w.heap.size, 2, none⟩ = some (.slice x.ab x.b.bs.length x.cb) ∧ w'.cell? ⟨w.heap.size, 3, none⟩ = some (.slice x.al x.b.ls.length x.cl) ∧ w'.cell? ⟨gA, j * 2, none⟩ = some (.int .i64 y0) ∧ w'.cell? ⟨gI, k * 2, none⟩ = some (.int .i64 z0)) (go_keep)
                    (first | (go_at_call 60; refine (SSplit.sQty w3.drew g1 _ k1 (ownL x.b.ls y0 z0) rfl n1 (unhide O1).at (unhide P1) (by rw [unhide HQ]; exact ps2)).mono ?_; rintro e w4 ⟨he, bb⟩; rw [unhide HQ] at he; subst he; have bW : Below w3.heap.size w3 w4 := below_of_drew bb; have qc0 : w4.cell? ⟨w.heap.size, 0, none⟩ = some (.slice (some ⟨gA, 0, none⟩) x.b.ac.length x.ca) := (bW.cell (p := ⟨w.heap.size, 0, none⟩) w3z).trans pc0; have qc1 : w4.cell? ⟨w.heap.size, 1, none⟩ = some (.slice (some ⟨gI, 0, none⟩) x.b.ic.length x.ci) := (bW.cell (p := ⟨w.heap.size, 1, none⟩) w3z).trans pc1; have qc2 : w4.cell? ⟨w.heap.size, 2, none⟩ = some (.slice x.ab x.b.bs.length x.cb) := (bW.cell (p := ⟨w.heap.size, 2, none⟩) w3z).trans pc2; have qc3 : w4.cell? ⟨w.heap.size, 3, none⟩ = some (.slice x.al x.b.ls.length x.cl) := (bW.cell (p := ⟨w.heap.size, 3, none⟩) w3z).trans pc3; have qa0 : w4.cell? ⟨gA, j * 2, none⟩ = some (.int .i64 y0) := (bW.cell (p := ⟨gA, j * 2, none⟩) ga3).trans pa0; have qi0 : w4.cell? ⟨gI, k * 2, none⟩ = some (.int .i64 z0) := (bW.cell (p := ⟨gI, k * 2, none⟩) gi3).trans pi0) | (go_at_call 61; refine (sOfV w4 x y0 z0 ((unhide S3).r.below bW)).mono ?_; rintro e w5 ⟨he, rfl⟩; rw [unhide HV] at he; subst he))
                  have S4 := hide ((unhide S3).step bW)
                  clear bb bW qc0 qc1 qc2 qc3 qa0 qi0 pc0 pc1 pc2 pc3 pa0 pi0
                  by_cases q2 : QV = VV
                  · have G := hide ((unhide GOOD) ((unhide DEF2).2 q2))
                    have hq2 : (QV != VV) = false := by simp [q2]
                    clear BAD GOOD DEF2 q2
                    go_wp2
                    go_roundw
                    case rel => exact ⟨k + 1, by omega, by go_num, unhide S4, G⟩
                    case measure => simp [intOf]; omega
                  · have F := hide ((unhide BAD) (fun hh => q2 ((unhide DEF2).1 hh)))
                    have hq2 : (QV != VV) = true := by simp [q2]
                    clear BAD GOOD DEF2 T q2
                    go_wp2
                    go_ret
                    exact ⟨by rw [unhide F]; rfl, (unhide S4).b⟩
                · have G := hide ((unhide GOOD) ((unhide DEF).2 (fun _ e => absurd e q1)))
                  have hq0 : (y1 == 1) = true := by simp [q0]
                  have hq1 : (z1 == 2) = false := by simp [q1]
                  clear BAD GOOD DEF q0 q1
                  go_wp2
                  go_roundw
                  case rel => exact ⟨k + 1, by omega, by go_num, unhide S2, G⟩
                  case measure => simp [intOf]; omega
              · have G := hide ((unhide GOOD) ((unhide DEF).2 (fun e _ => absurd e q0)))
                have hq0 : (y1 == 1) = false := by simp [q0]
                clear BAD GOOD DEF q0
                go_wp2
                go_roundw
                case rel => exact ⟨k + 1, by omega, by go_num, unhide S2, G⟩
                case measure => simp [intOf]; omega
            · have G := hide (show ∀ j', j' < j + 1 → ∀ k, k < x.b.ic.length → Even x.b j' k from fun j' hj' k' hk' => by
                by_cases e : j' = j
                · subst e; exact (unhide HK) k' (by omega)
                · exact (unhide HG) j' (by omega) k' hk')
              have S2 := hide hS
              clear hS
              go_wp2
              go_roundw
              case rel => exact ⟨j + 1, by omega, by go_num, unhide S2, G⟩
              case measure => simp [intOf]; omega
        · have F := hide ((unhide T).of ((unhide IFF).2 (fun j' hj' k hk => (unhide HG) j' (by omega) k hk)))
          go_wp2
          go_ret
          exact ⟨by rw [unhide F]; rfl, (unhide S1).b⟩
end Go.Proofs.YtefcigaalgfmiaaGreatDoor.SLotsV13
namespace Go.Proofs.YtefcigaalgfmiaaGreatDoor.SBooksOkV13
open Go.ChangeShapes Go.WideShapes Go.ChangeAt Go.RowKit BMem Bks BHelp BMemV13 SBalsV13 SLotsV13
open IBalsFit (one_more)
open Lots (Says says_of NoOk)
open Tup8 (T8 el8)
set_option maxRecDepth 100000 in
set_option maxHeartbeats 8000000 in
theorem sBooksOkV (w : World) (x : Ix) (b : Bool) (h : RdV w x) (hb : Says b (Ok x.b)) :
    Calls Tryz.prog 14 #[.agg #[.slice x.aa x.b.ac.length x.ca, .slice x.ai x.b.ic.length x.ci, .slice x.ab x.b.bs.length x.cb, .slice x.al x.b.ls.length x.cl, .slice x.ats x.b.ts.length x.ct, .int .i64 x.b.lot]] w fun e w' => e = .returned (.bool b) ∧ Below w.heap.size w w' := by
  have T := hide hb
  have S0 := hide (StV.start h 29)
  have nb := h.nb
  have nl := h.nl
  have nt := h.nt
  obtain ⟨b0, h0⟩ := Chart.says_of 20 4 x.b.ac
  obtain ⟨b1, h1⟩ := Chart.says_of 8 2 x.b.ic
  obtain ⟨b2, h2⟩ := Bals.says_of (Bals.Right x.b.bs)
  obtain ⟨b3, h3⟩ := says_of (Lots.Right x.b.ls)
  obtain ⟨b4, h4⟩ := says_of (TRight x.b.ts)
  obtain ⟨b5, h5⟩ := says_of (0 ≤ x.b.lot ∧ x.b.lot ≤ 1000000000)
  obtain ⟨b6, h6⟩ := says_of (BalsFit x.b)
  obtain ⟨b7, h7⟩ := says_of (LotsFit x.b)
  have H0 := hide h0
  have H1 := hide h1
  have H2 := hide h2
  have H3 := hide h3
  have H4 := hide h4
  have H5 := hide h5
  have H6 := hide h6
  have H7 := hide h7
  clear hb h h0 h1 h2 h3 h4 h5 h6 h7
  go_enter Tryz.func14, Tryz.ntmps14
  go_wp2_with fail
  refine (sOksA _ x b0 (unhide S0).r (unhide H0)).mono ?_
  rintro e w1 ⟨rfl, bb⟩
  have S1 := hide ((unhide S0).step bb)
  clear bb
  obtain ⟨c0, c1, c2, c3, c4, c5⟩ := (unhide S1).c
  cases b0
  · have F := hide ((unhide T).not (fun hh => (unhide H0).no hh.1.1))
    clear T
    go_wp2
    go_ret
    exact ⟨by rw [unhide F]; rfl, (unhide S1).b⟩
  go_wp2_with fail
  refine (sOksI _ x b1 (unhide S1).r (unhide H1)).mono ?_
  rintro e w2 ⟨rfl, bb⟩
  have S2 := hide ((unhide S1).step bb)
  clear bb
  clear c0 c1 c2 c3 c4 c5
  obtain ⟨c0, c1, c2, c3, c4, c5⟩ := (unhide S2).c
  cases b1
  · have F := hide ((unhide T).not (fun hh => (unhide H1).no hh.1.2.1))
    clear T
    go_wp2
    go_ret
    exact ⟨by rw [unhide F]; rfl, (unhide S2).b⟩
  go_wp2_with fail
  refine (sOksB _ x b2 (unhide S2).r (unhide H2)).mono ?_
  rintro e w3 ⟨rfl, bb⟩
  have S3 := hide ((unhide S2).step bb)
  clear bb
  clear c0 c1 c2 c3 c4 c5
  obtain ⟨c0, c1, c2, c3, c4, c5⟩ := (unhide S3).c
  cases b2
  · have F := hide ((unhide T).not (fun hh => (unhide H2).no hh.1.2.2.1))
    clear T
    go_wp2
    go_ret
    exact ⟨by rw [unhide F]; rfl, (unhide S3).b⟩
  go_wp2_with fail
  refine (sOksL _ x b3 (unhide S3).r (unhide H3)).mono ?_
  rintro e w4 ⟨rfl, bb⟩
  have S4 := hide ((unhide S3).step bb)
  clear bb
  clear c0 c1 c2 c3 c4 c5
  obtain ⟨c0, c1, c2, c3, c4, c5⟩ := (unhide S4).c
  cases b3
  · have F := hide ((unhide T).not (fun hh => (unhide H3).no hh.1.2.2.2.1))
    clear T
    go_wp2
    go_ret
    exact ⟨by rw [unhide F]; rfl, (unhide S4).b⟩
  go_wp2_with fail
  refine (sOksT _ x b4 (unhide S4).r (unhide H4)).mono ?_
  rintro e w5 ⟨rfl, bb⟩
  have S5 := hide ((unhide S4).step bb)
  clear bb
  clear c0 c1 c2 c3 c4 c5
  obtain ⟨c0, c1, c2, c3, c4, c5⟩ := (unhide S5).c
  cases b4
  · have F := hide ((unhide T).not (fun hh => (unhide H4).no hh.1.2.2.2.2.1))
    clear T
    go_wp2
    go_ret
    exact ⟨by rw [unhide F]; rfl, (unhide S5).b⟩
  go_wp2_with fail
  refine (SOk5.sIn x.b.lot 0 1000000000 b5 _ (unhide H5)).mono ?_
  rintro e w6 ⟨rfl, rfl⟩
  have S6 := S5
  cases b5
  · have F := hide ((unhide T).not (fun hh => (unhide H5).no hh.1.2.2.2.2.2))
    clear T
    go_wp2
    go_ret
    exact ⟨by rw [unhide F]; rfl, (unhide S6).b⟩
  have L := hide (show Lists x.b from ⟨(unhide H0).yes, (unhide H1).yes, (unhide H2).yes, (unhide H3).yes, (unhide H4).yes, (unhide H5).yes⟩)
  go_wp2_with fail
  refine (sBals _ x b6 (unhide S6).r (unhide L) (unhide H6)).mono ?_
  rintro e w7 ⟨rfl, bb⟩
  have S7 := hide ((unhide S6).step bb)
  clear bb
  clear c0 c1 c2 c3 c4 c5
  obtain ⟨c0, c1, c2, c3, c4, c5⟩ := (unhide S7).c
  cases b6
  · have F := hide ((unhide T).not (fun hh => (unhide H6).no hh.2.1))
    clear T
    go_wp2
    go_ret
    exact ⟨by rw [unhide F]; rfl, (unhide S7).b⟩
  go_wp2_with fail
  refine (sLots _ x b7 (unhide S7).r (unhide L) (unhide H7)).mono ?_
  rintro e w8 ⟨rfl, bb⟩
  have S8 := hide ((unhide S7).step bb)
  clear bb
  clear c0 c1 c2 c3 c4 c5
  obtain ⟨c0, c1, c2, c3, c4, c5⟩ := (unhide S8).c
  cases b7
  · have F := hide ((unhide T).not (fun hh => (unhide H7).no hh.2.2.1))
    clear T
    go_wp2
    go_ret
    exact ⟨by rw [unhide F]; rfl, (unhide S8).b⟩
  go_wp2
  go_loopw [3] (fun i wr => ∃ (k : Nat), k ≤ x.b.ts.length ∧ i = .int .i64 k ∧ StV w wr x ∧ Hid (∀ j, j < k → TradeFit x.b (el8 x.b.ts j))) (fun i _ => x.b.ts.length - (intOf i).toNat)
  case atStart => exact ⟨0, by omega, rfl, unhide S8, hide (fun i hi => absurd hi (by omega))⟩
  case round =>
    obtain ⟨k, hk, rfl, hS, HG⟩ := hrel
    clear S0 S1 S2 S3 S4 S5 S6 S7 S8 c0 c1 c2 c3 c4 c5
    obtain ⟨c0, c1, c2, c3, c4, c5⟩ := hS.c
    by_cases t : k < x.b.ts.length
    · obtain ⟨gT, eT⟩ := hS.r.et (by omega)
      obtain ⟨d0, d1, d2, d3, d4, d5, d6, d7⟩ := (hS.r.rt gT eT).2 k t
      rw [eT] at c4
      clear eT
      have BAD := hide (show ¬ TradeFit x.b (el8 x.b.ts k) → b = false from fun hr => (unhide T).not (fun r => hr (r.2.2.2 k t)))
      have GOOD := hide (show TradeFit x.b (el8 x.b.ts k) → ∀ i, i < k + 1 → TradeFit x.b (el8 x.b.ts i) from fun hr i hi => by
        by_cases e : i = k
        · subst e; exact hr
        · exact (unhide HG) i (by omega))
      have FIT := hide (show TradeFit x.b (el8 x.b.ts k) ↔ kindOf x.b.ac (el8 x.b.ts k).2.1 = 1 ∧ kindOf x.b.ac (el8 x.b.ts k).2.2.1 = 1 ∧ kindOf x.b.ic (el8 x.b.ts k).2.2.2.1 = 2 ∧ kindOf x.b.ic (el8 x.b.ts k).2.2.2.2.2.1 = 1 from Iff.rfl)
      have wz := hS.s
      have S1 := hide (hS.step (one_more wr (.cells #[.int .i64 (el8 x.b.ts k).1, .int .i64 (el8 x.b.ts k).2.1, .int .i64 (el8 x.b.ts k).2.2.1, .int .i64 (el8 x.b.ts k).2.2.2.1, .int .i64 (el8 x.b.ts k).2.2.2.2.1, .int .i64 (el8 x.b.ts k).2.2.2.2.2.1, .int .i64 (el8 x.b.ts k).2.2.2.2.2.2.1, .int .i64 (el8 x.b.ts k).2.2.2.2.2.2.2] 50)))
      clear hS
      generalize TradeFit x.b (el8 x.b.ts k) = FP at *
      generalize (el8 x.b.ts k).1 = y0 at *
      generalize (el8 x.b.ts k).2.1 = y1 at *
      generalize (el8 x.b.ts k).2.2.1 = y2 at *
      generalize (el8 x.b.ts k).2.2.2.1 = y3 at *
      generalize (el8 x.b.ts k).2.2.2.2.1 = y4 at *
      generalize (el8 x.b.ts k).2.2.2.2.2.1 = y5 at *
      generalize (el8 x.b.ts k).2.2.2.2.2.2.1 = y6 at *
      generalize (el8 x.b.ts k).2.2.2.2.2.2.2 = y7 at *
      generalize hK1 : kindOf x.b.ac y1 = K1 at *
      generalize hK2 : kindOf x.b.ac y2 = K2 at *
      generalize hK3 : kindOf x.b.ic y3 = K3 at *
      generalize hK4 : kindOf x.b.ic y5 = K4 at *
      have N1 := hide hK1
      have N2 := hide hK2
      have N3 := hide hK3
      have N4 := hide hK4
      clear hK1 hK2 hK3 hK4
      go_wp2_with fail
      refine (sKindA _ x y1 K1 (unhide S1).r (unhide L).1 (unhide N1)).mono ?_
      rintro e v1 ⟨rfl, bb⟩
      have S2 := hide ((unhide S1).step bb)
      have f2 : v1.cell? ⟨wr.heap.size, 2, none⟩ = some (.int .i64 y2) := (bb.cell (p := ⟨wr.heap.size, 2, none⟩) (by simp)).trans (by simp)
      have f3 : v1.cell? ⟨wr.heap.size, 3, none⟩ = some (.int .i64 y3) := (bb.cell (p := ⟨wr.heap.size, 3, none⟩) (by simp)).trans (by simp)
      have f5 : v1.cell? ⟨wr.heap.size, 5, none⟩ = some (.int .i64 y5) := (bb.cell (p := ⟨wr.heap.size, 5, none⟩) (by simp)).trans (by simp)
      have z1 : wr.heap.size < v1.heap.size := by have := bb.size; simp at this; omega
      clear d0 d1 d2 d3 d4 d5 d6 d7
      clear bb c0 c1 c2 c3 c4 c5
      obtain ⟨c0, c1, c2, c3, c4, c5⟩ := (unhide S2).c
      by_cases q1 : K1 = 1
      rotate_left
      · have F := hide ((unhide BAD) (fun hh => q1 ((unhide FIT).1 hh).1))
        have hq : (K1 != 1) = true := by simp [q1]
        clear BAD GOOD FIT T q1
        go_wp2
        go_ret
        exact ⟨by rw [unhide F]; rfl, (unhide S2).b⟩
      have hq1 : (K1 != 1) = false := by simp [q1]
      have Q1 := hide q1
      clear q1
      go_wp2_with fail
      refine (sKindA _ x y2 K2 (unhide S2).r (unhide L).1 (unhide N2)).mono ?_
      rintro e v2 ⟨rfl, bb⟩
      have S3 := hide ((unhide S2).step bb)
      replace f2 : v2.cell? ⟨wr.heap.size, 2, none⟩ = some (.int .i64 y2) := (bb.cell (p := ⟨wr.heap.size, 2, none⟩) z1).trans f2
      replace f3 : v2.cell? ⟨wr.heap.size, 3, none⟩ = some (.int .i64 y3) := (bb.cell (p := ⟨wr.heap.size, 3, none⟩) z1).trans f3
      replace f5 : v2.cell? ⟨wr.heap.size, 5, none⟩ = some (.int .i64 y5) := (bb.cell (p := ⟨wr.heap.size, 5, none⟩) z1).trans f5
      have z2 : wr.heap.size < v2.heap.size := Nat.lt_of_lt_of_le z1 bb.size
      clear bb c0 c1 c2 c3 c4 c5
      obtain ⟨c0, c1, c2, c3, c4, c5⟩ := (unhide S3).c
      by_cases q2 : K2 = 1
      rotate_left
      · have F := hide ((unhide BAD) (fun hh => q2 ((unhide FIT).1 hh).2.1))
        have hq : (K2 != 1) = true := by simp [q2]
        clear BAD GOOD FIT T q2
        go_wp2
        go_ret
        exact ⟨by rw [unhide F]; rfl, (unhide S3).b⟩
      have hq2 : (K2 != 1) = false := by simp [q2]
      have Q2 := hide q2
      clear q2
      go_wp2_with fail
      refine (sKindI _ x y3 K3 (unhide S3).r (unhide L).2.1 (unhide N3)).mono ?_
      rintro e v3 ⟨rfl, bb⟩
      have S4 := hide ((unhide S3).step bb)
      replace f2 : v3.cell? ⟨wr.heap.size, 2, none⟩ = some (.int .i64 y2) := (bb.cell (p := ⟨wr.heap.size, 2, none⟩) z2).trans f2
      replace f3 : v3.cell? ⟨wr.heap.size, 3, none⟩ = some (.int .i64 y3) := (bb.cell (p := ⟨wr.heap.size, 3, none⟩) z2).trans f3
      replace f5 : v3.cell? ⟨wr.heap.size, 5, none⟩ = some (.int .i64 y5) := (bb.cell (p := ⟨wr.heap.size, 5, none⟩) z2).trans f5
      have z3 : wr.heap.size < v3.heap.size := Nat.lt_of_lt_of_le z2 bb.size
      clear bb c0 c1 c2 c3 c4 c5
      obtain ⟨c0, c1, c2, c3, c4, c5⟩ := (unhide S4).c
      by_cases q3 : K3 = 2
      rotate_left
      · have F := hide ((unhide BAD) (fun hh => q3 ((unhide FIT).1 hh).2.2.1))
        have hq : (K3 != 2) = true := by simp [q3]
        clear BAD GOOD FIT T q3
        go_wp2
        go_ret
        exact ⟨by rw [unhide F]; rfl, (unhide S4).b⟩
      have hq3 : (K3 != 2) = false := by simp [q3]
      have Q3 := hide q3
      clear q3
      go_wp2_with fail
      refine (sKindI _ x y5 K4 (unhide S4).r (unhide L).2.1 (unhide N4)).mono ?_
      rintro e v4 ⟨rfl, bb⟩
      have S5 := hide ((unhide S4).step bb)
      clear bb c0 c1 c2 c3 c4 c5
      obtain ⟨c0, c1, c2, c3, c4, c5⟩ := (unhide S5).c
      by_cases q4 : K4 = 1
      rotate_left
      · have F := hide ((unhide BAD) (fun hh => q4 ((unhide FIT).1 hh).2.2.2))
        have hq : (K4 != 1) = true := by simp [q4]
        clear BAD GOOD FIT T q4
        go_wp2
        go_ret
        exact ⟨by rw [unhide F]; rfl, (unhide S5).b⟩
      have hq4 : (K4 != 1) = false := by simp [q4]
      have Q4 := hide q4
      clear q4
      have G := hide ((unhide GOOD) ((unhide FIT).2 ⟨unhide Q1, unhide Q2, unhide Q3, unhide Q4⟩))
      clear BAD GOOD FIT
      go_wp2
      go_roundw
      case rel => exact ⟨k + 1, by omega, by go_num, unhide S5, G⟩
      case measure => simp [intOf]; omega
    · have F := hide ((unhide T).of ⟨unhide L, (unhide H6).yes, (unhide H7).yes, fun j hj => (unhide HG) j (by omega)⟩)
      have S1 := hide hS
      clear hS
      go_wp2
      go_ret
      exact ⟨by rw [unhide F]; rfl, (unhide S1).b⟩
end Go.Proofs.YtefcigaalgfmiaaGreatDoor.SBooksOkV13
