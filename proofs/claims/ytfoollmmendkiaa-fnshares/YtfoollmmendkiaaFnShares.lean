/- For every row of bytes the law of shares returns true: the shares of the total that the bytes draw add up to it, none is off its exact one by one or more, a weight of nothing gets nothing, and a greater one no less than a lesser one. No condition. -/
import Derived.Test.YtfoollmmendkiaaRows
import Derived.WalkKit
import Derived.Test.YtfoollmmendkiaaFair
import Derived.Test.YtfoollmmendkiaaDrawX
import Derived.Test.YtfoollmmendkiaaIShares
import Derived.Test.YtfoollmmendkiaaSShares
import Derived.ProofKit
import Derived.OpenShut
import Derived.ShutString
import Derived.ChangeOld
import Derived.Below
namespace Go.Proofs.Ytfoollmmendkiaa.fnShares
open Go.ChangeShapes Go.WideShapes Go.ChangeAt Go.RowKit
open Go.ChangeMaps (open_string shut_string)
set_option linter.unusedVariables false

theorem own : ownKnob Try.prog.godebug = none := by kernel_rfl
theorem laidOut : laidOutB Try.prog = true := by kernel_rfl

/-- A slice of integers that came in, with its cells. -/
def IsRow (k : IntKind) (w : World) (a : Option Addr) (len cap : Nat) (zs : List Int) : Prop :=
  (a = none ∧ len = 0 ∧ cap = 0 ∧ zs = []) ∨
  ∃ x, a = some x ∧ len ≤ cap ∧ cap ≤ maxLen ∧ zs.length = cap ∧ (∀ i, i < zs.length → w.cell? (x.add i) = some (.int k (zs.getD i 0))) ∧ ∀ n ∈ zs, (Lit.int k n).wf = true

open Ints Weigh Quota Order Parts SShares IShares FairC
open Draw (CodeAt)

/-- The bytes that came in, as the drawing functions want them. -/
theorem codeAt (w : World) (a : Option Addr) (len cap : Nat) (zs : List Int) (h : IsRow .u8 w a len cap zs) : CodeAt w a len := by
  rcases h with ⟨rfl, rfl, rfl, rfl⟩ | ⟨x, rfl, hl, hm, hz, hcell, hwz⟩
  · exact .inl rfl
  · by_cases z : len = 0
    · exact .inl z
    · obtain ⟨b, off, spot⟩ := x
      have hc := hcell 0 (by omega)
      have hspot : spot = none := by simpa [Addr.add] using World.cell?_spot hc
      subst hspot
      have hc0 : w.cell? ⟨b, off, none⟩ = some (.int .u8 (zs.getD 0 0)) := by simpa [Addr.add] using hc
      refine .inr ⟨b, off, zs, rfl, World.block_lt_of_cell? w _ hc0, fun i hi => ?_⟩
      have k := hcell i (by omega)
      have hw : (Lit.int .u8 (zs.getD i 0)).wf = true := hwz _ (by rw [List.getD_eq_getElem?_getD, List.getElem?_eq_getElem (by omega)]; exact List.getElem_mem _)
      have hb := bounds_u8 hw
      refine ⟨?_, by omega, by omega⟩
      by_cases z : i = 0
      · subst z; simpa [Addr.add] using k
      · simpa [Addr.add, z] using k

theorem S_pos (ps : List Int) (h : ∀ i, 0 ≤ ps.getD i 0) (k n : Nat) (hk : k ≤ n) : 0 ≤ S ps k ∧ S ps k ≤ S ps n := by
  have p : ∀ n, 0 ≤ S ps n := by
    intro n
    induction n with
    | zero => exact Int.le_refl _
    | succ n ih => have := h n; show 0 ≤ S ps n + ps.getD n 0; omega
  refine ⟨p k, ?_⟩
  induction n with
  | zero => obtain rfl : k = 0 := by omega
            exact Int.le_refl _
  | succ n ih =>
    by_cases e : k = n + 1
    · subst e; exact Int.le_refl _
    · have := ih (by omega)
      have := h n
      show _ ≤ S ps n + ps.getD n 0
      omega

set_option maxRecDepth 100000 in
set_option maxHeartbeats 8000000 in
theorem walk (a0 : Option Addr) (len0 cap0 : Nat) (z0 : List Int) (w : World) (w0 : IsRow .u8 w a0 len0 cap0 z0) :
    Calls Try.prog 3 #[.slice a0 len0 cap0] w fun e w' => e = .returned (.bool true) ∧ Below w.heap.size w w' := by
  have hc := codeAt w a0 len0 cap0 z0 w0
  clear w0
  by_cases tl : (len0 : Int) ≤ 1048576
  · have HC := hide hc
    have TL : len0 ≤ 1048576 := by omega
    clear hc
    go_enter Try.func3, Try.ntmps3
    go_wp2_with (first | (go_at_call 9; go_in) | fail)
    refine (DrawX.drawShares _ a0 len0 cap0 TL (unhide HC)).mono ?_
    rintro e u1 ⟨t, xs, gX, cX, rfl, oX, x41, b1⟩
    have lX := oX.lt
    go_wp2_with fail
    refine (iShares _ t gX xs.length cX xs rfl (by omega) oX.lt.2 oX.at).mono ?_
    rintro e u2 ⟨ps, ok, gP, cP, tls, rfl, oP, b2⟩
    have oX := oX.below b2 oX.lt.2
    have b := next b1 b2
    go_wp2_with fail
    refine (sShares _ t gX xs.length cX xs rfl (by omega) oX.lt.2 oX.at).mono ?_
    rintro e u3 ⟨ps', ok', gW, cW, tls', rfl, oW, b3⟩
    obtain ⟨rfl, rfl⟩ : ps = ps' ∧ ok = ok' := tls.unique tls'
    have oX := oX.below b3 oX.lt.2
    have oP := oP.below b3 oP.lt.2
    have b := next b b3
    clear tls' oW b1 b2 b3
    rcases tls with ⟨good, ht, rfl, L, M, ord, hM, hMn, hps⟩ | ⟨_, rfl, rfl⟩
    · have FORM := hide (fun i (hi : i < xs.length) => share_form t xs L M ht good ord hM hMn i hi)
      have MONO := hide (fun i k (hi : i < xs.length) (hk : k < xs.length) hx => share_mono t xs L M ht good ord hM hMn i k hi hk hx)
      have TOT := hide (share_total t xs L M ord hM hMn)
      have PB := hide (fun j => (bump_bd (wholes t xs xs.length) L t ht.1 (wholes_bd t xs ht good) M j).1)
      rw [← hps] at FORM MONO TOT PB
      have hpl : ps.length = xs.length := by rw [hps, bump_len, wholes_len]
      have QB := hide (fun k (hk : k < xs.length) => Q_le t xs k ht good hk)
      have RB := hide (fun k => (R_lt t xs k good).1)
      obtain ⟨t0, t1⟩ := ht
      have GT := hide (And.intro good (show Tot t from ⟨t0, t1⟩))
      clear good ord hM hMn hps
      rw [hpl] at oP
      rw [hpl]
      have SB := hide (show ∀ k, k ≤ xs.length → 0 ≤ S ps k ∧ S ps k ≤ t from fun k hk => by
        have := S_pos ps (unhide PB) k xs.length hk
        rw [unhide TOT] at this
        exact this)
      clear hpl
      generalize hn : xs.length = n at *
      have HN := hide hn
      clear hn
      go_wp2_with fail
      go_loopw [9, 10] (fun s i wr => ∃ (k : Nat), k ≤ n ∧ s = .int .i64 (S ps k) ∧ i = .int .i64 k ∧ Own wr u1.heap.size gP n cP ps ∧ Own wr w.heap.size gX n cX xs ∧ Below w.heap.size w wr) (fun _ i _ => n - (intOf i).toNat)
      case atStart => exact ⟨0, by omega, rfl, rfl, oP, oX, b⟩
      case round =>
        clear oP oX b
        obtain ⟨k, hk, rfl, rfl, oP, oX, b⟩ := hrel
        by_cases lt : k < n
        · have c1 := iQuota wr t (k : Int) (Q t xs k) (R t xs k) true gX n cX xs (unhide HN) (by omega) oX.at (hide (Or.inl ⟨(unhide GT).1, (unhide GT).2, ⟨by omega, by have := unhide HN; omega⟩, by simp, by simp, rfl⟩))
          have fm := unhide FORM k lt
          obtain ⟨q0, q1⟩ := unhide QB k lt
          have r0 := unhide RB k
          have Z := hide (fun h => share_zero t xs k h)
          go_wp2_with fail
          refine c1.mono ?_
          rintro e w1 ⟨rfl, bq⟩
          have oP := oP.below bq oP.lt.2
          have oX := oX.below bq oX.lt.2
          have b := next b bq
          have e1 := oP.at k (by rw [oP.len]; exact lt)
          have e2 := oX.at k (by rw [oX.len]; exact lt)
          clear c1 bq
          generalize hp : ps.getD k 0 = p at e1 fm
          generalize hx : xs.getD k 0 = x at e2 Z
          generalize hq : Q t xs k = q at *
          generalize hr : R t xs k = r at *
          have H1 := hide hp
          have H2 := hide hx
          clear hp hx hq hr
          rcases fm with ⟨_, rp, rfl⟩ | ⟨_, rfl⟩
          · have xz : (x == 0) = false := by
              rw [beq_eq_false_iff_ne]
              intro h
              have := (unhide Z h).2
              omega
            have rz : (r == 0) = false := by rw [beq_eq_false_iff_ne]; omega
            have ge : decide (q + 1 < q) = false := by rw [decide_eq_false_iff_not]; omega
            go_wp2_with fail
            go_loopw [14] (fun j wy => ∃ (m : Nat), m ≤ k ∧ j = .int .i64 m ∧ Own wy u1.heap.size gP n cP ps ∧ Own wy w.heap.size gX n cX xs ∧ Below w.heap.size w wy) (fun j _ => k - (intOf j).toNat)
            case atStart => exact ⟨0, by omega, rfl, oP, oX, b⟩
            case round =>
              clear oP oX b
              obtain ⟨m, hm, rfl, oP, oX, b⟩ := hrel
              by_cases lt2 : m < k
              · have e1 := oP.at m (by rw [oP.len]; omega)
                have e2 := oP.at k (by rw [oP.len]; omega)
                have e3 := oX.at m (by rw [oX.len]; omega)
                have e4 := oX.at k (by rw [oX.len]; omega)
                have M1 := hide (fun h => unhide MONO k m lt (by omega) h)
                have M2 := hide (fun h => unhide MONO m k (by omega) lt h)
                have i1 : (0 : Int) ≤ (m : Int) := by omega
                have i2 : (m : Int) < (n : Int) := by omega
                have i3 : (0 : Int) ≤ (k : Int) := by omega
                have i4 : (k : Int) < (n : Int) := by omega
                have P2 : ∀ q, Own (wr.drewN q) u1.heap.size gP n cP ps := fun _ => oP
                have X2 : ∀ q, Own (wr.drewN q) w.heap.size gX n cX xs := fun _ => oX
                have b2 : ∀ q, Below w.heap.size w (wr.drewN q) := fun q => below_drewN b q
                have HP := hide P2
                have HX := hide X2
                have HB := hide b2
                clear oP oX b P2 X2 b2
                generalize ps.getD m 0 = pm at *
                generalize ps.getD k 0 = pk at *
                generalize xs.getD m 0 = xm at *
                generalize xs.getD k 0 = xk at *
                rcases (show xk < xm ∨ xm < xk ∨ xm = xk by omega) with c | c | c
                · have f1 := unhide M1 c
                  have g1 : decide (pm < pk) = false := by rw [decide_eq_false_iff_not]; omega
                  have g2 : decide (xm < xk) = false := by rw [decide_eq_false_iff_not]; omega
                  clear M1 M2
                  go_wp2_with fail
                  go_quiet (fail)
                  go_wp2
                  go_roundw
                  case rel => exact ⟨m + 1, by omega, by go_num, unhide HP _, unhide HX _, unhide HB _⟩
                  case measure => simp [intOf]; omega
                · have f1 := unhide M2 c
                  have g1 : decide (xk < xm) = false := by rw [decide_eq_false_iff_not]; omega
                  have g2 : decide (pk < pm) = false := by rw [decide_eq_false_iff_not]; omega
                  clear M1 M2
                  go_wp2_with fail
                  go_quiet (fail)
                  go_wp2
                  go_roundw
                  case rel => exact ⟨m + 1, by omega, by go_num, unhide HP _, unhide HX _, unhide HB _⟩
                  case measure => simp [intOf]; omega
                · have g1 : decide (xk < xm) = false := by rw [decide_eq_false_iff_not]; omega
                  have g2 : decide (xm < xk) = false := by rw [decide_eq_false_iff_not]; omega
                  clear M1 M2
                  go_wp2_with fail
                  go_quiet (fail)
                  go_wp2
                  go_roundw
                  case rel => exact ⟨m + 1, by omega, by go_num, unhide HP _, unhide HX _, unhide HB _⟩
                  case measure => simp [intOf]; omega
              · have e1 := oP.at k (by rw [oP.len]; omega)
                have O1 := hide oP
                have O2 := hide oX
                have O3 := hide b
                obtain ⟨s0, s1⟩ := unhide SB k hk
                obtain ⟨s2, s3⟩ := unhide SB (k + 1) (by omega)
                rw [show S ps (k + 1) = S ps k + ps.getD k 0 from rfl] at s2 s3
                have E := hide (show S ps (k + 1) = S ps k + ps.getD k 0 from rfl)
                have p0 := (unhide PB k)
                clear oP oX b
                generalize ps.getD k 0 = p at *
                generalize S ps k = s at *
                go_wp2
                go_roundw
                case rel => exact ⟨k + 1, by omega, by rw [unhide E], by go_num, unhide O1, unhide O2, unhide O3⟩
                case measure => simp [intOf]; omega
          · by_cases xz : x = 0
            · obtain ⟨rfl, rfl⟩ := unhide Z xz
              subst xz
              go_wp2_with fail
              go_loopw [14] (fun j wy => ∃ (m : Nat), m ≤ k ∧ j = .int .i64 m ∧ Own wy u1.heap.size gP n cP ps ∧ Own wy w.heap.size gX n cX xs ∧ Below w.heap.size w wy) (fun j _ => k - (intOf j).toNat)
              case atStart => exact ⟨0, by omega, rfl, oP, oX, b⟩
              case round =>
                clear oP oX b
                obtain ⟨m, hm, rfl, oP, oX, b⟩ := hrel
                by_cases lt2 : m < k
                · have e1 := oP.at m (by rw [oP.len]; omega)
                  have e2 := oP.at k (by rw [oP.len]; omega)
                  have e3 := oX.at m (by rw [oX.len]; omega)
                  have e4 := oX.at k (by rw [oX.len]; omega)
                  have M1 := hide (fun h => unhide MONO k m lt (by omega) h)
                  have M2 := hide (fun h => unhide MONO m k (by omega) lt h)
                  have i1 : (0 : Int) ≤ (m : Int) := by omega
                  have i2 : (m : Int) < (n : Int) := by omega
                  have i3 : (0 : Int) ≤ (k : Int) := by omega
                  have i4 : (k : Int) < (n : Int) := by omega
                  have P2 : ∀ q, Own (wr.drewN q) u1.heap.size gP n cP ps := fun _ => oP
                  have X2 : ∀ q, Own (wr.drewN q) w.heap.size gX n cX xs := fun _ => oX
                  have b2 : ∀ q, Below w.heap.size w (wr.drewN q) := fun q => below_drewN b q
                  have HP := hide P2
                  have HX := hide X2
                  have HB := hide b2
                  clear oP oX b P2 X2 b2
                  generalize ps.getD m 0 = pm at *
                  generalize ps.getD k 0 = pk at *
                  generalize xs.getD m 0 = xm at *
                  generalize xs.getD k 0 = xk at *
                  rcases (show xk < xm ∨ xm < xk ∨ xm = xk by omega) with c | c | c
                  · have f1 := unhide M1 c
                    have g1 : decide (pm < pk) = false := by rw [decide_eq_false_iff_not]; omega
                    have g2 : decide (xm < xk) = false := by rw [decide_eq_false_iff_not]; omega
                    clear M1 M2
                    go_wp2_with fail
                    go_quiet (fail)
                    go_wp2
                    go_roundw
                    case rel => exact ⟨m + 1, by omega, by go_num, unhide HP _, unhide HX _, unhide HB _⟩
                    case measure => simp [intOf]; omega
                  · have f1 := unhide M2 c
                    have g1 : decide (xk < xm) = false := by rw [decide_eq_false_iff_not]; omega
                    have g2 : decide (pk < pm) = false := by rw [decide_eq_false_iff_not]; omega
                    clear M1 M2
                    go_wp2_with fail
                    go_quiet (fail)
                    go_wp2
                    go_roundw
                    case rel => exact ⟨m + 1, by omega, by go_num, unhide HP _, unhide HX _, unhide HB _⟩
                    case measure => simp [intOf]; omega
                  · have g1 : decide (xk < xm) = false := by rw [decide_eq_false_iff_not]; omega
                    have g2 : decide (xm < xk) = false := by rw [decide_eq_false_iff_not]; omega
                    clear M1 M2
                    go_wp2_with fail
                    go_quiet (fail)
                    go_wp2
                    go_roundw
                    case rel => exact ⟨m + 1, by omega, by go_num, unhide HP _, unhide HX _, unhide HB _⟩
                    case measure => simp [intOf]; omega
                · have e1 := oP.at k (by rw [oP.len]; omega)
                  have O1 := hide oP
                  have O2 := hide oX
                  have O3 := hide b
                  obtain ⟨s0, s1⟩ := unhide SB k hk
                  obtain ⟨s2, s3⟩ := unhide SB (k + 1) (by omega)
                  rw [show S ps (k + 1) = S ps k + ps.getD k 0 from rfl] at s2 s3
                  have E := hide (show S ps (k + 1) = S ps k + ps.getD k 0 from rfl)
                  have p0 := (unhide PB k)
                  clear oP oX b
                  generalize ps.getD k 0 = p at *
                  generalize S ps k = s at *
                  go_wp2
                  go_roundw
                  case rel => exact ⟨k + 1, by omega, by rw [unhide E], by go_num, unhide O1, unhide O2, unhide O3⟩
                  case measure => simp [intOf]; omega
            · have xb : (x == 0) = false := by rw [beq_eq_false_iff_ne]; exact xz
              have pe : (p == p + 1) = false := by rw [beq_eq_false_iff_ne]; omega
              clear xz
              go_wp2_with fail
              go_loopw [14] (fun j wy => ∃ (m : Nat), m ≤ k ∧ j = .int .i64 m ∧ Own wy u1.heap.size gP n cP ps ∧ Own wy w.heap.size gX n cX xs ∧ Below w.heap.size w wy) (fun j _ => k - (intOf j).toNat)
              case atStart => exact ⟨0, by omega, rfl, oP, oX, b⟩
              case round =>
                clear oP oX b
                obtain ⟨m, hm, rfl, oP, oX, b⟩ := hrel
                by_cases lt2 : m < k
                · have e1 := oP.at m (by rw [oP.len]; omega)
                  have e2 := oP.at k (by rw [oP.len]; omega)
                  have e3 := oX.at m (by rw [oX.len]; omega)
                  have e4 := oX.at k (by rw [oX.len]; omega)
                  have M1 := hide (fun h => unhide MONO k m lt (by omega) h)
                  have M2 := hide (fun h => unhide MONO m k (by omega) lt h)
                  have i1 : (0 : Int) ≤ (m : Int) := by omega
                  have i2 : (m : Int) < (n : Int) := by omega
                  have i3 : (0 : Int) ≤ (k : Int) := by omega
                  have i4 : (k : Int) < (n : Int) := by omega
                  have P2 : ∀ q, Own (wr.drewN q) u1.heap.size gP n cP ps := fun _ => oP
                  have X2 : ∀ q, Own (wr.drewN q) w.heap.size gX n cX xs := fun _ => oX
                  have b2 : ∀ q, Below w.heap.size w (wr.drewN q) := fun q => below_drewN b q
                  have HP := hide P2
                  have HX := hide X2
                  have HB := hide b2
                  clear oP oX b P2 X2 b2
                  generalize ps.getD m 0 = pm at *
                  generalize ps.getD k 0 = pk at *
                  generalize xs.getD m 0 = xm at *
                  generalize xs.getD k 0 = xk at *
                  rcases (show xk < xm ∨ xm < xk ∨ xm = xk by omega) with c | c | c
                  · have f1 := unhide M1 c
                    have g1 : decide (pm < pk) = false := by rw [decide_eq_false_iff_not]; omega
                    have g2 : decide (xm < xk) = false := by rw [decide_eq_false_iff_not]; omega
                    clear M1 M2
                    go_wp2_with fail
                    go_quiet (fail)
                    go_wp2
                    go_roundw
                    case rel => exact ⟨m + 1, by omega, by go_num, unhide HP _, unhide HX _, unhide HB _⟩
                    case measure => simp [intOf]; omega
                  · have f1 := unhide M2 c
                    have g1 : decide (xk < xm) = false := by rw [decide_eq_false_iff_not]; omega
                    have g2 : decide (pk < pm) = false := by rw [decide_eq_false_iff_not]; omega
                    clear M1 M2
                    go_wp2_with fail
                    go_quiet (fail)
                    go_wp2
                    go_roundw
                    case rel => exact ⟨m + 1, by omega, by go_num, unhide HP _, unhide HX _, unhide HB _⟩
                    case measure => simp [intOf]; omega
                  · have g1 : decide (xk < xm) = false := by rw [decide_eq_false_iff_not]; omega
                    have g2 : decide (xm < xk) = false := by rw [decide_eq_false_iff_not]; omega
                    clear M1 M2
                    go_wp2_with fail
                    go_quiet (fail)
                    go_wp2
                    go_roundw
                    case rel => exact ⟨m + 1, by omega, by go_num, unhide HP _, unhide HX _, unhide HB _⟩
                    case measure => simp [intOf]; omega
                · have e1 := oP.at k (by rw [oP.len]; omega)
                  have O1 := hide oP
                  have O2 := hide oX
                  have O3 := hide b
                  obtain ⟨s0, s1⟩ := unhide SB k hk
                  obtain ⟨s2, s3⟩ := unhide SB (k + 1) (by omega)
                  rw [show S ps (k + 1) = S ps k + ps.getD k 0 from rfl] at s2 s3
                  have E := hide (show S ps (k + 1) = S ps k + ps.getD k 0 from rfl)
                  have p0 := (unhide PB k)
                  clear oP oX b
                  generalize ps.getD k 0 = p at *
                  generalize S ps k = s at *
                  go_wp2
                  go_roundw
                  case rel => exact ⟨k + 1, by omega, by rw [unhide E], by go_num, unhide O1, unhide O2, unhide O3⟩
                  case measure => simp [intOf]; omega
        · obtain rfl : k = n := by omega
          have B := hide b
          have TT := unhide TOT
          clear oP oX b
          rw [TT]
          clear TT
          go_wp2
          go_ret
          exact ⟨rfl, unhide B⟩
    · clear oX oP
      go_wp2
      go_ret
      exact ⟨rfl, b⟩
  · clear hc
    go_enter Try.func3, Try.ntmps3
    go_wp2
    go_ret
    exact ⟨rfl, Below.refl _ _⟩

set_option maxRecDepth 100000 in
theorem lifted (os : Os) (started : os.Started) (H : Type) (enc : TypeId × Value → H) :
    ReturnsInHanded {} Try.checked os 3 .any (Rows.fnSharesSpec.pre6 enc Try.prog Try.f3 Rows.fnSharesRow.domain false) (Rows.fnSharesSpec.post enc Try.prog Try.f3 false true false false) := by
  refine returnsInHanded_of_change (C := Try.checked) own started (by kernel_rfl) Try.func3
    (ChangeSpec.witness6 (enc := enc) (C := Try.checked) false ⟨#[], #[.slice none 0 0], []⟩ 8 (by kernel_rfl) (by kernel_rfl) (by kernel_rfl) (by kernel_rfl)) ?_
  intro W base args ds gs before hval0 hW hcnd _
  have hval : ∀ (j : Nat) t v, Try.f3.params[j]? = some t → args[j]? = some v → Value.okWide Try.prog W .any base t v := hval0
  have hW' := hW
  obtain ⟨p, q, hA0, hV, rfl, hfz, hnd⟩ := hW
  have hA : DataW.TrodAll enc Try.prog W 0 (fun _ => true) true Try.f3.params.toList args.toList ds p := hA0
  rw [Try.params3] at hA hval
  obtain ⟨v0, vs0, d0, ds0, p0, q0, hargs, rfl, rfl, h0, r0⟩ := trodAll_cons hA
  obtain ⟨rfl, rfl, rfl⟩ := trodAll_nil r0
  obtain rfl : args = #[v0] := by cases args; simp_all
  obtain ⟨rfl, rfl⟩ := trodVars_none hV
  obtain ⟨a0, len0, cap0, rfl⟩ := okWide_slice Try.underlying22 (hval 0 22 v0 rfl rfl)
  have k0 := h0
  have lt0 : ∀ x ∈ p0, x.block < W.heap.size := by obtain ⟨m, hm⟩ := k0; exact DataW.trod_lt m _ _ _ hm
  obtain ⟨z0, w0⟩ : ∃ zs, IsRow .u8 W a0 len0 cap0 zs := by
    obtain ⟨fuel, hf⟩ := h0
    rcases open_ints Try.underlying22 Try.underlying5 (by kernel_rfl) hf with ⟨hcs, _⟩ | ⟨x, l, c, zs, hcs, _, hl, hm, hz, _, hcell, hwz⟩
    · simp [Value.cells] at hcs
      obtain ⟨rfl, rfl, rfl⟩ := hcs
      exact ⟨[], .inl ⟨rfl, rfl, rfl, rfl⟩⟩
    · simp [Value.cells] at hcs
      obtain ⟨rfl, rfl, rfl⟩ := hcs
      exact ⟨zs, .inr ⟨_, rfl, hl, hm, by simpa using hz, hcell, hwz⟩⟩
  clear hA0 hval0
  refine (walk a0 len0 cap0 z0 W w0).mono fun e W' ⟨he, bel⟩ => ?_
  subst he
  exact ⟨_, rfl, _, _, _, [], _, [], hW', trodAll_mk1 (shut_bool Try.underlying4 _), (trodAll_cons_mk (Below.trod laidOut (by kernel_rfl) (of_decide_eq_true (by kernel_rfl)) k0 bel lt0) trodAll_mk0), rfl, bel.frame _, fun h => by cases h⟩

theorem over : Rows.fnSharesRow.holds Try.pinned (OpenSpec.ofChange Rows.fnSharesSpec) :=
  OpenClaim.holds_of_wide 3 Try.f3 rfl rfl rfl rfl rfl rfl rfl ⟨rfl, rfl, rfl, rfl, rfl⟩ rfl rfl rfl rfl rfl (by kernel_rfl) Try.func3 (by kernel_rfl)
    (of_decide_eq_true (by kernel_rfl)) (by unfold Func.isWrapper; first | (rw [if_pos (by decide +kernel)]; kernel_rfl) | (rw [if_neg (by decide +kernel)]; exact ⟨rfl, rfl⟩))
    (fun os started H enc _ => lifted os started H enc)

/-- The statement. -/
theorem proved : Rows.FnSharesSaid := over
#print axioms proved
end Go.Proofs.Ytfoollmmendkiaa.fnShares
