/- For every row of bytes the law of the ways returns true: first and last take whole lots from either end of the lots that the bytes draw, and what is left stands between. No condition. -/
import Derived.Test.YtdnpjjbphamcmaaRows
import Derived.WalkKit
import Derived.Test.YtdnpjjbphamcmaaLotMore2
import Derived.Test.YtdnpjjbphamcmaaSame5
import Derived.Test.YtdnpjjbphamcmaaDraw6L
import Derived.Test.YtdnpjjbphamcmaaITake
import Derived.ProofKit
import Derived.OpenShut
import Derived.ShutString
import Derived.ChangeOld
import Derived.Below
namespace Go.Proofs.Ytdnpjjbphamcmaa.fnWays
open Go.ChangeShapes Go.WideShapes Go.ChangeAt Go.RowKit
open Go.ChangeMaps (open_string shut_string)
set_option linter.unusedVariables false
set_option linter.unusedSimpArgs false

theorem own : ownKnob Try.prog.godebug = none := by kernel_rfl
theorem laidOut : laidOutB Try.prog = true := by kernel_rfl

/-- A slice of integers that came in, with its cells. -/
def IsRow (k : IntKind) (w : World) (a : Option Addr) (len cap : Nat) (zs : List Int) : Prop :=
  (a = none ∧ len = 0 ∧ cap = 0 ∧ zs = []) ∨
  ∃ x, a = some x ∧ len ≤ cap ∧ cap ≤ maxLen ∧ zs.length = cap ∧ (∀ i, i < zs.length → w.cell? (x.add i) = some (.int k (zs.getD i 0))) ∧ ∀ n ∈ zs, (Lit.int k n).wf = true

open Tup5 Lots Takes STake ITake Nil5 Same5 Draw6L LotMore LotMore2 Concat5 SOf
open Draw (CodeAt)
open Quieter

/-- The bytes that came in, as the drawing functions want them. -/
theorem codeAt (w : World) (a : Option Addr) (len cap : Nat) (zs : List Int) (h : IsRow .u8 w a len cap zs) : CodeAt w a len := by
  rcases h with ⟨rfl, rfl, rfl, rfl⟩ | ⟨x, rfl, hl, hm, hz, hcell, hwz⟩
  · exact .inl rfl
  · by_cases z : len = 0
    · exact .inl z
    · obtain ⟨b, off, spot⟩ := x
      have hc := hcell 0 (by omega)
      have hspot : spot = none := by simpa [Addr.add] using World.cell?_spot hc
      subst hspot
      have hc0 : w.cell? ⟨b, off, none⟩ = some (.int .u8 (zs.getD 0 0)) := by simpa [Addr.add] using hc
      refine .inr ⟨b, off, zs, rfl, World.block_lt_of_cell? w _ hc0, fun i hi => ?_⟩
      have k := hcell i (by omega)
      have hw : (Lit.int .u8 (zs.getD i 0)).wf = true := hwz _ (by rw [List.getD_eq_getElem?_getD, List.getElem?_eq_getElem (by omega)]; exact List.getElem_mem _)
      have hb := bounds_u8 hw
      refine ⟨?_, by omega, by omega⟩
      by_cases z : i = 0
      · subst z; simpa [Addr.add] using k
      · simpa [Addr.add, z] using k

set_option maxRecDepth 100000 in
set_option maxHeartbeats 8000000 in
theorem walk (a0 : Option Addr) (len0 cap0 : Nat) (z0 : List Int) (w : World) (w0 : IsRow .u8 w a0 len0 cap0 z0) :
    Calls Try.prog 5 #[.slice a0 len0 cap0] w fun e w' => e = .returned (.bool true) ∧ Below w.heap.size w w' := by
  have hc := codeAt w a0 len0 cap0 z0 w0
  clear w0
  by_cases tl : (len0 : Int) ≤ 1048576
  · have HC := hide hc
    have TL : len0 ≤ 1048576 := by omega
    clear hc
    go_enter Try.func5, Try.ntmps5
    go_wp2_with (first | (go_at_call 15; go_in) | fail)
    refine (drawTake _ a0 len0 cap0 TL (unhide HC)).mono ?_
    rintro e u1 ⟨ps, gA, cA, p, q, t, way0, rfl, oA, lA, b1⟩
    have OA := hide oA
    have HB := hide b1
    have CA := (own_cap oA).1
    clear oA b1
    obtain ⟨ok, OK⟩ := says_of (Right ps)
    have lof := of_len ps p q ok
    go_wp2_with fail
    refine (sOf _ gA ps.length cA ps p q ok rfl (by omega) (unhide OA).lt.2 (unhide OA).at OK).mono ?_
    rintro e u2 ⟨gO, cO, rfl, oO, b2⟩
    have OO := hide (oO.rebase (base' := w.heap.size) (by have := oO.lt.1; have := (unhide HB).size; omega))
    replace OA := hide ((unhide OA).below b2 (unhide OA).lt.2)
    replace HB := hide (next (unhide HB) b2)
    clear b2 oO
    obtain ⟨bad, BAD⟩ := says_of (¬ TakeOk ps t 1)
    have BAD2 : Says bad (¬ TakeOk ps t 2) := ⟨fun h r => BAD.1 h ⟨r.1, r.2.1, by omega, by omega⟩, fun h => BAD.2 (fun r => h ⟨r.1, r.2.1, by omega, by omega⟩)⟩
    obtain ⟨short, SHORT⟩ := says_of (sumQ (ownL ps p q) < t)
    obtain ⟨R1, HR1⟩ : ∃ R, Hid (R = mergeL ((restL ps p q).length + (takeL 1 (ownL ps p q) t).length) (restL ps p q) (takeL 1 (ownL ps p q) t)) := ⟨_, rfl⟩
    obtain ⟨R2, HR2⟩ : ∃ R, Hid (R = mergeL ((restL ps p q).length + (takeL 2 (ownL ps p q) t).length) (restL ps p q) (takeL 2 (ownL ps p q) t)) := ⟨_, rfl⟩
    go_wp2_with fail
    refine (iTake _ gA ps.length cA ps R1 p q t 1 bad short rfl (by omega) CA (unhide OA).lt.2 (unhide OA).at BAD SHORT (fun _ _ => unhide HR1)).mono ?_
    rintro e u3 ⟨v1, rfl, ov1, b3⟩
    have OV1 := hide (ov1.rebase (base' := w.heap.size) ((unhide HB).size))
    replace OA := hide ((unhide OA).below b3 (unhide OA).lt.2)
    replace OO := hide ((unhide OO).below b3 (unhide OO).lt.2)
    replace HB := hide (next (unhide HB) b3)
    clear b3 ov1
    go_wp2_with fail
    refine (iTake _ gA ps.length cA ps R2 p q t 2 bad short rfl (by omega) CA (unhide OA).lt.2 (unhide OA).at BAD2 SHORT (fun _ _ => unhide HR2)).mono ?_
    rintro e u4 ⟨v2, rfl, ov2, b4⟩
    have OV2 := hide (ov2.rebase (base' := w.heap.size) ((unhide HB).size))
    replace OA := hide ((unhide OA).below b4 (unhide OA).lt.2)
    replace OO := hide ((unhide OO).below b4 (unhide OO).lt.2)
    replace OV1 := hide ((unhide OV1).below b4 (fun g hg => ((unhide OV1).lt g hg).2))
    replace HB := hide (next (unhide HB) b4)
    clear b4 ov2
    go_wp2_with fail
    refine (sTake _ gA ps.length cA ps R1 p q t 1 bad short rfl (by omega) (unhide OA).lt.2 (unhide OA).at BAD SHORT (fun _ _ => unhide HR1)).mono ?_
    rintro e u5 ⟨g3, c3, rfl, o3, b5⟩
    replace OA := hide ((unhide OA).below b5 (unhide OA).lt.2)
    replace OO := hide ((unhide OO).below b5 (unhide OO).lt.2)
    replace OV1 := hide ((unhide OV1).below b5 (fun g hg => ((unhide OV1).lt g hg).2))
    replace OV2 := hide ((unhide OV2).below b5 (fun g hg => ((unhide OV2).lt g hg).2))
    replace HB := hide (next (unhide HB) b5)
    clear b5 o3
    cases bad
    rotate_left
    · have K1 : takeK (takeC 1 (ownL ps p q) t) true short = 0 := by simp [takeK]
      have K2 : takeK (takeC 2 (ownL ps p q) t) true short = 0 := by simp [takeK]
      have D0 : takeD true short = 1 := by simp [takeD]
      rw [K1, K2, D0]
      go_wp2
      go_ret
      exact ⟨rfl, unhide HB⟩
    have TK : TakeOk ps t 1 := Classical.byContradiction fun h => BAD.no h
    obtain rfl : ok = true := OK.of TK.1
    cases short
    rotate_left
    · have K1 : takeK (takeC 1 (ownL ps p q) t) false true = 0 := by simp [takeK]
      have K2 : takeK (takeC 2 (ownL ps p q) t) false true = 0 := by simp [takeK]
      have D0 : takeD false true = 2 := by simp [takeD]
      rw [K1, K2, D0]
      go_wp2
      go_ret
      exact ⟨rfl, unhide HB⟩
    have t1 := TK.2.1.1
    have t2 := TK.2.1.2
    have LE : t ≤ sumQ (ownL ps p q) := Int.not_lt.1 SHORT.no
    obtain ⟨OP, oq, oc⟩ := own_pos TK.1 p q
    have SP := sum_pos _ OP
    have on0 : 0 < (ownL ps p q).length := by
      generalize ownL ps p q = own at LE
      cases own with
      | nil => simp [sumQ] at LE; omega
      | cons x r => simp
    have FT1 := take_fits (way := 1) TK.1 (by omega) t1 LE
    have RR1 : Right R1 := by rw [unhide HR1]; exact FT1.right TK.1 (Nat.le_refl _)
    have SR1 : Says true (Right R1) := ⟨fun _ => RR1, fun _ => rfl⟩
    have RL1 : R1.length ≤ 120 := RR1.1
    have OWN1 : ofL R1 p q true = leftF (ownL ps p q) t := by
      have e : ownL R1 p q = takeL 1 (ownL ps p q) t := by
        rw [unhide HR1]
        exact FT1.own (Nat.le_refl _)
      have e2 : takeL 1 (ownL ps p q) t = leftF (ownL ps p q) t := by simp [takeL, leftW, dirL]
      exact e.trans e2
    have CB1 := (takeC_bd (way := 1) OP t1 LE).2
    have FT2 := take_fits (way := 2) TK.1 (by omega) t1 LE
    have RR2 : Right R2 := by rw [unhide HR2]; exact FT2.right TK.1 (Nat.le_refl _)
    have SR2 : Says true (Right R2) := ⟨fun _ => RR2, fun _ => rfl⟩
    have RL2 : R2.length ≤ 120 := RR2.1
    have OWN2 : ofL R2 p q true = (leftF (ownL ps p q).reverse t).reverse := by
      have e : ownL R2 p q = takeL 2 (ownL ps p q) t := by
        rw [unhide HR2]
        exact FT2.own (Nat.le_refl _)
      have e2 : takeL 2 (ownL ps p q) t = (leftF (ownL ps p q).reverse t).reverse := by simp [takeL, leftW, dirL]
      exact e.trans e2
    have CB2 := (takeC_bd (way := 2) OP t1 LE).2
    have FS := hide (first_shape (q := t) OP)
    have LS := hide (last_shape (q := t) OP)
    have f1 := (unhide FS).1
    have f2 := (unhide LS).1
    have lofo : (ownL ps p q).length ≤ ps.length := lof
    replace OV1 := hide (show OwnV 40 u5 w.heap.size v1 R1 from unhide OV1)
    replace OV2 := hide (show OwnV 40 u5 w.heap.size v2 R2 from unhide OV2)
    replace OO := hide (show Own5 40 u5 w.heap.size gO (ownL ps p q).length cO (ownL ps p q) from unhide OO)
    have K1 : takeK (takeC 1 (ownL ps p q) t) false false = takeC 1 (ownL ps p q) t := by simp [takeK]
    have K2 : takeK (takeC 2 (ownL ps p q) t) false false = takeC 2 (ownL ps p q) t := by simp [takeK]
    have D0 : takeD false false = 0 := by simp [takeD]
    have E0 : ofL ps p q true = ownL ps p q := rfl
    have EC1 : sumC (ofL ps p q true) = sumC (ownL ps p q) := rfl
    rw [K1, K2, D0, E0]
    clear FT1 FT2 HR1 HR2 K1 K2 D0 SHORT BAD BAD2 TK E0 RR1 RR2 HC
    generalize takeC 1 (ownL ps p q) t = x1c at *
    generalize takeC 2 (ownL ps p q) t = x2c at *
    go_wp2_with fail
    refine (ofV _ w.heap.size v1 R1 p q true (by omega) (unhide OV1) SR1).mono ?_
    rw [OWN1]
    rintro e u6 ⟨gF, cF, rfl, oF, b6⟩
    have OF := hide (oF.rebase (base' := w.heap.size) (by have := oF.lt.1; have := (unhide HB).size; omega))
    replace OA := hide ((unhide OA).below b6 (unhide OA).lt.2)
    replace OO := hide ((unhide OO).below b6 (unhide OO).lt.2)
    replace OV1 := hide ((unhide OV1).below b6 (fun g hg => ((unhide OV1).lt g hg).2))
    replace OV2 := hide ((unhide OV2).below b6 (fun g hg => ((unhide OV2).lt g hg).2))
    replace HB := hide (next (unhide HB) b6)
    clear b6 oF
    go_wp2_with fail
    refine (ofV _ w.heap.size v2 R2 p q true (by omega) (unhide OV2) SR2).mono ?_
    rw [OWN2]
    rintro e u7 ⟨gS, cS, rfl, oS, b7⟩
    have OS := hide (oS.rebase (base' := w.heap.size) (by have := oS.lt.1; have := (unhide HB).size; omega))
    replace OA := hide ((unhide OA).below b7 (unhide OA).lt.2)
    replace OO := hide ((unhide OO).below b7 (unhide OO).lt.2)
    replace OV1 := hide ((unhide OV1).below b7 (fun g hg => ((unhide OV1).lt g hg).2))
    replace OV2 := hide ((unhide OV2).below b7 (fun g hg => ((unhide OV2).lt g hg).2))
    replace OF := hide ((unhide OF).below b7 (unhide OF).lt.2)
    replace HB := hide (next (unhide HB) b7)
    clear b7 oS
    clear OWN1 OWN2 SR1 SR2 OV1 OV2 RL1 RL2 lof
    generalize sumC (ownL ps p q) = cv at *
    generalize (leftF (ownL ps p q).reverse t).reverse = S2 at *
    generalize leftF (ownL ps p q) t = F at *
    clear LE OP SP oq oc t1 t2
    generalize ownL ps p q = o at *
    have gFl := (unhide OF).lt.2
    have gSl := (unhide OS).lt.2
    have gOl := (unhide OO).lt.2
    have gAl := (unhide OA).lt.2
    go_wp2
    go_loopw [20, 21, 22] (fun i _ _ wr => ∃ (k : Nat), k ≤ F.length ∧ i = .int .i64 k ∧ Hid (Below u7.heap.size u7 wr)) (fun i _ _ _ => F.length - (intOf i).toNat)
    case atStart => exact ⟨0, by omega, rfl, hide (Below.refl _ _)⟩
    case round =>
      obtain ⟨k, hk, rfl, WB⟩ := hrel
      by_cases tk : k < F.length
      · obtain ⟨m1, hm1⟩ : ∃ m, m = o.length - 1 - k := ⟨_, rfl⟩
        obtain ⟨m2, hm2⟩ : ∃ m, m = F.length - 1 - k := ⟨_, rfl⟩
        have SH := (unhide FS).2 k tk
        rw [← hm1, ← hm2] at SH
        obtain ⟨e0, e1, e2, e3, e4⟩ := ((unhide OO).below (unhide WB) gOl).at m1 (by omega)
        obtain ⟨g0, g1, g2, g3, g4⟩ := ((unhide OF).below (unhide WB) gFl).at m2 (by omega)
        have im1 : (o.length : Int) - 1 - (k : Int) = (m1 : Int) := by omega
        have im2 : (F.length : Int) - 1 - (k : Int) = (m2 : Int) := by omega
        have b1 : (0 : Int) ≤ (m1 : Int) := by omega
        have b2 : (m1 : Int) < (o.length : Int) := by omega
        have b3 : (0 : Int) ≤ (m2 : Int) := by omega
        have b4 : (m2 : Int) < (F.length : Int) := by omega
        clear hm1 hm2
        have y5 : el5 o m1 = ((el5 o m1).1, (el5 o m1).2.1, (el5 o m1).2.2.1, (el5 o m1).2.2.2.1, (el5 o m1).2.2.2.2) := rfl
        have x5 : el5 F m2 = ((el5 F m2).1, (el5 F m2).2.1, (el5 F m2).2.2.1, (el5 F m2).2.2.2.1, (el5 F m2).2.2.2.2) := rfl
        obtain ⟨sh1, sh2, sh3, sh4⟩ := SH
        rw [y5, x5] at sh2
        clear y5 x5
        generalize (el5 o m1).1 = y0 at *
        generalize (el5 o m1).2.1 = y1 at *
        generalize (el5 o m1).2.2.1 = y2 at *
        generalize (el5 o m1).2.2.2.1 = y3 at *
        generalize (el5 o m1).2.2.2.2 = y4 at *
        generalize (el5 F m2).1 = x0 at *
        generalize (el5 F m2).2.1 = x1 at *
        generalize (el5 F m2).2.2.1 = x2 at *
        generalize (el5 F m2).2.2.2.1 = x3 at *
        generalize (el5 F m2).2.2.2.2 = x4 at *
        subst sh1
        have WF : IntKind.i64.wrap ((F.length : Int) - 1) = (F.length : Int) - 1 := by rw [IntKind.wrap_i64]; omega
        have n3 : ¬ y3 < x3 := by omega
        have n4 : ¬ y4 < x4 := by omega
        have W1 := (unhide WB).alloc (unhide WB).size (.cells #[.int .i64 y0, .int .i64 y1, .int .i64 x2, .int .i64 y3, .int .i64 y4] 40)
        have W2 := hide (W1.alloc W1.size (.cells #[.int .i64 x0, .int .i64 x1, .int .i64 x2, .int .i64 x3, .int .i64 x4] 40))
        clear W1
        have gFw : gF < wr.heap.size := by have := (unhide WB).size; omega
        have nb := SOk5.one_more wr (.cells #[.int .i64 y0, .int .i64 y1, .int .i64 x2, .int .i64 y3, .int .i64 y4] 40)
        have h0 := (nb.cell (p := ⟨gF, m2 * 5, none⟩) gFw).trans g0
        have h1 := (nb.cell (p := ⟨gF, m2 * 5 + 1, none⟩) gFw).trans g1
        have h2 := (nb.cell (p := ⟨gF, m2 * 5 + 2, none⟩) gFw).trans g2
        have h3 := (nb.cell (p := ⟨gF, m2 * 5 + 3, none⟩) gFw).trans g3
        have h4 := (nb.cell (p := ⟨gF, m2 * 5 + 4, none⟩) gFw).trans g4
        clear nb
        by_cases lt : k < F.length - 1
        · have SE := sh2 lt
          simp only [Prod.mk.injEq] at SE
          obtain ⟨rfl, rfl, _, rfl, rfl⟩ := SE
          clear sh2
          have lt2 : (k : Int) < (F.length : Int) - 1 := by omega
          have EQ : ∀ w : World, (Op.equalIn 10000 40 (.agg #[.int .i64 x0, .int .i64 x1, .int .i64 x2, .int .i64 x3, .int .i64 x4]) (.agg #[.int .i64 x0, .int .i64 x1, .int .i64 x2, .int .i64 x3, .int .i64 x4])).run Try.prog w = .ok true w := fun w => by
            rw [eqLot, (eq5_iff _ _).2 rfl]
          have GU := guardLot
          go_wp2
          go_roundw
          case rel => exact ⟨k + 1, by omega, by go_num, W2⟩
          case measure => simp [intOf]; omega
        · have lt2 : ¬ (k : Int) < (F.length : Int) - 1 := by omega
          clear sh2
          go_wp2
          go_roundw
          case rel => exact ⟨k + 1, by omega, by go_num, W2⟩
          case measure => simp [intOf]; omega
      · have kF : ¬ (k : Int) < (F.length : Int) := by omega
        clear FS OF
        go_wp2
        go_loopw [23] (fun i wz => ∃ (j : Nat), j ≤ S2.length ∧ i = .int .i64 j ∧ Hid (Below u7.heap.size u7 wz)) (fun i _ => S2.length - (intOf i).toNat)
        case atStart => exact ⟨0, by omega, rfl, WB⟩
        case round =>
          clear WB
          obtain ⟨j, hj, rfl, WB⟩ := hrel
          by_cases tj : j < S2.length
          · obtain ⟨sh1, sh2, sh3⟩ := (unhide LS).2 j tj
            obtain ⟨e0, e1, e2, e3, e4⟩ := ((unhide OO).below (unhide WB) gOl).at j (by omega)
            obtain ⟨g0, g1, g2, g3, g4⟩ := ((unhide OS).below (unhide WB) gSl).at j (by omega)
            have y5 : el5 o j = ((el5 o j).1, (el5 o j).2.1, (el5 o j).2.2.1, (el5 o j).2.2.2.1, (el5 o j).2.2.2.2) := rfl
            have x5 : el5 S2 j = ((el5 S2 j).1, (el5 S2 j).2.1, (el5 S2 j).2.2.1, (el5 S2 j).2.2.2.1, (el5 S2 j).2.2.2.2) := rfl
            rw [y5, x5] at sh2
            clear y5 x5
            generalize (el5 o j).1 = y0 at *
            generalize (el5 o j).2.1 = y1 at *
            generalize (el5 o j).2.2.1 = y2 at *
            generalize (el5 o j).2.2.2.1 = y3 at *
            generalize (el5 o j).2.2.2.2 = y4 at *
            generalize (el5 S2 j).1 = x0 at *
            generalize (el5 S2 j).2.1 = x1 at *
            generalize (el5 S2 j).2.2.1 = x2 at *
            generalize (el5 S2 j).2.2.2.1 = x3 at *
            generalize (el5 S2 j).2.2.2.2 = x4 at *
            subst sh1
            have WF : IntKind.i64.wrap ((S2.length : Int) - 1) = (S2.length : Int) - 1 := by rw [IntKind.wrap_i64]; omega
            have n3 : ¬ y3 < x3 := by omega
            have tj1 : (j : Int) < (S2.length : Int) := by omega
            have tj2 : (j : Int) < (o.length : Int) := by omega
            by_cases lt : j < S2.length - 1
            · have SE := sh2 lt
              simp only [Prod.mk.injEq] at SE
              obtain ⟨rfl, rfl, _, rfl, rfl⟩ := SE
              clear sh2
              have lt2 : (j : Int) < (S2.length : Int) - 1 := by omega
              have EQ : ∀ w : World, (Op.equalIn 10000 40 (.agg #[.int .i64 x0, .int .i64 x1, .int .i64 x2, .int .i64 x3, .int .i64 x4]) (.agg #[.int .i64 x0, .int .i64 x1, .int .i64 x2, .int .i64 x3, .int .i64 x4])).run Try.prog w = .ok true w := fun w => by
                rw [eqLot, (eq5_iff _ _).2 rfl]
              have GU := guardLot
              go_wp2_with fail
              go_quiet (fail)
              have W2 := hide (below_drewN (unhide WB) nq)
              go_wp2
              go_roundw
              case rel => exact ⟨j + 1, by omega, by go_num, W2⟩
              case measure => simp [intOf]; omega
            · clear sh2
              go_wp2_with fail
              have lt2 : ¬ (j : Int) < (S2.length : Int) - 1 := by omega
              have lt3 : decide ((j : Int) < (S2.length : Int) - 1) = false := decide_eq_false lt2
              go_quiet (fail)
              have W2 := hide (below_drewN (unhide WB) nq)
              go_wp2
              go_roundw
              case rel => exact ⟨j + 1, by omega, by go_num, W2⟩
              case measure => simp [intOf]; omega
          · have jS : ¬ (j : Int) < (S2.length : Int) := by omega
            have o0 : ((o.length : Int) == 0) = false := beq_eq_false_iff_ne.2 (by omega)
            have OA2 := hide ((unhide OA).below (unhide WB) gAl)
            have HB2 := hide (next (unhide HB) (unhide WB))
            go_wp2_with fail
            refine (sLotsCost _ gA ps.length cA ps p q true rfl (by omega) (unhide OA2).lt.2 (unhide OA2).at OK).mono ?_
            rw [EC1]
            rintro e z1 ⟨rfl, bz⟩
            replace OA2 := hide ((unhide OA2).below bz (unhide OA2).lt.2)
            replace HB2 := hide (next (unhide HB2) bz)
            clear bz
            go_wp2_with fail
            refine (sLotsCost _ gA ps.length cA ps p q true rfl (by omega) (unhide OA2).lt.2 (unhide OA2).at OK).mono ?_
            rw [EC1]
            rintro e z2 ⟨rfl, bz⟩
            replace HB2 := hide (next (unhide HB2) bz)
            clear bz
            go_wp2
            go_ret
            exact ⟨rfl, unhide HB2⟩
  · clear hc
    go_enter Try.func5, Try.ntmps5
    go_wp2_with (first | (go_at_call 15; go_in) | fail)
    go_ret
    exact ⟨rfl, Below.refl _ _⟩

set_option maxRecDepth 100000 in
theorem lifted (os : Os) (started : os.Started) (H : Type) (enc : TypeId × Value → H) :
    ReturnsInHanded {} Try.checked os 5 .any (Rows.fnWaysSpec.pre6 enc Try.prog Try.f5 Rows.fnWaysRow.domain false) (Rows.fnWaysSpec.post enc Try.prog Try.f5 false true false false) := by
  refine returnsInHanded_of_change (C := Try.checked) own started (by kernel_rfl) Try.func5
    (ChangeSpec.witness6 (enc := enc) (C := Try.checked) false ⟨#[], #[.slice none 0 0], []⟩ 8 (by kernel_rfl) (by kernel_rfl) (by kernel_rfl) (by kernel_rfl)) ?_
  intro W base args ds gs before hval0 hW hcnd _
  have hval : ∀ (j : Nat) t v, Try.f5.params[j]? = some t → args[j]? = some v → Value.okWide Try.prog W .any base t v := hval0
  have hW' := hW
  obtain ⟨p, q, hA0, hV, rfl, hfz, hnd⟩ := hW
  have hA : DataW.TrodAll enc Try.prog W 0 (fun _ => true) true Try.f5.params.toList args.toList ds p := hA0
  rw [Try.params5] at hA hval
  obtain ⟨v0, vs0, d0, ds0, p0, q0, hargs, rfl, rfl, h0, r0⟩ := trodAll_cons hA
  obtain ⟨rfl, rfl, rfl⟩ := trodAll_nil r0
  obtain rfl : args = #[v0] := by cases args; simp_all
  obtain ⟨rfl, rfl⟩ := trodVars_none hV
  obtain ⟨a0, len0, cap0, rfl⟩ := okWide_slice Try.underlying31 (hval 0 31 v0 rfl rfl)
  have k0 := h0
  have lt0 : ∀ x ∈ p0, x.block < W.heap.size := by obtain ⟨m, hm⟩ := k0; exact DataW.trod_lt m _ _ _ hm
  obtain ⟨z0, w0⟩ : ∃ zs, IsRow .u8 W a0 len0 cap0 zs := by
    obtain ⟨fuel, hf⟩ := h0
    rcases open_ints Try.underlying31 Try.underlying5 (by kernel_rfl) hf with ⟨hcs, _⟩ | ⟨x, l, c, zs, hcs, _, hl, hm, hz, _, hcell, hwz⟩
    · simp [Value.cells] at hcs
      obtain ⟨rfl, rfl, rfl⟩ := hcs
      exact ⟨[], .inl ⟨rfl, rfl, rfl, rfl⟩⟩
    · simp [Value.cells] at hcs
      obtain ⟨rfl, rfl, rfl⟩ := hcs
      exact ⟨zs, .inr ⟨_, rfl, hl, hm, by simpa using hz, hcell, hwz⟩⟩
  clear hA0 hval0
  refine (walk a0 len0 cap0 z0 W w0).mono fun e W' ⟨he, bel⟩ => ?_
  subst he
  exact ⟨_, rfl, _, _, _, [], _, [], hW', trodAll_mk1 (shut_bool Try.underlying4 _), (trodAll_cons_mk (Below.trod laidOut (by kernel_rfl) (of_decide_eq_true (by kernel_rfl)) k0 bel lt0) trodAll_mk0), rfl, bel.frame _, fun h => by cases h⟩

theorem over : Rows.fnWaysRow.holds Try.pinned (OpenSpec.ofChange Rows.fnWaysSpec) :=
  OpenClaim.holds_of_wide 5 Try.f5 rfl rfl rfl rfl rfl rfl rfl ⟨rfl, rfl, rfl, rfl, rfl⟩ rfl rfl rfl rfl rfl (by kernel_rfl) Try.func5 (by kernel_rfl)
    (of_decide_eq_true (by kernel_rfl)) (by unfold Func.isWrapper; first | (rw [if_pos (by decide +kernel)]; kernel_rfl) | (rw [if_neg (by decide +kernel)]; exact ⟨rfl, rfl⟩))
    (fun os started H enc _ => lifted os started H enc)

/-- The statement. -/
theorem proved : Rows.FnWaysSaid := over
#print axioms proved
end Go.Proofs.Ytdnpjjbphamcmaa.fnWays
