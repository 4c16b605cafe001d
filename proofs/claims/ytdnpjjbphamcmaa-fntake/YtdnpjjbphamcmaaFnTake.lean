/- For every row of bytes the law of takings returns true: what is taken out of the lots that the bytes draw and what is left of them add up, in pieces and in cost, and lots of others are not touched. No condition. -/
import Derived.Test.YtdnpjjbphamcmaaRows
import Derived.WalkKit
import Derived.Test.YtdnpjjbphamcmaaLotMore
import Derived.Test.YtdnpjjbphamcmaaSame5
import Derived.Test.YtdnpjjbphamcmaaDraw6L
import Derived.Test.YtdnpjjbphamcmaaITake
import Derived.ProofKit
import Derived.OpenShut
import Derived.ShutString
import Derived.ChangeOld
import Derived.Below
namespace Go.Proofs.Ytdnpjjbphamcmaa.fnTake
open Go.ChangeShapes Go.WideShapes Go.ChangeAt Go.RowKit
open Go.ChangeMaps (open_string shut_string)
set_option linter.unusedVariables false
set_option linter.unusedSimpArgs false

theorem own : ownKnob Try.prog.godebug = none := by kernel_rfl
theorem laidOut : laidOutB Try.prog = true := by kernel_rfl

/-- A slice of integers that came in, with its cells. -/
def IsRow (k : IntKind) (w : World) (a : Option Addr) (len cap : Nat) (zs : List Int) : Prop :=
  (a = none ∧ len = 0 ∧ cap = 0 ∧ zs = []) ∨
  ∃ x, a = some x ∧ len ≤ cap ∧ cap ≤ maxLen ∧ zs.length = cap ∧ (∀ i, i < zs.length → w.cell? (x.add i) = some (.int k (zs.getD i 0))) ∧ ∀ n ∈ zs, (Lit.int k n).wf = true

open Tup5 Lots Takes STake ITake Nil5 Same5 Draw6L LotMore Concat5 SOf
open Draw (CodeAt)
open Quieter

/-- The bytes that came in, as the drawing functions want them. -/
theorem codeAt (w : World) (a : Option Addr) (len cap : Nat) (zs : List Int) (h : IsRow .u8 w a len cap zs) : CodeAt w a len := by
  rcases h with ⟨rfl, rfl, rfl, rfl⟩ | ⟨x, rfl, hl, hm, hz, hcell, hwz⟩
  · exact .inl rfl
  · by_cases z : len = 0
    · exact .inl z
    · obtain ⟨b, off, spot⟩ := x
      have hc := hcell 0 (by omega)
      have hspot : spot = none := by simpa [Addr.add] using World.cell?_spot hc
      subst hspot
      have hc0 : w.cell? ⟨b, off, none⟩ = some (.int .u8 (zs.getD 0 0)) := by simpa [Addr.add] using hc
      refine .inr ⟨b, off, zs, rfl, World.block_lt_of_cell? w _ hc0, fun i hi => ?_⟩
      have k := hcell i (by omega)
      have hw : (Lit.int .u8 (zs.getD i 0)).wf = true := hwz _ (by rw [List.getD_eq_getElem?_getD, List.getElem?_eq_getElem (by omega)]; exact List.getElem_mem _)
      have hb := bounds_u8 hw
      refine ⟨?_, by omega, by omega⟩
      by_cases z : i = 0
      · subst z; simpa [Addr.add] using k
      · simpa [Addr.add, z] using k

set_option maxRecDepth 100000 in
set_option maxHeartbeats 8000000 in
theorem walk (a0 : Option Addr) (len0 cap0 : Nat) (z0 : List Int) (w : World) (w0 : IsRow .u8 w a0 len0 cap0 z0) :
    Calls Try.prog 4 #[.slice a0 len0 cap0] w fun e w' => e = .returned (.bool true) ∧ Below w.heap.size w w' := by
  have hc := codeAt w a0 len0 cap0 z0 w0
  clear w0
  by_cases tl : (len0 : Int) ≤ 1048576
  · have HC := hide hc
    have TL : len0 ≤ 1048576 := by omega
    clear hc
    go_enter Try.func4, Try.ntmps4
    go_wp2_with (first | (go_at_call 15; go_in) | fail)
    refine (drawTake _ a0 len0 cap0 TL (unhide HC)).mono ?_
    rintro e u1 ⟨ps, gA, cA, p, q, t, way, rfl, oA, lA, b1⟩
    have OA := hide oA
    have HB := hide b1
    have CA := (own_cap oA).1
    clear oA b1
    obtain ⟨bad, BAD⟩ := says_of (¬ TakeOk ps t way)
    obtain ⟨short, SHORT⟩ := says_of (sumQ (ownL ps p q) < t)
    obtain ⟨R, HR⟩ : ∃ R, Hid (R = mergeL ((restL ps p q).length + (takeL way (ownL ps p q) t).length) (restL ps p q) (takeL way (ownL ps p q) t)) := ⟨_, rfl⟩
    obtain ⟨ok, OK⟩ := says_of (Right ps)
    go_wp2_with fail
    refine (iTake _ gA ps.length cA ps R p q t way bad short rfl (by omega) CA (unhide OA).lt.2 (unhide OA).at BAD SHORT (fun _ _ => unhide HR)).mono ?_
    rintro e u2 ⟨v, rfl, ov, b2⟩
    have OV := hide (ov.rebase (base' := w.heap.size) (unhide HB).size)
    replace OA := hide ((unhide OA).below b2 (unhide OA).lt.2)
    replace HB := hide (next (unhide HB) b2)
    have TLEN := ITake.take_len BAD SHORT (unhide HR)
    clear ov b2
    go_wp2_with fail
    refine (sTake _ gA ps.length cA ps R p q t way bad short rfl (by omega) (unhide OA).lt.2 (unhide OA).at BAD SHORT (fun _ _ => unhide HR)).mono ?_
    rintro e u3 ⟨g3, c3, rfl, o3, b3⟩
    replace OV := hide ((unhide OV).below b3 (fun g hg => ((unhide OV).lt g hg).2))
    replace OA := hide ((unhide OA).below b3 (unhide OA).lt.2)
    replace HB := hide (next (unhide HB) b3)
    clear o3 b3
    cases bad
    rotate_left
    · replace OV := hide (show OwnV 40 u3 w.heap.size v [] from unhide OV)
      have K0 : takeK (takeC way (ownL ps p q) t) true short = 0 := by simp [takeK]
      have D0 : takeD true short = 1 := by simp [takeD]
      rw [K0, D0]
      rcases (unhide OV).cases with ⟨rfl, _⟩ | ⟨g, c, rfl, _⟩
      · clear OV
        go_wp2
        go_ret
        exact ⟨rfl, unhide HB⟩
      · clear OV
        go_wp2
        go_ret
        exact ⟨rfl, unhide HB⟩
    have TK : TakeOk ps t way := Classical.byContradiction fun h => BAD.no h
    obtain rfl : ok = true := OK.of TK.1
    cases short
    rotate_left
    · replace OV := hide (show OwnV 40 u3 w.heap.size v ps from unhide OV)
      have K0 : takeK (takeC way (ownL ps p q) t) false true = 0 := by simp [takeK]
      have D0 : takeD false true = 2 := by simp [takeD]
      rw [K0, D0]
      have LT := SHORT.yes
      have OF := hide (show ofL ps p q true = ownL ps p q from rfl)
      go_wp2_with fail
      refine (sLotsQty _ gA ps.length cA ps p q true rfl (by omega) (unhide OA).lt.2 (unhide OA).at OK).mono ?_
      rintro e u4 ⟨rfl, b4⟩
      replace OV := hide ((unhide OV).below b4 (fun g hg => ((unhide OV).lt g hg).2))
      replace OA := hide ((unhide OA).below b4 (unhide OA).lt.2)
      replace HB := hide (next (unhide HB) b4)
      clear b4
      go_wp2_with fail
      refine (sLotsCost _ gA ps.length cA ps p q true rfl (by omega) (unhide OA).lt.2 (unhide OA).at OK).mono ?_
      rintro e u5 ⟨rfl, b5⟩
      replace OV := hide ((unhide OV).below b5 (fun g hg => ((unhide OV).lt g hg).2))
      replace OA := hide ((unhide OA).below b5 (unhide OA).lt.2)
      replace HB := hide (next (unhide HB) b5)
      clear b5
      have EQ1 : sumQ (ofL ps p q true) = sumQ (ownL ps p q) := rfl
      go_wp2_with fail
      refine (qtyV _ w.heap.size v ps p q true (by omega) (unhide OV) OK).mono ?_
      rw [EQ1]
      rintro e u6 ⟨rfl, b6⟩
      replace OV := hide ((unhide OV).below b6 (fun g hg => ((unhide OV).lt g hg).2))
      replace HB := hide (next (unhide HB) b6)
      clear b6
      rcases (unhide OV).cases with ⟨rfl, e⟩ | ⟨g, c, rfl, _⟩
      · subst e
        clear OV
        go_wp2
        go_ret
        exact ⟨rfl, unhide HB⟩
      · clear OV
        go_wp2
        go_ret
        exact ⟨rfl, unhide HB⟩
    have t1 := TK.2.1.1
    have t2 := TK.2.1.2
    have w1 := TK.2.2
    have LE : t ≤ sumQ (ownL ps p q) := Int.not_lt.1 SHORT.no
    obtain ⟨OP, oq, oc⟩ := own_pos TK.1 p q
    have SP := sum_pos _ OP
    have FT := take_fits (way := way) TK.1 w1 t1 LE
    have RR : Right R := by rw [unhide HR]; exact FT.right TK.1 (Nat.le_refl _)
    have SR : Says true (Right R) := ⟨fun _ => RR, fun _ => rfl⟩
    have OWN : ofL R p q true = takeL way (ownL ps p q) t := by
      show ownL R p q = _
      rw [unhide HR]
      exact FT.own (Nat.le_refl _)
    have OTH := hide (show ∀ b j, ¬ (b = p ∧ j = q) → ofL R b j true = ofL ps b j true from fun b j h => by
      show ownL R b j = ownL ps b j
      rw [unhide HR]
      exact FT.other (Nat.le_refl _) h)
    obtain ⟨SQ, SC⟩ := take_sums (way := way) OP w1 t1 LE
    rw [← OWN] at SQ SC
    have CB := takeC_bd (way := way) OP t1 LE
    have ALL := hide (show sumQ (ownL ps p q) = t → (ofL R p q true).length = 0 ∧ takeC way (ownL ps p q) t = sumC (ownL ps p q) from fun e => by
      obtain ⟨h1, h2⟩ := take_all (way := way) OP e.symm t1
      rw [OWN, h1]
      exact ⟨rfl, h2⟩)
    have RL : R.length ≤ 120 := RR.1
    replace OV := hide (show OwnV 40 u3 w.heap.size v R from unhide OV)
    have K0 : takeK (takeC way (ownL ps p q) t) false false = takeC way (ownL ps p q) t := by simp [takeK]
    have D0 : takeD false false = 0 := by simp [takeD]
    have TAL : (takeA ps R false false).length ≤ 241 := TLEN
    rw [K0, D0]
    have EQ1 : sumQ (ofL ps p q true) = sumQ (ownL ps p q) := rfl
    have EC1 : sumC (ofL ps p q true) = sumC (ownL ps p q) := rfl
    clear OWN FT HR OP K0 D0 SHORT BAD TK TLEN
    generalize takeC way (ownL ps p q) t = cst at *
    generalize sumQ (ownL ps p q) = qv at *
    generalize sumC (ownL ps p q) = cv at *
    have W1 : IntKind.i64.wrap (qv - t) = qv - t := by rw [IntKind.wrap_i64]; omega
    have W2 : IntKind.i64.wrap (cv - cst) = cv - cst := by rw [IntKind.wrap_i64]; omega
    have c0 : ¬ cst < 0 := by omega
    go_wp2_with fail
    refine (sLotsQty _ gA ps.length cA ps p q true rfl (by omega) (unhide OA).lt.2 (unhide OA).at OK).mono ?_
    rw [EQ1]
    rintro e u4 ⟨rfl, b4⟩
    replace OV := hide ((unhide OV).below b4 (fun g hg => ((unhide OV).lt g hg).2))
    replace OA := hide ((unhide OA).below b4 (unhide OA).lt.2)
    replace HB := hide (next (unhide HB) b4)
    clear b4
    go_wp2_with fail
    refine (sLotsCost _ gA ps.length cA ps p q true rfl (by omega) (unhide OA).lt.2 (unhide OA).at OK).mono ?_
    rw [EC1]
    rintro e u5 ⟨rfl, b5⟩
    replace OV := hide ((unhide OV).below b5 (fun g hg => ((unhide OV).lt g hg).2))
    replace OA := hide ((unhide OA).below b5 (unhide OA).lt.2)
    replace HB := hide (next (unhide HB) b5)
    clear b5
    go_wp2_with fail
    refine (qtyV _ w.heap.size v R p q true (by omega) (unhide OV) SR).mono ?_
    rw [SQ]
    rintro e u6 ⟨rfl, b6⟩
    replace OV := hide ((unhide OV).below b6 (fun g hg => ((unhide OV).lt g hg).2))
    replace OA := hide ((unhide OA).below b6 (unhide OA).lt.2)
    replace HB := hide (next (unhide HB) b6)
    clear b6
    go_wp2_with fail
    refine (costV _ w.heap.size v R p q true (by omega) (unhide OV) SR).mono ?_
    rw [SC]
    rintro e u7 ⟨rfl, b7⟩
    replace OV := hide ((unhide OV).below b7 (fun g hg => ((unhide OV).lt g hg).2))
    replace OA := hide ((unhide OA).below b7 (unhide OA).lt.2)
    replace HB := hide (next (unhide HB) b7)
    clear b7
    go_wp2_with fail
    refine (okV _ w.heap.size v R true (by omega) (unhide OV) SR).mono ?_
    rintro e u8 ⟨rfl, b8⟩
    replace OV := hide ((unhide OV).below b8 (fun g hg => ((unhide OV).lt g hg).2))
    replace OA := hide ((unhide OA).below b8 (unhide OA).lt.2)
    replace HB := hide (next (unhide HB) b8)
    clear b8
    clear SQ SC EQ1 EC1 TAL
    go_wp2
    go_loopw [16, 17] (fun i _ wr => ∃ (k : Nat), k ≤ ps.length ∧ i = .int .i64 k ∧ Hid (Own5 40 wr w.heap.size gA ps.length cA ps) ∧ Hid (OwnV 40 wr w.heap.size v R) ∧ Hid (Below w.heap.size w wr)) (fun i _ _ => ps.length - (intOf i).toNat)
    case atStart => exact ⟨0, by omega, rfl, OA, OV, HB⟩
    case round =>
      clear OA OV HB
      obtain ⟨k, hk, rfl, OA, OV, HB⟩ := hrel
      by_cases tk : k < ps.length
      · obtain ⟨e0, e1, e2, e3, e4⟩ := (unhide OA).at k tk
        have gAl := (unhide OA).lt.2
        generalize (el5 ps k).1 = x0 at *
        generalize (el5 ps k).2.1 = x1 at *
        generalize (el5 ps k).2.2.1 = x2 at *
        generalize (el5 ps k).2.2.2.1 = x3 at *
        generalize (el5 ps k).2.2.2.2 = x4 at *
        have nb := SOk5.one_more wr (.cells #[.int .i64 x0, .int .i64 x1, .int .i64 x2, .int .i64 x3, .int .i64 x4] 40)
        replace OA := hide ((unhide OA).below nb gAl)
        replace OV := hide ((unhide OV).below nb (fun g hg => ((unhide OV).lt g hg).2))
        have OL := hide (lit51 40 wr w.heap.size x0 x1 x2 x3 x4 (unhide HB).size)
        replace HB := hide (next (unhide HB) nb)
        have lof := of_len ps x0 x1 true
        go_wp2_with fail
        clear nb gAl e0 e1 e2 e3 e4
        generalize wr.alloc (.cells #[.int .i64 x0, .int .i64 x1, .int .i64 x2, .int .i64 x3, .int .i64 x4] 40) = u at *
        generalize wr.heap.size = xb at *
        clear SP oq oc CB LE t1 t2 w1 W1 W2 c0 TL CA ALL
        by_cases k1 : x0 = p
        · by_cases k2 : x1 = q
          · obtain rfl : p = x0 := k1.symm
            obtain rfl : q = x1 := k2.symm
            obtain ⟨c0, c1, c2, c3, c4⟩ := Cmp.at0 (Own5.at (unhide OL) 0 (by simp))
            go_quiet (fail)
            replace OA := hide (show Own5 40 (u.drewN nq) w.heap.size gA ps.length cA ps from unhide OA)
            replace OV := hide (show OwnV 40 (u.drewN nq) w.heap.size v R from unhide OV)
            replace HB := hide (below_drewN (unhide HB) nq)
            go_wp2
            go_roundw
            case rel => exact ⟨k + 1, by omega, by go_num, OA, OV, HB⟩
            case measure => simp [intOf]; omega
          obtain rfl : p = x0 := k1.symm
          have d2 : (x1 != q) = true := by simpa using k2
          have OX := (unhide OTH) p x1 (by omega)
          obtain ⟨c0, c1, c2, c3, c4⟩ := Cmp.at0 (Own5.at (unhide OL) 0 (by simp))
          replace OV := hide (show OwnV 40 u.drew w.heap.size v R from unhide OV)
          replace OA := hide (show Own5 40 u.drew w.heap.size gA ps.length cA ps from unhide OA)
          replace OL := hide (show Own5 40 u.drew w.heap.size xb 1 1 [(p, x1, x2, x3, x4)] from unhide OL)
          replace HB := hide ((unhide HB).drew)
          first
          | go_region_held3 (fun w' => w'.cell? ⟨xb, 0, none⟩ = some (.int .i64 p) ∧ w'.cell? ⟨xb, 1, none⟩ = some (.int .i64 x1) ∧ w'.cell? ⟨xb, 2, none⟩ = some (.int .i64 x2) ∧ w'.cell? ⟨xb, 3, none⟩ = some (.int .i64 x3) ∧ w'.cell? ⟨xb, 4, none⟩ = some (.int .i64 x4)) (first | exact ⟨c0, c1, c2, c3, c4⟩ | go_keep)
              (first | (go_at_call 25; refine (ofV u.drew w.heap.size v R p x1 true (by omega) (unhide OV) SR).mono ?_; rw [OX]; rintro e u21 ⟨gF, cF, rfl, oF, b21⟩; have OF := hide oF; clear oF; replace OV := hide ((unhide OV).below b21 (fun g hg => ((unhide OV).lt g hg).2)); replace OA := hide ((unhide OA).below b21 (unhide OA).lt.2); replace OL := hide ((unhide OL).below b21 (unhide OL).lt.2); replace HB := hide (next (unhide HB) b21); clear b21; obtain ⟨c0, c1, c2, c3, c4⟩ := Cmp.at0 (Own5.at (unhide OL) 0 (by simp))) | (go_at_call 26; refine (sOf _ gA ps.length cA ps p x1 true rfl (by omega) (unhide OA).lt.2 (unhide OA).at OK).mono ?_; rintro e u22 ⟨gS, cS, rfl, oS, b22⟩; have OS := hide oS; clear oS; replace OV := hide ((unhide OV).below b22 (fun g hg => ((unhide OV).lt g hg).2)); replace OA := hide ((unhide OA).below b22 (unhide OA).lt.2); replace OL := hide ((unhide OL).below b22 (unhide OL).lt.2); replace OF := hide ((unhide OF).below b22 (unhide OF).lt.2); replace HB := hide (next (unhide HB) b22); clear b22; obtain ⟨c0, c1, c2, c3, c4⟩ := Cmp.at0 (Own5.at (unhide OL) 0 (by simp))) | (go_at_call 24; refine (same _ gF gS cF cS (ofL ps p x1 true) (by omega) (unhide OF).lt.2 (unhide OS).lt.2 (unhide OF).at (unhide OS).at).mono ?_; rintro e u23 ⟨rfl, b23⟩; replace OV := hide ((unhide OV).below b23 (fun g hg => ((unhide OV).lt g hg).2)); replace OA := hide ((unhide OA).below b23 (unhide OA).lt.2); replace OL := hide ((unhide OL).below b23 (unhide OL).lt.2); replace HB := hide (next (unhide HB) b23); clear b23; obtain ⟨c0, c1, c2, c3, c4⟩ := Cmp.at0 (Own5.at (unhide OL) 0 (by simp))))
          | fail
          all_goals
            clear OX c0 c1 c2 c3 c4
            go_wp2
            go_roundw
            case rel => exact ⟨k + 1, by omega, by go_num, OA, OV, HB⟩
            case measure => simp [intOf]; omega
        · have d1 : (x0 != p) = true := by simpa using k1
          have OX := (unhide OTH) x0 x1 (by omega)
          obtain ⟨c0, c1, c2, c3, c4⟩ := Cmp.at0 (Own5.at (unhide OL) 0 (by simp))
          replace OV := hide (show OwnV 40 u.drew w.heap.size v R from unhide OV)
          replace OA := hide (show Own5 40 u.drew w.heap.size gA ps.length cA ps from unhide OA)
          replace OL := hide (show Own5 40 u.drew w.heap.size xb 1 1 [(x0, x1, x2, x3, x4)] from unhide OL)
          replace HB := hide ((unhide HB).drew)
          refine wp_region_held_drew (S := (fun w' => w'.cell? ⟨xb, 0, none⟩ = some (.int .i64 x0) ∧ w'.cell? ⟨xb, 1, none⟩ = some (.int .i64 x1) ∧ w'.cell? ⟨xb, 2, none⟩ = some (.int .i64 x2) ∧ w'.cell? ⟨xb, 3, none⟩ = some (.int .i64 x3) ∧ w'.cell? ⟨xb, 4, none⟩ = some (.int .i64 x4))) (by kernel_rfl) ⟨c0, c1, c2, c3, c4⟩ (fun hHeld => ?_)
          refine wpAnyH_take (i := 0) (oi := { dst := some 126, op := Op.fieldAddr 40 (Operand.tmp 17) 0, type := 0, pos := "laws.go:429", after := #[], guard := none }) (v := .pointer (some ⟨xb, 0, none⟩)) rfl (by kernel_rfl) (by kernel_rfl) (by kernel_rfl) (fun _ _ _ h => h) (Or.inl ⟨by rfl, fun w hSw => ?_⟩) hHeld ?_
          · (try dsimp only at hSw)
            go_simp
          try simp only [Act.put, List.setIfInBounds_toArray, List.set_cons_zero, List.set_cons_succ]
          refine wpAnyH_take (i := 1) (oi := { dst := some 127, op := Op.load 3 (Operand.tmp 126), type := 3, pos := "laws.go:429", after := #[{ on := 0, ground := Ground.data }], guard := none }) (v := .int .i64 x0) rfl (by kernel_rfl) (by kernel_rfl) (by kernel_rfl) (fun _ _ _ h => h) (Or.inl ⟨by rfl, fun w hSw => ?_⟩) hHeld ?_
          · (try dsimp only at hSw)
            go_simp
          try simp only [Act.put, List.setIfInBounds_toArray, List.set_cons_zero, List.set_cons_succ]
          refine wpAnyH_take (i := 2) (oi := { dst := some 128, op := Op.move (Operand.tmp 4), type := 3, pos := "laws.go:429", after := #[], guard := none }) (v := .int .i64 p) rfl (by kernel_rfl) (by kernel_rfl) (by kernel_rfl) (fun _ _ _ h => h) (Or.inl ⟨by rfl, fun w hSw => ?_⟩) hHeld ?_
          · (try dsimp only at hSw)
            go_simp
          try simp only [Act.put, List.setIfInBounds_toArray, List.set_cons_zero, List.set_cons_succ]
          refine wpAnyH_take (i := 3) (oi := { dst := some 129, op := Op.binOp BinOp.neq 3 (Operand.tmp 127) (Operand.tmp 128) 3, type := 4, pos := "laws.go:429", after := #[{ on := 1, ground := Ground.data }, { on := 2, ground := Ground.data }], guard := none }) (v := .bool true) rfl (by kernel_rfl) (by kernel_rfl) (by kernel_rfl) (fun _ _ _ h => h) (Or.inl ⟨by rfl, fun w hSw => ?_⟩) hHeld ?_
          · (try dsimp only at hSw)
            go_simp
          try simp only [Act.put, List.setIfInBounds_toArray, List.set_cons_zero, List.set_cons_succ]
          refine wpAnyH_take (i := 4) (oi := { dst := some 130, op := Op.move (Operand.tmp 129), type := 4, pos := "laws.go:429", after := #[{ on := 3, ground := Ground.data }], guard := none }) (v := .bool true) rfl (by kernel_rfl) (by kernel_rfl) (by kernel_rfl) (fun _ _ _ h => h) (Or.inl ⟨by rfl, fun w hSw => ?_⟩) hHeld ?_
          · (try dsimp only at hSw)
            go_simp
          try simp only [Act.put, List.setIfInBounds_toArray, List.set_cons_zero, List.set_cons_succ]
          refine wpAnyH_take (i := 5) (oi := { dst := some 131, op := Op.fieldAddr 40 (Operand.tmp 17) 1, type := 0, pos := "laws.go:429", after := #[{ on := 4, ground := Ground.guard }], guard := some (4, false) }) (v := undef) rfl (by kernel_rfl) (by kernel_rfl) (by kernel_rfl) (fun _ _ _ h => h) (Or.inr ⟨by rfl, rfl⟩) hHeld ?_
          try simp only [Act.put, List.setIfInBounds_toArray, List.set_cons_zero, List.set_cons_succ]
          refine wpAnyH_take (i := 6) (oi := { dst := some 132, op := Op.load 3 (Operand.tmp 131), type := 3, pos := "laws.go:429", after := #[{ on := 5, ground := Ground.data }, { on := 4, ground := Ground.guard }], guard := some (4, false) }) (v := undef) rfl (by kernel_rfl) (by kernel_rfl) (by kernel_rfl) (fun _ _ _ h => h) (Or.inr ⟨by rfl, rfl⟩) hHeld ?_
          try simp only [Act.put, List.setIfInBounds_toArray, List.set_cons_zero, List.set_cons_succ]
          refine wpAnyH_take (i := 7) (oi := { dst := some 133, op := Op.move (Operand.tmp 5), type := 3, pos := "laws.go:429", after := #[{ on := 4, ground := Ground.guard }], guard := some (4, false) }) (v := undef) rfl (by kernel_rfl) (by kernel_rfl) (by kernel_rfl) (fun _ _ _ h => h) (Or.inr ⟨by rfl, rfl⟩) hHeld ?_
          try simp only [Act.put, List.setIfInBounds_toArray, List.set_cons_zero, List.set_cons_succ]
          refine wpAnyH_take (i := 8) (oi := { dst := some 134, op := Op.binOp BinOp.neq 3 (Operand.tmp 132) (Operand.tmp 133) 3, type := 4, pos := "laws.go:429", after := #[{ on := 6, ground := Ground.data }, { on := 7, ground := Ground.data }, { on := 4, ground := Ground.guard }], guard := some (4, false) }) (v := undef) rfl (by kernel_rfl) (by kernel_rfl) (by kernel_rfl) (fun _ _ _ h => h) (Or.inr ⟨by rfl, rfl⟩) hHeld ?_
          try simp only [Act.put, List.setIfInBounds_toArray, List.set_cons_zero, List.set_cons_succ]
          refine wpAnyH_take (i := 9) (oi := { dst := some 135, op := Op.pick (Operand.tmp 130) (Operand.const (Value.bool true)) (Operand.tmp 134), type := 4, pos := "laws.go:429", after := #[{ on := 4, ground := Ground.data }, { on := 8, ground := Ground.data }], guard := none }) (v := .bool true) rfl (by kernel_rfl) (by kernel_rfl) (by kernel_rfl) (fun _ _ _ h => h) (Or.inl ⟨by rfl, fun w hSw => ?_⟩) hHeld ?_
          · (try dsimp only at hSw)
            go_simp
          try simp only [Act.put, List.setIfInBounds_toArray, List.set_cons_zero, List.set_cons_succ]
          refine wpAnyH_take (i := 10) (oi := { dst := some 136, op := Op.move (Operand.tmp 135), type := 4, pos := "laws.go:429", after := #[{ on := 9, ground := Ground.data }, { on := 4, ground := Ground.chain }], guard := none }) (v := .bool true) rfl (by kernel_rfl) (by kernel_rfl) (by kernel_rfl) (fun _ _ _ h => h) (Or.inl ⟨by rfl, fun w hSw => ?_⟩) hHeld ?_
          · (try dsimp only at hSw)
            go_simp
          try simp only [Act.put, List.setIfInBounds_toArray, List.set_cons_zero, List.set_cons_succ]
          refine wpAnyH_take (i := 11) (oi := { dst := some 137, op := Op.move (Operand.tmp 8), type := 24, pos := "laws.go:429", after := #[{ on := 10, ground := Ground.guard }], guard := some (10, true) }) (v := v) rfl (by kernel_rfl) (by kernel_rfl) (by kernel_rfl) (fun _ _ _ h => h) (Or.inl ⟨by rfl, fun w hSw => ?_⟩) hHeld ?_
          · (try dsimp only at hSw)
            go_simp
          try simp only [Act.put, List.setIfInBounds_toArray, List.set_cons_zero, List.set_cons_succ]
          refine wpAnyH_take (i := 12) (oi := { dst := some 138, op := Op.fieldAddr 40 (Operand.tmp 17) 0, type := 0, pos := "laws.go:429", after := #[{ on := 10, ground := Ground.guard }], guard := some (10, true) }) (v := .pointer (some ⟨xb, 0, none⟩)) rfl (by kernel_rfl) (by kernel_rfl) (by kernel_rfl) (fun _ _ _ h => h) (Or.inl ⟨by rfl, fun w hSw => ?_⟩) hHeld ?_
          · (try dsimp only at hSw)
            go_simp
          try simp only [Act.put, List.setIfInBounds_toArray, List.set_cons_zero, List.set_cons_succ]
          refine wpAnyH_take (i := 13) (oi := { dst := some 139, op := Op.load 3 (Operand.tmp 138), type := 3, pos := "laws.go:429", after := #[{ on := 12, ground := Ground.data }, { on := 10, ground := Ground.guard }], guard := some (10, true) }) (v := .int .i64 x0) rfl (by kernel_rfl) (by kernel_rfl) (by kernel_rfl) (fun _ _ _ h => h) (Or.inl ⟨by rfl, fun w hSw => ?_⟩) hHeld ?_
          · (try dsimp only at hSw)
            go_simp
          try simp only [Act.put, List.setIfInBounds_toArray, List.set_cons_zero, List.set_cons_succ]
          refine wpAnyH_take (i := 14) (oi := { dst := some 140, op := Op.fieldAddr 40 (Operand.tmp 17) 1, type := 0, pos := "laws.go:429", after := #[{ on := 10, ground := Ground.guard }], guard := some (10, true) }) (v := .pointer (some ⟨xb, 1, none⟩)) rfl (by kernel_rfl) (by kernel_rfl) (by kernel_rfl) (fun _ _ _ h => h) (Or.inl ⟨by rfl, fun w hSw => ?_⟩) hHeld ?_
          · (try dsimp only at hSw)
            go_simp
          try simp only [Act.put, List.setIfInBounds_toArray, List.set_cons_zero, List.set_cons_succ]
          refine wpAnyH_take (i := 15) (oi := { dst := some 141, op := Op.load 3 (Operand.tmp 140), type := 3, pos := "laws.go:429", after := #[{ on := 14, ground := Ground.data }, { on := 10, ground := Ground.guard }], guard := some (10, true) }) (v := .int .i64 x1) rfl (by kernel_rfl) (by kernel_rfl) (by kernel_rfl) (fun _ _ _ h => h) (Or.inl ⟨by rfl, fun w hSw => ?_⟩) hHeld ?_
          · (try dsimp only at hSw)
            go_simp
          try simp only [Act.put, List.setIfInBounds_toArray, List.set_cons_zero, List.set_cons_succ]
          refine wpAnyH_take (i := 17) (oi := { dst := some 143, op := Op.move (Operand.tmp 3), type := 24, pos := "laws.go:429", after := #[{ on := 10, ground := Ground.guard }], guard := some (10, true) }) (v := .slice (some ⟨gA, 0, none⟩) ps.length cA) rfl (by kernel_rfl) (by kernel_rfl) (by kernel_rfl) (fun _ _ _ h => h) (Or.inl ⟨by rfl, fun w hSw => ?_⟩) hHeld ?_
          · (try dsimp only at hSw)
            go_simp
          try simp only [Act.put, List.setIfInBounds_toArray, List.set_cons_zero, List.set_cons_succ]
          refine wpAnyH_take (i := 18) (oi := { dst := some 144, op := Op.fieldAddr 40 (Operand.tmp 17) 0, type := 0, pos := "laws.go:429", after := #[{ on := 10, ground := Ground.guard }], guard := some (10, true) }) (v := .pointer (some ⟨xb, 0, none⟩)) rfl (by kernel_rfl) (by kernel_rfl) (by kernel_rfl) (fun _ _ _ h => h) (Or.inl ⟨by rfl, fun w hSw => ?_⟩) hHeld ?_
          · (try dsimp only at hSw)
            go_simp
          try simp only [Act.put, List.setIfInBounds_toArray, List.set_cons_zero, List.set_cons_succ]
          refine wpAnyH_take (i := 19) (oi := { dst := some 145, op := Op.load 3 (Operand.tmp 144), type := 3, pos := "laws.go:429", after := #[{ on := 18, ground := Ground.data }, { on := 10, ground := Ground.guard }], guard := some (10, true) }) (v := .int .i64 x0) rfl (by kernel_rfl) (by kernel_rfl) (by kernel_rfl) (fun _ _ _ h => h) (Or.inl ⟨by rfl, fun w hSw => ?_⟩) hHeld ?_
          · (try dsimp only at hSw)
            go_simp
          try simp only [Act.put, List.setIfInBounds_toArray, List.set_cons_zero, List.set_cons_succ]
          refine wpAnyH_take (i := 20) (oi := { dst := some 146, op := Op.fieldAddr 40 (Operand.tmp 17) 1, type := 0, pos := "laws.go:429", after := #[{ on := 10, ground := Ground.guard }], guard := some (10, true) }) (v := .pointer (some ⟨xb, 1, none⟩)) rfl (by kernel_rfl) (by kernel_rfl) (by kernel_rfl) (fun _ _ _ h => h) (Or.inl ⟨by rfl, fun w hSw => ?_⟩) hHeld ?_
          · (try dsimp only at hSw)
            go_simp
          try simp only [Act.put, List.setIfInBounds_toArray, List.set_cons_zero, List.set_cons_succ]
          refine wpAnyH_take (i := 21) (oi := { dst := some 147, op := Op.load 3 (Operand.tmp 146), type := 3, pos := "laws.go:429", after := #[{ on := 20, ground := Ground.data }, { on := 10, ground := Ground.guard }], guard := some (10, true) }) (v := .int .i64 x1) rfl (by kernel_rfl) (by kernel_rfl) (by kernel_rfl) (fun _ _ _ h => h) (Or.inl ⟨by rfl, fun w hSw => ?_⟩) hHeld ?_
          · (try dsimp only at hSw)
            go_simp
          try simp only [Act.put, List.setIfInBounds_toArray, List.set_cons_zero, List.set_cons_succ]
          refine wpAnyH_ready (rs := [16]) (by kernel_rfl) (by simp) ?_
          refine AllReadyH.cons (o := { dst := some 142, op := Op.call { callee := Callee.value (Operand.func 25), args := #[Operand.tmp 137, Operand.tmp 139, Operand.tmp 141], argTypes := #[24, 3, 3] }, type := 24, pos := "laws.go:429", after := #[{ on := 11, ground := Ground.data }, { on := 13, ground := Ground.data }, { on := 15, ground := Ground.data }, { on := 10, ground := Ground.chain }, { on := 10, ground := Ground.guard }], guard := some (10, true) }) rfl (fun K hK => ?_) AllReadyH.nil
          go_simp
          refine (ofV u.drew w.heap.size v R x0 x1 true (by omega) (unhide OV) SR).mono ?_
          rw [OX]
          rintro e u21 ⟨gF, cF, rfl, oF, b21⟩
          have OF := hide oF
          clear oF
          replace OV := hide ((unhide OV).below b21 (fun g hg => ((unhide OV).lt g hg).2))
          replace OA := hide ((unhide OA).below b21 (unhide OA).lt.2)
          replace OL := hide ((unhide OL).below b21 (unhide OL).lt.2)
          replace HB := hide (next (unhide HB) b21)
          clear b21
          obtain ⟨c0, c1, c2, c3, c4⟩ := Cmp.at0 (Own5.at (unhide OL) 0 (by simp))
          go_wp2_with fail
          refine hK.out _ _ ⟨c0, c1, c2, c3, c4⟩ (fun hHeld => ?_)
          clear hK K
          try simp only [Act.put, List.setIfInBounds_toArray, List.set_cons_zero, List.set_cons_succ]
          refine wpAnyH_ready (rs := [22]) (by kernel_rfl) (by simp) ?_
          refine AllReadyH.cons (o := { dst := some 148, op := Op.call { callee := Callee.value (Operand.func 26), args := #[Operand.tmp 143, Operand.tmp 145, Operand.tmp 147], argTypes := #[24, 3, 3] }, type := 24, pos := "laws.go:429", after := #[{ on := 17, ground := Ground.data }, { on := 19, ground := Ground.data }, { on := 21, ground := Ground.data }, { on := 16, ground := Ground.chain }, { on := 10, ground := Ground.guard }], guard := some (10, true) }) rfl (fun K hK => ?_) AllReadyH.nil
          go_simp
          refine (sOf _ gA ps.length cA ps x0 x1 true rfl (by omega) (unhide OA).lt.2 (unhide OA).at OK).mono ?_
          rintro e u22 ⟨gS, cS, rfl, oS, b22⟩
          have OS := hide oS
          clear oS
          replace OV := hide ((unhide OV).below b22 (fun g hg => ((unhide OV).lt g hg).2))
          replace OA := hide ((unhide OA).below b22 (unhide OA).lt.2)
          replace OL := hide ((unhide OL).below b22 (unhide OL).lt.2)
          replace OF := hide ((unhide OF).below b22 (unhide OF).lt.2)
          replace HB := hide (next (unhide HB) b22)
          clear b22
          obtain ⟨c0, c1, c2, c3, c4⟩ := Cmp.at0 (Own5.at (unhide OL) 0 (by simp))
          go_wp2_with fail
          refine hK.out _ _ ⟨c0, c1, c2, c3, c4⟩ (fun hHeld => ?_)
          clear hK K
          try simp only [Act.put, List.setIfInBounds_toArray, List.set_cons_zero, List.set_cons_succ]
          refine wpAnyH_ready (rs := [23]) (by kernel_rfl) (by simp) ?_
          refine AllReadyH.cons (o := { dst := some 149, op := Op.call { callee := Callee.value (Operand.func 24), args := #[Operand.tmp 142, Operand.tmp 148], argTypes := #[24, 24] }, type := 4, pos := "laws.go:429", after := #[{ on := 16, ground := Ground.data }, { on := 22, ground := Ground.data }, { on := 22, ground := Ground.chain }, { on := 10, ground := Ground.guard }], guard := some (10, true) }) rfl (fun K hK => ?_) AllReadyH.nil
          go_simp
          refine (same _ gF gS cF cS (ofL ps x0 x1 true) (by omega) (unhide OF).lt.2 (unhide OS).lt.2 (unhide OF).at (unhide OS).at).mono ?_
          rintro e u23 ⟨rfl, b23⟩
          replace OV := hide ((unhide OV).below b23 (fun g hg => ((unhide OV).lt g hg).2))
          replace OA := hide ((unhide OA).below b23 (unhide OA).lt.2)
          replace OL := hide ((unhide OL).below b23 (unhide OL).lt.2)
          replace HB := hide (next (unhide HB) b23)
          clear b23
          obtain ⟨c0, c1, c2, c3, c4⟩ := Cmp.at0 (Own5.at (unhide OL) 0 (by simp))
          go_wp2_with fail
          refine hK.out _ _ ⟨c0, c1, c2, c3, c4⟩ (fun hHeld => ?_)
          clear hK K
          try simp only [Act.put, List.setIfInBounds_toArray, List.set_cons_zero, List.set_cons_succ]
          refine wpAnyH_take (i := 24) (oi := { dst := some 150, op := Op.unOp UnOp.not 4 (Operand.tmp 149), type := 4, pos := "laws.go:429", after := #[{ on := 23, ground := Ground.data }, { on := 10, ground := Ground.guard }], guard := some (10, true) }) (v := .bool false) rfl (by kernel_rfl) (by kernel_rfl) (by kernel_rfl) (fun _ _ _ h => h) (Or.inl ⟨by rfl, fun w hSw => ?_⟩) hHeld ?_
          · (try dsimp only at hSw)
            go_simp
          try simp only [Act.put, List.setIfInBounds_toArray, List.set_cons_zero, List.set_cons_succ]
          refine wpAnyH_take (i := 25) (oi := { dst := some 151, op := Op.pick (Operand.tmp 136) (Operand.tmp 150) (Operand.const (Value.bool false)), type := 4, pos := "laws.go:429", after := #[{ on := 10, ground := Ground.data }, { on := 24, ground := Ground.data }], guard := none }) (v := .bool false) rfl (by kernel_rfl) (by kernel_rfl) (by kernel_rfl) (fun _ _ _ h => h) (Or.inl ⟨by rfl, fun w hSw => ?_⟩) hHeld ?_
          · (try dsimp only at hSw)
            go_simp
          try simp only [Act.put, List.setIfInBounds_toArray, List.set_cons_zero, List.set_cons_succ]
          refine wpAnyH_done (by kernel_rfl) ?_ _
          all_goals
            clear OX c0 c1 c2 c3 c4
            go_wp2
            go_roundw
            case rel => exact ⟨k + 1, by omega, by go_num, OA, OV, HB⟩
            case measure => simp [intOf]; omega
      · by_cases tq : qv = t
        · obtain ⟨a1, a2⟩ := (unhide ALL) tq
          subst tq
          subst a2
          go_wp2_with fail
          refine (ofV _ w.heap.size v R p q true (by omega) (unhide OV) SR).mono ?_
          rw [a1]
          rintro e u9 ⟨gF, cF, rfl, oF, b9⟩
          replace HB := hide (next (unhide HB) b9)
          clear b9 oF
          go_wp2
          go_ret
          exact ⟨rfl, unhide HB⟩
        · have tqb : (qv == t) = false := by simpa using tq
          go_wp2
          go_ret
          exact ⟨rfl, unhide HB⟩
  · clear hc
    go_enter Try.func4, Try.ntmps4
    go_wp2_with (first | (go_at_call 15; go_in) | fail)
    go_ret
    exact ⟨rfl, Below.refl _ _⟩

set_option maxRecDepth 100000 in
theorem lifted (os : Os) (started : os.Started) (H : Type) (enc : TypeId × Value → H) :
    ReturnsInHanded {} Try.checked os 4 .any (Rows.fnTakeSpec.pre6 enc Try.prog Try.f4 Rows.fnTakeRow.domain false) (Rows.fnTakeSpec.post enc Try.prog Try.f4 false true false false) := by
  refine returnsInHanded_of_change (C := Try.checked) own started (by kernel_rfl) Try.func4
    (ChangeSpec.witness6 (enc := enc) (C := Try.checked) false ⟨#[], #[.slice none 0 0], []⟩ 8 (by kernel_rfl) (by kernel_rfl) (by kernel_rfl) (by kernel_rfl)) ?_
  intro W base args ds gs before hval0 hW hcnd _
  have hval : ∀ (j : Nat) t v, Try.f4.params[j]? = some t → args[j]? = some v → Value.okWide Try.prog W .any base t v := hval0
  have hW' := hW
  obtain ⟨p, q, hA0, hV, rfl, hfz, hnd⟩ := hW
  have hA : DataW.TrodAll enc Try.prog W 0 (fun _ => true) true Try.f4.params.toList args.toList ds p := hA0
  rw [Try.params4] at hA hval
  obtain ⟨v0, vs0, d0, ds0, p0, q0, hargs, rfl, rfl, h0, r0⟩ := trodAll_cons hA
  obtain ⟨rfl, rfl, rfl⟩ := trodAll_nil r0
  obtain rfl : args = #[v0] := by cases args; simp_all
  obtain ⟨rfl, rfl⟩ := trodVars_none hV
  obtain ⟨a0, len0, cap0, rfl⟩ := okWide_slice Try.underlying31 (hval 0 31 v0 rfl rfl)
  have k0 := h0
  have lt0 : ∀ x ∈ p0, x.block < W.heap.size := by obtain ⟨m, hm⟩ := k0; exact DataW.trod_lt m _ _ _ hm
  obtain ⟨z0, w0⟩ : ∃ zs, IsRow .u8 W a0 len0 cap0 zs := by
    obtain ⟨fuel, hf⟩ := h0
    rcases open_ints Try.underlying31 Try.underlying5 (by kernel_rfl) hf with ⟨hcs, _⟩ | ⟨x, l, c, zs, hcs, _, hl, hm, hz, _, hcell, hwz⟩
    · simp [Value.cells] at hcs
      obtain ⟨rfl, rfl, rfl⟩ := hcs
      exact ⟨[], .inl ⟨rfl, rfl, rfl, rfl⟩⟩
    · simp [Value.cells] at hcs
      obtain ⟨rfl, rfl, rfl⟩ := hcs
      exact ⟨zs, .inr ⟨_, rfl, hl, hm, by simpa using hz, hcell, hwz⟩⟩
  clear hA0 hval0
  refine (walk a0 len0 cap0 z0 W w0).mono fun e W' ⟨he, bel⟩ => ?_
  subst he
  exact ⟨_, rfl, _, _, _, [], _, [], hW', trodAll_mk1 (shut_bool Try.underlying4 _), (trodAll_cons_mk (Below.trod laidOut (by kernel_rfl) (of_decide_eq_true (by kernel_rfl)) k0 bel lt0) trodAll_mk0), rfl, bel.frame _, fun h => by cases h⟩

theorem over : Rows.fnTakeRow.holds Try.pinned (OpenSpec.ofChange Rows.fnTakeSpec) :=
  OpenClaim.holds_of_wide 4 Try.f4 rfl rfl rfl rfl rfl rfl rfl ⟨rfl, rfl, rfl, rfl, rfl⟩ rfl rfl rfl rfl rfl (by kernel_rfl) Try.func4 (by kernel_rfl)
    (of_decide_eq_true (by kernel_rfl)) (by unfold Func.isWrapper; first | (rw [if_pos (by decide +kernel)]; kernel_rfl) | (rw [if_neg (by decide +kernel)]; exact ⟨rfl, rfl⟩))
    (fun os started H enc _ => lifted os started H enc)

/-- The statement. -/
theorem proved : Rows.FnTakeSaid := over
#print axioms proved
end Go.Proofs.Ytdnpjjbphamcmaa.fnTake
