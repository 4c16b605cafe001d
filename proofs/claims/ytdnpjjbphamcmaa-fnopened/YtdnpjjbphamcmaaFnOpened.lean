/- For every row of bytes the law of openings returns true: a lot that is opened among the lots that the bytes draw adds its pieces and its cost to those of its account, and stands in its place. No condition. -/
import Derived.Test.YtdnpjjbphamcmaaRows
import Derived.WalkKit
import Derived.Test.YtdnpjjbphamcmaaLotMore2
import Derived.Test.YtdnpjjbphamcmaaSame5
import Derived.Test.YtdnpjjbphamcmaaDraw7L
import Derived.Test.YtdnpjjbphamcmaaIOpen
import Derived.ProofKit
import Derived.OpenShut
import Derived.ShutString
import Derived.ChangeOld
import Derived.Below
namespace Go.Proofs.Ytdnpjjbphamcmaa.fnOpened
open Go.ChangeShapes Go.WideShapes Go.ChangeAt Go.RowKit
open Go.ChangeMaps (open_string shut_string)
set_option linter.unusedVariables false
set_option linter.unusedSimpArgs false

theorem own : ownKnob Try.prog.godebug = none := by kernel_rfl
theorem laidOut : laidOutB Try.prog = true := by kernel_rfl

/-- A slice of integers that came in, with its cells. -/
def IsRow (k : IntKind) (w : World) (a : Option Addr) (len cap : Nat) (zs : List Int) : Prop :=
  (a = none ∧ len = 0 ∧ cap = 0 ∧ zs = []) ∨
  ∃ x, a = some x ∧ len ≤ cap ∧ cap ≤ maxLen ∧ zs.length = cap ∧ (∀ i, i < zs.length → w.cell? (x.add i) = some (.int k (zs.getD i 0))) ∧ ∀ n ∈ zs, (Lit.int k n).wf = true

open Tup5 Lots Takes SOpen IOpen Nil5 Same5 Draw7L LotMore LotMore2 Concat5 SOf IOf
open Draw (CodeAt)
open Quieter
open STake (own_cap)

/-- The bytes that came in, as the drawing functions want them. -/
theorem codeAt (w : World) (a : Option Addr) (len cap : Nat) (zs : List Int) (h : IsRow .u8 w a len cap zs) : CodeAt w a len := by
  rcases h with ⟨rfl, rfl, rfl, rfl⟩ | ⟨x, rfl, hl, hm, hz, hcell, hwz⟩
  · exact .inl rfl
  · by_cases z : len = 0
    · exact .inl z
    · obtain ⟨b, off, spot⟩ := x
      have hc := hcell 0 (by omega)
      have hspot : spot = none := by simpa [Addr.add] using World.cell?_spot hc
      subst hspot
      have hc0 : w.cell? ⟨b, off, none⟩ = some (.int .u8 (zs.getD 0 0)) := by simpa [Addr.add] using hc
      refine .inr ⟨b, off, zs, rfl, World.block_lt_of_cell? w _ hc0, fun i hi => ?_⟩
      have k := hcell i (by omega)
      have hw : (Lit.int .u8 (zs.getD i 0)).wf = true := hwz _ (by rw [List.getD_eq_getElem?_getD, List.getElem?_eq_getElem (by omega)]; exact List.getElem_mem _)
      have hb := bounds_u8 hw
      refine ⟨?_, by omega, by omega⟩
      by_cases z : i = 0
      · subst z; simpa [Addr.add] using k
      · simpa [Addr.add, z] using k

set_option maxRecDepth 100000 in
set_option maxHeartbeats 8000000 in
theorem walk (a0 : Option Addr) (len0 cap0 : Nat) (z0 : List Int) (w : World) (w0 : IsRow .u8 w a0 len0 cap0 z0) :
    Calls Try.prog 7 #[.slice a0 len0 cap0] w fun e w' => e = .returned (.bool true) ∧ Below w.heap.size w w' := by
  have hc := codeAt w a0 len0 cap0 z0 w0
  clear w0
  by_cases tl : (len0 : Int) ≤ 1048576
  · have HC := hide hc
    have TL : len0 ≤ 1048576 := by omega
    clear hc
    go_enter Try.func7, Try.ntmps7
    go_wp2_with (first | (go_at_call 15; go_in) | fail)
    refine (drawOpen _ a0 len0 cap0 TL (unhide HC)).mono ?_
    rintro e u0 ⟨ps, gA, cA, y0, y1, y2, y3, y4, rfl, oA, lA, b1⟩
    have CA := own_cap oA
    have CM : cA ≤ 9223372036854775807 := by have := CA.2; unfold maxLen at this; omega
    have LB := hide (lit51 40 u0 w.heap.size y0 y1 y2 y3 y4 b1.size)
    have OA := hide (oA.alloc (.cells #[.int .i64 y0, .int .i64 y1, .int .i64 y2, .int .i64 y3, .int .i64 y4] 40))
    have HB := hide (b1.alloc b1.size (.cells #[.int .i64 y0, .int .i64 y1, .int .i64 y2, .int .i64 y3, .int .i64 y4] 40))
    clear oA b1 HC
    obtain ⟨ok, OK⟩ := says_of (Right ps)
    obtain ⟨okl, OKL⟩ := says_of (One (y0, y1, y2, y3, y4))
    obtain ⟨R, HR⟩ : ∃ R, Hid (R = mergeL (ps.length + 1) ps [(y0, y1, y2, y3, y4)]) := ⟨_, rfl⟩
    obtain ⟨okn, OKN⟩ := says_of (Right R)
    have RLEN : R.length = ps.length + 1 := by rw [unhide HR, merge_len _ _ _ (by simp)]; simp
    have OLEN := open_len okl okn OK RLEN
    clear RLEN
    obtain ⟨d0, d1, d2, d3, d4⟩ := Cmp.at0 (Own5.at (unhide LB) 0 (by simp))
    go_wp2_with fail
    generalize u0.alloc (.cells #[.int .i64 y0, .int .i64 y1, .int .i64 y2, .int .i64 y3, .int .i64 y4] 40) = u1 at *
    generalize u0.heap.size = lb at *
    refine (iOpen _ gA ps.length cA ps R y0 y1 y2 y3 y4 ok okl okn HR rfl (by omega) CA.1 CM (unhide OA).lt.2 (unhide OA).at OK OKL OKN).mono ?_
    rintro e u2 ⟨gN, cN, rfl, oN, b2⟩
    have ON := hide (oN.rebase (base' := w.heap.size) (by have := oN.lt.1; have := (unhide HB).size; omega))
    clear oN
    replace OA := hide ((unhide OA).below b2 (unhide OA).lt.2)
    replace LB := hide ((unhide LB).below b2 (unhide LB).lt.2)
    replace HB := hide (next (unhide HB) b2)
    clear b2
    obtain ⟨d0, d1, d2, d3, d4⟩ := Cmp.at0 (Own5.at (unhide LB) 0 (by simp))
    go_wp2_with fail
    refine (sOpen _ gA ps.length cA ps R y0 y1 y2 y3 y4 ok okl okn HR rfl (by omega) (unhide OA).lt.2 (unhide OA).at OK OKL OKN).mono ?_
    rintro e u3 ⟨gM, cM, rfl, oM, b3⟩
    clear oM
    replace OA := hide ((unhide OA).below b3 (unhide OA).lt.2)
    replace LB := hide ((unhide LB).below b3 (unhide LB).lt.2)
    replace ON := hide ((unhide ON).below b3 (unhide ON).lt.2)
    replace HB := hide (next (unhide HB) b3)
    clear b3
    clear d0 d1 d2 d3 d4
    have BADCASE : (ok = false ∨ okl = false) → openA ps R ok okl okn = [] ∧ openC ok okl okn = 1 := open_bad ps R okn
    by_cases bd : ok = false ∨ okl = false
    · obtain ⟨E1, E2⟩ := BADCASE bd
      have E3 : (openA ps R ok okl okn).length = 0 := by rw [E1]; rfl
      rw [E2, E3]
      go_wp2
      go_ret
      exact ⟨rfl, unhide HB⟩
    obtain rfl : ok = true := by cases ok <;> simp_all
    obtain rfl : okl = true := by cases okl <;> simp_all
    clear BADCASE bd
    cases okn
    · have E1 : openA ps R true true false = ps := by simp [openA]
      have E2 : openC true true false = 3 := by simp [openC]
      rw [E1] at ON
      rw [E1, E2]
      go_wp2_with fail
      refine (same _ gN gA cN cA ps (by omega) (unhide ON).lt.2 (unhide OA).lt.2 (unhide ON).at (unhide OA).at).mono ?_
      rintro e u4 ⟨rfl, b4⟩
      replace HB := hide (next (unhide HB) b4)
      clear b4
      go_wp2
      go_ret
      exact ⟨rfl, unhide HB⟩
    have E1 : openA ps R true true true = R := by simp [openA]
    have E2 : openC true true true = 0 := by simp [openC]
    obtain ⟨SQ, SC, RL, t, tl1, te, to⟩ := opened (l := (y0, y1, y2, y3, y4)) (unhide HR) OKN.yes
    have RR := OKN.yes.1
    have QB := own_pos OKN.yes y0 y1
    have QP := own_pos OK.yes y0 y1
    have Q0 := sum_pos _ QP.1
    have Q1 : sumQ (ownL R y0 y1) ≤ 1000000000000000 := QB.2.1
    have Q2 : sumC (ownL R y0 y1) ≤ 1000000000000000 := QB.2.2
    have Y3 : 1 ≤ y3 ∧ y3 ≤ 1000000000000000 := OKL.yes.2.2.2.1
    have Y4 : 0 ≤ y4 ∧ y4 ≤ 1000000000000000 := OKL.yes.2.2.2.2
    have SQ : sumQ (ofL R y0 y1 true) = sumQ (ofL ps y0 y1 true) + y3 := SQ
    have SC : sumC (ofL R y0 y1 true) = sumC (ofL ps y0 y1 true) + y4 := SC
    have Q3 : 0 ≤ sumQ (ofL ps y0 y1 true) := Q0.1
    have Q4 : 0 ≤ sumC (ofL ps y0 y1 true) := Q0.2
    have Q1 : sumQ (ofL R y0 y1 true) ≤ 1000000000000000 := Q1
    have Q2 : sumC (ofL R y0 y1 true) ≤ 1000000000000000 := Q2
    have TT := hide (show ∃ t, t < (ofL R y0 y1 true).length ∧ el5 (ofL R y0 y1 true) t = (y0, y1, y2, y3, y4) ∧ ∀ j, j < (ofL R y0 y1 true).length → (j < t → (el5 (ofL R y0 y1 true) j).2.2.1 < y2) ∧ (t < j → y2 < (el5 (ofL R y0 y1 true) j).2.2.1) from ⟨t, tl1, te, to⟩)
    have lofR := of_len R y0 y1 true
    clear tl1 te to QB QP Q0
    replace ON := hide (show Own5 40 u3 w.heap.size gN R.length cN R from by have h := unhide ON; rw [E1] at h; exact h)
    rw [E1, E2]
    clear E1 E2
    have CN := (own_cap (unhide ON)).1
    have RLI : (R.length : Int) = (ps.length : Int) + 1 := by omega
    clear RL
    have WQ : IntKind.i64.wrap (sumQ (ofL ps y0 y1 true) + y3) = sumQ (ofL ps y0 y1 true) + y3 := by rw [IntKind.wrap_i64]; omega
    have WC : IntKind.i64.wrap (sumC (ofL ps y0 y1 true) + y4) = sumC (ofL ps y0 y1 true) + y4 := by rw [IntKind.wrap_i64]; omega
    have WL : IntKind.i64.wrap ((ps.length : Int) + 1) = (ps.length : Int) + 1 := by rw [IntKind.wrap_i64]; omega
    obtain ⟨d0, d1, d2, d3, d4⟩ := Cmp.at0 (Own5.at (unhide LB) 0 (by simp))
    have lbl := (unhide LB).lt.2
    have C0 : ∀ n : Near u3, n.u.cell? ⟨lb, 0, none⟩ = some (.int .i64 y0) := fun n => (n.b.cell (p := ⟨lb, 0, none⟩) lbl).trans d0
    have C1 : ∀ n : Near u3, n.u.cell? ⟨lb, 1, none⟩ = some (.int .i64 y1) := fun n => (n.b.cell (p := ⟨lb, 1, none⟩) lbl).trans d1
    have C3 : ∀ n : Near u3, n.u.cell? ⟨lb, 3, none⟩ = some (.int .i64 y3) := fun n => (n.b.cell (p := ⟨lb, 3, none⟩) lbl).trans d3
    have C4 : ∀ n : Near u3, n.u.cell? ⟨lb, 4, none⟩ = some (.int .i64 y4) := fun n => (n.b.cell (p := ⟨lb, 4, none⟩) lbl).trans d4
    have near := near_is u3
    have XN := hide (fun n : Near u3 => (unhide ON).at.below n.b (unhide ON).lt.2)
    have XA := hide (fun n : Near u3 => (unhide OA).at.below n.b (unhide OA).lt.2)
    have gNl := (unhide ON).lt.2
    have gAl := (unhide OA).lt.2
    go_wp2_with fail
    refine quiet_near (by kernel_rfl) (by kernel_rfl) ?_
    repeat (go_big_quiet_step (first | (go_at_call 21; rename_i nn; refine (iLotsQty nn.u gN R.length cN R y0 y1 true rfl (by omega) CN (Nat.lt_of_lt_of_le gNl nn.b.size) ((unhide XN) nn) OKN).mono ?_; rw [SQ]; rintro e u6 ⟨rfl, b6⟩; exact ⟨rfl, ⟨u6, next nn.b b6⟩, rfl⟩) | (go_at_call 22; rename_i nn; refine (iLotsCost nn.u gN R.length cN R y0 y1 true rfl (by omega) CN (Nat.lt_of_lt_of_le gNl nn.b.size) ((unhide XN) nn) OKN).mono ?_; rw [SC]; rintro e u6 ⟨rfl, b6⟩; exact ⟨rfl, ⟨u6, next nn.b b6⟩, rfl⟩) | (go_at_call 19; rename_i nn; refine (sLotsQty nn.u gA ps.length cA ps y0 y1 true rfl (by omega) (Nat.lt_of_lt_of_le gAl nn.b.size) ((unhide XA) nn) OK).mono ?_; rintro e u6 ⟨rfl, b6⟩; exact ⟨rfl, ⟨u6, next nn.b b6⟩, rfl⟩) | (go_at_call 20; rename_i nn; refine (sLotsCost nn.u gA ps.length cA ps y0 y1 true rfl (by omega) (Nat.lt_of_lt_of_le gAl nn.b.size) ((unhide XA) nn) OK).mono ?_; rintro e u6 ⟨rfl, b6⟩; exact ⟨rfl, ⟨u6, next nn.b b6⟩, rfl⟩)))
    refine wpQuiet_nil ?_
    rintro u9 ⟨⟨_, b9⟩, rfl⟩
    replace ON := hide ((unhide ON).below b9 (unhide ON).lt.2)
    replace LB := hide ((unhide LB).below b9 (unhide LB).lt.2)
    replace HB := hide (next (unhide HB) b9)
    clear b9 near XN XA C0 C1 C3 C4 d0 d1 d2 d3 d4 WQ WC WL SQ SC OA gAl gNl lbl
    obtain ⟨d0, d1, d2, d3, d4⟩ := Cmp.at0 (Own5.at (unhide LB) 0 (by simp))
    go_wp2_with fail
    refine (iOf _ gN R.length cN R y0 y1 true rfl (by omega) CN (unhide ON).lt.2 (unhide ON).at OKN).mono ?_
    rintro e u10 ⟨gW, cW, rfl, oW, b10⟩
    have OW := hide oW
    replace LB := hide ((unhide LB).below b10 (unhide LB).lt.2)
    replace HB := hide (next (unhide HB) b10)
    clear oW b10 ON d0 d1 d2 d3 d4
    generalize ofL R y0 y1 true = O at *
    obtain ⟨t, tO, te, to⟩ := unhide TT
    have TE := hide te
    have TO := hide to
    clear TT te to
    have lbl := (unhide LB).lt.2
    have gWl := (unhide OW).lt.2
    obtain ⟨d0, d1, d2, d3, d4⟩ := Cmp.at0 (Own5.at (unhide LB) 0 (by simp))
    go_wp2
    go_loopw [10, 11, 12] (fun av fv i wr => ∃ (k : Nat) (at1 af1 : Int), k ≤ O.length ∧ ((k ≤ t ∧ at1 = -1 ∧ af1 = -1) ∨ (k = t + 1 ∧ at1 = t ∧ af1 = -1) ∨ (t + 1 < k ∧ at1 = t ∧ af1 = (t : Int) + 1)) ∧ i = .int .i64 k ∧ av = .int .i64 at1 ∧ fv = .int .i64 af1 ∧ Hid (∃ q, wr = u10.drewN q)) (fun _ _ i _ => O.length - (intOf i).toNat)
    case atStart => exact ⟨0, -1, -1, by omega, .inl ⟨by omega, rfl, rfl⟩, rfl, rfl, rfl, hide ⟨0, rfl⟩⟩
    case round =>
      obtain ⟨k, at1, af1, hk, hd, rfl, rfl, rfl, HQ⟩ := hrel
      have WB := hide (show Below u10.heap.size u10 wr from by obtain ⟨q, rfl⟩ := unhide HQ; exact below_drewN (Below.refl _ _) q)
      by_cases tk : k < O.length
      · obtain ⟨e0, e1, e2, e3, e4⟩ := ((unhide OW).below (unhide WB) gWl).at k tk
        have c0 := ((unhide WB).cell (p := ⟨lb, 0, none⟩) lbl).trans d0
        have c1 := ((unhide WB).cell (p := ⟨lb, 1, none⟩) lbl).trans d1
        have c2 := ((unhide WB).cell (p := ⟨lb, 2, none⟩) lbl).trans d2
        have c3 := ((unhide WB).cell (p := ⟨lb, 3, none⟩) lbl).trans d3
        have c4 := ((unhide WB).cell (p := ⟨lb, 4, none⟩) lbl).trans d4
        have NO := (unhide TO) k tk
        have TK : k = t → ((el5 O k).1, (el5 O k).2.1, (el5 O k).2.2.1, (el5 O k).2.2.2.1, (el5 O k).2.2.2.2) = (y0, y1, y2, y3, y4) := fun e => by rw [e]; exact unhide TE
        generalize (el5 O k).1 = x0 at *
        generalize (el5 O k).2.1 = x1 at *
        generalize (el5 O k).2.2.1 = x2 at *
        generalize (el5 O k).2.2.2.1 = x3 at *
        generalize (el5 O k).2.2.2.2 = x4 at *
        have GU := guardLot
        have kn : (k : Int) < (O.length : Int) := by omega
        clear d0 d1 d2 d3 d4
        have NE : x2 ≠ y2 → eq5 (x0, x1, x2, x3, x4) (y0, y1, y2, y3, y4) = false := fun h => by
          cases hq : eq5 (x0, x1, x2, x3, x4) (y0, y1, y2, y3, y4)
          · rfl
          · have := (eq5_iff _ _).1 hq
            simp only [Prod.mk.injEq] at this
            exact absurd this.2.2.1 h
        rcases hd with ⟨h1, rfl, rfl⟩ | ⟨h1, rfl, rfl⟩ | ⟨h1, rfl, rfl⟩
        · by_cases kt : k = t
          · have EB := TK kt
            have KT := hide kt
            clear kt
            simp only [Prod.mk.injEq] at EB
            obtain ⟨rfl, rfl, rfl, rfl, rfl⟩ := EB
            have EQ : ∀ w : World, (Op.equalIn 10000 40 (.agg #[.int .i64 x0, .int .i64 x1, .int .i64 x2, .int .i64 x3, .int .i64 x4]) (.agg #[.int .i64 x0, .int .i64 x1, .int .i64 x2, .int .i64 x3, .int .i64 x4])).run Try.prog w = .ok true w := fun w => by
              rw [eqLot, (eq5_iff _ _).2 rfl]
            clear NE NO TK
            go_wp2_with fail
            go_quiet (fail)
            have e2 : (wr.drewN nq).cell? _ = _ := e2
            have c2 : (wr.drewN nq).cell? _ = _ := c2
            replace HQ := hide (drewN_more (unhide HQ) nq)
            clear WB e0 e1 e3 e4 c0 c1 c3 c4 EQ
            generalize wr.drewN nq = w2 at *
            go_wp2_with fail
            go_quiet (fail)
            replace HQ := hide (drewN_more (unhide HQ) nq)
            go_wp2
            go_roundw
            case rel => exact ⟨k + 1, (k : Int), -1, by omega, .inr (.inl ⟨by have := unhide KT; omega, by have := unhide KT; omega, rfl⟩), by go_num, rfl, rfl, HQ⟩
            case measure => simp [intOf]; omega
          · have LT := NO.1 (by omega)
            have EQ : ∀ w : World, (Op.equalIn 10000 40 (.agg #[.int .i64 x0, .int .i64 x1, .int .i64 x2, .int .i64 x3, .int .i64 x4]) (.agg #[.int .i64 y0, .int .i64 y1, .int .i64 y2, .int .i64 y3, .int .i64 y4])).run Try.prog w = .ok false w := fun w => by
              rw [eqLot, NE (by omega)]
            clear NE
            clear NO TK
            go_wp2_with fail
            go_quiet (fail)
            have e2 : (wr.drewN nq).cell? _ = _ := e2
            have c2 : (wr.drewN nq).cell? _ = _ := c2
            replace HQ := hide (drewN_more (unhide HQ) nq)
            clear WB e0 e1 e3 e4 c0 c1 c3 c4 EQ
            generalize wr.drewN nq = w2 at *
            go_wp2_with fail
            have n1 : ¬ y2 < x2 := by omega
            have n2 : decide (y2 < x2) = false := decide_eq_false n1
            go_quiet (fail)
            replace HQ := hide (drewN_more (unhide HQ) nq)
            go_wp2
            go_roundw
            case rel => exact ⟨k + 1, -1, -1, by omega, .inl ⟨by omega, rfl, rfl⟩, by go_num, rfl, rfl, HQ⟩
            case measure => simp [intOf]; omega
        · have LT := NO.2 (by omega)
          have H1 := hide h1
          clear h1
          have EQ : ∀ w : World, (Op.equalIn 10000 40 (.agg #[.int .i64 x0, .int .i64 x1, .int .i64 x2, .int .i64 x3, .int .i64 x4]) (.agg #[.int .i64 y0, .int .i64 y1, .int .i64 y2, .int .i64 y3, .int .i64 y4])).run Try.prog w = .ok false w := fun w => by
            rw [eqLot, NE (by omega)]
          clear NE
          clear NO TK
          go_wp2_with fail
          go_quiet (fail)
          have e2 : (wr.drewN nq).cell? _ = _ := e2
          have c2 : (wr.drewN nq).cell? _ = _ := c2
          replace HQ := hide (drewN_more (unhide HQ) nq)
          clear WB e0 e1 e3 e4 c0 c1 c3 c4 EQ
          generalize wr.drewN nq = w2 at *
          go_wp2_with fail
          have n2 : decide (y2 < x2) = true := decide_eq_true LT
          go_quiet (fail)
          replace HQ := hide (drewN_more (unhide HQ) nq)
          go_wp2
          go_roundw
          case rel => exact ⟨k + 1, (t : Int), (k : Int), by omega, .inr (.inr ⟨by have := unhide H1; omega, rfl, by have := unhide H1; omega⟩), by go_num, rfl, rfl, HQ⟩
          case measure => simp [intOf]; omega
        · have LT := NO.2 (by omega)
          have EQ : ∀ w : World, (Op.equalIn 10000 40 (.agg #[.int .i64 x0, .int .i64 x1, .int .i64 x2, .int .i64 x3, .int .i64 x4]) (.agg #[.int .i64 y0, .int .i64 y1, .int .i64 y2, .int .i64 y3, .int .i64 y4])).run Try.prog w = .ok false w := fun w => by
            rw [eqLot, NE (by omega)]
          clear NE
          clear NO TK
          go_wp2_with fail
          go_quiet (fail)
          have e2 : (wr.drewN nq).cell? _ = _ := e2
          have c2 : (wr.drewN nq).cell? _ = _ := c2
          replace HQ := hide (drewN_more (unhide HQ) nq)
          clear WB e0 e1 e3 e4 c0 c1 c3 c4 EQ
          generalize wr.drewN nq = w2 at *
          go_wp2_with fail
          have n2 : decide (y2 < x2) = true := decide_eq_true LT
          have n3 : ¬ (t : Int) + 1 < 0 := by omega
          have n4 : decide ((t : Int) + 1 < 0) = false := decide_eq_false n3
          go_quiet (fail)
          replace HQ := hide (drewN_more (unhide HQ) nq)
          go_wp2
          go_roundw
          case rel => exact ⟨k + 1, (t : Int), (t : Int) + 1, by omega, .inr (.inr ⟨by omega, rfl, rfl⟩), by go_num, rfl, rfl, HQ⟩
          case measure => simp [intOf]; omega
      · have HB2 := hide (next (unhide HB) (unhide WB))
        have kn : ¬ (k : Int) < (O.length : Int) := by omega
        clear d0 d1 d2 d3 d4 WB
        rcases hd with ⟨h1, rfl, rfl⟩ | ⟨h1, rfl, rfl⟩ | ⟨h1, rfl, rfl⟩
        · omega
        · have p1 : (0 : Int) ≤ (t : Int) := by omega
          go_wp2
          go_ret
          exact ⟨rfl, unhide HB2⟩
        · have p1 : (0 : Int) ≤ (t : Int) := by omega
          have p2 : ¬ (t : Int) + 1 < 0 := by omega
          have p3 : IntKind.i64.wrap ((t : Int) + 1) = (t : Int) + 1 := by rw [IntKind.wrap_i64]; omega
          go_wp2
          go_ret
          exact ⟨rfl, unhide HB2⟩
  · clear hc
    go_enter Try.func7, Try.ntmps7
    go_wp2_with (first | (go_at_call 15; go_in) | fail)
    go_ret
    exact ⟨rfl, Below.refl _ _⟩

set_option maxRecDepth 100000 in
theorem lifted (os : Os) (started : os.Started) (H : Type) (enc : TypeId × Value → H) :
    ReturnsInHanded {} Try.checked os 7 .any (Rows.fnOpenedSpec.pre6 enc Try.prog Try.f7 Rows.fnOpenedRow.domain false) (Rows.fnOpenedSpec.post enc Try.prog Try.f7 false true false false) := by
  refine returnsInHanded_of_change (C := Try.checked) own started (by kernel_rfl) Try.func7
    (ChangeSpec.witness6 (enc := enc) (C := Try.checked) false ⟨#[], #[.slice none 0 0], []⟩ 8 (by kernel_rfl) (by kernel_rfl) (by kernel_rfl) (by kernel_rfl)) ?_
  intro W base args ds gs before hval0 hW hcnd _
  have hval : ∀ (j : Nat) t v, Try.f7.params[j]? = some t → args[j]? = some v → Value.okWide Try.prog W .any base t v := hval0
  have hW' := hW
  obtain ⟨p, q, hA0, hV, rfl, hfz, hnd⟩ := hW
  have hA : DataW.TrodAll enc Try.prog W 0 (fun _ => true) true Try.f7.params.toList args.toList ds p := hA0
  rw [Try.params7] at hA hval
  obtain ⟨v0, vs0, d0, ds0, p0, q0, hargs, rfl, rfl, h0, r0⟩ := trodAll_cons hA
  obtain ⟨rfl, rfl, rfl⟩ := trodAll_nil r0
  obtain rfl : args = #[v0] := by cases args; simp_all
  obtain ⟨rfl, rfl⟩ := trodVars_none hV
  obtain ⟨a0, len0, cap0, rfl⟩ := okWide_slice Try.underlying31 (hval 0 31 v0 rfl rfl)
  have k0 := h0
  have lt0 : ∀ x ∈ p0, x.block < W.heap.size := by obtain ⟨m, hm⟩ := k0; exact DataW.trod_lt m _ _ _ hm
  obtain ⟨z0, w0⟩ : ∃ zs, IsRow .u8 W a0 len0 cap0 zs := by
    obtain ⟨fuel, hf⟩ := h0
    rcases open_ints Try.underlying31 Try.underlying5 (by kernel_rfl) hf with ⟨hcs, _⟩ | ⟨x, l, c, zs, hcs, _, hl, hm, hz, _, hcell, hwz⟩
    · simp [Value.cells] at hcs
      obtain ⟨rfl, rfl, rfl⟩ := hcs
      exact ⟨[], .inl ⟨rfl, rfl, rfl, rfl⟩⟩
    · simp [Value.cells] at hcs
      obtain ⟨rfl, rfl, rfl⟩ := hcs
      exact ⟨zs, .inr ⟨_, rfl, hl, hm, by simpa using hz, hcell, hwz⟩⟩
  clear hA0 hval0
  refine (walk a0 len0 cap0 z0 W w0).mono fun e W' ⟨he, bel⟩ => ?_
  subst he
  exact ⟨_, rfl, _, _, _, [], _, [], hW', trodAll_mk1 (shut_bool Try.underlying4 _), (trodAll_cons_mk (Below.trod laidOut (by kernel_rfl) (of_decide_eq_true (by kernel_rfl)) k0 bel lt0) trodAll_mk0), rfl, bel.frame _, fun h => by cases h⟩

theorem over : Rows.fnOpenedRow.holds Try.pinned (OpenSpec.ofChange Rows.fnOpenedSpec) :=
  OpenClaim.holds_of_wide 7 Try.f7 rfl rfl rfl rfl rfl rfl rfl ⟨rfl, rfl, rfl, rfl, rfl⟩ rfl rfl rfl rfl rfl (by kernel_rfl) Try.func7 (by kernel_rfl)
    (of_decide_eq_true (by kernel_rfl)) (by unfold Func.isWrapper; first | (rw [if_pos (by decide +kernel)]; kernel_rfl) | (rw [if_neg (by decide +kernel)]; exact ⟨rfl, rfl⟩))
    (fun os started H enc _ => lifted os started H enc)

/-- The statement. -/
theorem proved : Rows.FnOpenedSaid := over
#print axioms proved
end Go.Proofs.Ytdnpjjbphamcmaa.fnOpened
