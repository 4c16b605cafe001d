/- For every row of bytes the law of puts returns true: a balance that is put into the balances that the bytes draw is told, and turns no other one; put as nothing it is gone. No condition. -/
import Derived.Test.YtnfopmmkecdmgaaRows
import Derived.WalkKit
import Derived.Test.YtnfopmmkecdmgaaLook
import Derived.Test.YtnfopmmkecdmgaaDraw5
import Derived.Test.YtnfopmmkecdmgaaPut
import Derived.Test.YtnfopmmkecdmgaaPutMore
import Derived.Test.YtnfopmmkecdmgaaQuieter
import Derived.ProofKit
import Derived.OpenShut
import Derived.ShutString
import Derived.ChangeOld
import Derived.Below
namespace Go.Proofs.Ytnfopmmkecdmgaa.fnBalPut
open Go.ChangeShapes Go.WideShapes Go.ChangeAt Go.RowKit
open Go.ChangeMaps (open_string shut_string)
set_option linter.unusedVariables false
set_option linter.unusedSimpArgs false

theorem own : ownKnob Try.prog.godebug = none := by kernel_rfl
theorem laidOut : laidOutB Try.prog = true := by kernel_rfl

/-- A slice of integers that came in, with its cells. -/
def IsRow (k : IntKind) (w : World) (a : Option Addr) (len cap : Nat) (zs : List Int) : Prop :=
  (a = none ∧ len = 0 ∧ cap = 0 ∧ zs = []) ∨
  ∃ x, a = some x ∧ len ≤ cap ∧ cap ≤ maxLen ∧ zs.length = cap ∧ (∀ i, i < zs.length → w.cell? (x.add i) = some (.int k (zs.getD i 0))) ∧ ∀ n ∈ zs, (Lit.int k n).wf = true

open Bals Triples Tab Look Put Draw5 PutMore
open Draw (CodeAt)
open Quieter

/-- The bytes that came in, as the drawing functions want them. -/
theorem codeAt (w : World) (a : Option Addr) (len cap : Nat) (zs : List Int) (h : IsRow .u8 w a len cap zs) : CodeAt w a len := by
  rcases h with ⟨rfl, rfl, rfl, rfl⟩ | ⟨x, rfl, hl, hm, hz, hcell, hwz⟩
  · exact .inl rfl
  · by_cases z : len = 0
    · exact .inl z
    · obtain ⟨b, off, spot⟩ := x
      have hc := hcell 0 (by omega)
      have hspot : spot = none := by simpa [Addr.add] using World.cell?_spot hc
      subst hspot
      have hc0 : w.cell? ⟨b, off, none⟩ = some (.int .u8 (zs.getD 0 0)) := by simpa [Addr.add] using hc
      refine .inr ⟨b, off, zs, rfl, World.block_lt_of_cell? w _ hc0, fun i hi => ?_⟩
      have k := hcell i (by omega)
      have hw : (Lit.int .u8 (zs.getD i 0)).wf = true := hwz _ (by rw [List.getD_eq_getElem?_getD, List.getElem?_eq_getElem (by omega)]; exact List.getElem_mem _)
      have hb := bounds_u8 hw
      refine ⟨?_, by omega, by omega⟩
      by_cases z : i = 0
      · subst z; simpa [Addr.add] using k
      · simpa [Addr.add, z] using k

set_option maxRecDepth 100000 in
set_option maxHeartbeats 8000000 in
theorem walk (a0 : Option Addr) (len0 cap0 : Nat) (z0 : List Int) (w : World) (w0 : IsRow .u8 w a0 len0 cap0 z0) :
    Calls Try.prog 5 #[.slice a0 len0 cap0] w fun e w' => e = .returned (.bool true) ∧ Below w.heap.size w w' := by
  have hc := codeAt w a0 len0 cap0 z0 w0
  clear w0
  by_cases tl : (len0 : Int) ≤ 1048576
  · have HC := hide hc
    have TL : len0 ≤ 1048576 := by omega
    clear hc
    go_enter Try.func5, Try.ntmps5
    go_wp2_with (first | (go_at_call 6; go_in) | fail)
    refine (drawPut _ a0 len0 cap0 TL (unhide HC)).mono ?_
    rintro e u1 ⟨ps, gA, cA, p, q, r, rfl, oA, lA, b1⟩
    have OA := hide oA
    have HB := hide b1
    clear oA b1
    go_wp2_with fail
    refine (iBalPut _ gA ps.length cA ps p q r rfl (by omega) (unhide OA).lt.2 (unhide OA).at).mono ?_
    rintro e u2 ⟨qs, ok, gN, cN, hp, rfl, oN, b2⟩
    have HP := hide hp
    have qn := hp.len
    have OA := hide ((unhide OA).below b2 (unhide OA).lt.2)
    have ON := hide (oN.rebase (base' := w.heap.size) (by have := oN.lt.1; have := (unhide HB).size; omega))
    have HB := hide (next (unhide HB) b2)
    clear hp oN b2
    go_wp2_with fail
    refine (sBalPut _ gA ps.length cA ps p q r rfl (by omega) (unhide OA).lt.2 (unhide OA).at).mono ?_
    rintro e u3 ⟨qs', ok', gM, cM, hp, rfl, oM, b3⟩
    obtain ⟨rfl, rfl⟩ := (unhide HP).same hp
    have OA := hide ((unhide OA).below b3 (unhide OA).lt.2)
    have ON := hide ((unhide ON).below b3 (unhide ON).lt.2)
    have HB := hide (next (unhide HB) b3)
    clear hp oM b3
    cases ok
    · obtain rfl := put_none (unhide HP)
      go_wp2
      go_ret
      exact ⟨rfl, unhide HB⟩
    obtain ⟨RP, NP, NQ, AR, RQ, LQ⟩ := put_yes (unhide HP)
    have RP := hide RP
    have SQ : Says true (Right qs) := ⟨fun _ => RQ, fun _ => rfl⟩
    have WPQ := wf_no NP NQ
    go_wp2
    go_loopw [11, 12] (fun i _ wr => ∃ (k : Nat), k ≤ ps.length ∧ i = .int .i64 k ∧ Hid (Own3 44 wr w.heap.size gA ps.length cA ps) ∧ Hid (Own3 44 wr w.heap.size gN qs.length cN qs) ∧ Hid (Below w.heap.size w wr)) (fun i _ _ => ps.length - (intOf i).toNat)
    case atStart => exact ⟨0, by omega, rfl, OA, ON, HB⟩
    case round =>
      clear OA ON HB
      obtain ⟨k, hk, rfl, OA, ON, HB⟩ := hrel
      by_cases t : k < ps.length
      · obtain ⟨e1, e2, e3⟩ := (unhide OA).at k t
        have KK := hide (show ¬ ((el3 ps k).1 = p ∧ (el3 ps k).2.1 = q) → val qs (el3 ps k).1 (el3 ps k).2.1 = (el3 ps k).2.2 from fun h => put_keeps (unhide HP) t h)
        obtain ⟨n1, n2, _⟩ := (unhide RP).2 k t
        have WXY := wf_no n1 n2
        have gAl := (unhide OA).lt.2
        have gNl := (unhide ON).lt.2
        clear n1 n2
        generalize (el3 ps k).1 = x at *
        generalize (el3 ps k).2.1 = y at *
        generalize (el3 ps k).2.2 = z at *
        have nb := SOk3.one_more wr (.cells #[.int .i64 x, .int .i64 y, .int .i64 z] 44)
        have O1 := hide ((unhide OA).below nb gAl)
        have N1 := hide ((unhide ON).below nb gNl)
        have B1 := hide (next (unhide HB) nb)
        go_wp2_with fail
        have d0 : (wr.alloc (.cells #[.int .i64 x, .int .i64 y, .int .i64 z] 44)).cell? ⟨wr.heap.size, 0, none⟩ = some (.int .i64 x) := by simp
        have d1 : (wr.alloc (.cells #[.int .i64 x, .int .i64 y, .int .i64 z] 44)).cell? ⟨wr.heap.size, 1, none⟩ = some (.int .i64 y) := by simp
        have d2 : (wr.alloc (.cells #[.int .i64 x, .int .i64 y, .int .i64 z] 44)).cell? ⟨wr.heap.size, 2, none⟩ = some (.int .i64 z) := by simp
        have dl : wr.heap.size < (wr.alloc (.cells #[.int .i64 x, .int .i64 y, .int .i64 z] 44)).heap.size := by simp
        clear e1 e2 e3 OA ON HB nb gAl gNl
        generalize wr.alloc (.cells #[.int .i64 x, .int .i64 y, .int .i64 z] 44) = u at *
        generalize wr.heap.size = xb at *
        by_cases eq : x = p ∧ y = q
        · obtain ⟨rfl, rfl⟩ := eq
          go_quiet (fail)
          have O2 := hide (show Own3 44 (u.drewN nq) w.heap.size gA ps.length cA ps from unhide O1)
          have N2 := hide (show Own3 44 (u.drewN nq) w.heap.size gN qs.length cN qs from unhide N1)
          have B2 := hide (below_drewN (unhide B1) nq)
          go_wp2
          go_roundw
          case rel => exact ⟨k + 1, by omega, by go_num, O2, N2, B2⟩
          case measure => simp [intOf]; omega
        · have gNl := (unhide N1).lt.2
          have BOF := hide (show ∀ n : Near u, Calls Try.prog 13 #[.slice (some ⟨gN, 0, none⟩) qs.length cN, .int .i64 x, .int .i64 y] n.u fun e w' => e = .returned (.int .i64 z) ∧ Below n.u.heap.size n.u w' from fun n => by
            have c := iBalOf n.u gN qs.length cN qs x y true rfl (by omega) (Nat.lt_of_lt_of_le gNl n.b.size) ((unhide N1).below n.b gNl).at SQ WXY
            have e : told qs x y true = z := (unhide KK) eq
            rw [e] at c
            exact c)
          have near := near_is u
          have C0 : ∀ n : Near u, n.u.cell? ⟨xb, 0, none⟩ = some (.int .i64 x) := fun n => (n.b.cell (p := ⟨xb, 0, none⟩) dl).trans d0
          have C1 : ∀ n : Near u, n.u.cell? ⟨xb, 1, none⟩ = some (.int .i64 y) := fun n => (n.b.cell (p := ⟨xb, 1, none⟩) dl).trans d1
          have C2 : ∀ n : Near u, n.u.cell? ⟨xb, 2, none⟩ = some (.int .i64 z) := fun n => (n.b.cell (p := ⟨xb, 2, none⟩) dl).trans d2
          rcases (show x ≠ p ∨ (x = p ∧ y ≠ q) by omega) with o2 | ⟨rfl, o2⟩
          · have ob : (x != p) = true := by simpa using o2
            refine quiet_near (by kernel_rfl) (by kernel_rfl) ?_
            repeat (go_big_quiet_step (first
              | (rename_i nn
                 refine ((unhide BOF) nn).mono ?_
                 rintro e u6 ⟨rfl, b6⟩
                 exact ⟨rfl, ⟨u6, next nn.b b6⟩, rfl⟩)))
            refine wpQuiet_nil ?_
            rintro _ ⟨⟨u6, hb6⟩, rfl⟩
            have O2 := hide ((unhide O1).below hb6 (unhide O1).lt.2)
            have N2 := hide ((unhide N1).below hb6 (unhide N1).lt.2)
            have B2 := hide (next (unhide B1) hb6)
            clear hb6
            go_wp2
            go_roundw
            case rel => exact ⟨k + 1, by omega, by go_num, O2, N2, B2⟩
            case measure => simp [intOf]; omega
          · have ob : (y != q) = true := by simpa using o2
            refine quiet_near (by kernel_rfl) (by kernel_rfl) ?_
            repeat (go_big_quiet_step (first
              | (rename_i nn
                 refine ((unhide BOF) nn).mono ?_
                 rintro e u6 ⟨rfl, b6⟩
                 exact ⟨rfl, ⟨u6, next nn.b b6⟩, rfl⟩)))
            refine wpQuiet_nil ?_
            rintro _ ⟨⟨u6, hb6⟩, rfl⟩
            have O2 := hide ((unhide O1).below hb6 (unhide O1).lt.2)
            have N2 := hide ((unhide N1).below hb6 (unhide N1).lt.2)
            have B2 := hide (next (unhide B1) hb6)
            clear hb6
            go_wp2
            go_roundw
            case rel => exact ⟨k + 1, by omega, by go_num, O2, N2, B2⟩
            case measure => simp [intOf]; omega
      · have RZ := hide (put_gone (unhide HP))
        have LE := hide (put_gone_len (unhide HP))
        have VQ := hide (put_told (unhide HP))
        go_wp2_with fail
        refine (iBalPut _ gN qs.length cN qs p q 0 rfl (by omega) (unhide ON).lt.2 (unhide ON).at).mono ?_
        rintro e u4 ⟨rs, fine, gG, cG, hg, rfl, oG, b4⟩
        obtain ⟨rfl, RR, V0⟩ := (unhide RZ) rs fine hg
        have LL := (unhide LE) rs _ hg
        have SR : Says true (Right rs) := ⟨fun _ => RR, fun _ => rfl⟩
        have rn := hg.len
        have ON := hide ((unhide ON).below b4 (unhide ON).lt.2)
        have OG := hide (oG.rebase (base' := w.heap.size) (by have := oG.lt.1; have := (unhide HB).size; omega))
        have HB := hide (next (unhide HB) b4)
        clear hg oG b4 RZ LE OA
        have TQ : told qs p q true = r := unhide VQ
        have TR : told rs p q true = 0 := V0
        go_wp2_with fail
        refine (iBalOf _ gN qs.length cN qs p q true rfl (by omega) (unhide ON).lt.2 (unhide ON).at SQ WPQ).mono ?_
        rw [TQ]
        rintro e u5 ⟨rfl, b5⟩
        have ON := hide ((unhide ON).below b5 (unhide ON).lt.2)
        have OG := hide ((unhide OG).below b5 (unhide OG).lt.2)
        have HB := hide (next (unhide HB) b5)
        clear b5
        go_wp2_with fail
        refine (IOk3.iOk _ gN qs.length cN qs true rfl (by omega) (unhide ON).lt.2 (unhide ON).at SQ).mono ?_
        rintro e u6 ⟨rfl, b6⟩
        have OG := hide ((unhide OG).below b6 (unhide OG).lt.2)
        have HB := hide (next (unhide HB) b6)
        clear b6
        go_wp2_with fail
        refine (iBalOf _ gG rs.length cG rs p q true rfl (by omega) (unhide OG).lt.2 (unhide OG).at SR WPQ).mono ?_
        rw [TR]
        rintro e u7 ⟨rfl, b7⟩
        have HB := hide (next (unhide HB) b7)
        clear b7
        have LL2 : (rs.length : Int) ≤ (ps.length : Int) := by omega
        go_wp2
        go_ret
        exact ⟨rfl, unhide HB⟩
  · clear hc
    go_enter Try.func5, Try.ntmps5
    go_wp2_with (first | (go_at_call 6; go_in) | fail)
    go_ret
    exact ⟨rfl, Below.refl _ _⟩

set_option maxRecDepth 100000 in
theorem lifted (os : Os) (started : os.Started) (H : Type) (enc : TypeId × Value → H) :
    ReturnsInHanded {} Try.checked os 5 .any (Rows.fnBalPutSpec.pre6 enc Try.prog Try.f5 Rows.fnBalPutRow.domain false) (Rows.fnBalPutSpec.post enc Try.prog Try.f5 false true false false) := by
  refine returnsInHanded_of_change (C := Try.checked) own started (by kernel_rfl) Try.func5
    (ChangeSpec.witness6 (enc := enc) (C := Try.checked) false ⟨#[], #[.slice none 0 0], []⟩ 8 (by kernel_rfl) (by kernel_rfl) (by kernel_rfl) (by kernel_rfl)) ?_
  intro W base args ds gs before hval0 hW hcnd _
  have hval : ∀ (j : Nat) t v, Try.f5.params[j]? = some t → args[j]? = some v → Value.okWide Try.prog W .any base t v := hval0
  have hW' := hW
  obtain ⟨p, q, hA0, hV, rfl, hfz, hnd⟩ := hW
  have hA : DataW.TrodAll enc Try.prog W 0 (fun _ => true) true Try.f5.params.toList args.toList ds p := hA0
  rw [Try.params5] at hA hval
  obtain ⟨v0, vs0, d0, ds0, p0, q0, hargs, rfl, rfl, h0, r0⟩ := trodAll_cons hA
  obtain ⟨rfl, rfl, rfl⟩ := trodAll_nil r0
  obtain rfl : args = #[v0] := by cases args; simp_all
  obtain ⟨rfl, rfl⟩ := trodVars_none hV
  obtain ⟨a0, len0, cap0, rfl⟩ := okWide_slice Try.underlying22 (hval 0 22 v0 rfl rfl)
  have k0 := h0
  have lt0 : ∀ x ∈ p0, x.block < W.heap.size := by obtain ⟨m, hm⟩ := k0; exact DataW.trod_lt m _ _ _ hm
  obtain ⟨z0, w0⟩ : ∃ zs, IsRow .u8 W a0 len0 cap0 zs := by
    obtain ⟨fuel, hf⟩ := h0
    rcases open_ints Try.underlying22 Try.underlying5 (by kernel_rfl) hf with ⟨hcs, _⟩ | ⟨x, l, c, zs, hcs, _, hl, hm, hz, _, hcell, hwz⟩
    · simp [Value.cells] at hcs
      obtain ⟨rfl, rfl, rfl⟩ := hcs
      exact ⟨[], .inl ⟨rfl, rfl, rfl, rfl⟩⟩
    · simp [Value.cells] at hcs
      obtain ⟨rfl, rfl, rfl⟩ := hcs
      exact ⟨zs, .inr ⟨_, rfl, hl, hm, by simpa using hz, hcell, hwz⟩⟩
  clear hA0 hval0
  refine (walk a0 len0 cap0 z0 W w0).mono fun e W' ⟨he, bel⟩ => ?_
  subst he
  exact ⟨_, rfl, _, _, _, [], _, [], hW', trodAll_mk1 (shut_bool Try.underlying4 _), (trodAll_cons_mk (Below.trod laidOut (by kernel_rfl) (of_decide_eq_true (by kernel_rfl)) k0 bel lt0) trodAll_mk0), rfl, bel.frame _, fun h => by cases h⟩

theorem over : Rows.fnBalPutRow.holds Try.pinned (OpenSpec.ofChange Rows.fnBalPutSpec) :=
  OpenClaim.holds_of_wide 5 Try.f5 rfl rfl rfl rfl rfl rfl rfl ⟨rfl, rfl, rfl, rfl, rfl⟩ rfl rfl rfl rfl rfl (by kernel_rfl) Try.func5 (by kernel_rfl)
    (of_decide_eq_true (by kernel_rfl)) (by unfold Func.isWrapper; first | (rw [if_pos (by decide +kernel)]; kernel_rfl) | (rw [if_neg (by decide +kernel)]; exact ⟨rfl, rfl⟩))
    (fun os started H enc _ => lifted os started H enc)

/-- The statement. -/
theorem proved : Rows.FnBalPutSaid := over
#print axioms proved
end Go.Proofs.Ytnfopmmkecdmgaa.fnBalPut
