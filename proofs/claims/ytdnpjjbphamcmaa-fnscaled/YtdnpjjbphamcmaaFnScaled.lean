/- For every row of bytes the law of scalings returns true: lots that the bytes draw and that are scaled have together just the new number of pieces, and cost what they cost, as long as one is left. No condition. -/
import Derived.Test.YtdnpjjbphamcmaaRows
import Derived.WalkKit
import Derived.Test.YtdnpjjbphamcmaaOrderEx
import Derived.Test.YtdnpjjbphamcmaaScaleMore
import Derived.Test.YtdnpjjbphamcmaaSame5
import Derived.Test.YtdnpjjbphamcmaaDraw6L
import Derived.Test.YtdnpjjbphamcmaaIScale2
import Derived.ProofKit
import Derived.OpenShut
import Derived.ShutString
import Derived.ChangeOld
import Derived.Below
namespace Go.Proofs.Ytdnpjjbphamcmaa.fnScaled
open Go.ChangeShapes Go.WideShapes Go.ChangeAt Go.RowKit
open Go.ChangeMaps (open_string shut_string)
set_option linter.unusedVariables false
set_option linter.unusedSimpArgs false

theorem own : ownKnob Try.prog.godebug = none := by kernel_rfl
theorem laidOut : laidOutB Try.prog = true := by kernel_rfl

/-- A slice of integers that came in, with its cells. -/
def IsRow (k : IntKind) (w : World) (a : Option Addr) (len cap : Nat) (zs : List Int) : Prop :=
  (a = none ∧ len = 0 ∧ cap = 0 ∧ zs = []) ∨
  ∃ x, a = some x ∧ len ≤ cap ∧ cap ≤ maxLen ∧ zs.length = cap ∧ (∀ i, i < zs.length → w.cell? (x.add i) = some (.int k (zs.getD i 0))) ∧ ∀ n ∈ zs, (Lit.int k n).wf = true

open Tup5 Lots Takes Nil5 Same5 Draw6L LotMore Concat5 SOf Scale SScale IScale2 ScaleMore
open Draw (CodeAt)
open STake (own_cap)

/-- The bytes that came in, as the drawing functions want them. -/
theorem codeAt (w : World) (a : Option Addr) (len cap : Nat) (zs : List Int) (h : IsRow .u8 w a len cap zs) : CodeAt w a len := by
  rcases h with ⟨rfl, rfl, rfl, rfl⟩ | ⟨x, rfl, hl, hm, hz, hcell, hwz⟩
  · exact .inl rfl
  · by_cases z : len = 0
    · exact .inl z
    · obtain ⟨b, off, spot⟩ := x
      have hc := hcell 0 (by omega)
      have hspot : spot = none := by simpa [Addr.add] using World.cell?_spot hc
      subst hspot
      have hc0 : w.cell? ⟨b, off, none⟩ = some (.int .u8 (zs.getD 0 0)) := by simpa [Addr.add] using hc
      refine .inr ⟨b, off, zs, rfl, World.block_lt_of_cell? w _ hc0, fun i hi => ?_⟩
      have k := hcell i (by omega)
      have hw : (Lit.int .u8 (zs.getD i 0)).wf = true := hwz _ (by rw [List.getD_eq_getElem?_getD, List.getElem?_eq_getElem (by omega)]; exact List.getElem_mem _)
      have hb := bounds_u8 hw
      refine ⟨?_, by omega, by omega⟩
      by_cases z : i = 0
      · subst z; simpa [Addr.add] using k
      · simpa [Addr.add, z] using k

set_option maxRecDepth 100000 in
set_option maxHeartbeats 8000000 in
theorem walk (a0 : Option Addr) (len0 cap0 : Nat) (z0 : List Int) (w : World) (w0 : IsRow .u8 w a0 len0 cap0 z0) :
    Calls Try.prog 6 #[.slice a0 len0 cap0] w fun e w' => e = .returned (.bool true) ∧ Below w.heap.size w w' := by
  have hc := codeAt w a0 len0 cap0 z0 w0
  clear w0
  by_cases tl : (len0 : Int) ≤ 1048576
  · have HC := hide hc
    have TL : len0 ≤ 1048576 := by omega
    clear hc
    go_enter Try.func6, Try.ntmps6
    go_wp2_with (first | (go_at_call 15; go_in) | fail)
    refine (drawScale _ a0 len0 cap0 TL (unhide HC)).mono ?_
    rintro e u1 ⟨ps, gA, cA, p, q, t, rfl, oA, lA, b1⟩
    have OA := hide oA
    have HB := hide b1
    have CA := (own_cap oA).1
    clear oA b1 HC
    obtain ⟨ss, okS, st⟩ := OrderEx.stells_ex t (qtys (ownL ps p q))
    have ST := hide st
    clear st
    obtain ⟨R, HR⟩ : ∃ R, Hid (R = mergeL ((restL ps p q).length + (scaleL (ownL ps p q) ss).length) (restL ps p q) (scaleL (ownL ps p q) ss)) := ⟨_, rfl⟩
    obtain ⟨bad, BAD⟩ := says_of (¬ ScaleOk ps t)
    obtain ⟨short, SHORT⟩ := says_of ((ownL ps p q).length = 0 ∧ 0 < t)
    obtain ⟨full, FULL⟩ := says_of (40 < (ownL ps p q).length)
    obtain ⟨ok, OK⟩ := says_of (Right ps)
    go_wp2_with fail
    refine (iScale _ gA ps.length cA ps R ss okS p q t bad short full rfl (by omega) CA (unhide OA).lt.2 (unhide OA).at BAD SHORT FULL ST HR).mono ?_
    rintro e u2 ⟨v, rfl, ov, b2⟩
    have OV := hide (ov.rebase (base' := w.heap.size) (unhide HB).size)
    replace OA := hide ((unhide OA).below b2 (unhide OA).lt.2)
    replace HB := hide (next (unhide HB) b2)
    clear ov b2
    go_wp2_with fail
    refine (sScale _ gA ps.length cA ps R ss okS p q t bad short full rfl (by omega) (unhide OA).lt.2 (unhide OA).at BAD SHORT FULL ST HR).mono ?_
    rintro e u3 ⟨g3, c3, rfl, o3, b3⟩
    clear o3
    replace OA := hide ((unhide OA).below b3 (unhide OA).lt.2)
    replace OV := hide ((unhide OV).below b3 (fun g hg => ((unhide OV).lt g hg).2))
    replace HB := hide (next (unhide HB) b3)
    clear b3
    cases bad
    rotate_left
    · replace OV := hide (show OwnV 40 u3 w.heap.size v [] from unhide OV)
      have D0 : scaleD true short full = 1 := by simp [scaleD]
      rw [D0]
      rcases (unhide OV).cases with ⟨rfl, _⟩ | ⟨g, c, rfl, _⟩
      · clear OV
        go_wp2
        go_ret
        exact ⟨rfl, unhide HB⟩
      · clear OV
        go_wp2
        go_ret
        exact ⟨rfl, unhide HB⟩
    have SK : ScaleOk ps t := Classical.byContradiction fun h => BAD.no h
    obtain rfl : ok = true := OK.of SK.1
    cases short
    rotate_left
    · replace OV := hide (show OwnV 40 u3 w.heap.size v ps from unhide OV)
      have D0 : scaleD false true full = 2 := by simp [scaleD]
      rw [D0]
      go_wp2_with fail
      refine (sameV _ w.heap.size gA cA v ps (by omega) (unhide OV) (unhide OA).lt.2 (unhide OA).at).mono ?_
      rintro e u4 ⟨rfl, b4⟩
      replace HB := hide (next (unhide HB) b4)
      clear b4
      go_wp2
      go_ret
      exact ⟨rfl, unhide HB⟩
    cases full
    rotate_left
    · replace OV := hide (show OwnV 40 u3 w.heap.size v ps from unhide OV)
      have D0 : scaleD false false true = 3 := by simp [scaleD]
      rw [D0]
      go_wp2_with fail
      refine (sameV _ w.heap.size gA cA v ps (by omega) (unhide OV) (unhide OA).lt.2 (unhide OA).at).mono ?_
      rintro e u4 ⟨rfl, b4⟩
      replace HB := hide (next (unhide HB) b4)
      clear b4
      go_wp2
      go_ret
      exact ⟨rfl, unhide HB⟩
    obtain ⟨FT, SQ, SC⟩ := scaled SK.1 SK.2.1 SK.2.2 SHORT.no FULL.no (unhide ST)
    have RR : Right R := by rw [unhide HR]; exact FT.right SK.1 (Nat.le_refl _)
    have SR : Says true (Right R) := ⟨fun _ => RR, fun _ => rfl⟩
    have OWN : ofL R p q true = scaleL (ownL ps p q) ss := by
      show ownL R p q = _
      rw [unhide HR]
      exact FT.own (Nat.le_refl _)
    have RL : R.length ≤ 120 := RR.1
    have FL : (scaleL (ownL ps p q) ss).length ≤ (ofL ps p q true).length := FT.len
    have SC : (scaleL (ownL ps p q) ss).length = 0 ∨ sumC (scaleL (ownL ps p q) ss) = sumC (ofL ps p q true) := SC
    rw [← OWN] at SQ SC FL
    replace OV := hide (show OwnV 40 u3 w.heap.size v R from unhide OV)
    have D0 : scaleD false false false = 0 := by simp [scaleD]
    rw [D0]
    clear FT OWN D0 RR HR ST SHORT FULL BAD SK
    go_wp2_with fail
    refine (ofV _ w.heap.size v R p q true (by omega) (unhide OV) SR).mono ?_
    rintro e u4 ⟨gF, cF, rfl, oF, b4⟩
    clear oF
    replace OA := hide ((unhide OA).below b4 (unhide OA).lt.2)
    replace OV := hide ((unhide OV).below b4 (fun g hg => ((unhide OV).lt g hg).2))
    replace HB := hide (next (unhide HB) b4)
    clear b4
    go_wp2_with fail
    refine (qtyV _ w.heap.size v R p q true (by omega) (unhide OV) SR).mono ?_
    rw [SQ]
    rintro e u5 ⟨rfl, b5⟩
    replace OA := hide ((unhide OA).below b5 (unhide OA).lt.2)
    replace OV := hide ((unhide OV).below b5 (fun g hg => ((unhide OV).lt g hg).2))
    replace HB := hide (next (unhide HB) b5)
    clear b5
    go_wp2_with fail
    refine (okV _ w.heap.size v R true (by omega) (unhide OV) SR).mono ?_
    rintro e u6 ⟨rfl, b6⟩
    replace OA := hide ((unhide OA).below b6 (unhide OA).lt.2)
    replace OV := hide ((unhide OV).below b6 (fun g hg => ((unhide OV).lt g hg).2))
    replace HB := hide (next (unhide HB) b6)
    clear b6
    go_wp2_with fail
    refine (sOf _ gA ps.length cA ps p q true rfl (by omega) (unhide OA).lt.2 (unhide OA).at OK).mono ?_
    rintro e u7 ⟨gS, cS, rfl, oS, b7⟩
    clear oS
    replace OA := hide ((unhide OA).below b7 (unhide OA).lt.2)
    replace OV := hide ((unhide OV).below b7 (fun g hg => ((unhide OV).lt g hg).2))
    replace HB := hide (next (unhide HB) b7)
    clear b7
    have FL2 : ((ofL R p q true).length : Int) ≤ ((ofL ps p q true).length : Int) := by omega
    by_cases z : (ofL R p q true).length = 0
    · have z2 : ((ofL R p q true).length : Int) = 0 := by omega
      clear z SC FL
      go_wp2
      go_ret
      exact ⟨rfl, unhide HB⟩
    have SC2 := SC.resolve_left z
    have z2 : (((ofL R p q true).length : Int) == 0) = false := beq_eq_false_iff_ne.2 (by omega)
    clear SC FL
    go_wp2_with fail
    refine (costV _ w.heap.size v R p q true (by omega) (unhide OV) SR).mono ?_
    rw [SC2]
    rintro e u8 ⟨rfl, b8⟩
    replace OA := hide ((unhide OA).below b8 (unhide OA).lt.2)
    replace OV := hide ((unhide OV).below b8 (fun g hg => ((unhide OV).lt g hg).2))
    replace HB := hide (next (unhide HB) b8)
    clear b8
    go_wp2_with fail
    refine (sLotsCost _ gA ps.length cA ps p q true rfl (by omega) (unhide OA).lt.2 (unhide OA).at OK).mono ?_
    rintro e u9 ⟨rfl, b9⟩
    replace OA := hide ((unhide OA).below b9 (unhide OA).lt.2)
    replace OV := hide ((unhide OV).below b9 (fun g hg => ((unhide OV).lt g hg).2))
    replace HB := hide (next (unhide HB) b9)
    clear b9
    go_wp2
    go_ret
    exact ⟨rfl, unhide HB⟩
  · clear hc
    go_enter Try.func6, Try.ntmps6
    go_wp2_with (first | (go_at_call 15; go_in) | fail)
    go_ret
    exact ⟨rfl, Below.refl _ _⟩

set_option maxRecDepth 100000 in
theorem lifted (os : Os) (started : os.Started) (H : Type) (enc : TypeId × Value → H) :
    ReturnsInHanded {} Try.checked os 6 .any (Rows.fnScaledSpec.pre6 enc Try.prog Try.f6 Rows.fnScaledRow.domain false) (Rows.fnScaledSpec.post enc Try.prog Try.f6 false true false false) := by
  refine returnsInHanded_of_change (C := Try.checked) own started (by kernel_rfl) Try.func6
    (ChangeSpec.witness6 (enc := enc) (C := Try.checked) false ⟨#[], #[.slice none 0 0], []⟩ 8 (by kernel_rfl) (by kernel_rfl) (by kernel_rfl) (by kernel_rfl)) ?_
  intro W base args ds gs before hval0 hW hcnd _
  have hval : ∀ (j : Nat) t v, Try.f6.params[j]? = some t → args[j]? = some v → Value.okWide Try.prog W .any base t v := hval0
  have hW' := hW
  obtain ⟨p, q, hA0, hV, rfl, hfz, hnd⟩ := hW
  have hA : DataW.TrodAll enc Try.prog W 0 (fun _ => true) true Try.f6.params.toList args.toList ds p := hA0
  rw [Try.params6] at hA hval
  obtain ⟨v0, vs0, d0, ds0, p0, q0, hargs, rfl, rfl, h0, r0⟩ := trodAll_cons hA
  obtain ⟨rfl, rfl, rfl⟩ := trodAll_nil r0
  obtain rfl : args = #[v0] := by cases args; simp_all
  obtain ⟨rfl, rfl⟩ := trodVars_none hV
  obtain ⟨a0, len0, cap0, rfl⟩ := okWide_slice Try.underlying31 (hval 0 31 v0 rfl rfl)
  have k0 := h0
  have lt0 : ∀ x ∈ p0, x.block < W.heap.size := by obtain ⟨m, hm⟩ := k0; exact DataW.trod_lt m _ _ _ hm
  obtain ⟨z0, w0⟩ : ∃ zs, IsRow .u8 W a0 len0 cap0 zs := by
    obtain ⟨fuel, hf⟩ := h0
    rcases open_ints Try.underlying31 Try.underlying5 (by kernel_rfl) hf with ⟨hcs, _⟩ | ⟨x, l, c, zs, hcs, _, hl, hm, hz, _, hcell, hwz⟩
    · simp [Value.cells] at hcs
      obtain ⟨rfl, rfl, rfl⟩ := hcs
      exact ⟨[], .inl ⟨rfl, rfl, rfl, rfl⟩⟩
    · simp [Value.cells] at hcs
      obtain ⟨rfl, rfl, rfl⟩ := hcs
      exact ⟨zs, .inr ⟨_, rfl, hl, hm, by simpa using hz, hcell, hwz⟩⟩
  clear hA0 hval0
  refine (walk a0 len0 cap0 z0 W w0).mono fun e W' ⟨he, bel⟩ => ?_
  subst he
  exact ⟨_, rfl, _, _, _, [], _, [], hW', trodAll_mk1 (shut_bool Try.underlying4 _), (trodAll_cons_mk (Below.trod laidOut (by kernel_rfl) (of_decide_eq_true (by kernel_rfl)) k0 bel lt0) trodAll_mk0), rfl, bel.frame _, fun h => by cases h⟩

theorem over : Rows.fnScaledRow.holds Try.pinned (OpenSpec.ofChange Rows.fnScaledSpec) :=
  OpenClaim.holds_of_wide 6 Try.f6 rfl rfl rfl rfl rfl rfl rfl ⟨rfl, rfl, rfl, rfl, rfl⟩ rfl rfl rfl rfl rfl (by kernel_rfl) Try.func6 (by kernel_rfl)
    (of_decide_eq_true (by kernel_rfl)) (by unfold Func.isWrapper; first | (rw [if_pos (by decide +kernel)]; kernel_rfl) | (rw [if_neg (by decide +kernel)]; exact ⟨rfl, rfl⟩))
    (fun os started H enc _ => lifted os started H enc)

/-- The statement. -/
theorem proved : Rows.FnScaledSaid := over
#print axioms proved
end Go.Proofs.Ytdnpjjbphamcmaa.fnScaled
