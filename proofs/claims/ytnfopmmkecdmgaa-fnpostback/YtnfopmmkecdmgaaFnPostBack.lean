/- For every row of bytes the law of posts that are turned back returns true: legs that are posted, and then posted with all amounts turned round, leave the balances that the bytes draw as they were. No condition. -/
import Derived.Test.YtnfopmmkecdmgaaRows
import Derived.WalkKit
import Derived.Test.YtnfopmmkecdmgaaDraw5
import Derived.Test.YtnfopmmkecdmgaaSPost
import Derived.Test.YtnfopmmkecdmgaaSame
import Derived.Test.YtnfopmmkecdmgaaPostMore
import Derived.ProofKit
import Derived.OpenShut
import Derived.ShutString
import Derived.ChangeOld
import Derived.Below
namespace Go.Proofs.Ytnfopmmkecdmgaa.fnPostBack
open Go.ChangeShapes Go.WideShapes Go.ChangeAt Go.RowKit
open Go.ChangeMaps (open_string shut_string)
set_option linter.unusedVariables false
set_option linter.unusedSimpArgs false

theorem own : ownKnob Try.prog.godebug = none := by kernel_rfl
theorem laidOut : laidOutB Try.prog = true := by kernel_rfl

/-- A slice of integers that came in, with its cells. -/
def IsRow (k : IntKind) (w : World) (a : Option Addr) (len cap : Nat) (zs : List Int) : Prop :=
  (a = none ∧ len = 0 ∧ cap = 0 ∧ zs = []) ∨
  ∃ x, a = some x ∧ len ≤ cap ∧ cap ≤ maxLen ∧ zs.length = cap ∧ (∀ i, i < zs.length → w.cell? (x.add i) = some (.int k (zs.getD i 0))) ∧ ∀ n ∈ zs, (Lit.int k n).wf = true

open Bals Triples Tab Look Put Post2 SPost Draw5 PostMore Same
open Draw (CodeAt)

/-- The bytes that came in, as the drawing functions want them. -/
theorem codeAt (w : World) (a : Option Addr) (len cap : Nat) (zs : List Int) (h : IsRow .u8 w a len cap zs) : CodeAt w a len := by
  rcases h with ⟨rfl, rfl, rfl, rfl⟩ | ⟨x, rfl, hl, hm, hz, hcell, hwz⟩
  · exact .inl rfl
  · by_cases z : len = 0
    · exact .inl z
    · obtain ⟨b, off, spot⟩ := x
      have hc := hcell 0 (by omega)
      have hspot : spot = none := by simpa [Addr.add] using World.cell?_spot hc
      subst hspot
      have hc0 : w.cell? ⟨b, off, none⟩ = some (.int .u8 (zs.getD 0 0)) := by simpa [Addr.add] using hc
      refine .inr ⟨b, off, zs, rfl, World.block_lt_of_cell? w _ hc0, fun i hi => ?_⟩
      have k := hcell i (by omega)
      have hw : (Lit.int .u8 (zs.getD i 0)).wf = true := hwz _ (by rw [List.getD_eq_getElem?_getD, List.getElem?_eq_getElem (by omega)]; exact List.getElem_mem _)
      have hb := bounds_u8 hw
      refine ⟨?_, by omega, by omega⟩
      by_cases z : i = 0
      · subst z; simpa [Addr.add] using k
      · simpa [Addr.add, z] using k

set_option maxRecDepth 100000 in
set_option maxHeartbeats 8000000 in
theorem walk (a0 : Option Addr) (len0 cap0 : Nat) (z0 : List Int) (w : World) (w0 : IsRow .u8 w a0 len0 cap0 z0) :
    Calls Try.prog 4 #[.slice a0 len0 cap0] w fun e w' => e = .returned (.bool true) ∧ Below w.heap.size w w' := by
  have hc := codeAt w a0 len0 cap0 z0 w0
  clear w0
  by_cases tl : (len0 : Int) ≤ 1048576
  · have HC := hide hc
    have TL : len0 ≤ 1048576 := by omega
    clear hc
    go_enter Try.func4, Try.ntmps4
    go_wp2_with (first | (go_at_call 6; go_in) | fail)
    refine (drawPost _ a0 len0 cap0 TL (unhide HC)).mono ?_
    rintro e u1 ⟨ps, ls, xs, gA, cA, gL, cL, gS, cS, rfl, oA, oL, oS, lA, lL, lS, b1⟩
    have OA := hide oA
    have OL := hide oL
    have OS := hide oS
    have HB := hide b1
    clear oA oL oS b1
    go_wp2_with fail
    refine (iBalsPost _ gA ps.length cA gL ls.length cL gS xs.length cS ps ls xs rfl rfl rfl (by omega) (by omega) (by omega) (unhide OA).lt.2 (unhide OL).lt.2 (unhide OS).lt.2 (unhide OA).at (unhide OL).at (unhide OS).at).mono ?_
    rintro e u2 ⟨qs, cd, gN, cN, hp, rfl, oN, b2⟩
    have HP := hide hp
    have qn := hp.len
    have ON := hide (oN.rebase (base' := w.heap.size) (by have := oN.lt.1; have := (unhide HB).size; omega))
    have OA := hide ((unhide OA).below b2 (unhide OA).lt.2)
    have OL := hide ((unhide OL).below b2 (unhide OL).lt.2)
    have OS := hide ((unhide OS).below b2 (unhide OS).lt.2)
    have HB := hide (next (unhide HB) b2)
    clear hp oN b2
    go_wp2_with fail
    refine (sBalsPost _ gA ps.length cA gL ls.length cL gS xs.length cS ps ls xs rfl rfl rfl (by omega) (by omega) (by omega) (unhide OA).lt.2 (unhide OL).lt.2 (unhide OS).lt.2 (unhide OA).at (unhide OL).at (unhide OS).at).mono ?_
    rintro e u3 ⟨qs', cd', gM, cM, hp, rfl, oM, b3⟩
    obtain ⟨rfl, rfl⟩ := (unhide HP).same hp
    have ON := hide ((unhide ON).below b3 (unhide ON).lt.2)
    have OA := hide ((unhide OA).below b3 (unhide OA).lt.2)
    have OL := hide ((unhide OL).below b3 (unhide OL).lt.2)
    have OS := hide ((unhide OS).below b3 (unhide OS).lt.2)
    have HB := hide (next (unhide HB) b3)
    clear hp oM b3
    by_cases c0 : ¬ cd = 0
    · have c0b : (cd == 0) = false := by simpa using c0
      have c0c : (cd != 0) = true := by simpa using c0
      by_cases c1 : cd = 1
      · subst c1
        go_wp2
        go_ret
        exact ⟨rfl, unhide HB⟩
      · have c1b : (cd == 1) = false := by simpa using c1
        obtain ⟨rfl, _⟩ := post_else (unhide HP) c0 c1
        go_wp2_with fail
        refine (same _ gN gA cN cA qs qs (by omega) (by omega) (unhide ON).at (unhide OA).at).mono ?_
        rintro e u4 ⟨b, rfl, hb, q4, rfl⟩
        obtain rfl := hb rfl
        have HB := hide (below_drewN (unhide HB) q4)
        go_wp2
        go_ret
        exact ⟨rfl, unhide HB⟩
    obtain rfl : cd = 0 := by omega
    have D := hide (post_done (unhide HP))
    have m160 : ls.length ≤ 160 := (unhide D).fl.1
    have bs3 := (unhide HB).size
    have gLl := (unhide OL).lt.2
    have OB := hide (show Own3 34 (u3.alloc (.cells #[] 34)) u3.heap.size u3.heap.size (PostMore.back (ls.drop ls.length)).length 0 (PostMore.back (ls.drop ls.length)) from by
      have e : PostMore.back (ls.drop ls.length) = [] := by rw [List.drop_length]; rfl
      rw [e]
      exact lit30 _ _ _ (Nat.le_refl _))
    have WB := hide (show Below u3.heap.size u3 (u3.alloc (.cells #[] 34)) from SOk3.one_more u3 _)
    have hw : IntKind.i64.wrap ((ls.length : Int) - 1) = (ls.length : Int) - 1 := by rw [IntKind.wrap_i64]; omega
    obtain ⟨i0, hi0, hz0, hz1, hz2⟩ := info_parts LegApp.info2
    go_wp2
    go_loopw [10, 11] (fun l i wr => ∃ (k gB cB : Nat), k ≤ ls.length ∧ i = .int .i64 ((k : Int) - 1) ∧ l = .slice (some ⟨gB, 0, none⟩) (PostMore.back (ls.drop k)).length cB ∧ Hid (Own3 34 wr u3.heap.size gB (PostMore.back (ls.drop k)).length cB (PostMore.back (ls.drop k))) ∧ Hid (Below u3.heap.size u3 wr)) (fun _ i _ => (intOf i + 1).toNat)
    case atStart => exact ⟨ls.length, u3.heap.size, 0, by omega, rfl, by rw [show (PostMore.back (ls.drop ls.length)).length = 0 by rw [back_len]; simp], OB, WB⟩
    case round =>
      clear OB WB
      obtain ⟨k, gB, cB, hk, rfl, rfl, HO, WB⟩ := hrel
      have BL := hide (show (PostMore.back (ls.drop k)).length = ls.length - k by rw [back_len]; simp)
      have s4 := (unhide WB).size
      have gBl := (unhide HO).lt
      by_cases t : 0 < k
      · obtain ⟨j, rfl⟩ : ∃ j, k = j + 1 := ⟨k - 1, by omega⟩
        have hcell : At3 wr gL ls := (unhide OL).at.below (unhide WB) gLl
        obtain ⟨e1, e2, e3⟩ := hcell j (by omega)
        have am := ((unhide D).fl.2 j (by omega)).2.2
        have BE := hide (show PostMore.back (ls.drop j) = PostMore.back (ls.drop (j + 1)) ++ [neg (el3 ls j)] from by rw [Look.drop_next (by omega), back_cons])
        have EQ : neg (el3 ls j) = ((el3 ls j).1, (el3 ls j).2.1, -(el3 ls j).2.2) := rfl
        rw [EQ] at BE
        have kk : ((j + 1 : Nat) : Int) - 1 = (j : Int) := by omega
        rw [kk]
        have kk2 : IntKind.i64.wrap ((j : Int) - 1) = (j : Int) - 1 := by rw [IntKind.wrap_i64]; omega
        have jn : (j : Int) < (ls.length : Int) := by omega
        have j0 : (0 : Int) ≤ (j : Int) := by omega
        clear EQ hcell
        generalize (el3 ls j).1 = x at *
        generalize (el3 ls j).2.1 = y at *
        generalize (el3 ls j).2.2 = z at *
        have ng : IntKind.i64.wrap (-z) = -z := by unfold Amt at am; rw [IntKind.wrap_i64]; omega
        generalize hbk : PostMore.back (ls.drop (j + 1)) = bk at *
        clear hbk
        have gne : gL ≠ gB := by omega
        have bk20 : bk.length ≤ 160 := by rw [unhide BL]; omega
        have AG : ∀ n c, some gL ≠ (Value.slice (some ⟨gB, 0, none⟩) n c).ownBlock := fun n c => by simp [Value.ownBlock]; omega
        have lk : gL < wr.heap.size := by omega
        go_wp2_with fail
        go_region_held3 (fun w' => w'.cell? ⟨gL, j * 3, none⟩ = some (.int .i64 x) ∧ w'.cell? ⟨gL, j * 3 + 1, none⟩ = some (.int .i64 y) ∧ w'.cell? ⟨gL, j * 3 + 2, none⟩ = some (.int .i64 z))
          (first
            | go_keep
            | (go_split_ands
               refine ⟨?_, ?_, ?_⟩
               · (rw [hgrow.cell_far _ (by simp; omega) (AG _ _)]; assumption)
               · (rw [hgrow.cell_far _ (by simp; omega) (AG _ _)]; assumption)
               · (rw [hgrow.cell_far _ (by simp; omega) (AG _ _)]; assumption)))
          ((refine step_append_lies _ (by rfl) _ _ _ (by rfl) u3.heap.size 34 i0 _ 3 24 Try.underlying25 hi0 hz0 hz1 hz2 rfl (by omega) (.slice (some ⟨gB, 0, none⟩) bk.length cB) bk.length (flat3 bk) (by rfl) ((Own3.alloc (unhide HO) _).drew)
              ⟨wr.heap.size, 0, none⟩ 1 1 [.int .i64 x, .int .i64 y, .int .i64 (-z)] (by rfl) (by rfl) (World.news_of_block (cs := #[.int .i64 x, .int .i64 y, .int .i64 (-z)]) (t := 34) (fr := (0, 0)) (heap_alloc_new wr _)) (by simp [Value.oneCell'])
              (by omega) (by unfold maxLen; omega) (by omega) (by simp; omega) (wr.heap.size + 1) (by simp) ?_; intro gg cg w5 hown1 hgrow hat hlt))
        have O5 := hide (show Own3 34 w5 u3.heap.size gg (bk.length + 1) cg (bk ++ [(x, y, -z)]) from by
          unfold Own3
          rw [flat3_append]
          exact hown1)
        have B5 := hide (show Below u3.heap.size u3 w5 from (((unhide WB).alloc s4 (.cells #[.int .i64 x, .int .i64 y, .int .i64 (-z)] 34)).drew).grown hgrow (by simp; omega) (by simp [Value.ownBlock]; omega))
        have el : (bk ++ [(x, y, -z)]).length = bk.length + 1 := by simp
        clear hown1 hgrow hat hlt
        go_wp2
        go_roundw
        case rel => exact ⟨j, gg, cg, by omega, by first | rfl | (simp; omega), by rw [unhide BE, el], hide (by rw [unhide BE, el]; exact unhide O5), B5⟩
        case measure => simp [intOf]
      · obtain rfl : k = 0 := by omega
        rw [List.drop_zero] at HO BL
        rw [List.drop_zero]
        have kk : ((0 : Nat) : Int) - 1 = -1 := by omega
        rw [kk]
        have OA := hide ((unhide OA).below (unhide WB) (unhide OA).lt.2)
        have ON := hide ((unhide ON).below (unhide WB) (unhide ON).lt.2)
        have OS := hide ((unhide OS).below (unhide WB) (unhide OS).lt.2)
        have HB := hide (next (unhide HB) (unhide WB))
        have lb : (PostMore.back ls).length ≤ 1048576 := by rw [unhide BL]; omega
        go_wp2_with fail
        refine (iBalsPost _ gN qs.length cN gB (PostMore.back ls).length cB gS xs.length cS qs (PostMore.back ls) xs rfl rfl rfl (by omega) lb (by omega) (unhide ON).lt.2 (unhide HO).lt.2 (unhide OS).lt.2 (unhide ON).at (unhide HO).at (unhide OS).at).mono ?_
        rintro e u6 ⟨rs, c2, gR, cR, h2, rfl, oR, b6⟩
        have OR := hide (oR.rebase (base' := w.heap.size) (by have := oR.lt.1; have := (unhide HB).size; omega))
        have OA := hide ((unhide OA).below b6 (unhide OA).lt.2)
        have ON := hide ((unhide ON).below b6 (unhide ON).lt.2)
        have HB := hide (next (unhide HB) b6)
        have rn := h2.len
        have BD := back_done (unhide D) h2
        clear oR b6 h2 HO WB OS OL
        rcases BD with ⟨rfl, rfl⟩ | ⟨rfl, rfl⟩
        · go_wp2_with fail
          refine (same _ gR gA cR cA rs rs (by omega) (by omega) (unhide OR).at (unhide OA).at).mono ?_
          rintro e u7 ⟨b, rfl, hb, q7, rfl⟩
          obtain rfl := hb rfl
          have HB := hide (below_drewN (unhide HB) q7)
          go_wp2
          go_ret
          exact ⟨rfl, unhide HB⟩
        · go_wp2_with fail
          refine (same _ gR gA cR cA rs ps (by omega) (by omega) (unhide OR).at (unhide OA).at).mono ?_
          rintro e u7 ⟨b, rfl, _, q7, rfl⟩
          have HB := hide (below_drewN (unhide HB) q7)
          have OR := hide (show Own3 44 (u6.drewN q7) w.heap.size gR rs.length cR rs from unhide OR)
          have ON := hide (show Own3 44 (u6.drewN q7) w.heap.size gN rs.length cN rs from unhide ON)
          generalize u6.drewN q7 = u7 at *
          cases b
          · go_wp2_with fail
            refine (same _ gR gN cR cN rs rs (by omega) (by omega) (unhide OR).at (unhide ON).at).mono ?_
            rintro e u8 ⟨b, rfl, hb, q8, rfl⟩
            obtain rfl := hb rfl
            have HB := hide (below_drewN (unhide HB) q8)
            go_wp2
            go_ret
            exact ⟨rfl, unhide HB⟩
          · go_wp2_with fail
            refine (same _ gR gN cR cN rs rs (by omega) (by omega) (unhide OR).at (unhide ON).at).mono ?_
            rintro e u8 ⟨b, rfl, hb, q8, rfl⟩
            obtain rfl := hb rfl
            have HB := hide (below_drewN (unhide HB) q8)
            go_wp2
            go_ret
            exact ⟨rfl, unhide HB⟩
  · clear hc
    go_enter Try.func4, Try.ntmps4
    go_wp2_with (first | (go_at_call 6; go_in) | fail)
    go_ret
    exact ⟨rfl, Below.refl _ _⟩

set_option maxRecDepth 100000 in
theorem lifted (os : Os) (started : os.Started) (H : Type) (enc : TypeId × Value → H) :
    ReturnsInHanded {} Try.checked os 4 .any (Rows.fnPostBackSpec.pre6 enc Try.prog Try.f4 Rows.fnPostBackRow.domain false) (Rows.fnPostBackSpec.post enc Try.prog Try.f4 false true false false) := by
  refine returnsInHanded_of_change (C := Try.checked) own started (by kernel_rfl) Try.func4
    (ChangeSpec.witness6 (enc := enc) (C := Try.checked) false ⟨#[], #[.slice none 0 0], []⟩ 8 (by kernel_rfl) (by kernel_rfl) (by kernel_rfl) (by kernel_rfl)) ?_
  intro W base args ds gs before hval0 hW hcnd _
  have hval : ∀ (j : Nat) t v, Try.f4.params[j]? = some t → args[j]? = some v → Value.okWide Try.prog W .any base t v := hval0
  have hW' := hW
  obtain ⟨p, q, hA0, hV, rfl, hfz, hnd⟩ := hW
  have hA : DataW.TrodAll enc Try.prog W 0 (fun _ => true) true Try.f4.params.toList args.toList ds p := hA0
  rw [Try.params4] at hA hval
  obtain ⟨v0, vs0, d0, ds0, p0, q0, hargs, rfl, rfl, h0, r0⟩ := trodAll_cons hA
  obtain ⟨rfl, rfl, rfl⟩ := trodAll_nil r0
  obtain rfl : args = #[v0] := by cases args; simp_all
  obtain ⟨rfl, rfl⟩ := trodVars_none hV
  obtain ⟨a0, len0, cap0, rfl⟩ := okWide_slice Try.underlying22 (hval 0 22 v0 rfl rfl)
  have k0 := h0
  have lt0 : ∀ x ∈ p0, x.block < W.heap.size := by obtain ⟨m, hm⟩ := k0; exact DataW.trod_lt m _ _ _ hm
  obtain ⟨z0, w0⟩ : ∃ zs, IsRow .u8 W a0 len0 cap0 zs := by
    obtain ⟨fuel, hf⟩ := h0
    rcases open_ints Try.underlying22 Try.underlying5 (by kernel_rfl) hf with ⟨hcs, _⟩ | ⟨x, l, c, zs, hcs, _, hl, hm, hz, _, hcell, hwz⟩
    · simp [Value.cells] at hcs
      obtain ⟨rfl, rfl, rfl⟩ := hcs
      exact ⟨[], .inl ⟨rfl, rfl, rfl, rfl⟩⟩
    · simp [Value.cells] at hcs
      obtain ⟨rfl, rfl, rfl⟩ := hcs
      exact ⟨zs, .inr ⟨_, rfl, hl, hm, by simpa using hz, hcell, hwz⟩⟩
  clear hA0 hval0
  refine (walk a0 len0 cap0 z0 W w0).mono fun e W' ⟨he, bel⟩ => ?_
  subst he
  exact ⟨_, rfl, _, _, _, [], _, [], hW', trodAll_mk1 (shut_bool Try.underlying4 _), (trodAll_cons_mk (Below.trod laidOut (by kernel_rfl) (of_decide_eq_true (by kernel_rfl)) k0 bel lt0) trodAll_mk0), rfl, bel.frame _, fun h => by cases h⟩

theorem over : Rows.fnPostBackRow.holds Try.pinned (OpenSpec.ofChange Rows.fnPostBackSpec) :=
  OpenClaim.holds_of_wide 4 Try.f4 rfl rfl rfl rfl rfl rfl rfl ⟨rfl, rfl, rfl, rfl, rfl⟩ rfl rfl rfl rfl rfl (by kernel_rfl) Try.func4 (by kernel_rfl)
    (of_decide_eq_true (by kernel_rfl)) (by unfold Func.isWrapper; first | (rw [if_pos (by decide +kernel)]; kernel_rfl) | (rw [if_neg (by decide +kernel)]; exact ⟨rfl, rfl⟩))
    (fun os started H enc _ => lifted os started H enc)

/-- The statement. -/
theorem proved : Rows.FnPostBackSaid := over
#print axioms proved
end Go.Proofs.Ytnfopmmkecdmgaa.fnPostBack
