/- For every row of bytes the law of the order of shares returns true: the order of the weights that the bytes draw has each number once, those with more left over first, of several with as much the lower number first. No condition. -/
import Derived.Test.YtfoollmmendkiaaRows
import Derived.WalkKit
import Derived.Test.YtfoollmmendkiaaHelps
import Derived.Test.YtfoollmmendkiaaDrawX
import Derived.Test.YtfoollmmendkiaaIOrder
import Derived.ProofKit
import Derived.OpenShut
import Derived.ShutString
import Derived.ChangeOld
import Derived.Below
namespace Go.Proofs.Ytfoollmmendkiaa.fnShareOrder
open Go.ChangeShapes Go.WideShapes Go.ChangeAt Go.RowKit
open Go.ChangeMaps (open_string shut_string)
set_option linter.unusedVariables false

theorem own : ownKnob Try.prog.godebug = none := by kernel_rfl
theorem laidOut : laidOutB Try.prog = true := by kernel_rfl

/-- A slice of integers that came in, with its cells. -/
def IsRow (k : IntKind) (w : World) (a : Option Addr) (len cap : Nat) (zs : List Int) : Prop :=
  (a = none ∧ len = 0 ∧ cap = 0 ∧ zs = []) ∨
  ∃ x, a = some x ∧ len ≤ cap ∧ cap ≤ maxLen ∧ zs.length = cap ∧ (∀ i, i < zs.length → w.cell? (x.add i) = some (.int k (zs.getD i 0))) ∧ ∀ n ∈ zs, (Lit.int k n).wf = true

open Ints Weigh Quota Order SOrder IOrder Helps
open Draw (CodeAt)

/-- The bytes that came in, as the drawing functions want them. -/
theorem codeAt (w : World) (a : Option Addr) (len cap : Nat) (zs : List Int) (h : IsRow .u8 w a len cap zs) : CodeAt w a len := by
  rcases h with ⟨rfl, rfl, rfl, rfl⟩ | ⟨x, rfl, hl, hm, hz, hcell, hwz⟩
  · exact .inl rfl
  · by_cases z : len = 0
    · exact .inl z
    · obtain ⟨b, off, spot⟩ := x
      have hc := hcell 0 (by omega)
      have hspot : spot = none := by simpa [Addr.add] using World.cell?_spot hc
      subst hspot
      have hc0 : w.cell? ⟨b, off, none⟩ = some (.int .u8 (zs.getD 0 0)) := by simpa [Addr.add] using hc
      refine .inr ⟨b, off, zs, rfl, World.block_lt_of_cell? w _ hc0, fun i hi => ?_⟩
      have k := hcell i (by omega)
      have hw : (Lit.int .u8 (zs.getD i 0)).wf = true := hwz _ (by rw [List.getD_eq_getElem?_getD, List.getElem?_eq_getElem (by omega)]; exact List.getElem_mem _)
      have hb := bounds_u8 hw
      refine ⟨?_, by omega, by omega⟩
      by_cases z : i = 0
      · subst z; simpa [Addr.add] using k
      · simpa [Addr.add, z] using k

/-- What was left over last. -/
def lastOf (t : Int) (xs : List Int) (L : List Nat) : Nat → Int
  | 0 => -1
  | k + 1 => R t xs (L.getD k 0)

theorem seen_step (L : List Nat) (k : Nat) (h : k < L.length) : (ints L).take (k + 1) = (ints L).take k ++ [((L.getD k 0 : Nat) : Int)] := by
  have h' : k < (ints L).length := by rw [ints_len]; exact h
  rw [List.take_succ_eq_append_getElem h']
  simp [ints, List.getD, h]

set_option maxRecDepth 100000 in
set_option maxHeartbeats 8000000 in
theorem walk (a0 : Option Addr) (len0 cap0 : Nat) (z0 : List Int) (w : World) (w0 : IsRow .u8 w a0 len0 cap0 z0) :
    Calls Try.prog 4 #[.slice a0 len0 cap0] w fun e w' => e = .returned (.bool true) ∧ Below w.heap.size w w' := by
  have hc := codeAt w a0 len0 cap0 z0 w0
  clear w0
  by_cases tl : (len0 : Int) ≤ 1048576
  · have HC := hide hc
    have TL : len0 ≤ 1048576 := by omega
    clear hc
    obtain ⟨i0, hi, hz0, hz1, hz2⟩ := info_parts info3
    go_enter Try.func4, Try.ntmps4
    go_wp2_with (first | (go_at_call 9; go_in) | fail)
    refine (DrawX.drawShareOrder _ a0 len0 cap0 TL (unhide HC)).mono ?_
    rintro e u1 ⟨t, xs, gX, cX, rfl, oX, x41, b1⟩
    have lX := oX.lt
    go_wp2_with fail
    refine (iOrder _ t gX xs.length cX xs rfl (by omega) oX.lt.2 oX.at).mono ?_
    rintro e u2 ⟨L, gO, cO, tls, rfl, oO, b2⟩
    have oX := oX.below b2 oX.lt.2
    have b := next b1 b2
    have lO := oO.lt
    go_wp2_with fail
    refine (sOrder _ t gX xs.length cX xs rfl (by omega) oX.lt.2 oX.at).mono ?_
    rintro e u3 ⟨L', gW, cW, tls', rfl, oW, b3⟩
    obtain rfl : L = L' := tls.unique tls'
    have oX := oX.below b3 oX.lt.2
    have oO := oO.below b3 oO.lt.2
    have b := next b b3
    have hLn := tls.len_le
    go_wp2_with fail
    refine (sameInts _ _ _ L.length _ _ (ints L) (ints_len L) (by omega) oO.at oW.at).mono ?_
    rintro e u4 ⟨rfl, b4⟩
    have oX := oX.below b4 oX.lt.2
    have oO := oO.below b4 oO.lt.2
    have b := next b b4
    rcases tls with ⟨good, ht, ord⟩ | ⟨_, rfl⟩
    · have hlen := ord.len
      have n1 := good.1.1
      have GT := hide (And.intro good ht)
      have ORD := hide ord
      have RP := hide (fun i => R_lt t xs i good)
      clear good ht ord tls' oW b1 b2 b3 b4
      rw [hlen]
      have lz : ((xs.length : Int) == 0) = false := by simp; intro h; rw [h] at n1; simp at n1
      rw [hlen] at oO
      have lX4 := oX.lt
      have lO4 := oO.lt
      have s4 := b.size
      have oS := lit0 u4 u4.heap.size (Nat.le_refl _)
      have oX := SOrder.Own.alloc oX (.cells #[] 3)
      have oO := SOrder.Own.alloc oO (.cells #[] 3)
      have b := b.alloc b.size (.cells #[] 3)
      generalize hn : xs.length = n at *
      have HN := hide hn
      clear hn hLn
      go_wp2_with fail
      go_loopw [7, 8, 9] (fun s l i wr => ∃ (k gS cS : Nat), k ≤ n ∧ i = .int .i64 k ∧ s = .slice (some ⟨gS, 0, none⟩) k cS ∧ l = .int .i64 (lastOf t xs L k) ∧ Own wr u4.heap.size gS k cS ((ints L).take k) ∧ Own wr u1.heap.size gO n cO (ints L) ∧ Own wr w.heap.size gX n cX xs ∧ Below w.heap.size w wr) (fun _ _ i _ => n - (intOf i).toNat)
      case atStart => exact ⟨0, _, _, by omega, rfl, rfl, rfl, oS, oO, oX, b⟩
      case round =>
        clear oS oO oX b
        obtain ⟨k, gS, cS, hk, rfl, rfl, rfl, oS, oO, oX, b⟩ := hrel
        by_cases lt : k < n
        · have e1 := oO.at k (by rw [ints_len]; omega)
          rw [ints_getD] at e1
          have ha := (unhide ORD).getD_lt k lt
          have c1 := iQuota wr t ((L.getD k 0 : Nat) : Int) (Q t xs (L.getD k 0)) (R t xs (L.getD k 0)) true gX n cX xs (unhide HN) (by omega) oX.at (hide (Or.inl ⟨(unhide GT).1, (unhide GT).2, ⟨by omega, by have := unhide HN; omega⟩, by simp, by simp, rfl⟩))
          have NI := hide (show ∀ i, i < k → ¬ ((ints L).take k).getD i 0 = ((L.getD k 0 : Nat) : Int) from fun i hi he => by
            rw [getD_take (ints L) k i hi, ints_getD] at he
            exact order_inj (unhide ORD) i k (by omega) lt hi (by omega))
          have SS := hide (seen_step L k (by omega))
          have LS := hide (show lastOf t xs L (k + 1) = R t xs (L.getD k 0) from rfl)
          have AH := hide (fun j (hj : k = j + 1) => order_ahead (unhide ORD) j k lt (by omega))
          have TK : ((ints L).take k).length = k := by simp [ints_len]; omega
          have TKH := hide TK
          clear TK
          have r0 := (unhide RP (L.getD k 0)).1
          generalize L.getD k 0 = a at *
          go_wp2_with fail
          refine c1.mono ?_
          rintro e w1 ⟨rfl, bq⟩
          have oS1 := oS.below bq oS.lt.2
          have oO1 := oO.below bq oO.lt.2
          have oX1 := oX.below bq oX.lt.2
          have b1 := next b bq
          have s1 := b1.size
          have lS := oS1.lt
          have oS2 : ∀ q, Own (w1.drewN q) u4.heap.size gS k cS ((ints L).take k) := fun _ => oS1
          have oO2 : ∀ q, Own (w1.drewN q) u1.heap.size gO n cO (ints L) := fun _ => oO1
          have oX2 : ∀ q, Own (w1.drewN q) w.heap.size gX n cX xs := fun _ => oX1
          have b2 : ∀ q, Below w.heap.size w (w1.drewN q) := fun q => below_drewN b1 q
          have e1 := (bq.cell (p := ⟨gO, k, none⟩) oO.lt.2).trans e1
          have cw := fun q => within (w1.drewN q) gS k cS (a : Int) ((ints L).take k) (unhide TKH) (by omega) (oS2 q).at (unhide NI)
          have i1 : (0 : Int) ≤ (k : Int) := by omega
          have i2 : (k : Int) < (n : Int) := by omega
          cases k with
          | zero =>
            clear c1 bq oS oO oX b oS1 oX1 b1 oO1
            go_wp2_with fail
            go_quiet (first | (go_at_call 18; exact Calls.quiet_of_same (cw _)))
            go_wp2_with (at_builtin; refine wpList_append_own _ rfl (.tmp 87) (.tmp 92) 24 rfl u4.heap.size 3 i0 (.int .i64 0) 1 8 Try.underlying24 hi hz0 hz1 hz2 rfl (by decide) (.slice (some ⟨gS, 0, none⟩) (0) cS) (0) _ rfl (SOrder.Own.alloc (oS2 _) _) ⟨w1.heap.size, 0, none⟩ 1 1 [.int .i64 (a : Int)] rfl rfl (SOrder.one_cell (w1.drewN _) _) (SOrder.one_one _) (by unfold maxLen; omega) (by omega) (by simp; omega) ?_)
            intro v5 w5 own5 (gr5 : World.grownBy _ w5 (some gS)) nil5
            obtain ⟨g5, c5, rfl, o5⟩ := own_of_row' (n' := 0 + 1) (xs := (ints L).take (0 + 1)) own5 (by omega) (by rw [unhide SS]; simp) (by first | exact nil5 | (rw [nil5]; simp))
            have oO5 := (SOrder.Own.alloc (oO2 _) _).kept gr5 (by simp; omega)
            have oX5 := (SOrder.Own.alloc (oX2 _) _).kept gr5 (by simp; omega)
            have b5 := ((b2 _).alloc (by simp; omega) _).grown gr5 (by simp; omega) (by simp; omega)
            clear own5 gr5 nil5 oS2 oO2 oX2 b2 cw
            go_wp2
            go_roundw
            case rel => exact ⟨0 + 1, g5, c5, by omega, by go_num, rfl, by rw [unhide LS], o5, oO5, oX5, b5⟩
            case measure => simp [intOf]; omega
          | succ j =>
            have e2 := oO1.at j (by rw [ints_len]; omega)
            rw [ints_getD] at e2
            have LJ := hide (show lastOf t xs L (j + 1) = R t xs (L.getD j 0) from rfl)
            have ah := unhide AH j rfl
            unfold Ahead at ah
            generalize L.getD j 0 = a' at *
            rw [unhide LJ]
            generalize R t xs a' = rl at *
            clear c1 bq oS oO oX b oS1 oX1 b1 oO1
            have j1 : (0 : Int) ≤ (j : Int) := by omega
            have j2 : (j : Int) < (n : Int) := by omega
            generalize R t xs a = r at *
            by_cases h : r < rl
            · have g1 : decide (rl < r) = false := by rw [decide_eq_false_iff_not]; omega
              have g2 : (r == rl) = false := by simp; omega
              go_wp2_with fail
              go_quiet (first | (go_at_call 18; exact Calls.quiet_of_same (cw _)))
              go_wp2_with (at_builtin; refine wpList_append_own _ rfl (.tmp 87) (.tmp 92) 24 rfl u4.heap.size 3 i0 (.int .i64 0) 1 8 Try.underlying24 hi hz0 hz1 hz2 rfl (by decide) (.slice (some ⟨gS, 0, none⟩) (j + 1) cS) (j + 1) _ rfl (SOrder.Own.alloc (oS2 _) _) ⟨w1.heap.size, 0, none⟩ 1 1 [.int .i64 (a : Int)] rfl rfl (SOrder.one_cell (w1.drewN _) _) (SOrder.one_one _) (by unfold maxLen; omega) (by omega) (by simp; omega) ?_)
              intro v5 w5 own5 (gr5 : World.grownBy _ w5 (some gS)) nil5
              obtain ⟨g5, c5, rfl, o5⟩ := own_of_row' (n' := j + 1 + 1) (xs := (ints L).take (j + 1 + 1)) own5 (by omega) (by rw [unhide SS]; simp) (by first | exact nil5 | (rw [nil5]; simp))
              have oO5 := (SOrder.Own.alloc (oO2 _) _).kept gr5 (by simp; omega)
              have oX5 := (SOrder.Own.alloc (oX2 _) _).kept gr5 (by simp; omega)
              have b5 := ((b2 _).alloc (by simp; omega) _).grown gr5 (by simp; omega) (by simp; omega)
              clear own5 gr5 nil5 oS2 oO2 oX2 b2 cw
              go_wp2
              go_roundw
              case rel => exact ⟨j + 1 + 1, g5, c5, by omega, by go_num, rfl, by rw [unhide LS], o5, oO5, oX5, b5⟩
              case measure => simp [intOf]; omega
            · obtain rfl : r = rl := by omega
              have g3 : decide ((a : Int) < (a' : Int)) = false := by rw [decide_eq_false_iff_not]; omega
              go_wp2_with fail
              go_quiet (first | (go_at_call 18; exact Calls.quiet_of_same (cw _)))
              go_wp2_with (at_builtin; refine wpList_append_own _ rfl (.tmp 87) (.tmp 92) 24 rfl u4.heap.size 3 i0 (.int .i64 0) 1 8 Try.underlying24 hi hz0 hz1 hz2 rfl (by decide) (.slice (some ⟨gS, 0, none⟩) (j + 1) cS) (j + 1) _ rfl (SOrder.Own.alloc (oS2 _) _) ⟨w1.heap.size, 0, none⟩ 1 1 [.int .i64 (a : Int)] rfl rfl (SOrder.one_cell (w1.drewN _) _) (SOrder.one_one _) (by unfold maxLen; omega) (by omega) (by simp; omega) ?_)
              intro v5 w5 own5 (gr5 : World.grownBy _ w5 (some gS)) nil5
              obtain ⟨g5, c5, rfl, o5⟩ := own_of_row' (n' := j + 1 + 1) (xs := (ints L).take (j + 1 + 1)) own5 (by omega) (by rw [unhide SS]; simp) (by first | exact nil5 | (rw [nil5]; simp))
              have oO5 := (SOrder.Own.alloc (oO2 _) _).kept gr5 (by simp; omega)
              have oX5 := (SOrder.Own.alloc (oX2 _) _).kept gr5 (by simp; omega)
              have b5 := ((b2 _).alloc (by simp; omega) _).grown gr5 (by simp; omega) (by simp; omega)
              clear own5 gr5 nil5 oS2 oO2 oX2 b2 cw
              go_wp2
              go_roundw
              case rel => exact ⟨j + 1 + 1, g5, c5, by omega, by go_num, rfl, by rw [unhide LS], o5, oO5, oX5, b5⟩
              case measure => simp [intOf]; omega
        · obtain rfl : k = n := by omega
          have B := hide b
          clear oS oO oX b
          go_wp2
          go_ret
          exact ⟨rfl, unhide B⟩
    · clear oW
      go_wp2
      go_ret
      exact ⟨rfl, b⟩
  · clear hc
    go_enter Try.func4, Try.ntmps4
    go_wp2
    go_ret
    exact ⟨rfl, Below.refl _ _⟩

set_option maxRecDepth 100000 in
theorem lifted (os : Os) (started : os.Started) (H : Type) (enc : TypeId × Value → H) :
    ReturnsInHanded {} Try.checked os 4 .any (Rows.fnShareOrderSpec.pre6 enc Try.prog Try.f4 Rows.fnShareOrderRow.domain false) (Rows.fnShareOrderSpec.post enc Try.prog Try.f4 false true false false) := by
  refine returnsInHanded_of_change (C := Try.checked) own started (by kernel_rfl) Try.func4
    (ChangeSpec.witness6 (enc := enc) (C := Try.checked) false ⟨#[], #[.slice none 0 0], []⟩ 8 (by kernel_rfl) (by kernel_rfl) (by kernel_rfl) (by kernel_rfl)) ?_
  intro W base args ds gs before hval0 hW hcnd _
  have hval : ∀ (j : Nat) t v, Try.f4.params[j]? = some t → args[j]? = some v → Value.okWide Try.prog W .any base t v := hval0
  have hW' := hW
  obtain ⟨p, q, hA0, hV, rfl, hfz, hnd⟩ := hW
  have hA : DataW.TrodAll enc Try.prog W 0 (fun _ => true) true Try.f4.params.toList args.toList ds p := hA0
  rw [Try.params4] at hA hval
  obtain ⟨v0, vs0, d0, ds0, p0, q0, hargs, rfl, rfl, h0, r0⟩ := trodAll_cons hA
  obtain ⟨rfl, rfl, rfl⟩ := trodAll_nil r0
  obtain rfl : args = #[v0] := by cases args; simp_all
  obtain ⟨rfl, rfl⟩ := trodVars_none hV
  obtain ⟨a0, len0, cap0, rfl⟩ := okWide_slice Try.underlying22 (hval 0 22 v0 rfl rfl)
  have k0 := h0
  have lt0 : ∀ x ∈ p0, x.block < W.heap.size := by obtain ⟨m, hm⟩ := k0; exact DataW.trod_lt m _ _ _ hm
  obtain ⟨z0, w0⟩ : ∃ zs, IsRow .u8 W a0 len0 cap0 zs := by
    obtain ⟨fuel, hf⟩ := h0
    rcases open_ints Try.underlying22 Try.underlying5 (by kernel_rfl) hf with ⟨hcs, _⟩ | ⟨x, l, c, zs, hcs, _, hl, hm, hz, _, hcell, hwz⟩
    · simp [Value.cells] at hcs
      obtain ⟨rfl, rfl, rfl⟩ := hcs
      exact ⟨[], .inl ⟨rfl, rfl, rfl, rfl⟩⟩
    · simp [Value.cells] at hcs
      obtain ⟨rfl, rfl, rfl⟩ := hcs
      exact ⟨zs, .inr ⟨_, rfl, hl, hm, by simpa using hz, hcell, hwz⟩⟩
  clear hA0 hval0
  refine (walk a0 len0 cap0 z0 W w0).mono fun e W' ⟨he, bel⟩ => ?_
  subst he
  exact ⟨_, rfl, _, _, _, [], _, [], hW', trodAll_mk1 (shut_bool Try.underlying4 _), (trodAll_cons_mk (Below.trod laidOut (by kernel_rfl) (of_decide_eq_true (by kernel_rfl)) k0 bel lt0) trodAll_mk0), rfl, bel.frame _, fun h => by cases h⟩

theorem over : Rows.fnShareOrderRow.holds Try.pinned (OpenSpec.ofChange Rows.fnShareOrderSpec) :=
  OpenClaim.holds_of_wide 4 Try.f4 rfl rfl rfl rfl rfl rfl rfl ⟨rfl, rfl, rfl, rfl, rfl⟩ rfl rfl rfl rfl rfl (by kernel_rfl) Try.func4 (by kernel_rfl)
    (of_decide_eq_true (by kernel_rfl)) (by unfold Func.isWrapper; first | (rw [if_pos (by decide +kernel)]; kernel_rfl) | (rw [if_neg (by decide +kernel)]; exact ⟨rfl, rfl⟩))
    (fun os started H enc _ => lifted os started H enc)

/-- The statement. -/
theorem proved : Rows.FnShareOrderSaid := over
#print axioms proved
end Go.Proofs.Ytfoollmmendkiaa.fnShareOrder
