/- For every row of bytes the law of wide numbers returns true: at the three numbers that the bytes draw, MulDiv is the exact product by its divisor, less than the divisor is left over, and one factor more adds just the other one. No condition. -/
import Derived.Test.YthgpimkclpkapaaRows
import Derived.WalkKit
import Derived.WalkSmall
import Derived.BigQuiet
import Derived.Test.YthgpimkclpkapaaDrawN
import Derived.Test.YthgpimkclpkapaaProd
import Derived.ProofKit
import Derived.OpenShut
import Derived.ShutString
import Derived.ChangeOld
import Derived.Below
namespace Go.Proofs.Ythgpimkclpkapaa.fnWide
open Go.ChangeShapes Go.WideShapes Go.ChangeAt Go.RowKit
open Go.ChangeMaps (open_string shut_string)
set_option linter.unusedVariables false

theorem own : ownKnob Try.prog.godebug = none := by kernel_rfl
theorem laidOut : laidOutB Try.prog = true := by kernel_rfl

/-- A slice of integers that came in, with its cells. -/
def IsRow (k : IntKind) (w : World) (a : Option Addr) (len cap : Nat) (zs : List Int) : Prop :=
  (a = none ∧ len = 0 ∧ cap = 0 ∧ zs = []) ∨
  ∃ x, a = some x ∧ len ≤ cap ∧ cap ≤ maxLen ∧ zs.length = cap ∧ (∀ i, i < zs.length → w.cell? (x.add i) = some (.int k (zs.getD i 0))) ∧ ∀ n ∈ zs, (Lit.int k n).wf = true

open Plain Wide Small MulC ProdC DrawN
open Draw (CodeAt In64)

/-- The bytes that came in, as the drawing functions want them. -/
theorem codeAt (w : World) (a : Option Addr) (len cap : Nat) (zs : List Int) (h : IsRow .u8 w a len cap zs) : CodeAt w a len := by
  rcases h with ⟨rfl, rfl, rfl, rfl⟩ | ⟨x, rfl, hl, hm, hz, hcell, hwz⟩
  · exact .inl rfl
  · by_cases z : len = 0
    · exact .inl z
    · obtain ⟨b, off, spot⟩ := x
      have hc := hcell 0 (by omega)
      have hspot : spot = none := by simpa [Addr.add] using World.cell?_spot hc
      subst hspot
      have hc0 : w.cell? ⟨b, off, none⟩ = some (.int .u8 (zs.getD 0 0)) := by simpa [Addr.add] using hc
      refine .inr ⟨b, off, zs, rfl, World.block_lt_of_cell? w _ hc0, fun i hi => ?_⟩
      have k := hcell i (by omega)
      have hw : (Lit.int .u8 (zs.getD i 0)).wf = true := hwz _ (by rw [List.getD_eq_getElem?_getD, List.getElem?_eq_getElem (by omega)]; exact List.getElem_mem _)
      have hb := bounds_u8 hw
      refine ⟨?_, by omega, by omega⟩
      by_cases z : i = 0
      · subst z; simpa [Addr.add] using k
      · simpa [Addr.add, z] using k

/-- One factor more adds just the other one. -/
theorem one_more (a b c q r : Int) (hc : 0 < c) (hq : q = a * b / c) (hr : r = a * b % c) :
    (a + 1) * b / c = q + b / c + (b % c + r) / c ∧ (a + 1) * b % c = (b % c + r) % c := by
  have e : a * b = c * (a * b / c) + a * b % c := (Int.mul_ediv_add_emod _ c).symm
  have f : b = c * (b / c) + b % c := (Int.mul_ediv_add_emod b c).symm
  rw [← hq, ← hr] at e
  have k : (a + 1) * b = (b % c + r) + c * (q + b / c) := by
    rw [Int.add_mul, Int.one_mul, e, Int.mul_add]
    generalize c * q = u at *
    generalize c * (b / c) = v at *
    omega
  rw [k, Int.add_mul_ediv_left _ _ (by omega), Int.add_mul_emod_self_left]
  exact ⟨by omega, rfl⟩

set_option maxRecDepth 100000 in
set_option maxHeartbeats 8000000 in
theorem walk (a0 : Option Addr) (len0 cap0 : Nat) (z0 : List Int) (w : World) (w0 : IsRow .u8 w a0 len0 cap0 z0) :
    Calls Try.prog 3 #[.slice a0 len0 cap0] w fun e w' => e = .returned (.bool true) ∧ Below w.heap.size w w' := by
  have hcode := codeAt w a0 len0 cap0 z0 w0
  by_cases hl0 : len0 ≤ 1048576
  · go_enter Try.func3, Try.ntmps3
    go_wp2_with (first | (go_at_call 5; go_in) | fail)
    refine (drawMulDiv w a0 len0 cap0 hl0 hcode).mono ?_
    rintro e w1 ⟨⟨a, b, c, ha64, hb64, hc64, rfl⟩, h0⟩
    clear hcode w0
    rcases md_or a b c with ⟨a1, a2, b1, b2, c1, c2⟩ | hbad
    · by_cases big : a * b / c ≤ 1000000000000000
      · obtain ⟨q, hq⟩ : ∃ q, q = a * b / c := ⟨_, rfl⟩
        obtain ⟨r, hr⟩ : ∃ r, r = a * b % c := ⟨_, rfl⟩
        have ht : Hid (Tells a b c q r true) := hide (.inl ⟨big, hq, hr, rfl⟩)
        have q0 : 0 ≤ q := by rw [hq]; exact Int.ediv_nonneg (Int.mul_nonneg a1 b1) (by omega)
        have q1 : q ≤ 1000000000000000 := by rw [hq]; exact big
        have r0 : 0 ≤ r := by rw [hr]; exact Int.emod_nonneg _ (by omega)
        have r1 : r < c := by rw [hr]; exact Int.emod_lt_of_pos _ (by omega)
        have u0 : 0 ≤ b / c := Int.ediv_nonneg b1 (by omega)
        have u1 : b / c ≤ 1000000000000000 := Int.le_trans (Int.ediv_le_self _ b1) b2
        have v0 : 0 ≤ b % c := Int.emod_nonneg _ (by omega)
        have v1 : b % c < c := Int.emod_lt_of_pos _ (by omega)
        have d0 : 0 ≤ (b % c + r) / c := Int.ediv_nonneg (by omega) (by omega)
        have d1 : (b % c + r) / c ≤ 2000000000000000 := Int.le_trans (Int.ediv_le_self _ (by omega)) (by omega)
        have hst := hide (one_more a b c q r (by omega) hq hr)
        obtain ⟨p, hp⟩ : ∃ p, Hid (p = a * b) := ⟨_, hide rfl⟩
        have p0 : 0 ≤ p := by rw [unhide hp]; exact Int.mul_nonneg a1 b1
        have pq : p / c = q := by rw [unhide hp, hq]
        have pr : p % c = r := by rw [unhide hp, hr]
        have ha : Amt a := ⟨by omega, a2⟩
        have hb : Amt b := ⟨by omega, b2⟩
        clear big hq hr ha64 hb64 hc64
        go_wp2_with fail
        refine (iMD a b c q r true _ a1 a2 b1 b2 c1 c2 ht).mono ?_
        rintro e v1 ⟨rfl, g1⟩
        go_wp2_with fail
        refine (sMD a b c q r true _ a1 a2 b1 b2 c1 c2 ht).mono ?_
        rintro e w' ⟨rfl, rfl⟩
        rcases amt_or p with hm | hn
        · have hm' := hm
          obtain ⟨p1, p2⟩ := hm'
          go_wp2_with fail
          refine (iMul_yes a b p _ ha hb hm hp).mono ?_
          rintro e v2 ⟨rfl, g2⟩
          clear hp ht
          by_cases am : a = 1000000000000000
          · have hbad : MDBad (a + 1) b c := by unfold MDBad; omega
            clear am
            go_wp2_with fail
            refine (iMD_no (a + 1) b c _ hbad).mono ?_
            rintro e w' ⟨rfl, rfl⟩
            go_wp2
            go_ret
            exact ⟨rfl, h0.trans (Below.mono (Gr.below (g1.trans g2)) h0.size)⟩
          · have amb : (a == 1000000000000000) = false := by simpa using am
            have a3 : a + 1 ≤ 1000000000000000 := by omega
            obtain ⟨hs, ht'⟩ := unhide hst
            by_cases big : (a + 1) * b / c ≤ 1000000000000000
            · obtain ⟨s, es⟩ : ∃ s, s = (a + 1) * b / c := ⟨_, rfl⟩
              obtain ⟨t, et⟩ : ∃ t, t = (a + 1) * b % c := ⟨_, rfl⟩
              have tl : Hid (Tells (a + 1) b c s t true) := hide (.inl ⟨big, es, et, rfl⟩)
              rw [← es] at hs
              rw [← et] at ht'
              have Es : (s == q + b / c + (b % c + r) / c) = true := by rw [hs]; simp
              have Et : (t == (b + r) % c) = true := by rw [ht', Int.emod_add_emod]; simp
              clear hs ht' es et big hst am
              go_wp2_with fail
              refine (iMD (a + 1) b c s t true _ (by omega) a3 b1 b2 c1 c2 tl).mono ?_
              rintro e v3 ⟨rfl, g3⟩
              clear tl
              go_wp2
              go_quiet (fail)
              go_wp2
              go_ret
              exact ⟨rfl, below_drewN (h0.trans (Below.mono (Gr.below ((g1.trans g2).trans g3)) h0.size)) _⟩
            · have tl : Hid (Tells (a + 1) b c 0 0 false) := hide (.inr ⟨by omega, rfl, rfl, rfl⟩)
              clear hs ht' big hst am
              go_wp2_with fail
              refine (iMD (a + 1) b c 0 0 false _ (by omega) a3 b1 b2 c1 c2 tl).mono ?_
              rintro e v3 ⟨rfl, g3⟩
              go_wp2
              go_ret
              exact ⟨rfl, h0.trans (Below.mono (Gr.below ((g1.trans g2).trans g3)) h0.size)⟩
        · have hm : Bad a b p := .inr (.inr ⟨ha, hb, hn⟩)
          clear hn
          go_wp2_with fail
          refine (iMul_no a b p _ hp hm).mono ?_
          rintro e v2 ⟨rfl, g2⟩
          clear hp ht
          by_cases am : a = 1000000000000000
          · have hbad : MDBad (a + 1) b c := by unfold MDBad; omega
            clear am
            go_wp2_with fail
            refine (iMD_no (a + 1) b c _ hbad).mono ?_
            rintro e w' ⟨rfl, rfl⟩
            go_wp2
            go_ret
            exact ⟨rfl, h0.trans (Below.mono (Gr.below (g1.trans g2)) h0.size)⟩
          · have amb : (a == 1000000000000000) = false := by simpa using am
            have a3 : a + 1 ≤ 1000000000000000 := by omega
            obtain ⟨hs, ht'⟩ := unhide hst
            by_cases big : (a + 1) * b / c ≤ 1000000000000000
            · obtain ⟨s, es⟩ : ∃ s, s = (a + 1) * b / c := ⟨_, rfl⟩
              obtain ⟨t, et⟩ : ∃ t, t = (a + 1) * b % c := ⟨_, rfl⟩
              have tl : Hid (Tells (a + 1) b c s t true) := hide (.inl ⟨big, es, et, rfl⟩)
              rw [← es] at hs
              rw [← et] at ht'
              have Es : (s == q + b / c + (b % c + r) / c) = true := by rw [hs]; simp
              have Et : (t == (b + r) % c) = true := by rw [ht', Int.emod_add_emod]; simp
              clear hs ht' es et big hst am
              go_wp2_with fail
              refine (iMD (a + 1) b c s t true _ (by omega) a3 b1 b2 c1 c2 tl).mono ?_
              rintro e v3 ⟨rfl, g3⟩
              clear tl
              go_wp2
              go_quiet (fail)
              go_wp2
              go_ret
              exact ⟨rfl, below_drewN (h0.trans (Below.mono (Gr.below ((g1.trans g2).trans g3)) h0.size)) _⟩
            · have tl : Hid (Tells (a + 1) b c 0 0 false) := hide (.inr ⟨by omega, rfl, rfl, rfl⟩)
              clear hs ht' big hst am
              go_wp2_with fail
              refine (iMD (a + 1) b c 0 0 false _ (by omega) a3 b1 b2 c1 c2 tl).mono ?_
              rintro e v3 ⟨rfl, g3⟩
              go_wp2
              go_ret
              exact ⟨rfl, h0.trans (Below.mono (Gr.below ((g1.trans g2).trans g3)) h0.size)⟩
      · have ht : Hid (Tells a b c 0 0 false) := hide (.inr ⟨by omega, rfl, rfl, rfl⟩)
        clear big ha64 hb64 hc64
        go_wp2_with fail
        refine (iMD a b c 0 0 false _ a1 a2 b1 b2 c1 c2 ht).mono ?_
        rintro e v1 ⟨rfl, g1⟩
        go_wp2_with fail
        refine (sMD a b c 0 0 false _ a1 a2 b1 b2 c1 c2 ht).mono ?_
        rintro e w' ⟨rfl, rfl⟩
        go_wp2
        go_ret
        exact ⟨rfl, h0.trans (Below.mono (Gr.below g1) h0.size)⟩
    · clear ha64 hb64 hc64
      go_wp2_with fail
      refine (iMD_no a b c _ hbad).mono ?_
      rintro e w' ⟨rfl, rfl⟩
      go_wp2_with fail
      refine (sMD_no a b c _ hbad).mono ?_
      rintro e w' ⟨rfl, rfl⟩
      go_wp2
      go_ret
      exact ⟨rfl, h0⟩
  · go_enter Try.func3, Try.ntmps3
    go_wp2
    go_ret
    exact ⟨rfl, Below.refl _ _⟩

set_option maxRecDepth 100000 in
theorem lifted (os : Os) (started : os.Started) (H : Type) (enc : TypeId × Value → H) :
    ReturnsInHanded {} Try.checked os 3 .any (Rows.fnWideSpec.pre6 enc Try.prog Try.f3 Rows.fnWideRow.domain false) (Rows.fnWideSpec.post enc Try.prog Try.f3 false true false false) := by
  refine returnsInHanded_of_change (C := Try.checked) own started (by kernel_rfl) Try.func3
    (ChangeSpec.witness6 (enc := enc) (C := Try.checked) false ⟨#[], #[.slice none 0 0], []⟩ 8 (by kernel_rfl) (by kernel_rfl) (by kernel_rfl) (by kernel_rfl)) ?_
  intro W base args ds gs before hval0 hW hcnd _
  have hval : ∀ (j : Nat) t v, Try.f3.params[j]? = some t → args[j]? = some v → Value.okWide Try.prog W .any base t v := hval0
  have hW' := hW
  obtain ⟨p, q, hA0, hV, rfl, hfz, hnd⟩ := hW
  have hA : DataW.TrodAll enc Try.prog W 0 (fun _ => true) true Try.f3.params.toList args.toList ds p := hA0
  rw [Try.params3] at hA hval
  obtain ⟨v0, vs0, d0, ds0, p0, q0, hargs, rfl, rfl, h0, r0⟩ := trodAll_cons hA
  obtain ⟨rfl, rfl, rfl⟩ := trodAll_nil r0
  obtain rfl : args = #[v0] := by cases args; simp_all
  obtain ⟨rfl, rfl⟩ := trodVars_none hV
  obtain ⟨a0, len0, cap0, rfl⟩ := okWide_slice Try.underlying22 (hval 0 22 v0 rfl rfl)
  have k0 := h0
  have lt0 : ∀ x ∈ p0, x.block < W.heap.size := by obtain ⟨m, hm⟩ := k0; exact DataW.trod_lt m _ _ _ hm
  obtain ⟨z0, w0⟩ : ∃ zs, IsRow .u8 W a0 len0 cap0 zs := by
    obtain ⟨fuel, hf⟩ := h0
    rcases open_ints Try.underlying22 Try.underlying5 (by kernel_rfl) hf with ⟨hcs, _⟩ | ⟨x, l, c, zs, hcs, _, hl, hm, hz, _, hcell, hwz⟩
    · simp [Value.cells] at hcs
      obtain ⟨rfl, rfl, rfl⟩ := hcs
      exact ⟨[], .inl ⟨rfl, rfl, rfl, rfl⟩⟩
    · simp [Value.cells] at hcs
      obtain ⟨rfl, rfl, rfl⟩ := hcs
      exact ⟨zs, .inr ⟨_, rfl, hl, hm, by simpa using hz, hcell, hwz⟩⟩
  clear hA0 hval0
  refine (walk a0 len0 cap0 z0 W w0).mono fun e W' ⟨he, bel⟩ => ?_
  subst he
  exact ⟨_, rfl, _, _, _, [], _, [], hW', trodAll_mk1 (shut_bool Try.underlying4 _), (trodAll_cons_mk (Below.trod laidOut (by kernel_rfl) (of_decide_eq_true (by kernel_rfl)) k0 bel lt0) trodAll_mk0), rfl, bel.frame _, fun h => by cases h⟩

theorem over : Rows.fnWideRow.holds Try.pinned (OpenSpec.ofChange Rows.fnWideSpec) :=
  OpenClaim.holds_of_wide 3 Try.f3 rfl rfl rfl rfl rfl rfl rfl ⟨rfl, rfl, rfl, rfl, rfl⟩ rfl rfl rfl rfl rfl (by kernel_rfl) Try.func3 (by kernel_rfl)
    (of_decide_eq_true (by kernel_rfl)) (by unfold Func.isWrapper; first | (rw [if_pos (by decide +kernel)]; kernel_rfl) | (rw [if_neg (by decide +kernel)]; exact ⟨rfl, rfl⟩))
    (fun os started H enc _ => lifted os started H enc)

/-- The statement. -/
theorem proved : Rows.FnWideSaid := over
#print axioms proved
end Go.Proofs.Ythgpimkclpkapaa.fnWide
