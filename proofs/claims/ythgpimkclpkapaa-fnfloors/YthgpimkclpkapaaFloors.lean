/- For every row of bytes the law of floors returns true: at the two numbers that the bytes draw, DivFloor gives the greatest number that is not above, sums and differences go back, and no sum or product that does not fit is told. No condition. -/
import Derived.Test.YthgpimkclpkapaaRows
import Derived.WalkKit
import Derived.WalkSmall
import Derived.BigQuiet
import Derived.Test.YthgpimkclpkapaaDrawN
import Derived.Test.YthgpimkclpkapaaFloor
import Derived.Test.YthgpimkclpkapaaProd
import Derived.ProofKit
import Derived.OpenShut
import Derived.ShutString
import Derived.ChangeOld
import Derived.Below
namespace Go.Proofs.Ythgpimkclpkapaa.fnFloors
open Go.ChangeShapes Go.WideShapes Go.ChangeAt Go.RowKit
open Go.ChangeMaps (open_string shut_string)
set_option linter.unusedVariables false

theorem own : ownKnob Try.prog.godebug = none := by kernel_rfl
theorem laidOut : laidOutB Try.prog = true := by kernel_rfl

/-- A slice of integers that came in, with its cells. -/
def IsRow (k : IntKind) (w : World) (a : Option Addr) (len cap : Nat) (zs : List Int) : Prop :=
  (a = none ∧ len = 0 ∧ cap = 0 ∧ zs = []) ∨
  ∃ x, a = some x ∧ len ≤ cap ∧ cap ≤ maxLen ∧ zs.length = cap ∧ (∀ i, i < zs.length → w.cell? (x.add i) = some (.int k (zs.getD i 0))) ∧ ∀ n ∈ zs, (Lit.int k n).wf = true

open Plain Wide Small Floor MulC ProdC DrawN
open Draw (CodeAt In64)

/-- The bytes that came in, as the drawing functions want them. -/
theorem codeAt (w : World) (a : Option Addr) (len cap : Nat) (zs : List Int) (h : IsRow .u8 w a len cap zs) : CodeAt w a len := by
  rcases h with ⟨rfl, rfl, rfl, rfl⟩ | ⟨x, rfl, hl, hm, hz, hcell, hwz⟩
  · exact .inl rfl
  · by_cases z : len = 0
    · exact .inl z
    · obtain ⟨b, off, spot⟩ := x
      have hc := hcell 0 (by omega)
      have hspot : spot = none := by simpa [Addr.add] using World.cell?_spot hc
      subst hspot
      have hc0 : w.cell? ⟨b, off, none⟩ = some (.int .u8 (zs.getD 0 0)) := by simpa [Addr.add] using hc
      refine .inr ⟨b, off, zs, rfl, World.block_lt_of_cell? w _ hc0, fun i hi => ?_⟩
      have k := hcell i (by omega)
      have hw : (Lit.int .u8 (zs.getD i 0)).wf = true := hwz _ (by rw [List.getD_eq_getElem?_getD, List.getElem?_eq_getElem (by omega)]; exact List.getElem_mem _)
      have hb := bounds_u8 hw
      refine ⟨?_, by omega, by omega⟩
      by_cases z : i = 0
      · subst z; simpa [Addr.add] using k
      · simpa [Addr.add, z] using k

theorem floor_rest (a b q m : Int) (hq : q = a.fdiv b) (hm : q * b = m) (b0 : b ≠ 0) :
    (0 < b → 0 ≤ a - m ∧ a - m < b) ∧ (b < 0 → a - m ≤ 0 ∧ b < a - m) := by
  have e : a - m = a.fmod b := by
    have := Int.mul_fdiv_add_fmod a b
    rw [← hq, Int.mul_comm, hm] at this
    omega
  rw [e]
  refine ⟨fun h => ⟨Int.fmod_nonneg_of_pos a h, Int.fmod_lt_of_pos a h⟩, fun h => ?_⟩
  have k := Int.fmod_nonneg_of_pos (-a) (b := -b) (by omega)
  have l := Int.fmod_lt_of_pos (-a) (b := -b) (by omega)
  rw [Int.neg_fmod_neg] at k l
  omega

set_option maxRecDepth 100000 in
set_option maxHeartbeats 8000000 in
theorem walk (a0 : Option Addr) (len0 cap0 : Nat) (z0 : List Int) (w : World) (w0 : IsRow .u8 w a0 len0 cap0 z0) :
    Calls Try.prog 4 #[.slice a0 len0 cap0] w fun e w' => e = .returned (.bool true) ∧ Below w.heap.size w w' := by
  rcases codeAt w a0 len0 cap0 z0 w0 with hcode
  by_cases hl0 : len0 ≤ 1048576
  · go_enter Try.func4, Try.ntmps4
    go_wp2_with (first | (go_at_call 5; go_in) | fail)
    refine (drawDivFloor w a0 len0 cap0 hl0 hcode).mono ?_
    rintro e w1 ⟨⟨a, b, ha64, hb64, rfl⟩, h0⟩
    obtain ⟨p, hp⟩ : ∃ p, Hid (p = a * b) := ⟨_, hide rfl⟩
    clear hcode w0
    rcases amt_or a with ha | ha
    · rcases amt_or b with hb | hb
      · by_cases hb0 : b = 0
        · have hd : NoAmt a ∨ (Amt a ∧ NoAmt b) ∨ (Amt a ∧ Amt b ∧ b = 0) := .inr (.inr ⟨ha, hb, hb0⟩)
          have hs : Amt (a + b) := by rw [hb0, Int.add_zero]; exact ha
          have hl : Amt (a - b) := by rw [hb0, Int.sub_zero]; exact ha
          have hsb : Amt (a + b - b) := by rw [Int.add_sub_cancel]; exact ha
          have e1 : a + b - b = a := Int.add_sub_cancel a b
          have hlb : Amt (a - b + b) := by rw [Int.sub_add_cancel]; exact ha
          have e2 : a - b + b = a := Int.sub_add_cancel a b
          clear hb0
          have hb' := hb
          obtain ⟨b1, b2⟩ := hb'
          rcases amt_or p with hm | hn
          · by_cases az : a = 0
            · have ab : (a == 0) = true := by simp [az]
              have pz : (p == 0) = true := by rw [unhide hp, az, Int.zero_mul]; rfl
              have AZ := hide az
              clear az
              go_wp2_with fail
              refine (iDiv_no a b _ hd).mono ?_
              rintro e w' ⟨rfl, rfl⟩
              go_wp2_with fail
              refine (sDiv_no a b _ hd).mono ?_
              rintro e w' ⟨rfl, rfl⟩
              go_wp2_with fail
              refine (iAdd_yes a b _ ha hb hs).mono ?_
              rintro e w' ⟨rfl, rfl⟩
              go_wp2_with fail
              refine (sAdd_yes a b _ ha hb hs).mono ?_
              rintro e w' ⟨rfl, rfl⟩
              go_wp2_with fail
              refine (iSub_yes a b _ ha hb hl).mono ?_
              rintro e w' ⟨rfl, rfl⟩
              go_wp2_with fail
              refine (sSub_yes a b _ ha hb hl).mono ?_
              rintro e w' ⟨rfl, rfl⟩
              go_wp2_with fail
              refine (iSub_yes (a + b) b _ hs hb hsb).mono ?_
              rintro e w' ⟨rfl, rfl⟩
              go_wp2_with fail
              refine (iAmt_yes (a + b) _ hs).mono ?_
              rintro e w' ⟨rfl, rfl⟩
              go_wp2_with fail
              refine (iAdd_yes (a - b) b _ hl hb hlb).mono ?_
              rintro e w' ⟨rfl, rfl⟩
              go_wp2_with fail
              refine (iMul_yes a b p _ ha hb hm hp).mono ?_
              rintro e v1 ⟨rfl, g1⟩
              go_wp2_with fail
              refine (sMul_yes a b p _ ha hb hm hp).mono ?_
              rintro e w' ⟨rfl, rfl⟩
              go_wp2
              go_ret
              exact ⟨rfl, h0.trans (Below.mono (Gr.below (g1)) h0.size)⟩
            · have ab : (a == 0) = false := by simpa using az
              have ac : (a != 0) = true := by simpa using az
              have t1 : p.tdiv a = b := by rw [unhide hp]; exact Int.mul_tdiv_cancel_left b az
              have t2 : p.tmod a = 0 := by rw [unhide hp]; exact Int.mul_tmod_right a b
              go_wp2_with fail
              refine (iDiv_no a b _ hd).mono ?_
              rintro e w' ⟨rfl, rfl⟩
              go_wp2_with fail
              refine (sDiv_no a b _ hd).mono ?_
              rintro e w' ⟨rfl, rfl⟩
              go_wp2_with fail
              refine (iAdd_yes a b _ ha hb hs).mono ?_
              rintro e w' ⟨rfl, rfl⟩
              go_wp2_with fail
              refine (sAdd_yes a b _ ha hb hs).mono ?_
              rintro e w' ⟨rfl, rfl⟩
              go_wp2_with fail
              refine (iSub_yes a b _ ha hb hl).mono ?_
              rintro e w' ⟨rfl, rfl⟩
              go_wp2_with fail
              refine (sSub_yes a b _ ha hb hl).mono ?_
              rintro e w' ⟨rfl, rfl⟩
              go_wp2_with fail
              refine (iSub_yes (a + b) b _ hs hb hsb).mono ?_
              rintro e w' ⟨rfl, rfl⟩
              go_wp2_with fail
              refine (iAmt_yes (a + b) _ hs).mono ?_
              rintro e w' ⟨rfl, rfl⟩
              go_wp2_with fail
              refine (iAdd_yes (a - b) b _ hl hb hlb).mono ?_
              rintro e w' ⟨rfl, rfl⟩
              go_wp2_with fail
              refine (iMul_yes a b p _ ha hb hm hp).mono ?_
              rintro e v1 ⟨rfl, g1⟩
              go_wp2_with fail
              refine (sMul_yes a b p _ ha hb hm hp).mono ?_
              rintro e w' ⟨rfl, rfl⟩
              go_wp2
              go_ret
              exact ⟨rfl, h0.trans (Below.mono (Gr.below (g1)) h0.size)⟩
          · have hm : Bad a b p := .inr (.inr ⟨ha, hb, hn⟩)
            clear hn
            go_wp2_with fail
            refine (iDiv_no a b _ hd).mono ?_
            rintro e w' ⟨rfl, rfl⟩
            go_wp2_with fail
            refine (sDiv_no a b _ hd).mono ?_
            rintro e w' ⟨rfl, rfl⟩
            go_wp2_with fail
            refine (iAdd_yes a b _ ha hb hs).mono ?_
            rintro e w' ⟨rfl, rfl⟩
            go_wp2_with fail
            refine (sAdd_yes a b _ ha hb hs).mono ?_
            rintro e w' ⟨rfl, rfl⟩
            go_wp2_with fail
            refine (iSub_yes a b _ ha hb hl).mono ?_
            rintro e w' ⟨rfl, rfl⟩
            go_wp2_with fail
            refine (sSub_yes a b _ ha hb hl).mono ?_
            rintro e w' ⟨rfl, rfl⟩
            go_wp2_with fail
            refine (iSub_yes (a + b) b _ hs hb hsb).mono ?_
            rintro e w' ⟨rfl, rfl⟩
            go_wp2_with fail
            refine (iAmt_yes (a + b) _ hs).mono ?_
            rintro e w' ⟨rfl, rfl⟩
            go_wp2_with fail
            refine (iAdd_yes (a - b) b _ hl hb hlb).mono ?_
            rintro e w' ⟨rfl, rfl⟩
            go_wp2_with fail
            refine (iMul_no a b p _ hp hm).mono ?_
            rintro e v1 ⟨rfl, g1⟩
            go_wp2_with fail
            refine (sMul_no a b p _ hp hm).mono ?_
            rintro e w' ⟨rfl, rfl⟩
            go_wp2
            go_ret
            exact ⟨rfl, h0.trans (Below.mono (Gr.below (g1)) h0.size)⟩
        · obtain ⟨q, hq⟩ : ∃ q, Hid (q = a.fdiv b) := ⟨_, hide rfl⟩
          obtain ⟨m, em⟩ : ∃ m, q * b = m := ⟨_, rfl⟩
          obtain ⟨rp, rn⟩ := floor_rest a b q m (unhide hq) em hb0
          have ha' := ha
          have hb' := hb
          obtain ⟨a1, a2⟩ := ha'
          obtain ⟨b1, b2⟩ := hb'
          by_cases bp : 0 < b
          · obtain ⟨r0, r1⟩ := rp bp
            clear rp rn
            rcases amt_or (a + b) with hs | hs
            · have hsb : Amt (a + b - b) := by rw [Int.add_sub_cancel]; exact ha
              have e1 : a + b - b = a := Int.add_sub_cancel a b
              rcases amt_or (a - b) with hl | hl
              · have hlb : Amt (a - b + b) := by rw [Int.sub_add_cancel]; exact ha
                have e2 : a - b + b = a := Int.sub_add_cancel a b
                rcases amt_or p with hm | hn
                · by_cases az : a = 0
                  · have ab : (a == 0) = true := by simp [az]
                    have pz : (p == 0) = true := by rw [unhide hp, az, Int.zero_mul]; rfl
                    have AZ := hide az
                    clear az
                    go_wp2_with fail
                    refine (iDiv_yes a b q _ ha hb hb0 hq).mono ?_
                    rintro e v1 ⟨rfl, g1⟩
                    go_wp2_with fail
                    refine (sDiv_yes a b q _ ha hb hb0 hq).mono ?_
                    rintro e v2 ⟨rfl, g2⟩
                    go_wp2_with fail
                    refine (iAdd_yes a b _ ha hb hs).mono ?_
                    rintro e w' ⟨rfl, rfl⟩
                    go_wp2_with fail
                    refine (sAdd_yes a b _ ha hb hs).mono ?_
                    rintro e w' ⟨rfl, rfl⟩
                    go_wp2_with fail
                    refine (iSub_yes a b _ ha hb hl).mono ?_
                    rintro e w' ⟨rfl, rfl⟩
                    go_wp2_with fail
                    refine (sSub_yes a b _ ha hb hl).mono ?_
                    rintro e w' ⟨rfl, rfl⟩
                    go_wp2_with fail
                    refine (iSub_yes (a + b) b _ hs hb hsb).mono ?_
                    rintro e w' ⟨rfl, rfl⟩
                    go_wp2_with fail
                    refine (iAmt_yes (a + b) _ hs).mono ?_
                    rintro e w' ⟨rfl, rfl⟩
                    go_wp2_with fail
                    refine (iAdd_yes (a - b) b _ hl hb hlb).mono ?_
                    rintro e w' ⟨rfl, rfl⟩
                    go_wp2_with fail
                    refine (iMul_yes a b p _ ha hb hm hp).mono ?_
                    rintro e v3 ⟨rfl, g3⟩
                    go_wp2_with fail
                    refine (sMul_yes a b p _ ha hb hm hp).mono ?_
                    rintro e w' ⟨rfl, rfl⟩
                    go_wp2
                    go_ret
                    exact ⟨rfl, h0.trans (Below.mono (Gr.below (((g1).trans g2).trans g3)) h0.size)⟩
                  · have ab : (a == 0) = false := by simpa using az
                    have ac : (a != 0) = true := by simpa using az
                    have t1 : p.tdiv a = b := by rw [unhide hp]; exact Int.mul_tdiv_cancel_left b az
                    have t2 : p.tmod a = 0 := by rw [unhide hp]; exact Int.mul_tmod_right a b
                    go_wp2_with fail
                    refine (iDiv_yes a b q _ ha hb hb0 hq).mono ?_
                    rintro e v1 ⟨rfl, g1⟩
                    go_wp2_with fail
                    refine (sDiv_yes a b q _ ha hb hb0 hq).mono ?_
                    rintro e v2 ⟨rfl, g2⟩
                    go_wp2_with fail
                    refine (iAdd_yes a b _ ha hb hs).mono ?_
                    rintro e w' ⟨rfl, rfl⟩
                    go_wp2_with fail
                    refine (sAdd_yes a b _ ha hb hs).mono ?_
                    rintro e w' ⟨rfl, rfl⟩
                    go_wp2_with fail
                    refine (iSub_yes a b _ ha hb hl).mono ?_
                    rintro e w' ⟨rfl, rfl⟩
                    go_wp2_with fail
                    refine (sSub_yes a b _ ha hb hl).mono ?_
                    rintro e w' ⟨rfl, rfl⟩
                    go_wp2_with fail
                    refine (iSub_yes (a + b) b _ hs hb hsb).mono ?_
                    rintro e w' ⟨rfl, rfl⟩
                    go_wp2_with fail
                    refine (iAmt_yes (a + b) _ hs).mono ?_
                    rintro e w' ⟨rfl, rfl⟩
                    go_wp2_with fail
                    refine (iAdd_yes (a - b) b _ hl hb hlb).mono ?_
                    rintro e w' ⟨rfl, rfl⟩
                    go_wp2_with fail
                    refine (iMul_yes a b p _ ha hb hm hp).mono ?_
                    rintro e v3 ⟨rfl, g3⟩
                    go_wp2_with fail
                    refine (sMul_yes a b p _ ha hb hm hp).mono ?_
                    rintro e w' ⟨rfl, rfl⟩
                    go_wp2
                    go_ret
                    exact ⟨rfl, h0.trans (Below.mono (Gr.below (((g1).trans g2).trans g3)) h0.size)⟩
                · have hm : Bad a b p := .inr (.inr ⟨ha, hb, hn⟩)
                  clear hn
                  go_wp2_with fail
                  refine (iDiv_yes a b q _ ha hb hb0 hq).mono ?_
                  rintro e v1 ⟨rfl, g1⟩
                  go_wp2_with fail
                  refine (sDiv_yes a b q _ ha hb hb0 hq).mono ?_
                  rintro e v2 ⟨rfl, g2⟩
                  go_wp2_with fail
                  refine (iAdd_yes a b _ ha hb hs).mono ?_
                  rintro e w' ⟨rfl, rfl⟩
                  go_wp2_with fail
                  refine (sAdd_yes a b _ ha hb hs).mono ?_
                  rintro e w' ⟨rfl, rfl⟩
                  go_wp2_with fail
                  refine (iSub_yes a b _ ha hb hl).mono ?_
                  rintro e w' ⟨rfl, rfl⟩
                  go_wp2_with fail
                  refine (sSub_yes a b _ ha hb hl).mono ?_
                  rintro e w' ⟨rfl, rfl⟩
                  go_wp2_with fail
                  refine (iSub_yes (a + b) b _ hs hb hsb).mono ?_
                  rintro e w' ⟨rfl, rfl⟩
                  go_wp2_with fail
                  refine (iAmt_yes (a + b) _ hs).mono ?_
                  rintro e w' ⟨rfl, rfl⟩
                  go_wp2_with fail
                  refine (iAdd_yes (a - b) b _ hl hb hlb).mono ?_
                  rintro e w' ⟨rfl, rfl⟩
                  go_wp2_with fail
                  refine (iMul_no a b p _ hp hm).mono ?_
                  rintro e v3 ⟨rfl, g3⟩
                  go_wp2_with fail
                  refine (sMul_no a b p _ hp hm).mono ?_
                  rintro e w' ⟨rfl, rfl⟩
                  go_wp2
                  go_ret
                  exact ⟨rfl, h0.trans (Below.mono (Gr.below (((g1).trans g2).trans g3)) h0.size)⟩
              · replace hl : Bad a b (a - b) := .inr (.inr ⟨ha, hb, hl⟩)
                rcases amt_or p with hm | hn
                · by_cases az : a = 0
                  · have ab : (a == 0) = true := by simp [az]
                    have pz : (p == 0) = true := by rw [unhide hp, az, Int.zero_mul]; rfl
                    have AZ := hide az
                    clear az
                    go_wp2_with fail
                    refine (iDiv_yes a b q _ ha hb hb0 hq).mono ?_
                    rintro e v1 ⟨rfl, g1⟩
                    go_wp2_with fail
                    refine (sDiv_yes a b q _ ha hb hb0 hq).mono ?_
                    rintro e v2 ⟨rfl, g2⟩
                    go_wp2_with fail
                    refine (iAdd_yes a b _ ha hb hs).mono ?_
                    rintro e w' ⟨rfl, rfl⟩
                    go_wp2_with fail
                    refine (sAdd_yes a b _ ha hb hs).mono ?_
                    rintro e w' ⟨rfl, rfl⟩
                    go_wp2_with fail
                    refine (iSub_no a b _ hl).mono ?_
                    rintro e w' ⟨rfl, rfl⟩
                    go_wp2_with fail
                    refine (sSub_no a b _ hl).mono ?_
                    rintro e w' ⟨rfl, rfl⟩
                    go_wp2_with fail
                    refine (iSub_yes (a + b) b _ hs hb hsb).mono ?_
                    rintro e w' ⟨rfl, rfl⟩
                    go_wp2_with fail
                    refine (iAmt_yes (a + b) _ hs).mono ?_
                    rintro e w' ⟨rfl, rfl⟩
                    go_wp2_with fail
                    refine (iMul_yes a b p _ ha hb hm hp).mono ?_
                    rintro e v3 ⟨rfl, g3⟩
                    go_wp2_with fail
                    refine (sMul_yes a b p _ ha hb hm hp).mono ?_
                    rintro e w' ⟨rfl, rfl⟩
                    go_wp2
                    go_ret
                    exact ⟨rfl, h0.trans (Below.mono (Gr.below (((g1).trans g2).trans g3)) h0.size)⟩
                  · have ab : (a == 0) = false := by simpa using az
                    have ac : (a != 0) = true := by simpa using az
                    have t1 : p.tdiv a = b := by rw [unhide hp]; exact Int.mul_tdiv_cancel_left b az
                    have t2 : p.tmod a = 0 := by rw [unhide hp]; exact Int.mul_tmod_right a b
                    go_wp2_with fail
                    refine (iDiv_yes a b q _ ha hb hb0 hq).mono ?_
                    rintro e v1 ⟨rfl, g1⟩
                    go_wp2_with fail
                    refine (sDiv_yes a b q _ ha hb hb0 hq).mono ?_
                    rintro e v2 ⟨rfl, g2⟩
                    go_wp2_with fail
                    refine (iAdd_yes a b _ ha hb hs).mono ?_
                    rintro e w' ⟨rfl, rfl⟩
                    go_wp2_with fail
                    refine (sAdd_yes a b _ ha hb hs).mono ?_
                    rintro e w' ⟨rfl, rfl⟩
                    go_wp2_with fail
                    refine (iSub_no a b _ hl).mono ?_
                    rintro e w' ⟨rfl, rfl⟩
                    go_wp2_with fail
                    refine (sSub_no a b _ hl).mono ?_
                    rintro e w' ⟨rfl, rfl⟩
                    go_wp2_with fail
                    refine (iSub_yes (a + b) b _ hs hb hsb).mono ?_
                    rintro e w' ⟨rfl, rfl⟩
                    go_wp2_with fail
                    refine (iAmt_yes (a + b) _ hs).mono ?_
                    rintro e w' ⟨rfl, rfl⟩
                    go_wp2_with fail
                    refine (iMul_yes a b p _ ha hb hm hp).mono ?_
                    rintro e v3 ⟨rfl, g3⟩
                    go_wp2_with fail
                    refine (sMul_yes a b p _ ha hb hm hp).mono ?_
                    rintro e w' ⟨rfl, rfl⟩
                    go_wp2
                    go_ret
                    exact ⟨rfl, h0.trans (Below.mono (Gr.below (((g1).trans g2).trans g3)) h0.size)⟩
                · have hm : Bad a b p := .inr (.inr ⟨ha, hb, hn⟩)
                  clear hn
                  go_wp2_with fail
                  refine (iDiv_yes a b q _ ha hb hb0 hq).mono ?_
                  rintro e v1 ⟨rfl, g1⟩
                  go_wp2_with fail
                  refine (sDiv_yes a b q _ ha hb hb0 hq).mono ?_
                  rintro e v2 ⟨rfl, g2⟩
                  go_wp2_with fail
                  refine (iAdd_yes a b _ ha hb hs).mono ?_
                  rintro e w' ⟨rfl, rfl⟩
                  go_wp2_with fail
                  refine (sAdd_yes a b _ ha hb hs).mono ?_
                  rintro e w' ⟨rfl, rfl⟩
                  go_wp2_with fail
                  refine (iSub_no a b _ hl).mono ?_
                  rintro e w' ⟨rfl, rfl⟩
                  go_wp2_with fail
                  refine (sSub_no a b _ hl).mono ?_
                  rintro e w' ⟨rfl, rfl⟩
                  go_wp2_with fail
                  refine (iSub_yes (a + b) b _ hs hb hsb).mono ?_
                  rintro e w' ⟨rfl, rfl⟩
                  go_wp2_with fail
                  refine (iAmt_yes (a + b) _ hs).mono ?_
                  rintro e w' ⟨rfl, rfl⟩
                  go_wp2_with fail
                  refine (iMul_no a b p _ hp hm).mono ?_
                  rintro e v3 ⟨rfl, g3⟩
                  go_wp2_with fail
                  refine (sMul_no a b p _ hp hm).mono ?_
                  rintro e w' ⟨rfl, rfl⟩
                  go_wp2
                  go_ret
                  exact ⟨rfl, h0.trans (Below.mono (Gr.below (((g1).trans g2).trans g3)) h0.size)⟩
            · have hl : Amt (a - b) := by unfold NoAmt at hs; unfold Amt at ha hb ⊢; omega
              have hlb : Amt (a - b + b) := by rw [Int.sub_add_cancel]; exact ha
              have e2 : a - b + b = a := Int.sub_add_cancel a b
              replace hs : Bad a b (a + b) := .inr (.inr ⟨ha, hb, hs⟩)
              rcases amt_or p with hm | hn
              · by_cases az : a = 0
                · have ab : (a == 0) = true := by simp [az]
                  have pz : (p == 0) = true := by rw [unhide hp, az, Int.zero_mul]; rfl
                  have AZ := hide az
                  clear az
                  go_wp2_with fail
                  refine (iDiv_yes a b q _ ha hb hb0 hq).mono ?_
                  rintro e v1 ⟨rfl, g1⟩
                  go_wp2_with fail
                  refine (sDiv_yes a b q _ ha hb hb0 hq).mono ?_
                  rintro e v2 ⟨rfl, g2⟩
                  go_wp2_with fail
                  refine (iAdd_no a b _ hs).mono ?_
                  rintro e w' ⟨rfl, rfl⟩
                  go_wp2_with fail
                  refine (sAdd_no a b _ hs).mono ?_
                  rintro e w' ⟨rfl, rfl⟩
                  go_wp2_with fail
                  refine (iSub_yes a b _ ha hb hl).mono ?_
                  rintro e w' ⟨rfl, rfl⟩
                  go_wp2_with fail
                  refine (sSub_yes a b _ ha hb hl).mono ?_
                  rintro e w' ⟨rfl, rfl⟩
                  go_wp2_with fail
                  refine (iAdd_yes (a - b) b _ hl hb hlb).mono ?_
                  rintro e w' ⟨rfl, rfl⟩
                  go_wp2_with fail
                  refine (iMul_yes a b p _ ha hb hm hp).mono ?_
                  rintro e v3 ⟨rfl, g3⟩
                  go_wp2_with fail
                  refine (sMul_yes a b p _ ha hb hm hp).mono ?_
                  rintro e w' ⟨rfl, rfl⟩
                  go_wp2
                  go_ret
                  exact ⟨rfl, h0.trans (Below.mono (Gr.below (((g1).trans g2).trans g3)) h0.size)⟩
                · have ab : (a == 0) = false := by simpa using az
                  have ac : (a != 0) = true := by simpa using az
                  have t1 : p.tdiv a = b := by rw [unhide hp]; exact Int.mul_tdiv_cancel_left b az
                  have t2 : p.tmod a = 0 := by rw [unhide hp]; exact Int.mul_tmod_right a b
                  go_wp2_with fail
                  refine (iDiv_yes a b q _ ha hb hb0 hq).mono ?_
                  rintro e v1 ⟨rfl, g1⟩
                  go_wp2_with fail
                  refine (sDiv_yes a b q _ ha hb hb0 hq).mono ?_
                  rintro e v2 ⟨rfl, g2⟩
                  go_wp2_with fail
                  refine (iAdd_no a b _ hs).mono ?_
                  rintro e w' ⟨rfl, rfl⟩
                  go_wp2_with fail
                  refine (sAdd_no a b _ hs).mono ?_
                  rintro e w' ⟨rfl, rfl⟩
                  go_wp2_with fail
                  refine (iSub_yes a b _ ha hb hl).mono ?_
                  rintro e w' ⟨rfl, rfl⟩
                  go_wp2_with fail
                  refine (sSub_yes a b _ ha hb hl).mono ?_
                  rintro e w' ⟨rfl, rfl⟩
                  go_wp2_with fail
                  refine (iAdd_yes (a - b) b _ hl hb hlb).mono ?_
                  rintro e w' ⟨rfl, rfl⟩
                  go_wp2_with fail
                  refine (iMul_yes a b p _ ha hb hm hp).mono ?_
                  rintro e v3 ⟨rfl, g3⟩
                  go_wp2_with fail
                  refine (sMul_yes a b p _ ha hb hm hp).mono ?_
                  rintro e w' ⟨rfl, rfl⟩
                  go_wp2
                  go_ret
                  exact ⟨rfl, h0.trans (Below.mono (Gr.below (((g1).trans g2).trans g3)) h0.size)⟩
              · have hm : Bad a b p := .inr (.inr ⟨ha, hb, hn⟩)
                clear hn
                go_wp2_with fail
                refine (iDiv_yes a b q _ ha hb hb0 hq).mono ?_
                rintro e v1 ⟨rfl, g1⟩
                go_wp2_with fail
                refine (sDiv_yes a b q _ ha hb hb0 hq).mono ?_
                rintro e v2 ⟨rfl, g2⟩
                go_wp2_with fail
                refine (iAdd_no a b _ hs).mono ?_
                rintro e w' ⟨rfl, rfl⟩
                go_wp2_with fail
                refine (sAdd_no a b _ hs).mono ?_
                rintro e w' ⟨rfl, rfl⟩
                go_wp2_with fail
                refine (iSub_yes a b _ ha hb hl).mono ?_
                rintro e w' ⟨rfl, rfl⟩
                go_wp2_with fail
                refine (sSub_yes a b _ ha hb hl).mono ?_
                rintro e w' ⟨rfl, rfl⟩
                go_wp2_with fail
                refine (iAdd_yes (a - b) b _ hl hb hlb).mono ?_
                rintro e w' ⟨rfl, rfl⟩
                go_wp2_with fail
                refine (iMul_no a b p _ hp hm).mono ?_
                rintro e v3 ⟨rfl, g3⟩
                go_wp2_with fail
                refine (sMul_no a b p _ hp hm).mono ?_
                rintro e w' ⟨rfl, rfl⟩
                go_wp2
                go_ret
                exact ⟨rfl, h0.trans (Below.mono (Gr.below (((g1).trans g2).trans g3)) h0.size)⟩
          · obtain ⟨r0, r1⟩ := rn (by omega)
            clear rp rn
            have bn : b < 0 := by omega
            rcases amt_or (a + b) with hs | hs
            · have hsb : Amt (a + b - b) := by rw [Int.add_sub_cancel]; exact ha
              have e1 : a + b - b = a := Int.add_sub_cancel a b
              rcases amt_or (a - b) with hl | hl
              · have hlb : Amt (a - b + b) := by rw [Int.sub_add_cancel]; exact ha
                have e2 : a - b + b = a := Int.sub_add_cancel a b
                rcases amt_or p with hm | hn
                · by_cases az : a = 0
                  · have ab : (a == 0) = true := by simp [az]
                    have pz : (p == 0) = true := by rw [unhide hp, az, Int.zero_mul]; rfl
                    have AZ := hide az
                    clear az
                    go_wp2_with fail
                    refine (iDiv_yes a b q _ ha hb hb0 hq).mono ?_
                    rintro e v1 ⟨rfl, g1⟩
                    go_wp2_with fail
                    refine (sDiv_yes a b q _ ha hb hb0 hq).mono ?_
                    rintro e v2 ⟨rfl, g2⟩
                    go_wp2_with fail
                    refine (iAdd_yes a b _ ha hb hs).mono ?_
                    rintro e w' ⟨rfl, rfl⟩
                    go_wp2_with fail
                    refine (sAdd_yes a b _ ha hb hs).mono ?_
                    rintro e w' ⟨rfl, rfl⟩
                    go_wp2_with fail
                    refine (iSub_yes a b _ ha hb hl).mono ?_
                    rintro e w' ⟨rfl, rfl⟩
                    go_wp2_with fail
                    refine (sSub_yes a b _ ha hb hl).mono ?_
                    rintro e w' ⟨rfl, rfl⟩
                    go_wp2_with fail
                    refine (iSub_yes (a + b) b _ hs hb hsb).mono ?_
                    rintro e w' ⟨rfl, rfl⟩
                    go_wp2_with fail
                    refine (iAmt_yes (a + b) _ hs).mono ?_
                    rintro e w' ⟨rfl, rfl⟩
                    go_wp2_with fail
                    refine (iAdd_yes (a - b) b _ hl hb hlb).mono ?_
                    rintro e w' ⟨rfl, rfl⟩
                    go_wp2_with fail
                    refine (iMul_yes a b p _ ha hb hm hp).mono ?_
                    rintro e v3 ⟨rfl, g3⟩
                    go_wp2_with fail
                    refine (sMul_yes a b p _ ha hb hm hp).mono ?_
                    rintro e w' ⟨rfl, rfl⟩
                    go_wp2
                    go_ret
                    exact ⟨rfl, h0.trans (Below.mono (Gr.below (((g1).trans g2).trans g3)) h0.size)⟩
                  · have ab : (a == 0) = false := by simpa using az
                    have ac : (a != 0) = true := by simpa using az
                    have t1 : p.tdiv a = b := by rw [unhide hp]; exact Int.mul_tdiv_cancel_left b az
                    have t2 : p.tmod a = 0 := by rw [unhide hp]; exact Int.mul_tmod_right a b
                    go_wp2_with fail
                    refine (iDiv_yes a b q _ ha hb hb0 hq).mono ?_
                    rintro e v1 ⟨rfl, g1⟩
                    go_wp2_with fail
                    refine (sDiv_yes a b q _ ha hb hb0 hq).mono ?_
                    rintro e v2 ⟨rfl, g2⟩
                    go_wp2_with fail
                    refine (iAdd_yes a b _ ha hb hs).mono ?_
                    rintro e w' ⟨rfl, rfl⟩
                    go_wp2_with fail
                    refine (sAdd_yes a b _ ha hb hs).mono ?_
                    rintro e w' ⟨rfl, rfl⟩
                    go_wp2_with fail
                    refine (iSub_yes a b _ ha hb hl).mono ?_
                    rintro e w' ⟨rfl, rfl⟩
                    go_wp2_with fail
                    refine (sSub_yes a b _ ha hb hl).mono ?_
                    rintro e w' ⟨rfl, rfl⟩
                    go_wp2_with fail
                    refine (iSub_yes (a + b) b _ hs hb hsb).mono ?_
                    rintro e w' ⟨rfl, rfl⟩
                    go_wp2_with fail
                    refine (iAmt_yes (a + b) _ hs).mono ?_
                    rintro e w' ⟨rfl, rfl⟩
                    go_wp2_with fail
                    refine (iAdd_yes (a - b) b _ hl hb hlb).mono ?_
                    rintro e w' ⟨rfl, rfl⟩
                    go_wp2_with fail
                    refine (iMul_yes a b p _ ha hb hm hp).mono ?_
                    rintro e v3 ⟨rfl, g3⟩
                    go_wp2_with fail
                    refine (sMul_yes a b p _ ha hb hm hp).mono ?_
                    rintro e w' ⟨rfl, rfl⟩
                    go_wp2
                    go_ret
                    exact ⟨rfl, h0.trans (Below.mono (Gr.below (((g1).trans g2).trans g3)) h0.size)⟩
                · have hm : Bad a b p := .inr (.inr ⟨ha, hb, hn⟩)
                  clear hn
                  go_wp2_with fail
                  refine (iDiv_yes a b q _ ha hb hb0 hq).mono ?_
                  rintro e v1 ⟨rfl, g1⟩
                  go_wp2_with fail
                  refine (sDiv_yes a b q _ ha hb hb0 hq).mono ?_
                  rintro e v2 ⟨rfl, g2⟩
                  go_wp2_with fail
                  refine (iAdd_yes a b _ ha hb hs).mono ?_
                  rintro e w' ⟨rfl, rfl⟩
                  go_wp2_with fail
                  refine (sAdd_yes a b _ ha hb hs).mono ?_
                  rintro e w' ⟨rfl, rfl⟩
                  go_wp2_with fail
                  refine (iSub_yes a b _ ha hb hl).mono ?_
                  rintro e w' ⟨rfl, rfl⟩
                  go_wp2_with fail
                  refine (sSub_yes a b _ ha hb hl).mono ?_
                  rintro e w' ⟨rfl, rfl⟩
                  go_wp2_with fail
                  refine (iSub_yes (a + b) b _ hs hb hsb).mono ?_
                  rintro e w' ⟨rfl, rfl⟩
                  go_wp2_with fail
                  refine (iAmt_yes (a + b) _ hs).mono ?_
                  rintro e w' ⟨rfl, rfl⟩
                  go_wp2_with fail
                  refine (iAdd_yes (a - b) b _ hl hb hlb).mono ?_
                  rintro e w' ⟨rfl, rfl⟩
                  go_wp2_with fail
                  refine (iMul_no a b p _ hp hm).mono ?_
                  rintro e v3 ⟨rfl, g3⟩
                  go_wp2_with fail
                  refine (sMul_no a b p _ hp hm).mono ?_
                  rintro e w' ⟨rfl, rfl⟩
                  go_wp2
                  go_ret
                  exact ⟨rfl, h0.trans (Below.mono (Gr.below (((g1).trans g2).trans g3)) h0.size)⟩
              · replace hl : Bad a b (a - b) := .inr (.inr ⟨ha, hb, hl⟩)
                rcases amt_or p with hm | hn
                · by_cases az : a = 0
                  · have ab : (a == 0) = true := by simp [az]
                    have pz : (p == 0) = true := by rw [unhide hp, az, Int.zero_mul]; rfl
                    have AZ := hide az
                    clear az
                    go_wp2_with fail
                    refine (iDiv_yes a b q _ ha hb hb0 hq).mono ?_
                    rintro e v1 ⟨rfl, g1⟩
                    go_wp2_with fail
                    refine (sDiv_yes a b q _ ha hb hb0 hq).mono ?_
                    rintro e v2 ⟨rfl, g2⟩
                    go_wp2_with fail
                    refine (iAdd_yes a b _ ha hb hs).mono ?_
                    rintro e w' ⟨rfl, rfl⟩
                    go_wp2_with fail
                    refine (sAdd_yes a b _ ha hb hs).mono ?_
                    rintro e w' ⟨rfl, rfl⟩
                    go_wp2_with fail
                    refine (iSub_no a b _ hl).mono ?_
                    rintro e w' ⟨rfl, rfl⟩
                    go_wp2_with fail
                    refine (sSub_no a b _ hl).mono ?_
                    rintro e w' ⟨rfl, rfl⟩
                    go_wp2_with fail
                    refine (iSub_yes (a + b) b _ hs hb hsb).mono ?_
                    rintro e w' ⟨rfl, rfl⟩
                    go_wp2_with fail
                    refine (iAmt_yes (a + b) _ hs).mono ?_
                    rintro e w' ⟨rfl, rfl⟩
                    go_wp2_with fail
                    refine (iMul_yes a b p _ ha hb hm hp).mono ?_
                    rintro e v3 ⟨rfl, g3⟩
                    go_wp2_with fail
                    refine (sMul_yes a b p _ ha hb hm hp).mono ?_
                    rintro e w' ⟨rfl, rfl⟩
                    go_wp2
                    go_ret
                    exact ⟨rfl, h0.trans (Below.mono (Gr.below (((g1).trans g2).trans g3)) h0.size)⟩
                  · have ab : (a == 0) = false := by simpa using az
                    have ac : (a != 0) = true := by simpa using az
                    have t1 : p.tdiv a = b := by rw [unhide hp]; exact Int.mul_tdiv_cancel_left b az
                    have t2 : p.tmod a = 0 := by rw [unhide hp]; exact Int.mul_tmod_right a b
                    go_wp2_with fail
                    refine (iDiv_yes a b q _ ha hb hb0 hq).mono ?_
                    rintro e v1 ⟨rfl, g1⟩
                    go_wp2_with fail
                    refine (sDiv_yes a b q _ ha hb hb0 hq).mono ?_
                    rintro e v2 ⟨rfl, g2⟩
                    go_wp2_with fail
                    refine (iAdd_yes a b _ ha hb hs).mono ?_
                    rintro e w' ⟨rfl, rfl⟩
                    go_wp2_with fail
                    refine (sAdd_yes a b _ ha hb hs).mono ?_
                    rintro e w' ⟨rfl, rfl⟩
                    go_wp2_with fail
                    refine (iSub_no a b _ hl).mono ?_
                    rintro e w' ⟨rfl, rfl⟩
                    go_wp2_with fail
                    refine (sSub_no a b _ hl).mono ?_
                    rintro e w' ⟨rfl, rfl⟩
                    go_wp2_with fail
                    refine (iSub_yes (a + b) b _ hs hb hsb).mono ?_
                    rintro e w' ⟨rfl, rfl⟩
                    go_wp2_with fail
                    refine (iAmt_yes (a + b) _ hs).mono ?_
                    rintro e w' ⟨rfl, rfl⟩
                    go_wp2_with fail
                    refine (iMul_yes a b p _ ha hb hm hp).mono ?_
                    rintro e v3 ⟨rfl, g3⟩
                    go_wp2_with fail
                    refine (sMul_yes a b p _ ha hb hm hp).mono ?_
                    rintro e w' ⟨rfl, rfl⟩
                    go_wp2
                    go_ret
                    exact ⟨rfl, h0.trans (Below.mono (Gr.below (((g1).trans g2).trans g3)) h0.size)⟩
                · have hm : Bad a b p := .inr (.inr ⟨ha, hb, hn⟩)
                  clear hn
                  go_wp2_with fail
                  refine (iDiv_yes a b q _ ha hb hb0 hq).mono ?_
                  rintro e v1 ⟨rfl, g1⟩
                  go_wp2_with fail
                  refine (sDiv_yes a b q _ ha hb hb0 hq).mono ?_
                  rintro e v2 ⟨rfl, g2⟩
                  go_wp2_with fail
                  refine (iAdd_yes a b _ ha hb hs).mono ?_
                  rintro e w' ⟨rfl, rfl⟩
                  go_wp2_with fail
                  refine (sAdd_yes a b _ ha hb hs).mono ?_
                  rintro e w' ⟨rfl, rfl⟩
                  go_wp2_with fail
                  refine (iSub_no a b _ hl).mono ?_
                  rintro e w' ⟨rfl, rfl⟩
                  go_wp2_with fail
                  refine (sSub_no a b _ hl).mono ?_
                  rintro e w' ⟨rfl, rfl⟩
                  go_wp2_with fail
                  refine (iSub_yes (a + b) b _ hs hb hsb).mono ?_
                  rintro e w' ⟨rfl, rfl⟩
                  go_wp2_with fail
                  refine (iAmt_yes (a + b) _ hs).mono ?_
                  rintro e w' ⟨rfl, rfl⟩
                  go_wp2_with fail
                  refine (iMul_no a b p _ hp hm).mono ?_
                  rintro e v3 ⟨rfl, g3⟩
                  go_wp2_with fail
                  refine (sMul_no a b p _ hp hm).mono ?_
                  rintro e w' ⟨rfl, rfl⟩
                  go_wp2
                  go_ret
                  exact ⟨rfl, h0.trans (Below.mono (Gr.below (((g1).trans g2).trans g3)) h0.size)⟩
            · have hl : Amt (a - b) := by unfold NoAmt at hs; unfold Amt at ha hb ⊢; omega
              have hlb : Amt (a - b + b) := by rw [Int.sub_add_cancel]; exact ha
              have e2 : a - b + b = a := Int.sub_add_cancel a b
              replace hs : Bad a b (a + b) := .inr (.inr ⟨ha, hb, hs⟩)
              rcases amt_or p with hm | hn
              · by_cases az : a = 0
                · have ab : (a == 0) = true := by simp [az]
                  have pz : (p == 0) = true := by rw [unhide hp, az, Int.zero_mul]; rfl
                  have AZ := hide az
                  clear az
                  go_wp2_with fail
                  refine (iDiv_yes a b q _ ha hb hb0 hq).mono ?_
                  rintro e v1 ⟨rfl, g1⟩
                  go_wp2_with fail
                  refine (sDiv_yes a b q _ ha hb hb0 hq).mono ?_
                  rintro e v2 ⟨rfl, g2⟩
                  go_wp2_with fail
                  refine (iAdd_no a b _ hs).mono ?_
                  rintro e w' ⟨rfl, rfl⟩
                  go_wp2_with fail
                  refine (sAdd_no a b _ hs).mono ?_
                  rintro e w' ⟨rfl, rfl⟩
                  go_wp2_with fail
                  refine (iSub_yes a b _ ha hb hl).mono ?_
                  rintro e w' ⟨rfl, rfl⟩
                  go_wp2_with fail
                  refine (sSub_yes a b _ ha hb hl).mono ?_
                  rintro e w' ⟨rfl, rfl⟩
                  go_wp2_with fail
                  refine (iAdd_yes (a - b) b _ hl hb hlb).mono ?_
                  rintro e w' ⟨rfl, rfl⟩
                  go_wp2_with fail
                  refine (iMul_yes a b p _ ha hb hm hp).mono ?_
                  rintro e v3 ⟨rfl, g3⟩
                  go_wp2_with fail
                  refine (sMul_yes a b p _ ha hb hm hp).mono ?_
                  rintro e w' ⟨rfl, rfl⟩
                  go_wp2
                  go_ret
                  exact ⟨rfl, h0.trans (Below.mono (Gr.below (((g1).trans g2).trans g3)) h0.size)⟩
                · have ab : (a == 0) = false := by simpa using az
                  have ac : (a != 0) = true := by simpa using az
                  have t1 : p.tdiv a = b := by rw [unhide hp]; exact Int.mul_tdiv_cancel_left b az
                  have t2 : p.tmod a = 0 := by rw [unhide hp]; exact Int.mul_tmod_right a b
                  go_wp2_with fail
                  refine (iDiv_yes a b q _ ha hb hb0 hq).mono ?_
                  rintro e v1 ⟨rfl, g1⟩
                  go_wp2_with fail
                  refine (sDiv_yes a b q _ ha hb hb0 hq).mono ?_
                  rintro e v2 ⟨rfl, g2⟩
                  go_wp2_with fail
                  refine (iAdd_no a b _ hs).mono ?_
                  rintro e w' ⟨rfl, rfl⟩
                  go_wp2_with fail
                  refine (sAdd_no a b _ hs).mono ?_
                  rintro e w' ⟨rfl, rfl⟩
                  go_wp2_with fail
                  refine (iSub_yes a b _ ha hb hl).mono ?_
                  rintro e w' ⟨rfl, rfl⟩
                  go_wp2_with fail
                  refine (sSub_yes a b _ ha hb hl).mono ?_
                  rintro e w' ⟨rfl, rfl⟩
                  go_wp2_with fail
                  refine (iAdd_yes (a - b) b _ hl hb hlb).mono ?_
                  rintro e w' ⟨rfl, rfl⟩
                  go_wp2_with fail
                  refine (iMul_yes a b p _ ha hb hm hp).mono ?_
                  rintro e v3 ⟨rfl, g3⟩
                  go_wp2_with fail
                  refine (sMul_yes a b p _ ha hb hm hp).mono ?_
                  rintro e w' ⟨rfl, rfl⟩
                  go_wp2
                  go_ret
                  exact ⟨rfl, h0.trans (Below.mono (Gr.below (((g1).trans g2).trans g3)) h0.size)⟩
              · have hm : Bad a b p := .inr (.inr ⟨ha, hb, hn⟩)
                clear hn
                go_wp2_with fail
                refine (iDiv_yes a b q _ ha hb hb0 hq).mono ?_
                rintro e v1 ⟨rfl, g1⟩
                go_wp2_with fail
                refine (sDiv_yes a b q _ ha hb hb0 hq).mono ?_
                rintro e v2 ⟨rfl, g2⟩
                go_wp2_with fail
                refine (iAdd_no a b _ hs).mono ?_
                rintro e w' ⟨rfl, rfl⟩
                go_wp2_with fail
                refine (sAdd_no a b _ hs).mono ?_
                rintro e w' ⟨rfl, rfl⟩
                go_wp2_with fail
                refine (iSub_yes a b _ ha hb hl).mono ?_
                rintro e w' ⟨rfl, rfl⟩
                go_wp2_with fail
                refine (sSub_yes a b _ ha hb hl).mono ?_
                rintro e w' ⟨rfl, rfl⟩
                go_wp2_with fail
                refine (iAdd_yes (a - b) b _ hl hb hlb).mono ?_
                rintro e w' ⟨rfl, rfl⟩
                go_wp2_with fail
                refine (iMul_no a b p _ hp hm).mono ?_
                rintro e v3 ⟨rfl, g3⟩
                go_wp2_with fail
                refine (sMul_no a b p _ hp hm).mono ?_
                rintro e w' ⟨rfl, rfl⟩
                go_wp2
                go_ret
                exact ⟨rfl, h0.trans (Below.mono (Gr.below (((g1).trans g2).trans g3)) h0.size)⟩
      · have hd : NoAmt a ∨ (Amt a ∧ NoAmt b) ∨ (Amt a ∧ Amt b ∧ b = 0) := .inr (.inl ⟨ha, hb⟩)
        have hs : Bad a b (a + b) := .inr (.inl ⟨ha, hb⟩)
        have hl : Bad a b (a - b) := .inr (.inl ⟨ha, hb⟩)
        have hm : Bad a b p := .inr (.inl ⟨ha, hb⟩)
        go_wp2_with fail
        refine (iDiv_no a b _ hd).mono ?_
        rintro e w' ⟨rfl, rfl⟩
        go_wp2_with fail
        refine (sDiv_no a b _ hd).mono ?_
        rintro e w' ⟨rfl, rfl⟩
        go_wp2_with fail
        refine (iAdd_no a b _ hs).mono ?_
        rintro e w' ⟨rfl, rfl⟩
        go_wp2_with fail
        refine (sAdd_no a b _ hs).mono ?_
        rintro e w' ⟨rfl, rfl⟩
        go_wp2_with fail
        refine (iSub_no a b _ hl).mono ?_
        rintro e w' ⟨rfl, rfl⟩
        go_wp2_with fail
        refine (sSub_no a b _ hl).mono ?_
        rintro e w' ⟨rfl, rfl⟩
        go_wp2_with fail
        refine (iMul_no a b p _ hp hm).mono ?_
        rintro e v1 ⟨rfl, g1⟩
        go_wp2_with fail
        refine (sMul_no a b p _ hp hm).mono ?_
        rintro e w' ⟨rfl, rfl⟩
        go_wp2
        go_ret
        exact ⟨rfl, h0.trans (Below.mono (Gr.below (g1)) h0.size)⟩
    · have hd : NoAmt a ∨ (Amt a ∧ NoAmt b) ∨ (Amt a ∧ Amt b ∧ b = 0) := .inl ha
      have hs : Bad a b (a + b) := .inl ha
      have hl : Bad a b (a - b) := .inl ha
      have hm : Bad a b p := .inl ha
      go_wp2_with fail
      refine (iDiv_no a b _ hd).mono ?_
      rintro e w' ⟨rfl, rfl⟩
      go_wp2_with fail
      refine (sDiv_no a b _ hd).mono ?_
      rintro e w' ⟨rfl, rfl⟩
      go_wp2_with fail
      refine (iAdd_no a b _ hs).mono ?_
      rintro e w' ⟨rfl, rfl⟩
      go_wp2_with fail
      refine (sAdd_no a b _ hs).mono ?_
      rintro e w' ⟨rfl, rfl⟩
      go_wp2_with fail
      refine (iSub_no a b _ hl).mono ?_
      rintro e w' ⟨rfl, rfl⟩
      go_wp2_with fail
      refine (sSub_no a b _ hl).mono ?_
      rintro e w' ⟨rfl, rfl⟩
      go_wp2_with fail
      refine (iMul_no a b p _ hp hm).mono ?_
      rintro e v1 ⟨rfl, g1⟩
      go_wp2_with fail
      refine (sMul_no a b p _ hp hm).mono ?_
      rintro e w' ⟨rfl, rfl⟩
      go_wp2
      go_ret
      exact ⟨rfl, h0.trans (Below.mono (Gr.below (g1)) h0.size)⟩
  · go_enter Try.func4, Try.ntmps4
    go_wp2
    go_ret
    exact ⟨rfl, Below.refl _ _⟩

set_option maxRecDepth 100000 in
theorem lifted (os : Os) (started : os.Started) (H : Type) (enc : TypeId × Value → H) :
    ReturnsInHanded {} Try.checked os 4 .any (Rows.fnFloorsSpec.pre6 enc Try.prog Try.f4 Rows.fnFloorsRow.domain false) (Rows.fnFloorsSpec.post enc Try.prog Try.f4 false true false false) := by
  refine returnsInHanded_of_change (C := Try.checked) own started (by kernel_rfl) Try.func4
    (ChangeSpec.witness6 (enc := enc) (C := Try.checked) false ⟨#[], #[.slice none 0 0], []⟩ 8 (by kernel_rfl) (by kernel_rfl) (by kernel_rfl) (by kernel_rfl)) ?_
  intro W base args ds gs before hval0 hW hcnd _
  have hval : ∀ (j : Nat) t v, Try.f4.params[j]? = some t → args[j]? = some v → Value.okWide Try.prog W .any base t v := hval0
  have hW' := hW
  obtain ⟨p, q, hA0, hV, rfl, hfz, hnd⟩ := hW
  have hA : DataW.TrodAll enc Try.prog W 0 (fun _ => true) true Try.f4.params.toList args.toList ds p := hA0
  rw [Try.params4] at hA hval
  obtain ⟨v0, vs0, d0, ds0, p0, q0, hargs, rfl, rfl, h0, r0⟩ := trodAll_cons hA
  obtain ⟨rfl, rfl, rfl⟩ := trodAll_nil r0
  obtain rfl : args = #[v0] := by cases args; simp_all
  obtain ⟨rfl, rfl⟩ := trodVars_none hV
  obtain ⟨a0, len0, cap0, rfl⟩ := okWide_slice Try.underlying22 (hval 0 22 v0 rfl rfl)
  have k0 := h0
  have lt0 : ∀ x ∈ p0, x.block < W.heap.size := by obtain ⟨m, hm⟩ := k0; exact DataW.trod_lt m _ _ _ hm
  obtain ⟨z0, w0⟩ : ∃ zs, IsRow .u8 W a0 len0 cap0 zs := by
    obtain ⟨fuel, hf⟩ := h0
    rcases open_ints Try.underlying22 Try.underlying5 (by kernel_rfl) hf with ⟨hcs, _⟩ | ⟨x, l, c, zs, hcs, _, hl, hm, hz, _, hcell, hwz⟩
    · simp [Value.cells] at hcs
      obtain ⟨rfl, rfl, rfl⟩ := hcs
      exact ⟨[], .inl ⟨rfl, rfl, rfl, rfl⟩⟩
    · simp [Value.cells] at hcs
      obtain ⟨rfl, rfl, rfl⟩ := hcs
      exact ⟨zs, .inr ⟨_, rfl, hl, hm, by simpa using hz, hcell, hwz⟩⟩
  clear hA0 hval0
  refine (walk a0 len0 cap0 z0 W w0).mono fun e W' ⟨he, bel⟩ => ?_
  subst he
  exact ⟨_, rfl, _, _, _, [], _, [], hW', trodAll_mk1 (shut_bool Try.underlying4 _), (trodAll_cons_mk (Below.trod laidOut (by kernel_rfl) (of_decide_eq_true (by kernel_rfl)) k0 bel lt0) trodAll_mk0), rfl, bel.frame _, fun h => by cases h⟩

theorem over : Rows.fnFloorsRow.holds Try.pinned (OpenSpec.ofChange Rows.fnFloorsSpec) :=
  OpenClaim.holds_of_wide 4 Try.f4 rfl rfl rfl rfl rfl rfl rfl ⟨rfl, rfl, rfl, rfl, rfl⟩ rfl rfl rfl rfl rfl (by kernel_rfl) Try.func4 (by kernel_rfl)
    (of_decide_eq_true (by kernel_rfl)) (by unfold Func.isWrapper; first | (rw [if_pos (by decide +kernel)]; kernel_rfl) | (rw [if_neg (by decide +kernel)]; exact ⟨rfl, rfl⟩))
    (fun os started H enc _ => lifted os started H enc)

/-- The statement. -/
theorem proved : Rows.FnFloorsSaid := over
#print axioms proved
end Go.Proofs.Ythgpimkclpkapaa.fnFloors
