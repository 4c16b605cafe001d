/- At any bytes and any place the program's GetNum answers as its model, writes into no argument. No condition. -/
import Derived.Test.YtjnabhflddnbaaaRows
import Derived.Test.YtjnabhflddnbaaaByteH
import Derived.Test.YtjnabhflddnbaaaVOB
import Derived.Test.YtjnabhflddnbaaaInts
import Derived.Test.YtjnabhflddnbaaaSBytes
import Derived.Test.YtjnabhflddnbaaaLaw11
import Derived.Test.YtjnabhflddnbaaaLawS11
import Derived.Test.YtjnabhflddnbaaaSPut11
import Derived.Test.YtjnabhflddnbaaaSPuts11
import Derived.Test.YtjnabhflddnbaaaIRd11
import Derived.Test.YtjnabhflddnbaaaIGet11
import Derived.ShutString
import Derived.ChangeOld
import Derived.Below
namespace Go.Proofs.Ytjnabhflddnbaaa.fnExactGetNum
open Go.ChangeShapes Go.WideShapes Go.ChangeAt Go.RowKit
open Go.ChangeMaps (open_string shut_string)
set_option linter.unusedVariables false
set_option linter.unusedSimpArgs false

theorem own : ownKnob Try.prog.godebug = none := by kernel_rfl
theorem laidOut : laidOutB Try.prog = true := by kernel_rfl

open SBytes

theorem sGetNumB (w : World) (g cap : Nat) (xs : List Int) (p : Int) (h20 : xs.length ≤ 1048576) (hg : g < w.heap.size) (hr : AtB w g xs) :
    Calls Try.prog 14 #[.slice (some ⟨g, 0, none⟩) xs.length cap, .int .i64 p] w fun e w' => e = .returned (.tuple #[.int .i64 (getN xs p).1, .int .i64 (getN xs p).2.1, .bool (getN xs p).2.2]) ∧ Below w.heap.size w w' :=
  (sGetNum w g cap xs p h20 hr).mono fun e w' ⟨h, k⟩ => ⟨h, by rw [k]; exact Below.refl _ _⟩


set_option maxRecDepth 100000 in
set_option maxHeartbeats 8000000 in
theorem walk (a0 : Option Addr) (len0 cap0 : Nat) (z0 : List Int) (a1 : Int) (w : World) (w0 : Ints.IsRow .u8 w a0 len0 cap0 z0) (w1 : (Lit.int .i64 a1).wf = true) :
    Calls Try.prog 4 #[.slice a0 len0 cap0, .int .i64 a1] w fun e w' => e = .returned (.bool true) ∧ Below w.heap.size w w' := by
  have XL := hide (LawS11.int_le w1)
  obtain ⟨hl, hr, hi, hm⟩ := Law11.row_bytes w0
  generalize z0.take len0 = zs at *
  have R0 := hide hr
  have IN := hide hi
  have HL := hide hl
  clear w0 hr hi hl
  by_cases s : (len0 : Int) ≤ 1048576
  case neg =>
    go_enter Try.func4, Try.ntmps4
    go_wp2
    go_ret
    exact ⟨rfl, Below.refl _ _⟩
  have h20 : len0 ≤ 1048576 := by omega
  clear hm
  have B := hide (Below.refl w.heap.size w)
  have SP := hide (fun u gl hg hr => sGetNumB u gl len0 zs a1 (by rw [unhide HL]; exact h20) hg hr)
  have IM := hide (fun u gl hg hr => IGet11.iGetNum u gl len0 zs a1 (by rw [unhide HL]; exact h20) (by rw [unhide HL]; exact Nat.le_refl _) (unhide XL) hg hr)
  rw [unhide HL] at SP IM
  generalize getN zs a1 = y at *
  obtain ⟨r1, r2, r3⟩ := y
  have q1 : (r1 != r1) = false := by simp
  have q2 : (r2 != r2) = false := by simp
  have q3 : (r3 != r3) = false := by simp
  go_enter Try.func4, Try.ntmps4
  go_wp2_with fail
  refine (ByteH.toByteS _ a0 len0 cap0 zs (unhide HL) (by omega) ((unhide R0).below (unhide B))).mono ?_
  rintro e u1 ⟨rfl, ox, bb⟩
  replace B := hide ((unhide B).trans (bb.mono (unhide B).size))
  have OX := hide ox
  clear bb ox
  go_wp2_with fail
  refine ((unhide SP) u1 _ (unhide OX).lt.2 (Law11.atB (unhide OX) (unhide IN))).mono ?_
  rintro e u2 ⟨rfl, bb⟩
  replace B := hide ((unhide B).trans (bb.mono (unhide B).size))
  clear bb OX
  go_wp2_with fail
  refine (ByteH.toByteS _ a0 len0 cap0 zs (unhide HL) (by omega) ((unhide R0).below (unhide B))).mono ?_
  rintro e u3 ⟨rfl, ox, bb⟩
  have L3 := hide ox.lt.2
  replace B := hide ((unhide B).trans (bb.mono (unhide B).size))
  have OX := hide ox
  clear bb ox
  go_wp2_with fail
  refine ((unhide IM) u3 _ (unhide OX).lt.2 (Law11.atB (unhide OX) (unhide IN))).mono ?_
  rintro e u4 ⟨rfl, bb⟩
  replace B := hide ((unhide B).trans (bb.mono (unhide B).size))
  replace OX := hide ((unhide OX).below bb (unhide OX).lt.2)
  clear bb
  go_wp2_with fail
  refine (ByteH.toByteS _ a0 len0 cap0 zs (unhide HL) (by omega) ((unhide R0).below (unhide B))).mono ?_
  rintro e u6 ⟨rfl, oy, bb⟩
  have L6 := hide bb.size
  replace B := hide ((unhide B).trans (bb.mono (unhide B).size))
  replace OX := hide ((unhide OX).below bb (unhide OX).lt.2)
  have OY := hide oy
  clear bb oy
  go_wp2_with fail
  refine (ByteH.eqByteS _ _ _ len0 _ _ zs (unhide HL) (by omega) (unhide OX).at (unhide OY).at).mono ?_
  rintro e u7 ⟨rfl, bb⟩
  have L7 := hide bb.size
  replace B := hide ((unhide B).trans (bb.mono (unhide B).size))
  replace OX := hide ((unhide OX).below bb (unhide OX).lt.2)
  clear bb OY
  go_wp2
  go_ret
  exact ⟨rfl, unhide B⟩

set_option maxRecDepth 100000 in
theorem lifted (os : Os) (started : os.Started) (H : Type) (enc : TypeId × Value → H) :
    ReturnsInHanded {} Try.checked os 4 .any (Rows.fnExactGetNumSpec.pre6 enc Try.prog Try.f4 Rows.fnExactGetNumRow.domain false) (Rows.fnExactGetNumSpec.post enc Try.prog Try.f4 false true false false) := by
  refine returnsInHanded_of_change (C := Try.checked) own started (by kernel_rfl) Try.func4
    (ChangeSpec.witness6 (enc := enc) (C := Try.checked) false ⟨#[], #[.slice none 0 0, .int .i64 0], []⟩ 8 (by kernel_rfl) (by kernel_rfl) (by kernel_rfl) (by kernel_rfl)) ?_
  intro W base args ds gs before hval0 hW hcnd _
  have hval : ∀ (j : Nat) t v, Try.f4.params[j]? = some t → args[j]? = some v → Value.okWide Try.prog W .any base t v := hval0
  have hW' := hW
  obtain ⟨p, q, hA0, hV, rfl, hfz, hnd⟩ := hW
  have hA : DataW.TrodAll enc Try.prog W 0 (fun _ => true) true Try.f4.params.toList args.toList ds p := hA0
  rw [Try.params4] at hA hval
  obtain ⟨v0, vs0, d0, ds0, p0, q0, hargs, rfl, rfl, h0, r0⟩ := trodAll_cons hA
  obtain ⟨v1, vs1, d1, ds1, p1, q1, rfl, rfl, rfl, h1, r1⟩ := trodAll_cons r0
  obtain ⟨rfl, rfl, rfl⟩ := trodAll_nil r1
  obtain rfl : args = #[v0, v1] := by cases args; simp_all
  obtain ⟨rfl, rfl⟩ := trodVars_none hV
  obtain ⟨a0, len0, cap0, rfl⟩ := okWide_slice Try.underlying22 (hval 0 22 v0 rfl rfl)
  have k0 := h0
  have lt0 : ∀ x ∈ p0, x.block < W.heap.size := by obtain ⟨m, hm⟩ := k0; exact DataW.trod_lt m _ _ _ hm
  obtain ⟨z0, w0⟩ : ∃ zs, Ints.IsRow .u8 W a0 len0 cap0 zs := by
    obtain ⟨fuel, hf⟩ := h0
    rcases open_ints Try.underlying22 Try.underlying5 (by kernel_rfl) hf with ⟨hcs, _⟩ | ⟨x, l, c, zs, hcs, _, hl, hm, hz, _, hcell, hwz⟩
    · simp [Value.cells] at hcs
      obtain ⟨rfl, rfl, rfl⟩ := hcs
      exact ⟨[], .inl ⟨rfl, rfl, rfl, rfl⟩⟩
    · simp [Value.cells] at hcs
      obtain ⟨rfl, rfl, rfl⟩ := hcs
      exact ⟨zs, .inr ⟨_, rfl, hl, hm, by simpa using hz, hcell, hwz⟩⟩
  obtain ⟨a1, rfl, rfl, rfl, w1⟩ := open_int Try.underlying3 (hval 1 3 v1 rfl rfl) h1
  clear hA0 hval0
  refine (walk a0 len0 cap0 z0 a1 W w0 w1).mono fun e W' ⟨he, bel⟩ => ?_
  subst he
  exact ⟨_, rfl, _, _, _, [], _, [], hW', trodAll_mk1 (shut_bool Try.underlying4 _), (trodAll_cons_mk (Below.trod laidOut (by kernel_rfl) (of_decide_eq_true (by kernel_rfl)) k0 bel lt0) (trodAll_cons_mk (shut_int Try.underlying3 w1) trodAll_mk0)), rfl, bel.frame _, fun h => by cases h⟩

theorem over : Rows.fnExactGetNumRow.holds Try.pinned (OpenSpec.ofChange Rows.fnExactGetNumSpec) :=
  OpenClaim.holds_of_wide 4 Try.f4 rfl rfl rfl rfl rfl rfl rfl ⟨rfl, rfl, rfl, rfl, rfl⟩ rfl rfl rfl rfl rfl (by kernel_rfl) Try.func4 (by kernel_rfl)
    (of_decide_eq_true (by kernel_rfl)) (by unfold Func.isWrapper; first | (rw [if_pos (by decide +kernel)]; kernel_rfl) | (rw [if_neg (by decide +kernel)]; exact ⟨rfl, rfl⟩))
    (fun os started H enc _ => lifted os started H enc)

/-- The statement. -/
theorem proved : Rows.FnExactGetNumSaid := over
#print axioms proved
end Go.Proofs.Ytjnabhflddnbaaa.fnExactGetNum
