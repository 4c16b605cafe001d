/- At every total and list of numbers the program's Shares answers as its model, writes into no argument, and its answer owns its memory. No condition. -/
import Derived.Test.YtfoollmmendkiaaRows
import Derived.WalkKit
import Derived.Test.YtfoollmmendkiaaIShares
import Derived.Test.YtfoollmmendkiaaSShares
import Derived.ProofKit
import Derived.OpenShut
import Derived.ShutString
import Derived.ChangeOld
import Derived.Below
namespace Go.Proofs.Ytfoollmmendkiaa.fnExactShares
open Go.ChangeShapes Go.WideShapes Go.ChangeAt Go.RowKit
open Go.ChangeMaps (open_string shut_string)
set_option linter.unusedVariables false

theorem own : ownKnob Try.prog.godebug = none := by kernel_rfl
theorem laidOut : laidOutB Try.prog = true := by kernel_rfl

/-- A slice of integers that came in, with its cells. -/
def IsRow (k : IntKind) (w : World) (a : Option Addr) (len cap : Nat) (zs : List Int) : Prop :=
  (a = none ∧ len = 0 ∧ cap = 0 ∧ zs = []) ∨
  ∃ x, a = some x ∧ len ≤ cap ∧ cap ≤ maxLen ∧ zs.length = cap ∧ (∀ i, i < zs.length → w.cell? (x.add i) = some (.int k (zs.getD i 0))) ∧ ∀ n ∈ zs, (Lit.int k n).wf = true

open Ints Weigh Quota Parts SShares IShares

/-- The numbers that came in, as the helpers want them. -/
theorem row_reads {w : World} {a : Option Addr} {len cap : Nat} {zs : List Int} (h : IsRow .i64 w a len cap zs) : (zs.take len).length = len ∧ Reads w a (zs.take len) := by
  rcases h with ⟨rfl, rfl, rfl, rfl⟩ | ⟨x, rfl, hl, hm, hz, hcell, hwz⟩
  · exact ⟨rfl, .inl rfl⟩
  · have hlen : (zs.take len).length = len := by simp; omega
    refine ⟨hlen, ?_⟩
    by_cases z : len = 0
    · exact .inl (by omega)
    · obtain ⟨b, off, spot⟩ := x
      have hc := hcell 0 (by omega)
      have hspot : spot = none := by simpa [Addr.add] using World.cell?_spot hc
      subst hspot
      have hc0 : w.cell? ⟨b, off, none⟩ = some (.int .i64 (zs.getD 0 0)) := by simpa [Addr.add] using hc
      refine .inr ⟨b, off, rfl, World.block_lt_of_cell? w _ hc0, fun i hi => ?_⟩
      have k := hcell i (by omega)
      rw [getD_take zs len i (by omega)]
      by_cases z : i = 0
      · subst z; simpa [Addr.add] using k
      · simpa [Addr.add, z] using k

set_option maxRecDepth 100000 in
set_option maxHeartbeats 8000000 in
theorem walk (a0 : Int) (a1 : Option Addr) (len1 cap1 : Nat) (z1 : List Int) (w : World) (w0 : (Lit.int .i64 a0).wf = true) (w1 : IsRow .i64 w a1 len1 cap1 z1) :
    Calls Try.prog 8 #[.int .i64 a0, .slice a1 len1 cap1] w fun e w' => e = .returned (.bool true) ∧ Below w.heap.size w w' := by
  obtain ⟨hl, hr⟩ := row_reads w1
  generalize z1.take len1 = xs at hl hr
  clear w1
  by_cases t : (len1 : Int) ≤ 1048576
  · have HR := hide hr
    have T : len1 ≤ 1048576 := by omega
    clear hr w0
    go_enter Try.func8, Try.ntmps8
    go_wp2_with fail
    refine (toIntS _ a1 len1 cap1 xs hl T (unhide HR)).mono ?_
    rintro e u1 ⟨rfl, o1, b1⟩
    go_wp2_with fail
    refine (sShares _ a0 _ len1 len1 xs hl T o1.lt.2 o1.at).mono ?_
    rintro e u2 ⟨ps, ok, gW, cW, tl, rfl, oW, b2⟩
    have b := next b1 b2
    have s2 := b.size
    have hLn := tl.len_le
    clear o1 b1 b2
    go_wp2_with fail
    refine (toIntS _ a1 len1 cap1 xs hl T ((unhide HR).below b)).mono ?_
    rintro e u3 ⟨rfl, oX, b3⟩
    have lW := oW.lt
    have oW := oW.below b3 oW.lt.2
    have b := next b b3
    go_wp2_with fail
    refine (iShares _ a0 _ len1 len1 xs hl T oX.lt.2 oX.at).mono ?_
    rintro e u4 ⟨ps', ok', gG, cG, tl', rfl, oG, b4⟩
    obtain ⟨rfl, rfl⟩ : ps = ps' ∧ ok = ok' := tl.unique tl'
    have lX := oX.lt
    have lG := oG.lt
    have lW3 := oW.lt
    have oW := oW.below b4 oW.lt.2
    have oX := oX.below b4 oX.lt.2
    have b := next b b4
    go_wp2_with fail
    refine (eqIntS _ _ _ ps.length _ _ ps rfl (by omega) oG.at oW.at).mono ?_
    rintro e u5 ⟨rfl, b5⟩
    have oW := oW.below b5 oW.lt.2
    have oX := oX.below b5 oX.lt.2
    have oG := oG.below b5 oG.lt.2
    have b := next b b5
    go_wp2_with fail
    refine (toIntS _ a1 len1 cap1 xs hl T ((unhide HR).below b)).mono ?_
    rintro e u6 ⟨rfl, oY, b6⟩
    have oW := oW.below b6 oW.lt.2
    have oX := oX.below b6 oX.lt.2
    have oG := oG.below b6 oG.lt.2
    have b := next b b6
    go_wp2_with fail
    refine (eqIntS _ _ _ len1 len1 len1 xs hl T oX.at oY.at).mono ?_
    rintro e u7 ⟨rfl, b7⟩
    have oW := oW.below b7 oW.lt.2
    have oX := oX.below b7 oX.lt.2
    have oG := oG.below b7 oG.lt.2
    have b := next b b7
    have s7 := b.size
    go_wp2_with fail
    refine (markIntS _ _ _ len1 len1 xs T oX).mono ?_
    rintro e u8 ⟨rfl, oX, g8⟩
    have oW := oW.kept g8 (by simp; omega)
    have oG := oG.kept g8 (by simp; omega)
    have b := b.grown g8 s7 (by simp; omega)
    have s8 := b.size
    clear g8
    go_wp2_with fail
    refine (eqIntS _ _ _ ps.length _ _ ps rfl (by omega) oG.at oW.at).mono ?_
    rintro e u9 ⟨rfl, b9⟩
    have oW := oW.below b9 oW.lt.2
    have oG := oG.below b9 oG.lt.2
    have b := next b b9
    have s9 := b.size
    go_wp2_with fail
    refine (markIntS _ _ _ ps.length _ ps (by omega) oG).mono ?_
    rintro e u10 ⟨rfl, oG, g10⟩
    have oW := oW.kept g10 (by simp; omega)
    have b := b.grown g10 s9 (by simp; omega)
    have s10 := b.size
    clear g10
    go_wp2_with fail
    refine (heldIntS _ _ ps.length _ (by omega) oG.at).mono ?_
    rintro e u11 ⟨rfl, rfl⟩
    go_wp2_with fail
    refine (toIntS _ a1 len1 cap1 xs hl T ((unhide HR).below b)).mono ?_
    rintro e u12 ⟨rfl, oZ, b12⟩
    have oW := oW.below b12 oW.lt.2
    have oG := oG.below b12 oG.lt.2
    have b := next b b12
    go_wp2_with fail
    refine (iShares _ a0 _ len1 len1 xs hl T oZ.lt.2 oZ.at).mono ?_
    rintro e u13 ⟨ps', ok', gH, cH, tl', rfl, oH, b13⟩
    obtain ⟨rfl, rfl⟩ : ps = ps' ∧ ok = ok' := tl.unique tl'
    have oW := oW.below b13 oW.lt.2
    have oG := oG.below b13 oG.lt.2
    have b := next b b13
    go_wp2_with fail
    refine (eqIntS _ _ _ ps.length _ _ ps rfl (by omega) oH.at oW.at).mono ?_
    rintro e u14 ⟨rfl, b14⟩
    have oG := oG.below b14 oG.lt.2
    have b := next b b14
    go_wp2_with fail
    refine (heldIntS _ _ ps.length _ (by omega) oG.at).mono ?_
    rintro e u15 ⟨rfl, rfl⟩
    go_wp2
    go_ret
    exact ⟨rfl, b⟩
  · clear hr hl
    go_enter Try.func8, Try.ntmps8
    go_wp2
    go_ret
    exact ⟨rfl, Below.refl _ _⟩

set_option maxRecDepth 100000 in
theorem lifted (os : Os) (started : os.Started) (H : Type) (enc : TypeId × Value → H) :
    ReturnsInHanded {} Try.checked os 8 .any (Rows.fnExactSharesSpec.pre6 enc Try.prog Try.f8 Rows.fnExactSharesRow.domain false) (Rows.fnExactSharesSpec.post enc Try.prog Try.f8 false true false false) := by
  refine returnsInHanded_of_change (C := Try.checked) own started (by kernel_rfl) Try.func8
    (ChangeSpec.witness6 (enc := enc) (C := Try.checked) false ⟨#[], #[.int .i64 0, .slice none 0 0], []⟩ 8 (by kernel_rfl) (by kernel_rfl) (by kernel_rfl) (by kernel_rfl)) ?_
  intro W base args ds gs before hval0 hW hcnd _
  have hval : ∀ (j : Nat) t v, Try.f8.params[j]? = some t → args[j]? = some v → Value.okWide Try.prog W .any base t v := hval0
  have hW' := hW
  obtain ⟨p, q, hA0, hV, rfl, hfz, hnd⟩ := hW
  have hA : DataW.TrodAll enc Try.prog W 0 (fun _ => true) true Try.f8.params.toList args.toList ds p := hA0
  rw [Try.params8] at hA hval
  obtain ⟨v0, vs0, d0, ds0, p0, q0, hargs, rfl, rfl, h0, r0⟩ := trodAll_cons hA
  obtain ⟨v1, vs1, d1, ds1, p1, q1, rfl, rfl, rfl, h1, r1⟩ := trodAll_cons r0
  obtain ⟨rfl, rfl, rfl⟩ := trodAll_nil r1
  obtain rfl : args = #[v0, v1] := by cases args; simp_all
  obtain ⟨rfl, rfl⟩ := trodVars_none hV
  obtain ⟨a0, rfl, rfl, rfl, w0⟩ := open_int Try.underlying3 (hval 0 3 v0 rfl rfl) h0
  obtain ⟨a1, len1, cap1, rfl⟩ := okWide_slice Try.underlying24 (hval 1 24 v1 rfl rfl)
  have k1 := h1
  have lt1 : ∀ x ∈ p1, x.block < W.heap.size := by obtain ⟨m, hm⟩ := k1; exact DataW.trod_lt m _ _ _ hm
  obtain ⟨z1, w1⟩ : ∃ zs, IsRow .i64 W a1 len1 cap1 zs := by
    obtain ⟨fuel, hf⟩ := h1
    rcases open_ints Try.underlying24 Try.underlying3 (by kernel_rfl) hf with ⟨hcs, _⟩ | ⟨x, l, c, zs, hcs, _, hl, hm, hz, _, hcell, hwz⟩
    · simp [Value.cells] at hcs
      obtain ⟨rfl, rfl, rfl⟩ := hcs
      exact ⟨[], .inl ⟨rfl, rfl, rfl, rfl⟩⟩
    · simp [Value.cells] at hcs
      obtain ⟨rfl, rfl, rfl⟩ := hcs
      exact ⟨zs, .inr ⟨_, rfl, hl, hm, by simpa using hz, hcell, hwz⟩⟩
  clear hA0 hval0
  refine (walk a0 a1 len1 cap1 z1 W w0 w1).mono fun e W' ⟨he, bel⟩ => ?_
  subst he
  exact ⟨_, rfl, _, _, _, [], _, [], hW', trodAll_mk1 (shut_bool Try.underlying4 _), (trodAll_cons_mk (shut_int Try.underlying3 w0) (trodAll_cons_mk (Below.trod laidOut (by kernel_rfl) (of_decide_eq_true (by kernel_rfl)) k1 bel lt1) trodAll_mk0)), rfl, bel.frame _, fun h => by cases h⟩

theorem over : Rows.fnExactSharesRow.holds Try.pinned (OpenSpec.ofChange Rows.fnExactSharesSpec) :=
  OpenClaim.holds_of_wide 8 Try.f8 rfl rfl rfl rfl rfl rfl rfl ⟨rfl, rfl, rfl, rfl, rfl⟩ rfl rfl rfl rfl rfl (by kernel_rfl) Try.func8 (by kernel_rfl)
    (of_decide_eq_true (by kernel_rfl)) (by unfold Func.isWrapper; first | (rw [if_pos (by decide +kernel)]; kernel_rfl) | (rw [if_neg (by decide +kernel)]; exact ⟨rfl, rfl⟩))
    (fun os started H enc _ => lifted os started H enc)

/-- The statement. -/
theorem proved : Rows.FnExactSharesSaid := over
#print axioms proved
end Go.Proofs.Ytfoollmmendkiaa.fnExactShares
