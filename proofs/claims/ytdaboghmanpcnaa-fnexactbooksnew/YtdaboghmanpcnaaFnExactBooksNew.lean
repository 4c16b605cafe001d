/- The program's BooksNew answers as its model, and its answer owns its memory. No condition. -/
import Derived.Test.YtdaboghmanpcnaaRows
import Derived.Test.YtdaboghmanpcnaaBZero
import Derived.ShutString
import Derived.ChangeOld
import Derived.Below
namespace Go.Proofs.Ytdaboghmanpcnaa.fnExactBooksNew
open Go.ChangeShapes Go.WideShapes Go.ChangeAt Go.RowKit
open Go.ChangeMaps (open_string shut_string)
set_option linter.unusedVariables false
set_option linter.unusedSimpArgs false

theorem own : ownKnob Try.prog.godebug = none := by kernel_rfl
theorem laidOut : laidOutB Try.prog = true := by kernel_rfl

open BZero

set_option maxRecDepth 100000 in
theorem new1 (w : World) : Calls Try.prog 4 #[] w fun e w' => e = .returned (.agg #[.slice none 0 0, .slice none 0 0, .slice none 0 0, .slice none 0 0, .slice none 0 0, .int .i64 0]) ∧ Below w.heap.size w w' := by
  go_enter Try.func4, Try.ntmps4
  go_wp2
  refine bodyPost_ret (v := .agg #[.slice none 0 0, .slice none 0 0, .slice none 0 0, .slice none 0 0, .slice none 0 0, .int .i64 0]) (by simp [results, Try.results4, go_sem]) rfl ⟨rfl, ?_⟩
  repeat (first | exact Below.refl _ _ | refine Below.setCell ?_ (by simp) _ | refine Below.alloc ?_ (by simp) _)

set_option maxRecDepth 100000 in
theorem new2 (w : World) : Calls Try.prog 5 #[] w fun e w' => e = .returned (.agg #[.slice none 0 0, .slice none 0 0, .slice none 0 0, .slice none 0 0, .slice none 0 0, .int .i64 0]) ∧ Below w.heap.size w w' := by
  go_enter Try.func5, Try.ntmps5
  go_wp2
  refine bodyPost_ret (v := .agg #[.slice none 0 0, .slice none 0 0, .slice none 0 0, .slice none 0 0, .slice none 0 0, .int .i64 0]) (by simp [results, Try.results5, go_sem]) rfl ⟨rfl, ?_⟩
  repeat (first | exact Below.refl _ _ | refine Below.setCell ?_ (by simp) _ | refine Below.alloc ?_ (by simp) _)

/-- A variable of books that holds nothing at all. -/
structure Zv (W : World) (g : Nat) : Prop where
  c0 : W.cell? ⟨g, 0, none⟩ = some (.slice none 0 0)
  c1 : W.cell? ⟨g, 1, none⟩ = some (.slice none 0 0)
  c2 : W.cell? ⟨g, 2, none⟩ = some (.slice none 0 0)
  c3 : W.cell? ⟨g, 3, none⟩ = some (.slice none 0 0)
  c4 : W.cell? ⟨g, 4, none⟩ = some (.slice none 0 0)
  c5 : W.cell? ⟨g, 5, none⟩ = some (.int .i64 0)
  l : g < W.heap.size
theorem Zv.step {W W' : World} {g : Nat} (h : Zv W g) (k : Below W.heap.size W W') : Zv W' g :=
  ⟨(k.cell (p := ⟨g, 0, none⟩) h.l).trans h.c0, (k.cell (p := ⟨g, 1, none⟩) h.l).trans h.c1, (k.cell (p := ⟨g, 2, none⟩) h.l).trans h.c2, (k.cell (p := ⟨g, 3, none⟩) h.l).trans h.c3, (k.cell (p := ⟨g, 4, none⟩) h.l).trans h.c4, (k.cell (p := ⟨g, 5, none⟩) h.l).trans h.c5, Nat.lt_of_lt_of_le h.l k.size⟩
theorem Zv.made (W : World) (e : TypeId) : Zv (W.alloc (.cells #[.slice none 0 0, .slice none 0 0, .slice none 0 0, .slice none 0 0, .slice none 0 0, .int .i64 0] e)) W.heap.size := ⟨by simp, by simp, by simp, by simp, by simp, by simp, by simp⟩
theorem one_more (w : World) (o : Obj) : Below w.heap.size w (w.alloc o) := (Below.refl _ _).alloc (Nat.le_refl _) _
theorem next {a b c : World} (h : Below a.heap.size a b) (k : Below b.heap.size b c) : Below a.heap.size a c := h.trans (k.mono h.size)


set_option maxRecDepth 100000 in
set_option maxHeartbeats 8000000 in
theorem walk  (w : World)  :
    Calls Try.prog 3 #[] w fun e w' => e = .returned (.bool true) ∧ Below w.heap.size w w' := by
  go_enter Try.func3, Try.ntmps3
  go_wp2_with fail
  refine (new1 _).mono ?_
  rintro e u1 ⟨rfl, b1⟩
  have B1 := hide (next b1 (one_more u1 (.cells #[.slice none 0 0, .slice none 0 0, .slice none 0 0, .slice none 0 0, .slice none 0 0, .int .i64 0] 28)))
  have Z1 := hide (Zv.made u1 28)
  clear b1
  go_wp2_with fail
  refine (new2 _).mono ?_
  rintro e u2 ⟨rfl, b2⟩
  have s2 := b2.size
  have Z2 := hide (((unhide Z1).step b2).step (one_more u2 (.cells #[.slice none 0 0, .slice none 0 0, .slice none 0 0, .slice none 0 0, .slice none 0 0, .int .i64 0] 28)))
  have B2 := hide (next (unhide B1) (next b2 (one_more u2 (.cells #[.slice none 0 0, .slice none 0 0, .slice none 0 0, .slice none 0 0, .slice none 0 0, .int .i64 0] 28))))
  have Y2 := hide (Zv.made u2 28)
  clear b2 Z1
  obtain ⟨c0, c1, c2, c3, c4, c5, l1⟩ := unhide Z2
  obtain ⟨d0, d1, d2, d3, d4, d5, l2⟩ := unhide Y2
  go_wp2_with fail
  refine (eqB0 _).mono ?_
  rintro e u3 ⟨rfl, bb⟩
  have B3 := hide (next (unhide B2) bb)
  have Z3 := hide ((unhide Z2).step bb)
  have Y3 := hide ((unhide Y2).step bb)
  clear bb c0 c1 c2 c3 c4 c5 d0 d1 d2 d3 d4 d5 l1 l2
  obtain ⟨c0, c1, c2, c3, c4, c5, l1⟩ := unhide Z3
  obtain ⟨d0, d1, d2, d3, d4, d5, l2⟩ := unhide Y3
  go_wp2_with fail
  refine (markB0 _).mono ?_
  rintro e u4 ⟨rfl, bb⟩
  have B4 := hide (next (unhide B3) bb)
  have Z4 := hide ((unhide Z3).step bb)
  have Y4 := hide ((unhide Y3).step bb)
  clear bb c0 c1 c2 c3 c4 c5 d0 d1 d2 d3 d4 d5 l1 l2
  obtain ⟨c0, c1, c2, c3, c4, c5, l1⟩ := unhide Z4
  obtain ⟨d0, d1, d2, d3, d4, d5, l2⟩ := unhide Y4
  go_wp2_with fail
  refine (heldB0 _).mono ?_
  rintro e u5 ⟨rfl, bb⟩
  have B5 := hide (next (unhide B4) bb)
  have Z5 := hide ((unhide Z4).step bb)
  have Y5 := hide ((unhide Y4).step bb)
  clear bb c0 c1 c2 c3 c4 c5 d0 d1 d2 d3 d4 d5 l1 l2
  obtain ⟨c0, c1, c2, c3, c4, c5, l1⟩ := unhide Z5
  obtain ⟨d0, d1, d2, d3, d4, d5, l2⟩ := unhide Y5
  go_wp2_with fail
  refine (new2 _).mono ?_
  rintro e u6 ⟨rfl, bb⟩
  have B6 := hide (next (unhide B5) (next bb (one_more u6 (.cells #[.slice none 0 0, .slice none 0 0, .slice none 0 0, .slice none 0 0, .slice none 0 0, .int .i64 0] 28))))
  have Z6 := hide (((unhide Z5).step bb).step (one_more u6 (.cells #[.slice none 0 0, .slice none 0 0, .slice none 0 0, .slice none 0 0, .slice none 0 0, .int .i64 0] 28)))
  have Y6 := hide (((unhide Y5).step bb).step (one_more u6 (.cells #[.slice none 0 0, .slice none 0 0, .slice none 0 0, .slice none 0 0, .slice none 0 0, .int .i64 0] 28)))
  clear bb c0 c1 c2 c3 c4 c5 d0 d1 d2 d3 d4 d5 l1 l2
  obtain ⟨c0, c1, c2, c3, c4, c5, l1⟩ := unhide Z6
  obtain ⟨d0, d1, d2, d3, d4, d5, l2⟩ := unhide Y6
  go_wp2_with fail
  refine (eqB0 _).mono ?_
  rintro e u7 ⟨rfl, bb⟩
  have B7 := hide (next (unhide B6) bb)
  have Z7 := hide ((unhide Z6).step bb)
  have Y7 := hide ((unhide Y6).step bb)
  clear bb c0 c1 c2 c3 c4 c5 d0 d1 d2 d3 d4 d5 l1 l2
  obtain ⟨c0, c1, c2, c3, c4, c5, l1⟩ := unhide Z7
  obtain ⟨d0, d1, d2, d3, d4, d5, l2⟩ := unhide Y7
  go_wp2_with fail
  refine (heldB0 _).mono ?_
  rintro e u8 ⟨rfl, bb⟩
  have B8 := hide (next (unhide B7) bb)
  clear bb
  go_wp2
  go_ret
  exact ⟨rfl, unhide B8⟩

set_option maxRecDepth 100000 in
theorem lifted (os : Os) (started : os.Started) (H : Type) (enc : TypeId × Value → H) :
    ReturnsInHanded {} Try.checked os 3 .any (Rows.fnExactBooksNewSpec.pre6 enc Try.prog Try.f3 Rows.fnExactBooksNewRow.domain false) (Rows.fnExactBooksNewSpec.post enc Try.prog Try.f3 false true false false) := by
  refine returnsInHanded_of_change (C := Try.checked) own started (by kernel_rfl) Try.func3
    (ChangeSpec.witness6 (enc := enc) (C := Try.checked) false ⟨#[], #[], []⟩ 8 (by kernel_rfl) (by kernel_rfl) (by kernel_rfl) (by kernel_rfl)) ?_
  intro W base args ds gs before hval0 hW hcnd _
  have hval : ∀ (j : Nat) t v, Try.f3.params[j]? = some t → args[j]? = some v → Value.okWide Try.prog W .any base t v := hval0
  have hW' := hW
  obtain ⟨p, q, hA0, hV, rfl, hfz, hnd⟩ := hW
  have hA : DataW.TrodAll enc Try.prog W 0 (fun _ => true) true Try.f3.params.toList args.toList ds p := hA0
  rw [Try.params3] at hA hval
  obtain ⟨ha, rfl, rfl⟩ := trodAll_nil hA
  obtain rfl : args = #[] := by cases args; simp_all
  obtain ⟨rfl, rfl⟩ := trodVars_none hV
  clear hA0 hval0
  refine (walk  W ).mono fun e W' ⟨he, bel⟩ => ?_
  subst he
  exact ⟨_, rfl, _, _, _, [], _, [], hW', trodAll_mk1 (shut_bool Try.underlying4 _), trodAll_mk0, rfl, bel.frame _, fun h => by cases h⟩

theorem over : Rows.fnExactBooksNewRow.holds Try.pinned (OpenSpec.ofChange Rows.fnExactBooksNewSpec) :=
  OpenClaim.holds_of_wide 3 Try.f3 rfl rfl rfl rfl rfl rfl rfl ⟨rfl, rfl, rfl, rfl, rfl⟩ rfl rfl rfl rfl rfl (by kernel_rfl) Try.func3 (by kernel_rfl)
    (of_decide_eq_true (by kernel_rfl)) (by unfold Func.isWrapper; first | (rw [if_pos (by decide +kernel)]; kernel_rfl) | (rw [if_neg (by decide +kernel)]; exact ⟨rfl, rfl⟩))
    (fun os started H enc _ => lifted os started H enc)

/-- The statement. -/
theorem proved : Rows.FnExactBooksNewSaid := over
#print axioms proved
end Go.Proofs.Ytdaboghmanpcnaa.fnExactBooksNew
