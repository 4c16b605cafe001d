/- Replies from bytes: the specification's ReplyRead. -/
import Derived.Test.YtnkbkaeafkdpiaaSPack12
namespace Go.Proofs.Ytnkbkaeafkdpiaa.SRead12
open Go.ChangeShapes Go.WideShapes Go.ChangeAt Go.RowKit SBytes SPut11 SPuts11 SGets11 SPack12
open Lots (Says says_of)
set_option linter.unusedVariables false
set_option linter.unusedSimpArgs false

/-- A struct of two cells of the call's own. -/
def B2 (t : TypeId) (w : World) (base g : Nat) (v0 v1 : Value) : Prop := w.ownsRow base t 2 (.slice (some ⟨g, 0, none⟩) 1 1) 1 [v0, v1]
theorem B2.made {t : TypeId} {w : World} {base g : Nat} (v0 v1 : Value) (hb : base ≤ w.heap.size) (hg : g = w.heap.size) : B2 t (w.alloc (.cells #[v0, v1] t)) base g v0 v1 := by
  subst hg
  exact ⟨rfl, .inr ⟨w.heap.size, 1, #[v0, v1], rfl, hb, heap_alloc_new w _, Nat.le_refl _, by unfold maxLen; omega, rfl, rfl⟩⟩
section
variable {t : TypeId} {w w' : World} {base g : Nat} {v0 v1 : Value}
theorem B2.lt (h : B2 t w base g v0 v1) : base ≤ g ∧ g < w.heap.size := World.ownsRow.lt h g rfl
theorem B2.free (h : B2 t w base g v0 v1) (i : Nat) : w.frozen? ⟨g, i, none⟩ = false := World.ownsRow.frozenAt h i
theorem B2.c0 (h : B2 t w base g v0 v1) : w.cell? ⟨g, 0, none⟩ = some v0 := (World.ownsRow.cellAt h 0 (by omega)).trans rfl
theorem B2.c1 (h : B2 t w base g v0 v1) : w.cell? ⟨g, 1, none⟩ = some v1 := (World.ownsRow.cellAt h 1 (by omega)).trans rfl
theorem B2.below {B : Nat} (h : B2 t w base g v0 v1) (k : Below B w w') (hg : g < B) : B2 t w' base g v0 v1 := by
  refine ⟨h.1, ?_⟩
  rcases h.2 with ⟨h1, _⟩ | ⟨g', c, cur, h1, h2, h3, h4⟩
  · simp at h1
  · have e : g = g' := by simp at h1; exact h1.1
    subst e
    exact .inr ⟨g, c, cur, h1, h2, (k.block g hg).trans h3, h4⟩
end

/-- What ReplyRead answers. -/
def readR (xs : List Int) : Int × Int × Bool :=
  if (getsN xs 0 2).2.2 = true ∧ (getsN xs 0 2).2.1 = xs.length ∧ RpOk ((getsN xs 0 2).1.getD 0 0) ((getsN xs 0 2).1.getD 1 0 - 1000000000000000) then ((getsN xs 0 2).1.getD 0 0, (getsN xs 0 2).1.getD 1 0 - 1000000000000000, true) else (0, 0, false)

theorem gets_full (xs : List Int) : ∀ (m : Nat) (p : Int) (l : List Int), (gets xs m p l).2.2 = true → (gets xs m p l).1.length = l.length + m
  | 0, p, l => by simp [gets]
  | m + 1, p, l => by
    simp only [gets]
    split
    · intro h
      have := gets_full xs m (getN xs p).2.1 (l ++ [(getN xs p).1]) h
      rw [this]
      simp
      omega
    · simp

theorem val_top (xs : List Int) (q k : Nat) (h : k ≤ 9) : val xs q k ≤ 9223372036854775807 := by
  have a := (val_in xs q k).2
  have : k = 0 ∨ k = 1 ∨ k = 2 ∨ k = 3 ∨ k = 4 ∨ k = 5 ∨ k = 6 ∨ k = 7 ∨ k = 8 ∨ k = 9 := by omega
  rcases this with rfl | rfl | rfl | rfl | rfl | rfl | rfl | rfl | rfl | rfl <;> simp at a <;> omega

theorem getF_top (xs : List Int) (q : Nat) : ∀ f k, f + k = 9 → 0 ≤ (getF xs q f k).1 ∧ (getF xs q f k).1 ≤ 9223372036854775807
  | 0, k, _ => by simp [getF]
  | f + 1, k, h => by
    simp only [getF]
    repeat' split
    all_goals first | exact ⟨(val_in xs q (k + 1)).1, val_top xs q (k + 1) (by omega)⟩ | exact getF_top xs q f (k + 1) (by omega) | simp

theorem getN_top (xs : List Int) (p : Int) : 0 ≤ (getN xs p).1 ∧ (getN xs p).1 ≤ 9223372036854775807 := by
  unfold getN
  split
  · simp
  · exact getF_top xs _ 9 0 rfl

theorem gets_top (xs : List Int) : ∀ (m : Nat) (p : Int) (l : List Int), (∀ x ∈ l, 0 ≤ x ∧ x ≤ 9223372036854775807) → ∀ x ∈ (gets xs m p l).1, 0 ≤ x ∧ x ≤ 9223372036854775807
  | 0, p, l, h => by simpa [gets] using h
  | m + 1, p, l, h => by
    simp only [gets]
    split
    · exact gets_top xs m _ _ (fun x hx => by
        rcases List.mem_append.1 hx with a | a
        · exact h x a
        · simp at a; rw [a]; exact getN_top xs p)
    · simp

theorem getsN_top (xs : List Int) (p q : Int) : ∀ x ∈ (getsN xs p q).1, 0 ≤ x ∧ x ≤ 9223372036854775807 := by
  unfold getsN
  split
  · exact gets_top xs _ _ _ (by simp)
  · simp

theorem getsN_full (xs : List Int) (p : Int) (m : Nat) (h : (getsN xs p m).2.2 = true) : (getsN xs p m).1.length = m := by
  unfold getsN at h ⊢
  split at h
  · next c =>
    rw [if_pos c]
    have := gets_full xs _ _ _ h
    simpa using this
  · simp at h

set_option maxRecDepth 100000 in
set_option maxHeartbeats 4000000 in
theorem sReplyRead (w : World) (gl cl : Nat) (xs : List Int) (h20 : xs.length ≤ 1048576) (hg : gl < w.heap.size) (hr : AtB w gl xs) :
    Calls Try.prog 14 #[.slice (some ⟨gl, 0, none⟩) xs.length cl] w fun e w' => e = .returned (.tuple #[.agg #[.int .i64 (readR xs).1, .int .i64 (readR xs).2.1], .bool (readR xs).2.2]) ∧ Below w.heap.size w w' := by
  have B0 := hide (one_more w (.cells #[.int .i64 0, .int .i64 0] 25))
  have X0 := hide (B2.made (t := 25) (w := w) (.int .i64 0) (.int .i64 0) (Nat.le_refl _) rfl)
  have R := hide (AtB.below hr (unhide B0) hg)
  have GF := hide (getsN_full xs 0 2)
  have GT := hide (getsN_top xs 0 2)
  have SG := hide (sGetNums (w.alloc (.cells #[.int .i64 0, .int .i64 0] 25)) gl cl xs 0 2 h20 (Nat.lt_of_lt_of_le hg (unhide B0).size) (unhide R))
  obtain ⟨r, hq⟩ : ∃ r, Hid (readR xs = r) := ⟨_, rfl⟩
  rw [unhide hq]
  unfold readR at hq
  clear hr hg
  have c22 : ((2 : Nat) : Int) = 2 := rfl
  rw [c22] at GF
  generalize getsN xs 0 2 = y at *
  obtain ⟨ns, en, ok⟩ := y
  simp only at hq GF GT SG
  go_enter Try.func14, Try.ntmps14
  go_wp2_with fail
  refine (unhide SG).mono ?_
  rintro e u1 ⟨g1, c1, rfl, o1, bb⟩
  have B1 := hide ((unhide B0).trans (bb.mono (unhide B0).size))
  have X1 := hide ((unhide X0).below bb (unhide X0).lt.2)
  have O1 := hide o1
  clear bb o1 X0 SG R c22
  have x0 := (unhide X1).c0
  have x1 := (unhide X1).c1
  have f0 := (unhide X1).free 0
  have f1 := (unhide X1).free 1
  cases ok with
  | false =>
    have e := unhide hq
    rw [if_neg (by simp)] at e
    subst e
    clear hq GF GT
    go_wp2
    refine bodyPost_ret (v := .tuple #[.agg #[.int .i64 0, .int .i64 0], .bool false]) (by simp [results, Try.results14, go_sem, x0, x1]) rfl ⟨rfl, ?_⟩
    exact ((unhide B1).setCell (p := ⟨w.heap.size, 0, none⟩) (by simp) _).setCell (p := ⟨w.heap.size, 1, none⟩) (by simp) _
  | true =>
    by_cases en1 : en = (xs.length : Int)
    case neg =>
      have e := unhide hq
      rw [if_neg (fun h => en1 h.2.1)] at e
      subst e
      have en2 : (en != (xs.length : Int)) = true := by simpa using en1
      clear hq GF GT en1
      go_wp2
      refine bodyPost_ret (v := .tuple #[.agg #[.int .i64 0, .int .i64 0], .bool false]) (by simp [results, Try.results14, go_sem, x0, x1]) rfl ⟨rfl, ?_⟩
      exact ((unhide B1).setCell (p := ⟨w.heap.size, 0, none⟩) (by simp) _).setCell (p := ⟨w.heap.size, 1, none⟩) (by simp) _
    have NL := (unhide GF) rfl
    obtain ⟨a, b, rfl⟩ : ∃ a b, ns = [a, b] := by
      match ns, NL with
      | [a, b], _ => exact ⟨a, b, rfl⟩
    have en2 : (en != (xs.length : Int)) = false := by simpa using en1
    have ENE := hide en1
    have HA := hide ((unhide GT) a (by simp))
    have HB := hide ((unhide GT) b (by simp))
    have n0 := (unhide O1).at 0 (by simp)
    have n1 := (unhide O1).at 1 (by simp)
    simp only [List.getD, List.getElem?_cons_zero, List.getElem?_cons_succ, Option.getD_some] at n0 n1 hq
    have w1 : IntKind.i64.wrap (b - 1000000000000000) = b - 1000000000000000 := by have := unhide HB; rw [IntKind.wrap_i64]; omega
    have bA := one_more u1 (.cells #[.int .i64 0, .int .i64 0] 25)
    have gl1 := (unhide O1).lt.2
    have m0 := (bA.cell (p := ⟨g1, 0, none⟩) gl1).trans n0
    have m1 := (bA.cell (p := ⟨g1, 1, none⟩) gl1).trans n1
    clear GF GT NL en1 bA
    go_wp2_with fail
    go_region
    generalize b - 1000000000000000 = v at *
    have bW : Below u1.heap.size u1 (u1.alloc (.cells #[.int .i64 a, .int .i64 v] 25)).drew := (one_more u1 _).drew
    have X2 := (unhide X1).below bW (unhide X1).lt.2
    have B2' := hide ((unhide B1).trans (bW.mono (unhide B1).size))
    have y0 : (u1.alloc (.cells #[.int .i64 a, .int .i64 v] 25)).drew.cell? ⟨u1.heap.size, 0, none⟩ = some (.int .i64 a) := by simp
    have y1 : (u1.alloc (.cells #[.int .i64 a, .int .i64 v] 25)).drew.cell? ⟨u1.heap.size, 1, none⟩ = some (.int .i64 v) := by simp
    clear x0 x1 f0 f1 n0 n1 m0 m1 w1
    have x0 := X2.c0
    have x1 := X2.c1
    have f0 := X2.free 0
    have f1 := X2.free 1
    have HN := hide (Nat.lt_of_lt_of_le (unhide X1).lt.2 (Nat.le_refl _))
    clear bW X2
    generalize (u1.alloc (.cells #[.int .i64 a, .int .i64 v] 25)).drew = u2 at *
    have EN := hide (show ∀ q : Bool, q = decide (RpOk a v) → r = if q = true then (a, v, true) else (0, 0, false) from fun q hq' => by
      rw [← unhide hq, hq']
      have e1 := unhide ENE
      by_cases o : RpOk a v
      · rw [if_pos ⟨trivial, e1, o⟩, if_pos (by simpa using o)]
      · rw [if_neg (fun h => o h.2.2), if_neg (by simpa using o)])
    by_cases h : 0 ≤ a ∧ a ≤ 8
    case neg =>
      have e := (unhide EN) false (by simp; intro h1 h2; exact absurd ⟨h1, h2⟩ h)
      subst e
      have HH := hide h
      clear EN hq h
      go_wp2_with fail
      refine (l1In_no _ _ _ _ (unhide HH)).mono ?_
      rintro e u ⟨rfl, rfl⟩
      go_wp2
      refine bodyPost_ret (v := .tuple #[.agg #[.int .i64 0, .int .i64 0], .bool false]) (by simp [results, Try.results14, go_sem, x0, x1]) rfl ⟨rfl, ?_⟩
      exact ((unhide B2').setCell (p := ⟨w.heap.size, 0, none⟩) (by simp) _).setCell (p := ⟨w.heap.size, 1, none⟩) (by simp) _
    obtain ⟨b, hb⟩ := says_of (Amt v)
    have HB := hide hb
    have HH := hide h
    cases b with
    | false =>
      have e := (unhide EN) false (by have := (unhide HB).no; simp only [Amt] at this; simp; intro _ _ h3; omega)
      subst e
      clear EN hq h hb
      go_wp2_with fail
      refine (l1In_yes _ _ _ _ (unhide HH).1 (unhide HH).2).mono ?_
      rintro e u ⟨rfl, rfl⟩
      go_wp2_with fail
      refine (sAmount _ v false (unhide HB)).mono ?_
      rintro e u ⟨rfl, rfl⟩
      go_wp2
      refine bodyPost_ret (v := .tuple #[.agg #[.int .i64 0, .int .i64 0], .bool false]) (by simp [results, Try.results14, go_sem, x0, x1]) rfl ⟨rfl, ?_⟩
      exact ((unhide B2').setCell (p := ⟨w.heap.size, 0, none⟩) (by simp) _).setCell (p := ⟨w.heap.size, 1, none⟩) (by simp) _
    | true =>
      have e := (unhide EN) true (by have := (unhide HB).yes; simp only [Amt] at this; simp; omega)
      subst e
      clear EN hq h hb
      go_wp2_with fail
      refine (l1In_yes _ _ _ _ (unhide HH).1 (unhide HH).2).mono ?_
      rintro e u ⟨rfl, rfl⟩
      go_wp2_with fail
      refine (sAmount _ v true (unhide HB)).mono ?_
      rintro e u ⟨rfl, rfl⟩
      go_wp2
      refine bodyPost_ret (v := .tuple #[.agg #[.int .i64 a, .int .i64 v], .bool true]) (by simp [results, Try.results14, go_sem, x0, x1]) rfl ⟨rfl, ?_⟩
      exact ((unhide B2').setCell (p := ⟨w.heap.size, 0, none⟩) (by simp) _).setCell (p := ⟨w.heap.size, 1, none⟩) (by simp) _

end Go.Proofs.Ytnkbkaeafkdpiaa.SRead12
