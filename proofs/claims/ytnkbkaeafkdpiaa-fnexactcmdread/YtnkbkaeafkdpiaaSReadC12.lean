/- Commands from bytes: the specification's CmdRead. -/
import Derived.Test.YtnkbkaeafkdpiaaSRead12
import Derived.Test.YtnkbkaeafkdpiaaVOI
namespace Go.Proofs.Ytnkbkaeafkdpiaa.SReadC12
open Go.ChangeShapes Go.WideShapes Go.ChangeAt Go.RowKit SBytes SPut11 SPuts11 SGets11 SPack12 SRead12
open SCmd (CmOk nArgs nArgs_le sArgs sCmdOk)
open Lots (Says says_of)
set_option linter.unusedVariables false
set_option linter.unusedSimpArgs false

/-- Whether a command is formed, as a test. -/
def okB (k : Int) (xs : List Int) : Bool := decide ((xs.length : Int) = nArgs k) && xs.all fun x => decide (0 ≤ x) && decide (x ≤ 1000000000000000)
theorem okB_says (k : Int) (xs : List Int) : Says (okB k xs) (CmOk k xs) := by
  unfold Says okB CmOk
  rw [Bool.and_eq_true, decide_eq_true_eq, List.all_eq_true]
  refine and_congr Iff.rfl ⟨fun h i hi => ?_, fun h x hx => ?_⟩
  · have e : xs.getD i 0 = xs[i] := by simp [List.getD, hi]
    have := h xs[i] (List.getElem_mem _)
    rw [e]
    simpa using this
  · obtain ⟨i, hi, rfl⟩ := List.mem_iff_getElem.1 hx
    have := h i hi
    have e : xs.getD i 0 = xs[i] := by simp [List.getD, hi]
    rw [e] at this
    simpa using this

/-- What CmdRead answers. -/
def readC (xs : List Int) : Int × List Int × Bool :=
  if (getN xs 0).2.2 = true ∧ 0 ≤ nArgs (getN xs 0).1 ∧ (getsN xs (getN xs 0).2.1 (nArgs (getN xs 0).1)).2.2 = true ∧ (getsN xs (getN xs 0).2.1 (nArgs (getN xs 0).1)).2.1 = xs.length ∧ okB (getN xs 0).1 (getsN xs (getN xs 0).2.1 (nArgs (getN xs 0).1)).1 = true then ((getN xs 0).1, (getsN xs (getN xs 0).2.1 (nArgs (getN xs 0).1)).1, true) else (0, [], false)

theorem getsN_le (xs : List Int) (p q : Int) : (getsN xs p q).1.length ≤ 2000 := by
  have gl : ∀ (m : Nat) (p : Int) (l : List Int), (gets xs m p l).1.length ≤ l.length + m := by
    intro m
    induction m with
    | zero => intro p l; simp [gets]
    | succ m ih =>
      intro p l
      simp only [gets]
      split
      · have := ih (getN xs p).2.1 (l ++ [(getN xs p).1])
        simp at this
        omega
      · simp
  unfold getsN
  split
  · have := gl q.toNat p []
    simp at this
    omega
  · simp

/-- A store into another block leaves a list of numbers as it is. -/
theorem row_off {w : World} {base g n cap : Nat} {xs : List Int} (h : Ints.Own w base g n cap xs) {a : Addr} (ha : a.block ≠ g) (u : Value) : Ints.Own (w.setCell a u) base g n cap xs := by
  refine ⟨h.1, ?_⟩
  rcases h.2 with ⟨z, _⟩ | ⟨g', c', cur, z, h2, h3, h4⟩
  · simp at z
  · obtain ⟨e, _⟩ : g = g' ∧ cap = c' := by simpa using z
    subst e
    exact Or.inr ⟨g, c', cur, z, h2, by rw [Below.heap_setCell _ _ _ _ (fun e => ha e.symm)]; exact h3, h4⟩

set_option maxRecDepth 100000 in
set_option maxHeartbeats 4000000 in
theorem sCmdRead (w : World) (gl cl : Nat) (xs : List Int) (h20 : xs.length ≤ 1048576) (hg : gl < w.heap.size) (hr : AtB w gl xs) :
    Calls Try.prog 24 #[.slice (some ⟨gl, 0, none⟩) xs.length cl] w fun e w' => ∃ a c, e = .returned (.tuple #[.agg #[.int .i64 (readC xs).1, .slice a (readC xs).2.1.length c], .bool (readC xs).2.2]) ∧ VOI.Ob w' w.heap.size a (readC xs).2.1.length c (readC xs).2.1 ∧ Below w.heap.size w w' := by
  have B0 := hide (one_more w (.cells #[.int .i64 0, .slice none 0 0] 37))
  have X0 := hide (B2.made (t := 37) (w := w) (.int .i64 0) (.slice none 0 0) (Nat.le_refl _) rfl)
  have R := hide (AtB.below hr (unhide B0) hg)
  have HG := hide (Nat.lt_of_lt_of_le hg (unhide B0).size)
  have SG := hide (sGetNum (w.alloc (.cells #[.int .i64 0, .slice none 0 0] 37)) gl cl xs 0 h20 (unhide R))
  obtain ⟨r, hq⟩ : ∃ r, Hid (readC xs = r) := ⟨_, rfl⟩
  rw [unhide hq]
  unfold readC at hq
  clear hr hg
  generalize getN xs 0 = y at *
  obtain ⟨kd, pl, ok⟩ := y
  have x0 := (unhide X0).c0
  have x1 := (unhide X0).c1
  have f0 := (unhide X0).free 0
  have f1 := (unhide X0).free 1
  simp only at hq SG
  cases ok with
  | false =>
    have e := unhide hq
    rw [if_neg (by simp)] at e
    subst e
    clear hq
    go_enter Try.func24, Try.ntmps24
    go_wp2_with fail
    refine (unhide SG).mono ?_
    rintro e u ⟨rfl, rfl⟩
    go_wp2
    refine bodyPost_ret (v := .tuple #[.agg #[.int .i64 0, .slice none 0 0], .bool false]) (by simp [results, Try.results24, go_sem, x0, x1]) rfl ⟨_, _, rfl, ?_, ?_⟩
    · exact VOI.Ob.nil _ _
    · first | exact unhide B0 | exact ((unhide B0).setCell (p := ⟨w.heap.size, 0, none⟩) (by simp) _).setCell (p := ⟨w.heap.size, 1, none⟩) (by simp) _
  | true =>
    go_enter Try.func24, Try.ntmps24
    go_wp2_with fail
    refine (unhide SG).mono ?_
    rintro e u ⟨rfl, rfl⟩
    go_wp2_with fail
    refine (sArgs _ kd).mono ?_
    rintro e u1 ⟨rfl, bb⟩
    have B1 := hide ((unhide B0).trans (bb.mono (unhide B0).size))
    have X1 := hide ((unhide X0).below bb (unhide X0).lt.2)
    have R1 := hide (AtB.below (unhide R) bb (unhide HG))
    have HG1 := hide (Nat.lt_of_lt_of_le (unhide HG) bb.size)
    clear bb x0 x1 f0 f1 SG
    have x0 := (unhide X1).c0
    have x1 := (unhide X1).c1
    have f0 := (unhide X1).free 0
    have f1 := (unhide X1).free 1
    have n7 := nArgs_le kd
    by_cases na : nArgs kd < 0
    · have e := unhide hq
      rw [if_neg (fun h => by omega)] at e
      subst e
      clear hq
      generalize nArgs kd = n at *
      go_wp2
      refine bodyPost_ret (v := .tuple #[.agg #[.int .i64 0, .slice none 0 0], .bool false]) (by simp [results, Try.results24, go_sem, x0, x1]) rfl ⟨_, _, rfl, ?_, ?_⟩
      · exact VOI.Ob.nil _ _
      · first | exact unhide B1 | exact ((unhide B1).setCell (p := ⟨w.heap.size, 0, none⟩) (by simp) _).setCell (p := ⟨w.heap.size, 1, none⟩) (by simp) _
    have HS := hide (fun (u : World) hg hr => sGetNums u gl cl xs pl (nArgs kd) h20 hg hr)
    have LE := hide (getsN_le xs pl (nArgs kd))
    have HK := hide (fun (u : World) => sArgs u kd)
    have OKS := hide (okB_says kd)
    have nb : ¬ nArgs kd < 0 := na
    have nc : 0 ≤ nArgs kd := by omega
    have HQ := hide (show ∀ q : Bool, q = (decide ((getsN xs pl (nArgs kd)).2.2 = true) && (decide ((getsN xs pl (nArgs kd)).2.1 = xs.length) && okB kd (getsN xs pl (nArgs kd)).1)) → r = if q = true then (kd, (getsN xs pl (nArgs kd)).1, true) else (0, [], false) from fun q hq' => by
      rw [← unhide hq, hq']
      by_cases o : (getsN xs pl (nArgs kd)).2.2 = true ∧ (getsN xs pl (nArgs kd)).2.1 = xs.length ∧ okB kd (getsN xs pl (nArgs kd)).1 = true
      · rw [if_pos ⟨trivial, nc, o.1, o.2.1, o.2.2⟩, if_pos (by simp [o.1, o.2.1, o.2.2])]
      · rw [if_neg (fun h => o ⟨h.2.2.1, h.2.2.2.1, h.2.2.2.2⟩), if_neg (fun h => o (by simpa using h))])
    clear hq na
    generalize getsN xs pl (nArgs kd) = z at *
    obtain ⟨ns, en, fi⟩ := z
    simp only at HQ HS LE
    generalize nArgs kd = n at *
    go_wp2_with fail
    refine ((unhide HK) _).mono ?_
    rintro e u2 ⟨rfl, bb⟩
    have B2' := hide ((unhide B1).trans (bb.mono (unhide B1).size))
    have X2 := hide ((unhide X1).below bb (unhide X1).lt.2)
    have R2 := hide (AtB.below (unhide R1) bb (unhide HG1))
    have HG2 := hide (Nat.lt_of_lt_of_le (unhide HG1) bb.size)
    clear bb x0 x1 f0 f1
    go_wp2_with fail
    refine ((unhide HS) _ (unhide HG2) (unhide R2)).mono ?_
    rintro e u3 ⟨g3, c3, rfl, o3, bb⟩
    have B3 := hide ((unhide B2').trans (bb.mono (unhide B2').size))
    have X3 := hide ((unhide X2).below bb (unhide X2).lt.2)
    have O3L := hide (show w.heap.size < g3 from Nat.lt_of_lt_of_le (unhide X2).lt.2 o3.lt.1)
    have O3 := hide (o3.mono (unhide B2').size)
    clear bb o3
    have b4 := one_more u3 (.cells #[.int .i64 kd, .slice (some ⟨g3, 0, none⟩) ns.length c3] 37)
    have B4 := hide ((unhide B3).trans (b4.mono (unhide B3).size))
    have X4 := hide ((unhide X3).below b4 (unhide X3).lt.2)
    have O4 := hide ((unhide O3).below b4 (unhide O3).lt.2)
    have Y4 := hide (B2.made (t := 37) (w := u3) (base := u3.heap.size) (.int .i64 kd) (.slice (some ⟨g3, 0, none⟩) ns.length c3) (Nat.le_refl _) rfl)
    have x0 := (unhide X4).c0
    have x1 := (unhide X4).c1
    have f0 := (unhide X4).free 0
    have f1 := (unhide X4).free 1
    have y0 := (unhide Y4).c0
    have y1 := (unhide Y4).c1
    clear b4
    cases fi with
    | false =>
      have e := (unhide HQ) false (by simp)
      subst e
      clear HQ
      go_wp2
      refine bodyPost_ret (v := .tuple #[.agg #[.int .i64 0, .slice none 0 0], .bool false]) (by simp [results, Try.results24, go_sem, x0, x1]) rfl ⟨_, _, rfl, ?_, ?_⟩
      · exact VOI.Ob.nil _ _
      · first | exact unhide B4 | exact ((unhide B4).setCell (p := ⟨w.heap.size, 0, none⟩) (by simp) _).setCell (p := ⟨w.heap.size, 1, none⟩) (by simp) _
    | true =>
      by_cases en1 : en = (xs.length : Int)
      case neg =>
        have e := (unhide HQ) false (by simp [en1])
        subst e
        have en2 : (en != (xs.length : Int)) = true := by simpa using en1
        clear HQ en1
        go_wp2
        refine bodyPost_ret (v := .tuple #[.agg #[.int .i64 0, .slice none 0 0], .bool false]) (by simp [results, Try.results24, go_sem, x0, x1]) rfl ⟨_, _, rfl, ?_, ?_⟩
        · exact VOI.Ob.nil _ _
        · first | exact unhide B4 | exact ((unhide B4).setCell (p := ⟨w.heap.size, 0, none⟩) (by simp) _).setCell (p := ⟨w.heap.size, 1, none⟩) (by simp) _
      have en2 : (en != (xs.length : Int)) = false := by simpa using en1
      have HQ2 := hide (show ∀ q : Bool, q = okB kd ns → r = if q = true then (kd, ns, true) else (0, [], false) from fun q hq => (unhide HQ) q (by rw [hq]; simp [en1]))
      clear HQ en1
      have OK := hide ((unhide OKS) ns)
      generalize okB kd ns = q at *
      go_wp2_with fail
      refine (sCmdOk _ kd g3 c3 ns q (Nat.le_trans (unhide LE) (by omega)) (unhide O4).lt.2 (unhide O4).at (unhide OK)).mono ?_
      rintro e u5 ⟨rfl, bb⟩
      have B5 := hide ((unhide B4).trans (bb.mono (unhide B4).size))
      have X5 := hide ((unhide X4).below bb (unhide X4).lt.2)
      have O5 := hide ((unhide O4).below bb (unhide O4).lt.2)
      have Y5 := hide ((unhide Y4).below bb (unhide Y4).lt.2)
      clear bb x0 x1 f0 f1 y0 y1
      have x0 := (unhide X5).c0
      have x1 := (unhide X5).c1
      have f0 := (unhide X5).free 0
      have f1 := (unhide X5).free 1
      have y0 := (unhide Y5).c0
      have y1 := (unhide Y5).c1
      have e := (unhide HQ2) q rfl
      clear HQ2
      cases q with
      | false =>
        subst e
        go_wp2
        refine bodyPost_ret (v := .tuple #[.agg #[.int .i64 0, .slice none 0 0], .bool false]) (by simp [results, Try.results24, go_sem, x0, x1]) rfl ⟨_, _, rfl, ?_, ?_⟩
        · exact VOI.Ob.nil _ _
        · first | exact unhide B5 | exact ((unhide B5).setCell (p := ⟨w.heap.size, 0, none⟩) (by simp) _).setCell (p := ⟨w.heap.size, 1, none⟩) (by simp) _
      | true =>
        subst e
        have lw := (unhide B3).size
        go_wp2
        refine bodyPost_ret (v := .tuple #[.agg #[.int .i64 kd, .slice (some ⟨g3, 0, none⟩) ns.length c3], .bool true]) (by simp [results, Try.results24, go_sem, x0, x1]) rfl ⟨some ⟨g3, 0, none⟩, c3, rfl, ?_, ?_⟩
        · exact VOI.Ob.of (row_off (row_off (unhide O5) (a := ⟨w.heap.size, 0, none⟩) (by have := (unhide O3L); simp; omega) _) (a := ⟨w.heap.size, 1, none⟩) (by have := (unhide O3L); simp; omega) _)
        · exact ((unhide B5).setCell (p := ⟨w.heap.size, 0, none⟩) (by simp) _).setCell (p := ⟨w.heap.size, 1, none⟩) (by simp) _

end Go.Proofs.Ytnkbkaeafkdpiaa.SReadC12
