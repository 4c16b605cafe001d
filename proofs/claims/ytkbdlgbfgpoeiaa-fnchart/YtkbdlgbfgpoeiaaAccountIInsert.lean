/- Contracts of the program's copy of a chart (Account) and of the library's Insert of one pair into it. Condition: a list of at most 2^20 pairs. -/
import Derived.Test.YtkbdlgbfgpoeiaaStores
import Derived.Test.YtkbdlgbfgpoeiaaAccountHelp
import Derived.Shelf.Spec.SlicesInsert
import Derived.Lib.AppendZerosOnto
namespace Go.Proofs.Ytkbdlgbfgpoeiaa.AccountIInsert
open Go.ChangeShapes Go.WideShapes Go.ChangeAt Go.RowKit Pairs Chart Stores
open AccountHelp (info2)
set_option linter.unusedVariables false
set_option linter.unusedSimpArgs false

/-- The cells of a list from place c on. -/
theorem tail_cells {e : TypeId} {w : World} {B g n cap : Nat} {ps : List (Int × Int)} (h : Own e w B g n cap ps) (c : Nat) (hc : c ≤ n) : ∀ (j : Nat) (v : Value), (flat (ps.drop c))[j]? = some v → w.cell? ((⟨g, c * 2, none⟩ : Addr).add j) = some v := by
  intro j v hj
  have hl := h.len
  have hX : flat ps = flat (ps.take c) ++ flat (ps.drop c) := by rw [← flat_append, List.take_append_drop]
  have l1 : (flat (ps.take c)).length = c * 2 := by rw [flat_len]; simp; omega
  have e : (flat ps)[c * 2 + j]? = some v := by rw [hX, List.getElem?_append_right (by omega), l1, show c * 2 + j - c * 2 = j by omega]; exact hj
  have := h.at.cells (c * 2 + j) v e
  rw [Addr.add_lit] at this
  rw [Addr.add_lit]
  simpa using this

set_option maxRecDepth 100000 in
theorem iCopied (w : World) (g n cap : Nat) (ps : List (Int × Int)) (hl : ps.length = n) (h20 : n ≤ 1048576) (hg : g < w.heap.size) (h : At w g ps) :
    Calls Try.prog 58 #[.agg #[.slice (some ⟨g, 0, none⟩) n cap, .int .i64 20, .int .i64 4]] w fun e w' => ∃ g' c', e = .returned (.slice (some ⟨g', 0, none⟩) n c') ∧ Own 26 w' w.heap.size g' n c' ps ∧ Below w.heap.size w w' := by
  obtain ⟨i0, hi, hz0, hz1, hz2⟩ := info_parts info2
  have b0 : Below w.heap.size w (w.alloc (.cells #[.slice (some ⟨g, 0, none⟩) n cap, .int .i64 20, .int .i64 4] 65)) := (Below.refl _ _).alloc (Nat.le_refl _) _
  have H := hide (h.below b0 hg)
  have HB := hide b0
  clear b0
  have oL : Own 26 ((w.alloc (.cells #[.slice (some ⟨g, 0, none⟩) n cap, .int .i64 20, .int .i64 4] 65)).alloc (.cells #[] 26)) w.heap.size (w.heap.size + 1) 0 0 [] := by
    have := lit0 26 (w.alloc (.cells #[.slice (some ⟨g, 0, none⟩) n cap, .int .i64 20, .int .i64 4] 65)) w.heap.size (by simp)
    simpa using this
  have b1 := (unhide HB).alloc (B := w.heap.size) (by simp) (.cells #[] 26)
  have AL := h.below b1 hg
  clear h
  go_enter Try.func58, Try.ntmps58
  go_wp2_with (at_builtin; refine wpList_append_own _ rfl (.tmp 3) (.tmp 5) 24 rfl w.heap.size 26 i0 (.agg #[.int .i64 0, .int .i64 0]) 2 16 Try.underlying24 hi hz0 hz1 hz2 rfl (by decide) (.slice (some ⟨w.heap.size + 1, 0, none⟩) 0 0) 0 _ rfl oL ⟨g, 0, none⟩ n cap (flat ps) rfl (by rw [flat_len, hl]) AL.cells (fun u hu => flat_one u ps hu) (by unfold maxLen; omega) (by omega) (by simp; omega) ?_)
  intro v2 w2 own2 (gr2 : World.grownBy _ w2 (some (w.heap.size + 1))) nil2
  obtain ⟨g2, c2, rfl, o2⟩ := own_of_row (n' := n) (ps := ps) own2 (by omega) (by rw [flat_nil, List.nil_append]) (by first | exact nil2 | (rw [nil2]; simp))
  have b2 : Below w.heap.size w w2 := b1.grown gr2 (by simp; omega) (by simp)
  clear own2 gr2 nil2 oL b1 AL
  go_wp2
  go_ret
  exact ⟨g2, c2, rfl, o2, b2⟩

set_option maxRecDepth 100000 in
theorem insert_end (w : World) (B g n cap vb : Nat) (ps : List (Int × Int)) (x y : Int) (h20 : n ≤ 1048576) (hB : B ≤ w.heap.size) (ho : Own 26 w B g n cap ps) (hv : Own 26 w B vb 1 1 [(x, y)]) (hne : vb ≠ g) :
    Calls Try.prog 57 #[.slice (some ⟨g, 0, none⟩) n cap, .int .i64 n, .slice (some ⟨vb, 0, none⟩) 1 1] w fun e w' => ∃ g' c', e = .returned (.slice (some ⟨g', 0, none⟩) (n + 1) c') ∧ Own 26 w' B g' (n + 1) c' (ins ps n (x, y)) ∧ Below B w w' := by
  obtain ⟨i0, hi, hz0, hz1, hz2⟩ := info_parts info2
  obtain ⟨cap0, cap1⟩ := own_cap ho
  unfold maxLen at cap1
  by_cases ce : cap = n
  · subst ce
    go_enter Try.func57, Try.ntmps57
    go_wp2_with (at_builtin; refine wpList_append_own _ rfl (.tmp 23) (.tmp 24) 24 rfl B 26 i0 (.agg #[.int .i64 0, .int .i64 0]) 2 16 Try.underlying24 hi hz0 hz1 hz2 rfl (by decide) (.slice (some ⟨g, 0, none⟩) cap cap) cap _ rfl ho ⟨vb, 0, none⟩ 1 1 (flat [(x, y)]) rfl (by rw [flat_len]; rfl) hv.at.cells (fun u hu => flat_one u [(x, y)] hu) (by unfold maxLen; omega) (by omega) hB ?_)
    intro v2 w2 own2 (gr2 : World.grownBy _ w2 (some g)) nil2
    obtain ⟨g2, c2, rfl, o2⟩ := own_of_row (n' := cap + 1) (ps := ins ps cap (x, y)) own2 rfl (by rw [← flat_append]; congr 1; unfold ins; rw [← ho.len]; simp) (by first | exact nil2 | (rw [nil2]; simp))
    have lg := ho.lt.1
    have b2 : Below B w w2 := (Below.refl _ _).grown gr2 hB (by simpa using lg)
    clear own2 gr2 nil2
    go_wp2
    go_ret
    exact ⟨g2, c2, rfl, o2, b2⟩
  · have ce2 : ¬ n = cap := fun e => ce e.symm
    go_enter Try.func57, Try.ntmps57
    go_wp2_with (at_builtin; refine wpList_append_own _ rfl (.tmp 23) (.tmp 24) 24 rfl B 26 i0 (.agg #[.int .i64 0, .int .i64 0]) 2 16 Try.underlying24 hi hz0 hz1 hz2 rfl (by decide) (.slice (some ⟨g, 0, none⟩) n cap) n _ rfl ho ⟨vb, 0, none⟩ 1 1 (flat [(x, y)]) rfl (by rw [flat_len]; rfl) hv.at.cells (fun u hu => flat_one u [(x, y)] hu) (by unfold maxLen; omega) (by omega) hB ?_)
    intro v2 w2 own2 (gr2 : World.grownBy _ w2 (some g)) nil2
    obtain ⟨g2, c2, rfl, o2⟩ := own_of_row (n' := n + 1) (ps := ins ps n (x, y)) own2 rfl (by rw [← flat_append]; congr 1; unfold ins; rw [← ho.len]; simp) (by first | exact nil2 | (rw [nil2]; simp))
    have lg := ho.lt.1
    have b2 : Below B w w2 := (Below.refl _ _).grown gr2 hB (by simpa using lg)
    clear own2 gr2 nil2
    go_wp2
    go_ret
    exact ⟨g2, c2, rfl, o2, b2⟩

set_option maxRecDepth 100000 in
theorem insert_room (w : World) (B g n c cap vb : Nat) (ps : List (Int × Int)) (x y : Int) (h20 : n ≤ 1048576) (hB : B ≤ w.heap.size) (hc : c < n) (hr : n + 1 ≤ cap) (ho : Own 26 w B g n cap ps) (hv : Own 26 w B vb 1 1 [(x, y)]) (hne : vb ≠ g) :
    Calls Try.prog 57 #[.slice (some ⟨g, 0, none⟩) n cap, .int .i64 c, .slice (some ⟨vb, 0, none⟩) 1 1] w fun e w' => ∃ g' c', e = .returned (.slice (some ⟨g', 0, none⟩) (n + 1) c') ∧ Own 26 w' B g' (n + 1) c' (ins ps c (x, y)) ∧ Below B w w' := by
  obtain ⟨i0, hi, hz0, hz1, hz2⟩ := info_parts info2
  obtain ⟨cap0, cap1⟩ := own_cap ho
  unfold maxLen at cap1
  have nz : ¬ ((c : Int) = (n : Int)) := by omega
  have nr : ¬ ((cap : Int) < (n : Int) + 1) := by omega
  obtain ⟨U, hU, row0⟩ := row_more ho hr
  have hlen := ho.len
  obtain ⟨sg, fg⟩ := own_shape row0
  obtain ⟨sv, fv⟩ := own_shape hv
  have hsz : (Try.prog.info? 26).map (·.size) = some 2 := by rw [hi]; simp [hz1]
  have hzs : ∀ w, (Go.sizeOf 26).run Try.prog w = .ok 2 w := fun w => by simp [sizeOf, typeInfo, hi, hz1]
  have hov : ∀ lb cb, (callFunc 65 #[.slice (some ⟨vb, 0, none⟩) 1 1, .slice (some ⟨g, (c + 1) * 2, none⟩) lb cb]).run Try.prog w = .ok (.value (.bool false)) w := fun lb cb => by
    rw [run_callFunc_extern Try.func65 (by kernel_rfl) (by kernel_rfl) (by kernel_rfl) (e := Extern.SlicesOverlaps.overlaps #[24, 24] #[4]) (by kernel_rfl),
      Lib.run_overlaps_apart w 24 4 26 Try.underlying24 2 hzs ⟨vb, 0, none⟩ ⟨g, (c + 1) * 2, none⟩ 1 1 lb cb hne _ _ _ _ sv sg (by omega) (fv _) (fv _)]
    rfl
  have hdl : (ps.drop c).length = n - c := by rw [List.length_drop, hlen]
  have tail : ∀ j v, (flat (ps.drop c))[j]? = some v → w.cell? ((⟨g, c * 2, none⟩ : Addr).add j) = some v := tail_cells ho c (by omega)
  have hcp1 : ∀ ty dc sc, (Builtin.copy_ #[24, 24] ty #[.slice (some ⟨g, (c + 1) * 2, none⟩) (n - c) dc, .slice (some ⟨g, c * 2, none⟩) (n + 1 - c) sc]).run Try.prog w.drew = .ok (goInt (ps.drop c).length) (w.drew.setCells g ((c + 1) * 2) (flat (ps.drop c))) := fun ty dc sc =>
    run_copy2 w.drew _ _ ty 26 g ((c + 1) * 2) (n - c) dc ⟨g, c * 2, none⟩ (n + 1 - c) sc (ps.drop c) Try.underlying24 hsz (by rw [hdl]; simp only [Nat.min_def]; split <;> omega) tail (fun j hj => row_some row0 _ (by rw [hdl] at hj; omega)) fg
  obtain ⟨W1, hW1⟩ : ∃ W1, W1 = w.drew.setCells g ((c + 1) * 2) (flat (ps.drop c)) := ⟨_, rfl⟩
  obtain ⟨row1, gr1⟩ := row_set (flat (ps.drop c)) ((c + 1) * 2) w.drew _ (World.ownsRow.drew row0)
  rw [← hW1] at hcp1 row1 gr1
  have hv1 := (Own.drew hv).kept gr1 (by simpa using hne)
  have hcp2 : ∀ ty dc, (Builtin.copy_ #[24, 24] ty #[.slice (some ⟨g, c * 2, none⟩) (n + 1 - c) dc, .slice (some ⟨vb, 0, none⟩) 1 1]).run Try.prog W1 = .ok (goInt [(x, y)].length) (W1.setCells g (c * 2) (flat [(x, y)])) := fun ty dc =>
    run_copy2 W1 _ _ ty 26 g (c * 2) (n + 1 - c) dc ⟨vb, 0, none⟩ 1 1 [(x, y)] Try.underlying24 hsz (by simp only [Nat.min_def, List.length_singleton]; split <;> omega) hv1.at.cells (fun j hj => row_some row1 _ (by simp at hj; omega)) (own_shape row1).2
  obtain ⟨row2, gr2⟩ := row_set (flat [(x, y)]) (c * 2) W1 _ row1
  have own2 : Own 26 (W1.setCells g (c * 2) (flat [(x, y)])) B g (n + 1) cap (ins ps c (x, y)) := by
    have e := shift_then_put ps c x y U hU (by omega)
    unfold Own
    rw [← e]
    exact row2
  have lg := ho.lt.1
  have bel : Below B w (W1.setCells g (c * 2) (flat [(x, y)])) := (((Below.refl B w).drew).grown gr1 hB (by simpa using lg)).grown gr2 (Nat.le_trans hB gr1.size) (by simpa using lg)
  generalize W1.setCells g (c * 2) (flat [(x, y)]) = W2 at *
  have HO := hide own2
  have HB := hide bel
  clear row0 row1 row2 gr1 gr2 own2 bel ho hv hv1 sg fg sv fv hW1 tail hzs
  have mixed : Try.prog.follows .mixedOrders = true := by kernel_rfl
  have hw1 : IntKind.i64.wrap ((c : Int) + 1) = (c : Int) + 1 := by rw [IntKind.wrap_i64]; omega
  have k1 : (0 : Int) ≤ (c : Int) + 1 := by omega
  have k2 : ((c : Int) + 1).toNat = c + 1 := by omega
  have k3 : (c : Int) ≤ (n : Int) := by omega
  have k4 : (c : Int) ≤ (n : Int) + 1 := by omega
  have k5 : ¬ cap = c := by omega
  have k6 : ¬ cap = c + 1 := by omega
  have k7 : (c : Int) + 1 ≤ (n : Int) + 1 := by omega
  go_enter Try.func57, Try.ntmps57
  go_wp2_with (simp only [hov])
  go_region_law_o (refine step_copy_runI rfl _ _ 24 24 rfl _ _ (by simp [Act.eval, Act.put]) (by simp [Act.eval, Act.put]) (hcp1 _ _ _) ?_)
  go_wp2_with (at_builtin; refine wpList_copy_runI _ rfl _ _ 24 24 rfl _ _ rfl rfl (hcp2 _ _) ?_)
  go_ret
  exact ⟨g, cap, rfl, unhide HO, unhide HB⟩

set_option maxRecDepth 100000 in
theorem insert_grow (w : World) (B g n c cap vb : Nat) (ps : List (Int × Int)) (x y : Int) (h20 : n ≤ 1048576) (hB : B ≤ w.heap.size) (hc : c < n) (hr : ¬ n + 1 ≤ cap) (ho : Own 26 w B g n cap ps) (hv : Own 26 w B vb 1 1 [(x, y)]) (hne : vb ≠ g) :
    Calls Try.prog 57 #[.slice (some ⟨g, 0, none⟩) n cap, .int .i64 c, .slice (some ⟨vb, 0, none⟩) 1 1] w fun e w' => ∃ g' c', e = .returned (.slice (some ⟨g', 0, none⟩) (n + 1) c') ∧ Own 26 w' B g' (n + 1) c' (ins ps c (x, y)) ∧ Below B w w' := by
  obtain ⟨i0, hi, hz0, hz1, hz2⟩ := info_parts info2
  obtain ⟨cap0, cap1⟩ := own_cap ho
  unfold maxLen at cap1
  have nz : ¬ ((c : Int) = (n : Int)) := by omega
  have nr : ((cap : Int) < (n : Int) + 1) := by omega
  have hlen := ho.len
  have hsz : (Try.prog.info? 26).map (·.size) = some 2 := by rw [hi]; simp [hz1]
  have l1 : (flat (ps.take c)).length = c * 2 := by rw [flat_len]; simp; omega
  have hold : (Builtin.firstCells i0.size c (.slice (some ⟨g, 0, none⟩) c cap)).run Try.prog w.drew = .ok (flat (ps.take c)).toArray w.drew := by
    rw [hz1]
    exact run_firstCells_some w.drew 2 c ⟨g, 0, none⟩ c cap (flat (ps.take c)) l1 (fun j v hj => by
      have hX : flat ps = flat (ps.take c) ++ flat (ps.drop c) := by rw [← flat_append, List.take_append_drop]
      have hjl : j < (flat (ps.take c)).length := (List.getElem?_eq_some_iff.1 hj).1
      exact ho.at.cells j v (by rw [hX, List.getElem?_append_left hjl]; exact hj))
  obtain ⟨G, hG⟩ : ∃ G, G = grownCap w (n + 1) cap 26 := ⟨_, rfl⟩
  have hG1 : n + 1 ≤ G := by rw [hG]; exact grownCap_ge w _ _ _
  have hG2 : G ≤ maxLen := by rw [hG]; exact grownCap_le_maxLen w _ _ _ (by unfold maxLen; omega)
  obtain ⟨ROW, hROW⟩ : ∃ ROW : Array Value, ROW = (flat (ps.take c)).toArray ++ Builtin.zeroCells (Value.agg #[.int .i64 0, .int .i64 0]).cells (n + 1 - c) ++ Builtin.zeroCells (Value.agg #[.int .i64 0, .int .i64 0]).cells (G - (n + 1)) := ⟨_, rfl⟩
  have hrz : ∀ ty, (Builtin.append_ #[24, 3] ty #[.slice (some ⟨g, 0, none⟩) c cap, .int .i64 ((n : Int) + 1 - (c : Int))]).run Try.prog w = .ok (.slice (some ⟨w.heap.size, 0, none⟩) (n + 1) G) (w.drew.alloc (.cells ROW 26)) := fun ty => by
    have h := Lib.run_append_grow_zeros w 24 3 ty 26 i0 _ .i64 .i64 Try.underlying24 Try.underlying3 hi hz0 (some ⟨g, 0, none⟩) c cap (flat (ps.take c)) hold (n + 1 - c) (by omega) (by rw [hz1]; decide) (by omega) (by omega) (by rw [hz2]; omega) (by rw [hz2]; exact growslice_fits (by omega) (by omega))
    rw [show c + (n + 1 - c) = n + 1 by omega, ← hG, ← hROW] at h
    rw [show (n : Int) + 1 - (c : Int) = ((n + 1 - c : Nat) : Int) by omega]
    exact h
  have hRs : ROW.size = G * 2 := by
    rw [hROW]
    simp [Builtin.zeroCells, Value.cells, l1]
    omega
  obtain ⟨Z, hZ, hT⟩ : ∃ Z : List Value, Z.length = (ps.length + 1 - c) * 2 ∧ ROW.toList.take ((n + 1) * 2) = flat (ps.take c) ++ Z := by
    refine ⟨(Builtin.zeroCells (Value.agg #[.int .i64 0, .int .i64 0]).cells (n + 1 - c)).toList, by simp [Builtin.zeroCells, Value.cells]; omega, ?_⟩
    rw [hROW, Array.toList_append, Array.toList_append]
    rw [List.take_append_of_le_length (by simp [Builtin.zeroCells, Value.cells, l1]; omega), List.take_of_length_le (by simp [Builtin.zeroCells, Value.cells, l1]; omega)]
  obtain ⟨W1, hW1⟩ : ∃ W1, W1 = w.drew.alloc (.cells ROW 26) := ⟨_, rfl⟩
  have row1 : W1.ownsRow B 26 2 (.slice (some ⟨w.heap.size, 0, none⟩) (n + 1) G) (n + 1) (flat (ps.take c) ++ Z) := by
    rw [hW1]
    exact ⟨by rw [List.length_append, l1, hZ]; omega, .inr ⟨w.heap.size, G, ROW, rfl, hB, heap_alloc_new w.drew _, hG1, hG2, hRs, hT⟩⟩
  have gr1 : w.grownBy W1 none := by rw [hW1]; exact ⟨rfl, rfl, rfl, by simp, fun k hk _ => Below.heap_alloc w.drew _ k hk⟩
  rw [← hW1] at hrz
  have ho1 := ho.kept gr1 (by simp)
  have hv1 := hv.kept gr1 (by simp)
  have lg := ho.lt
  have lv := hv.lt
  have hcpA : ∀ ty dc, (Builtin.copy_ #[24, 24] ty #[.slice (some ⟨w.heap.size, c * 2, none⟩) (n + 1 - c) dc, .slice (some ⟨vb, 0, none⟩) 1 1]).run Try.prog W1 = .ok (goInt [(x, y)].length) (W1.setCells w.heap.size (c * 2) (flat [(x, y)])) := fun ty dc =>
    run_copy2 W1 _ _ ty 26 w.heap.size (c * 2) (n + 1 - c) dc ⟨vb, 0, none⟩ 1 1 [(x, y)] Try.underlying24 hsz (by simp only [Nat.min_def, List.length_singleton]; split <;> omega) hv1.at.cells (fun j hj => row_some row1 _ (by simp at hj; omega)) (own_shape row1).2
  obtain ⟨row2, gr2⟩ := row_set (flat [(x, y)]) (c * 2) W1 _ row1
  have ho2 := ho1.kept gr2 (by simp; omega)
  generalize hW2 : W1.setCells w.heap.size (c * 2) (flat [(x, y)]) = W2 at *
  have hdl : (ps.drop c).length = n - c := by rw [List.length_drop, hlen]
  have hcpB : ∀ ty dc sc, (Builtin.copy_ #[24, 24] ty #[.slice (some ⟨w.heap.size, (c + 1) * 2, none⟩) (n - c) dc, .slice (some ⟨g, c * 2, none⟩) (n - c) sc]).run Try.prog W2.drew = .ok (goInt (ps.drop c).length) (W2.drew.setCells w.heap.size ((c + 1) * 2) (flat (ps.drop c))) := fun ty dc sc =>
    run_copy2 W2.drew _ _ ty 26 w.heap.size ((c + 1) * 2) (n - c) dc ⟨g, c * 2, none⟩ (n - c) sc (ps.drop c) Try.underlying24 hsz (by rw [hdl]; simp) (tail_cells ho2 c (by omega)) (fun j hj => row_some row2 _ (by rw [hdl] at hj; omega)) (own_shape row2).2
  obtain ⟨row3, gr3⟩ := row_set (flat (ps.drop c)) ((c + 1) * 2) W2.drew _ (World.ownsRow.drew row2)
  generalize hW3 : W2.drew.setCells w.heap.size ((c + 1) * 2) (flat (ps.drop c)) = W3 at *
  have own3 : Own 26 W3 B w.heap.size (n + 1) G (ins ps c (x, y)) := by
    have e := put_then_tail ps c x y Z hZ (by omega)
    unfold Own
    rw [← e]
    exact row3
  have bel : Below B w W3 := ((((Below.refl B w).grown gr1 hB (by simp)).grown gr2 (Nat.le_trans hB gr1.size) (by simpa using hB)).drew).grown gr3 (Nat.le_trans hB (Nat.le_trans gr1.size gr2.size)) (by simpa using hB)
  have G63 : (G : Int) ≤ 9223372036854775807 := by unfold maxLen at hG2; omega
  have HO := hide own3
  have HB := hide bel
  clear row1 row2 row3 gr1 gr2 gr3 own3 bel ho hv ho1 ho2 hv1 hW1 hW2 hW3 hold hT hROW hG hRs hZ
  have mixed : Try.prog.follows .mixedOrders = true := by kernel_rfl
  have hw1 : IntKind.i64.wrap ((c : Int) + 1) = (c : Int) + 1 := by rw [IntKind.wrap_i64]; omega
  have k1 : (0 : Int) ≤ (c : Int) + 1 := by omega
  have k2 : ((c : Int) + 1).toNat = c + 1 := by omega
  have k3 : (c : Int) ≤ (n : Int) := by omega
  have k4 : (c : Int) ≤ (n : Int) + 1 := by omega
  have k5 : ¬ cap = c := by omega
  have k6 : ¬ G = c + 1 := by omega
  have k7 : (c : Int) + 1 ≤ (n : Int) + 1 := by omega
  have k8 : ¬ G = c := by omega
  go_enter Try.func57, Try.ntmps57
  go_wp2_with (first
    | (at_builtin; refine Lib.wpList_append_run _ rfl _ _ _ _ rfl _ _ rfl rfl _ _ (hrz _) ?_)
    | (at_builtin; refine wpList_copy_runI _ rfl _ _ 24 24 rfl _ _ rfl rfl (hcpA _ _) ?_))
  go_region_law_o (refine step_copy_runI rfl _ _ 24 24 rfl (.slice (some ⟨w.heap.size, (c + 1) * 2, none⟩) (n - c) (G - (c + 1))) (.slice (some ⟨g, c * 2, none⟩) (n - c) (cap - c)) (by simp [Act.eval, Act.put]) (by simp [Act.eval, Act.put]) (hcpB _ _ _) ?_)
  go_wp2
  go_ret
  exact ⟨w.heap.size, G, rfl, unhide HO, unhide HB⟩

/-- Insert at any place of a list of the call's own. -/
theorem iInsert (w : World) (B g n c cap vb : Nat) (ps : List (Int × Int)) (x y : Int) (h20 : n ≤ 1048576) (hB : B ≤ w.heap.size) (hc : c ≤ n) (ho : Own 26 w B g n cap ps) (hv : Own 26 w B vb 1 1 [(x, y)]) (hne : vb ≠ g) :
    Calls Try.prog 57 #[.slice (some ⟨g, 0, none⟩) n cap, .int .i64 c, .slice (some ⟨vb, 0, none⟩) 1 1] w fun e w' => ∃ g' c', e = .returned (.slice (some ⟨g', 0, none⟩) (n + 1) c') ∧ Own 26 w' B g' (n + 1) c' (ins ps c (x, y)) ∧ Below B w w' := by
  rcases Nat.lt_or_eq_of_le hc with l | l
  · by_cases r : n + 1 ≤ cap
    · exact insert_room w B g n c cap vb ps x y h20 hB l r ho hv hne
    · exact insert_grow w B g n c cap vb ps x y h20 hB l r ho hv hne
  · subst l
    exact insert_end w B g c cap vb ps x y h20 hB ho hv hne

end Go.Proofs.Ytkbdlgbfgpoeiaa.AccountIInsert
