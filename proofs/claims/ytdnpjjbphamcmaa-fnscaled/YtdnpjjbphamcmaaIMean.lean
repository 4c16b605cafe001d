/- Contracts of the program's taking by the mean, of the library's Clone of lots, and of putting lots back into a cut list. -/
import Derived.Test.YtdnpjjbphamcmaaIOf
import Derived.Test.YtdnpjjbphamcmaaConcat5
import Derived.Test.YtdnpjjbphamcmaaMul5
import Derived.BigRegion
import Derived.Lib.SliceRun
namespace Go.Proofs.Ytdnpjjbphamcmaa.IMean
open Go.ChangeShapes Go.WideShapes Go.ChangeAt Go.RowKit Tup5 Lots Takes Cmp IOk5 Quieter IPlace5 ICut Cat5 Concat5 IOf
set_option linter.unusedVariables false
set_option linter.unusedSimpArgs false

theorem md_tells {a b c : Int} (a0 : 0 ≤ a) (a1 : a ≤ 1000000000000000) (b0 : 0 ≤ b) (bc : b ≤ c) (c0 : 1 ≤ c) : MulC.Tells a b c (a * b / c) (a * b % c) true :=
  .inl ⟨Int.le_trans (div_le a0 b0 bc c0).2 a1, rfl, rfl, rfl⟩

set_option maxRecDepth 100000 in
theorem iClone (w : World) (g o n cap : Nat) (ps : List T5) (hl : ps.length = n) (h20 : n ≤ 1048576) (hg : g < w.heap.size) (h : AtO w g o ps) :
    Calls Try.prog 85 #[.slice (some ⟨g, o, none⟩) n cap] w fun e w' => ∃ g' c', e = .returned (.slice (some ⟨g', 0, none⟩) n c') ∧ Own5 40 w' w.heap.size g' n c' ps ∧ Below w.heap.size w w' := by
  have L1 := hide (lit50 40 w w.heap.size (Nat.le_refl _))
  have B6 := hide ((Below.refl w.heap.size w).alloc (Nat.le_refl _) (.cells #[] 40))
  have A6 := hide (h.below (unhide B6) hg)
  have bs := (unhide B6).size
  have hnil : ∀ w : World, (binOp .eql 24 (.slice (some ⟨g, o, none⟩) n cap) (.slice none 0 0)).run Try.prog w = .ok (.bool false) w := fun w => Lib.run_eql_slice_nil w _ _ _ _ _ _ _ Try.underlying24
  clear h
  go_enter Try.func85, Try.ntmps85
  go_wp2_with (first | (at_builtin; refine wp_copyO _ rfl _ _ rfl w.heap.size w.heap.size 0 n ps g o cap rfl rfl (unhide L1) hl (unhide A6) (by omega) bs ?_) | go_in)
  intro g7 c7 w7 o7 gr7 loc7
  have O7 := hide o7
  have B7 := hide ((unhide B6).grown gr7 bs (fun j hj => by cases hj; exact (unhide L1).lt.1))
  clear o7 gr7 loc7
  go_wp2
  go_ret
  exact ⟨g7, c7, rfl, unhide O7, unhide B7⟩

set_option maxRecDepth 100000 in
set_option maxHeartbeats 2000000 in
theorem iMean (w : World) (g o n cap : Nat) (ps : List T5) (q : Int) (hl : ps.length = n) (h20 : n ≤ 1048576) (n0 : 0 < n) (hg : g < w.heap.size) (h : AtO w g o ps) (hp : ∀ p ∈ ps, Pos p) (hs : sumQ ps ≤ 1000000000000000 ∧ sumC ps ≤ 1000000000000000) (q1 : 1 ≤ q) (q2 : q ≤ sumQ ps) :
    Calls Try.prog 72 #[.slice (some ⟨g, o, none⟩) n cap, .int .i64 q] w fun e w' => ∃ g' c', e = .returned (.tuple #[.slice (some ⟨g', 0, none⟩) (meanL ps q).length c', .int .i64 (meanC ps q)]) ∧ Own5 40 w' w.heap.size g' (meanL ps q).length c' (meanL ps q) ∧ Below w.heap.size w w' := by
  have sp := sum_pos ps hp
  have H := hide h
  have HP := hide hp
  clear h hp
  obtain ⟨Q, hQ⟩ : ∃ Q, Hid (sumQ ps = Q) := ⟨_, rfl⟩
  obtain ⟨C, hC⟩ : ∃ C, Hid (sumC ps = C) := ⟨_, rfl⟩
  obtain ⟨t, ht⟩ : ∃ t, Hid (C * q / Q = t) := ⟨_, rfl⟩
  have EC := hide (show meanC ps q = t by unfold meanC; rw [unhide hQ, unhide hC, unhide ht])
  have EL := hide (show meanL ps q = if q = Q then [] else [((el5 ps 0).1, (el5 ps 0).2.1, (el5 ps 0).2.2.1, Q - q, C - t)] by unfold meanL; rw [unhide hQ, unhide hC, unhide ht])
  rw [unhide hQ] at q2 hs sp
  rw [unhide hC] at hs sp
  have td := div_le (c := C) (t := q) (x := Q) sp.2 (by omega) q2 (by omega)
  have MT := hide (md_tells (a := C) (b := q) (c := Q) sp.2 hs.2 (by omega) q2 (by omega))
  rw [unhide ht] at td MT
  go_enter Try.func72, Try.ntmps72
  go_wp2_with fail
  refine (iTotals w g o n cap ps hl h20 hg (unhide H) (unhide HP) (by rw [unhide hQ, unhide hC]; exact hs)).mono ?_
  rw [unhide hQ, unhide hC]
  rintro e w2 ⟨rfl, b2⟩
  have H2 := hide ((unhide H).below b2 hg)
  have B2 := hide b2
  have hg2 := Nat.lt_of_lt_of_le hg b2.size
  clear b2 H
  have c0 := sp.2
  have c1 := hs.2
  have q3 := hs.1
  go_wp2_with fail
  refine (MulC.iMD C q Q t (C * q % Q) true _ c0 c1 (by omega) (by omega) (by omega) q3 MT).mono ?_
  rintro e w3 ⟨rfl, g3⟩
  have b3 := g3.below
  have H3 := hide ((unhide H2).below b3 hg2)
  have B3 := hide (next (unhide B2) b3)
  clear b3 g3 H2 B2
  by_cases e : q = Q
  · have EL := hide ((unhide EL).trans (if_pos e))
    have O1 := hide (lit50 40 w3 w.heap.size (unhide B3).size)
    have B4 := hide ((unhide B3).alloc (unhide B3).size (.cells #[] 40))
    have eq : (q == Q) = true := by simpa using e
    clear e
    go_wp2
    go_ret2
    rw [unhide EL, unhide EC]
    exact ⟨w3.heap.size, 0, rfl, unhide O1, unhide B4⟩
  · have EL := hide ((unhide EL).trans (if_neg e))
    have ne : (q == Q) = false := by rw [beq_eq_false_iff_ne]; exact e
    obtain ⟨e0, e1, e2, e3, e4⟩ := (unhide H3) 0 (by omega)
    rw [Nat.zero_mul, Nat.add_zero] at e0 e1 e2 e3 e4
    generalize (el5 ps 0).1 = x0 at *
    generalize (el5 ps 0).2.1 = x1 at *
    generalize (el5 ps 0).2.2.1 = x2 at *
    generalize (el5 ps 0).2.2.2.1 = x3 at *
    generalize (el5 ps 0).2.2.2.2 = x4 at *
    have wQ : IntKind.i64.wrap (Q - q) = Q - q := by rw [IntKind.wrap_i64]; omega
    have wC : IntKind.i64.wrap (C - t) = C - t := by rw [IntKind.wrap_i64]; omega
    have B4 := hide ((unhide B3).alloc (unhide B3).size (.cells #[.int .i64 x0, .int .i64 x1, .int .i64 x2, .int .i64 (Q - q), .int .i64 (C - t)] 40))
    have O1 := hide (lit51 40 (w3.alloc (.cells #[.int .i64 x0, .int .i64 x1, .int .i64 x2, .int .i64 (Q - q), .int .i64 (C - t)] 40)) w.heap.size x0 x1 x2 (Q - q) (C - t) (unhide B4).size)
    simp only [World.size_alloc] at O1
    have B5 := hide ((unhide B4).alloc (unhide B4).size (.cells #[.int .i64 x0, .int .i64 x1, .int .i64 x2, .int .i64 (Q - q), .int .i64 (C - t)] 40))
    go_wp2
    go_ret2
    rw [unhide EL, unhide EC]
    exact ⟨w3.heap.size + 1, 1, rfl, unhide O1, unhide B5⟩

set_option maxRecDepth 100000 in
set_option maxHeartbeats 2000000 in
theorem iWith (w : World) (g1 o1 n1 c1 g2 o2 n2 c2 g3 o3 n3 c3 : Nat) (v2 : Value) (p1 p2 p3 : List T5) (l1 : p1.length = n1) (l2 : p2.length = n2) (l3 : p3.length = n3) (h20 : n1 + n2 + n3 ≤ 1048576)
    (q1 : g1 < w.heap.size) (q2 : g2 < w.heap.size) (q3 : g3 < w.heap.size) (a1 : AtO w g1 o1 p1) (a2 : AtO w g2 o2 p2) (a3 : AtO w g3 o3 p3) :
    Calls Try.prog 39 #[.agg #[.slice (some ⟨g1, o1, none⟩) n1 c1, v2, .slice (some ⟨g3, o3, none⟩) n3 c3], .slice (some ⟨g2, o2, none⟩) n2 c2] w fun e w' => ∃ v, e = .returned v ∧ OwnV 40 w' w.heap.size v (p1 ++ (p2 ++ p3)) ∧ Below w.heap.size w w' := by
  have A1 := hide a1
  have A2 := hide a2
  have A3 := hide a3
  clear a1 a2 a3
  have BW := hide (show Below w.heap.size w ((w.alloc (.cells #[.slice (some ⟨g1, o1, none⟩) n1 c1, v2, .slice (some ⟨g3, o3, none⟩) n3 c3] 58)).alloc (.cells #[.slice (some ⟨g1, o1, none⟩) n1 c1, .slice (some ⟨g2, o2, none⟩) n2 c2, .slice (some ⟨g3, o3, none⟩) n3 c3] 24)) from ((Below.refl _ _).alloc (Nat.le_refl _) _).alloc (by simp) _)
  have CC := hide (iConcat ((w.alloc (.cells #[.slice (some ⟨g1, o1, none⟩) n1 c1, v2, .slice (some ⟨g3, o3, none⟩) n3 c3] 58)).alloc (.cells #[.slice (some ⟨g1, o1, none⟩) n1 c1, .slice (some ⟨g2, o2, none⟩) n2 c2, .slice (some ⟨g3, o3, none⟩) n3 c3] 24)) (w.heap.size + 1) g1 o1 n1 c1 g2 o2 n2 c2 g3 o3 n3 c3 p1 p2 p3 l1 l2 l3 h20 (by simp) (by simp; omega) (by simp; omega) (by simp; omega) ((unhide A1).below (unhide BW) q1) ((unhide A2).below (unhide BW) q2) ((unhide A3).below (unhide BW) q3) (by simp) (by simp) (by simp))
  go_enter Try.func39, Try.ntmps39
  go_wp2_with fail
  refine (unhide CC).mono ?_
  rintro e w1 ⟨v, rfl, ov, b1⟩
  have OV := hide (ov.rebase (base' := w.heap.size) (unhide BW).size)
  have B1 := hide ((unhide BW).trans (b1.mono (unhide BW).size))
  clear ov b1 CC BW
  go_wp2
  go_ret
  exact ⟨v, rfl, unhide OV, unhide B1⟩

end Go.Proofs.Ytdnpjjbphamcmaa.IMean
