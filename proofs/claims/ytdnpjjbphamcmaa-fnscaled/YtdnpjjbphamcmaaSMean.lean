/- Contracts of the model's smaller number and of its taking by the mean. -/
import Derived.Test.YtdnpjjbphamcmaaSOf
import Derived.Test.YtdnpjjbphamcmaaMul5
namespace Go.Proofs.Ytdnpjjbphamcmaa.SMean
open Go.ChangeShapes Go.WideShapes Go.ChangeAt Go.RowKit Tup5 Lots Takes SOk5 SSplit
set_option linter.unusedVariables false
set_option linter.unusedSimpArgs false

theorem sMin (x q t : Int) (w : World) (ht : Hid (prt q x = t)) : Calls Try.prog 52 #[.int .i64 x, .int .i64 q] w fun e w' => e = .returned (.int .i64 t) ∧ w' = w := by
  by_cases h : x < q
  · obtain rfl : t = x := by rw [← unhide ht]; unfold prt; split <;> omega
    go_enter Try.func52, Try.ntmps52
    go_wp2
    go_ret
    exact ⟨rfl, rfl⟩
  · obtain rfl : t = q := by rw [← unhide ht]; unfold prt; split <;> omega
    go_enter Try.func52, Try.ntmps52
    go_wp2
    go_ret
    exact ⟨rfl, rfl⟩

/-- What MulDiv tells where no more than all is taken. -/
theorem md_tells {a b c : Int} (a0 : 0 ≤ a) (a1 : a ≤ 1000000000000000) (b0 : 0 ≤ b) (bc : b ≤ c) (c0 : 1 ≤ c) : MulC.Tells a b c (a * b / c) (a * b % c) true :=
  .inl ⟨Int.le_trans (div_le a0 b0 bc c0).2 a1, rfl, rfl, rfl⟩

set_option maxRecDepth 100000 in
set_option maxHeartbeats 2000000 in
theorem sMean (w : World) (g n cap : Nat) (ps : List T5) (q : Int) (hl : ps.length = n) (h20 : n ≤ 1048576) (n0 : 0 < n) (hg : g < w.heap.size) (h : At5 w g ps) (hp : ∀ p ∈ ps, Pos p) (hs : sumQ ps ≤ 1000000000000000 ∧ sumC ps ≤ 1000000000000000) (q1 : 1 ≤ q) (q2 : q ≤ sumQ ps) :
    Calls Try.prog 51 #[.slice (some ⟨g, 0, none⟩) n cap, .int .i64 q] w fun e w' => ∃ g' c', e = .returned (.tuple #[.slice (some ⟨g', 0, none⟩) (meanL ps q).length c', .int .i64 (meanC ps q)]) ∧ Own5 40 w' w.heap.size g' (meanL ps q).length c' (meanL ps q) ∧ Below w.heap.size w w' := by
  have sp := sum_pos ps hp
  have H := hide h
  have HP := hide hp
  clear h hp
  obtain ⟨Q, hQ⟩ : ∃ Q, Hid (sumQ ps = Q) := ⟨_, rfl⟩
  obtain ⟨C, hC⟩ : ∃ C, Hid (sumC ps = C) := ⟨_, rfl⟩
  obtain ⟨t, ht⟩ : ∃ t, Hid (C * q / Q = t) := ⟨_, rfl⟩
  have EC := hide (show meanC ps q = t by unfold meanC; rw [unhide hQ, unhide hC, unhide ht])
  have EL := hide (show meanL ps q = if q = Q then [] else [((el5 ps 0).1, (el5 ps 0).2.1, (el5 ps 0).2.2.1, Q - q, C - t)] by unfold meanL; rw [unhide hQ, unhide hC, unhide ht])
  rw [unhide hQ] at q2 hs sp
  rw [unhide hC] at hs sp
  have td := div_le (c := C) (t := q) (x := Q) sp.2 (by omega) q2 (by omega)
  have MT := hide (md_tells (a := C) (b := q) (c := Q) sp.2 hs.2 (by omega) q2 (by omega))
  rw [unhide ht] at td MT
  go_enter Try.func51, Try.ntmps51
  go_wp2_with fail
  refine (sQty w g n cap ps hl h20 (unhide H) (unhide HP) (by rw [unhide hQ]; exact hs.1)).mono ?_
  rw [unhide hQ]
  rintro e w1 ⟨rfl, b1⟩
  have H1 := hide ((unhide H).below b1 hg)
  have B1 := hide b1
  have hg1 := Nat.lt_of_lt_of_le hg b1.size
  clear b1
  go_wp2_with fail
  refine (sCost w1 g n cap ps hl h20 (unhide H1) (unhide HP) (by rw [unhide hC]; exact hs.2)).mono ?_
  rw [unhide hC]
  rintro e w2 ⟨rfl, b2⟩
  have H2 := hide ((unhide H1).below b2 hg1)
  have B2 := hide (next (unhide B1) b2)
  have hg2 := Nat.lt_of_lt_of_le hg1 b2.size
  clear b2 H1 B1 H
  have c0 := sp.2
  have c1 := hs.2
  have q3 := hs.1
  go_wp2_with fail
  refine (MulC.sMD C q Q t (C * q % Q) true _ c0 c1 (by omega) (by omega) (by omega) q3 MT).mono ?_
  rintro e w3 ⟨rfl, rfl⟩
  by_cases e : q = Q
  · have EL := hide ((unhide EL).trans (if_pos e))
    have O1 := hide (lit50 40 w3 w.heap.size (unhide B2).size)
    have B3 := hide ((unhide B2).alloc (unhide B2).size (.cells #[] 40))
    have eq : (Q == q) = true := by simpa using e.symm
    go_wp2
    go_ret2
    rw [unhide EL, unhide EC]
    exact ⟨w3.heap.size, 0, rfl, unhide O1, unhide B3⟩
  · have EL := hide ((unhide EL).trans (if_neg e))
    have ne : (Q == q) = false := by rw [beq_eq_false_iff_ne]; exact fun h => e h.symm
    obtain ⟨e0, e1, e2, e3, e4⟩ := (unhide H2) 0 (by omega)
    generalize (el5 ps 0).1 = x0 at *
    generalize (el5 ps 0).2.1 = x1 at *
    generalize (el5 ps 0).2.2.1 = x2 at *
    generalize (el5 ps 0).2.2.2.1 = x3 at *
    generalize (el5 ps 0).2.2.2.2 = x4 at *
    have B3 := hide ((unhide B2).alloc (unhide B2).size (.cells #[.int .i64 x0, .int .i64 x1, .int .i64 x2, .int .i64 (Q - q), .int .i64 (C - t)] 40))
    have O1 := hide (lit51 40 (w3.alloc (.cells #[.int .i64 x0, .int .i64 x1, .int .i64 x2, .int .i64 (Q - q), .int .i64 (C - t)] 40)) w.heap.size x0 x1 x2 (Q - q) (C - t) (unhide B3).size)
    simp only [World.size_alloc] at O1
    have B4 := hide ((unhide B3).alloc (unhide B3).size (.cells #[.int .i64 x0, .int .i64 x1, .int .i64 x2, .int .i64 (Q - q), .int .i64 (C - t)] 40))
    go_wp2
    go_ret2
    rw [unhide EL, unhide EC]
    exact ⟨w3.heap.size + 1, 1, rfl, unhide O1, unhide B4⟩

end Go.Proofs.Ytdnpjjbphamcmaa.SMean
