/- Contracts of the program's readers of lots at a list that is nothing at all, and at a list that may be. -/
import Derived.Test.YtdnpjjbphamcmaaConcat5
import Derived.Test.YtdnpjjbphamcmaaIOf
import Derived.Test.YtdnpjjbphamcmaaSTake
namespace Go.Proofs.Ytdnpjjbphamcmaa.Nil5
open Go.ChangeShapes Go.WideShapes Go.ChangeAt Go.RowKit Tup5 Lots Takes Quieter ICut Cat5 Concat5 IOf IOk5
set_option linter.unusedVariables false
set_option linter.unusedSimpArgs false

theorem right_nil : Right [] := ⟨by simp, fun i hi => absurd hi (by simp), fun a i => by simp [qtyOf, costOf]⟩

set_option maxRecDepth 100000 in
theorem ok0 (w : World) : Calls Try.prog 23 #[.slice none 0 0] w fun e w' => e = .returned (.bool true) ∧ Below w.heap.size w w' := by
  go_enter Try.func23, Try.ntmps23
  go_wp2
  go_loopw [4, 5, 7, 14] (fun _ _ _ i wr => i = .int .i64 0 ∧ wr = w.alloc (.cells #[.int .i64 0, .int .i64 0, .int .i64 0, .int .i64 0, .int .i64 0] 40)) (fun _ _ _ _ _ => 0)
  case atStart => exact ⟨rfl, rfl⟩
  case round =>
    obtain ⟨rfl, rfl⟩ := hrel
    go_wp2
    go_ret
    exact ⟨rfl, (Below.refl _ _).alloc (Nat.le_refl _) _⟩

set_option maxRecDepth 100000 in
theorem search0 (w : World) (a i : Int) : Calls Try.prog 67 #[.slice none 0 0, .agg #[.int .i64 a, .int .i64 i], .func (.func 68) #[] #[]] w fun e w' => e = .returned (.tuple #[.int .i64 0, .bool false]) ∧ Below w.heap.size w w' := by
  have B0 := hide (show Below w.heap.size w (w.alloc (.cells #[.int .i64 a, .int .i64 i] 81)) from (Below.refl _ _).alloc (Nat.le_refl _) _)
  go_enter Try.func67, Try.ntmps67
  go_wp2
  generalize w.alloc (.cells #[.int .i64 a, .int .i64 i] 81) = u at *
  go_loopw [9, 10] (fun p q wr => p = .int .i64 0 ∧ q = .int .i64 0 ∧ wr = u) (fun _ _ _ => 0)
  case atStart => exact ⟨rfl, rfl, rfl⟩
  case round =>
    obtain ⟨rfl, rfl, rfl⟩ := hrel
    go_wp2_with fail
    go_quiet (fail)
    have HB := hide (below_drewN (unhide B0) nq)
    go_wp2
    go_ret2
    exact ⟨rfl, unhide HB⟩

set_option maxRecDepth 100000 in
theorem cut0 (w : World) (a i : Int) : Calls Try.prog 38 #[.slice none 0 0, .int .i64 a, .int .i64 i] w fun e w' => e = .returned (.agg #[.slice none 0 0, .slice none 0 0, .slice none 0 0]) ∧ Below w.heap.size w w' := by
  have B0 := hide (show Below w.heap.size w ((w.alloc (.cells #[.slice none 0 0, .slice none 0 0, .slice none 0 0] 58)).alloc (.cells #[.int .i64 a, .int .i64 i] 81)) from ((Below.refl _ _).alloc (Nat.le_refl _) _).alloc (by simp) _)
  have R0 := hide (show ((w.alloc (.cells #[.slice none 0 0, .slice none 0 0, .slice none 0 0] 58)).alloc (.cells #[.int .i64 a, .int .i64 i] 81)).cell? ⟨w.heap.size, 0, none⟩ = some (.slice none 0 0) ∧ ((w.alloc (.cells #[.slice none 0 0, .slice none 0 0, .slice none 0 0] 58)).alloc (.cells #[.int .i64 a, .int .i64 i] 81)).cell? ⟨w.heap.size, 1, none⟩ = some (.slice none 0 0) ∧ ((w.alloc (.cells #[.slice none 0 0, .slice none 0 0, .slice none 0 0] 58)).alloc (.cells #[.int .i64 a, .int .i64 i] 81)).cell? ⟨w.heap.size, 2, none⟩ = some (.slice none 0 0) from by simp)
  have F0 := hide (show ((w.alloc (.cells #[.slice none 0 0, .slice none 0 0, .slice none 0 0] 58)).alloc (.cells #[.int .i64 a, .int .i64 i] 81)).frozen? ⟨w.heap.size, 0, none⟩ = false ∧ ((w.alloc (.cells #[.slice none 0 0, .slice none 0 0, .slice none 0 0] 58)).alloc (.cells #[.int .i64 a, .int .i64 i] 81)).frozen? ⟨w.heap.size, 1, none⟩ = false ∧ ((w.alloc (.cells #[.slice none 0 0, .slice none 0 0, .slice none 0 0] 58)).alloc (.cells #[.int .i64 a, .int .i64 i] 81)).frozen? ⟨w.heap.size, 2, none⟩ = false from by simp)
  have hs : w.heap.size < ((w.alloc (.cells #[.slice none 0 0, .slice none 0 0, .slice none 0 0] 58)).alloc (.cells #[.int .i64 a, .int .i64 i] 81)).heap.size := by simp; omega
  go_enter Try.func38, Try.ntmps38
  go_wp2_with fail
  generalize (w.alloc (.cells #[.slice none 0 0, .slice none 0 0, .slice none 0 0] 58)).alloc (.cells #[.int .i64 a, .int .i64 i] 81) = u at *
  refine (search0 u a i).mono ?_
  rintro e w1 ⟨rfl, b1⟩
  have r0 := (b1.cell (p := ⟨w.heap.size, 0, none⟩) hs).trans (unhide R0).1
  have r1 := (b1.cell (p := ⟨w.heap.size, 1, none⟩) hs).trans (unhide R0).2.1
  have r2 := (b1.cell (p := ⟨w.heap.size, 2, none⟩) hs).trans (unhide R0).2.2
  have s0 := (b1.frozen (p := ⟨w.heap.size, 0, none⟩) hs).trans (unhide F0).1
  have s1 := (b1.frozen (p := ⟨w.heap.size, 1, none⟩) hs).trans (unhide F0).2.1
  have s2 := (b1.frozen (p := ⟨w.heap.size, 2, none⟩) hs).trans (unhide F0).2.2
  have BW := hide (show Below w.heap.size w w1 from (unhide B0).trans (b1.mono (unhide B0).size))
  clear b1
  go_wp2
  go_loopw [10] (fun p wr => p = .int .i64 0 ∧ wr = w1) (fun _ _ => 0)
  case atStart => exact ⟨rfl, rfl⟩
  case round =>
    obtain ⟨rfl, rfl⟩ := hrel
    go_wp2
    go_region
    have BW := hide ((unhide BW).drew)
    have r0 : wr.drew.cell? ⟨w.heap.size, 0, none⟩ = some (.slice none 0 0) := r0
    have r1 : wr.drew.cell? ⟨w.heap.size, 1, none⟩ = some (.slice none 0 0) := r1
    have r2 : wr.drew.cell? ⟨w.heap.size, 2, none⟩ = some (.slice none 0 0) := r2
    have s0 : wr.drew.frozen? ⟨w.heap.size, 0, none⟩ = false := s0
    have s1 : wr.drew.frozen? ⟨w.heap.size, 1, none⟩ = false := s1
    have s2 : wr.drew.frozen? ⟨w.heap.size, 2, none⟩ = false := s2
    generalize wr.drew = wd at *
    have FB := hide (show Below w.heap.size w ((((wd.setCell ⟨w.heap.size, 0, none⟩ (.slice none 0 0)).setCell ⟨w.heap.size, 1, none⟩ (.slice none 0 0)).setCell ⟨w.heap.size, 2, none⟩ (.slice none 0 0)).drew) from ((((unhide BW).setCell (p := ⟨w.heap.size, 0, none⟩) (Nat.le_refl _) _).setCell (p := ⟨w.heap.size, 1, none⟩) (Nat.le_refl _) _).setCell (p := ⟨w.heap.size, 2, none⟩) (Nat.le_refl _) _).drew)
    go_wp2
    go_region
    go_wp2
    refine bodyPost_ret (v := .agg #[.slice none 0 0, .slice none 0 0, .slice none 0 0]) (by simp [results, Try.results38, go_sem, *]) rfl ⟨rfl, unhide FB⟩

set_option maxRecDepth 100000 in
theorem of0 (w : World) (a i : Int) : Calls Try.prog 25 #[.slice none 0 0, .int .i64 a, .int .i64 i] w fun e w' => ∃ g' c', e = .returned (.slice (some ⟨g', 0, none⟩) 0 c') ∧ Own5 40 w' w.heap.size g' 0 c' [] ∧ Below w.heap.size w w' := by
  go_enter Try.func25, Try.ntmps25
  go_wp2_with fail
  refine (ok0 w).mono ?_
  rintro e w1 ⟨rfl, b1⟩
  have B1 := hide b1
  have L1 := hide (lit50 40 w1 w.heap.size b1.size)
  have B2 := hide (b1.alloc b1.size (.cells #[] 40))
  clear b1
  go_wp2_with fail
  generalize w1.alloc (.cells #[] 40) = v1 at *
  generalize w1.heap.size = e1 at *
  refine (cut0 v1 a i).mono ?_
  rintro e w2 ⟨rfl, b2⟩
  have hfd : ∀ w : World, (Instr.field 58 (.agg #[.slice none 0 0, .slice none 0 0, .slice none 0 0]) 1).run Try.prog w = .ok (.slice none 0 0) w := fun _ => by kernel_rfl
  have L2 := hide ((unhide L1).below b2 (unhide L1).lt.2)
  have B3 := hide ((unhide B2).trans (b2.mono (unhide B2).size))
  clear b2 L1 B2
  go_wp2
  go_ret
  exact ⟨e1, 0, rfl, unhide L2, unhide B3⟩

theorem okV (w : World) (base : Nat) (v : Value) (ps : List T5) (ok : Bool) (h20 : ps.length ≤ 1048576) (h : OwnV 40 w base v ps) (hok : Says ok (Right ps)) :
    Calls Try.prog 23 #[v] w fun e w' => e = .returned (.bool ok) ∧ Below w.heap.size w w' := by
  rcases h.cases with ⟨rfl, rfl⟩ | ⟨g, c, rfl, o⟩
  · obtain rfl : ok = true := hok.of right_nil
    exact ok0 w
  · exact iOk w g ps.length c ps ok rfl h20 o.lt.2 o.at hok

theorem ofV (w : World) (base : Nat) (v : Value) (ps : List T5) (a i : Int) (ok : Bool) (h20 : ps.length ≤ 1048576) (h : OwnV 40 w base v ps) (hok : Says ok (Right ps)) :
    Calls Try.prog 25 #[v, .int .i64 a, .int .i64 i] w fun e w' => ∃ g' c', e = .returned (.slice (some ⟨g', 0, none⟩) (ofL ps a i ok).length c') ∧ Own5 40 w' w.heap.size g' (ofL ps a i ok).length c' (ofL ps a i ok) ∧ Below w.heap.size w w' := by
  rcases h.cases with ⟨rfl, rfl⟩ | ⟨g, c, rfl, o⟩
  · have e : ofL [] a i ok = [] := by unfold ofL ownL; split <;> rfl
    rw [e]
    exact of0 w a i
  · exact iOf w g ps.length c ps a i ok rfl h20 (STake.own_cap o).1 o.lt.2 o.at hok

set_option maxRecDepth 100000 in
theorem qty0 (w : World) (a i : Int) : Calls Try.prog 21 #[.slice none 0 0, .int .i64 a, .int .i64 i] w fun e w' => e = .returned (.int .i64 0) ∧ Below w.heap.size w w' := by
  go_enter Try.func21, Try.ntmps21
  go_wp2_with fail
  refine (of0 w a i).mono ?_
  rintro e w1 ⟨g1, c1, rfl, o1, b1⟩
  have O1 := hide o1
  have B1 := hide b1
  clear o1 b1
  go_wp2_with fail
  refine (iTotals w1 g1 0 0 c1 [] rfl (by omega) (unhide O1).lt.2 (at_o (unhide O1).at) (fun p hp => absurd hp List.not_mem_nil) (by simp [sumQ, sumC])).mono ?_
  rintro e w2 ⟨rfl, b2⟩
  have B2 := hide (next (unhide B1) b2)
  clear b2 O1 B1
  go_wp2
  go_ret
  exact ⟨rfl, unhide B2⟩

theorem qtyV (w : World) (base : Nat) (v : Value) (ps : List T5) (a i : Int) (ok : Bool) (h20 : ps.length ≤ 1048576) (h : OwnV 40 w base v ps) (hok : Says ok (Right ps)) :
    Calls Try.prog 21 #[v, .int .i64 a, .int .i64 i] w fun e w' => e = .returned (.int .i64 (sumQ (ofL ps a i ok))) ∧ Below w.heap.size w w' := by
  rcases h.cases with ⟨rfl, rfl⟩ | ⟨g, c, rfl, o⟩
  · have e : ofL [] a i ok = [] := by unfold ofL ownL; split <;> rfl
    rw [e]
    exact qty0 w a i
  · exact iLotsQty w g ps.length c ps a i ok rfl h20 (STake.own_cap o).1 o.lt.2 o.at hok

set_option maxRecDepth 100000 in
theorem cost0 (w : World) (a i : Int) : Calls Try.prog 22 #[.slice none 0 0, .int .i64 a, .int .i64 i] w fun e w' => e = .returned (.int .i64 0) ∧ Below w.heap.size w w' := by
  go_enter Try.func22, Try.ntmps22
  go_wp2_with fail
  refine (of0 w a i).mono ?_
  rintro e w1 ⟨g1, c1, rfl, o1, b1⟩
  have O1 := hide o1
  have B1 := hide b1
  clear o1 b1
  go_wp2_with fail
  refine (iTotals w1 g1 0 0 c1 [] rfl (by omega) (unhide O1).lt.2 (at_o (unhide O1).at) (fun p hp => absurd hp List.not_mem_nil) (by simp [sumQ, sumC])).mono ?_
  rintro e w2 ⟨rfl, b2⟩
  have B2 := hide (next (unhide B1) b2)
  clear b2 O1 B1
  go_wp2
  go_ret
  exact ⟨rfl, unhide B2⟩

theorem costV (w : World) (base : Nat) (v : Value) (ps : List T5) (a i : Int) (ok : Bool) (h20 : ps.length ≤ 1048576) (h : OwnV 40 w base v ps) (hok : Says ok (Right ps)) :
    Calls Try.prog 22 #[v, .int .i64 a, .int .i64 i] w fun e w' => e = .returned (.int .i64 (sumC (ofL ps a i ok))) ∧ Below w.heap.size w w' := by
  rcases h.cases with ⟨rfl, rfl⟩ | ⟨g, c, rfl, o⟩
  · have e : ofL [] a i ok = [] := by unfold ofL ownL; split <;> rfl
    rw [e]
    exact cost0 w a i
  · exact iLotsCost w g ps.length c ps a i ok rfl h20 (STake.own_cap o).1 o.lt.2 o.at hok

end Go.Proofs.Ytdnpjjbphamcmaa.Nil5
