/- Marks on lists of files. Conditions: lists of at most 2^20 files. -/
import Derived.Test.YtnjhgkclcnfooabMarkF14
namespace Go.Proofs.Ytnjhgkclcnfooab.MarkFS14
open Go.ChangeShapes Go.WideShapes Go.ChangeAt Go.RowKit Fil14 MarkF14
set_option linter.unusedVariables false
set_option linter.unusedSimpArgs false

/-- The marks of n files. -/
def marks (s : Int) (n : Nat) : List TF := (List.range n).map fun (i : Nat) => (s + 3 * (i : Int), mt (s + 3 * (i : Int) + 1), mt (s + 3 * (i : Int) + 2))

theorem marks_len (s : Int) (n : Nat) : (marks s n).length = n := by simp [marks]
theorem marks_getD (s : Int) (n i : Nat) (h : i < n) : elF (marks s n) i = (s + 3 * (i : Int), mt (s + 3 * (i : Int) + 1), mt (s + 3 * (i : Int) + 2)) := by simp [marks, List.getD, h]

/-- The marks so far, and what stood behind. -/
def marked (s : Int) (ps : List TF) (n j : Nat) : List TF := (marks s n).take j ++ ps.drop j

theorem marked_zero (s : Int) (ps : List TF) (n : Nat) : marked s ps n 0 = ps := by simp [marked]
theorem marked_all (s : Int) (ps : List TF) (n : Nat) (h : ps.length = n) : marked s ps n n = marks s n := by
  unfold marked
  rw [List.take_of_length_le (by rw [marks_len]; exact Nat.le_refl _), List.drop_of_length_le (by omega), List.append_nil]

theorem marked_step (s : Int) (ps : List TF) (n j : Nat) (h : ps.length = n) (hj : j < n) : (((marked s ps n j).modify j fun p => (s + 3 * (j : Int), p.2)).modify j (fun p => (p.1, mt (s + 3 * (j : Int) + 1), p.2.2))).modify j (fun p => (p.1, p.2.1, mt (s + 3 * (j : Int) + 2))) = marked s ps n (j + 1) := by
  unfold marked
  have l := marks_len s n
  have g := marks_getD s n j hj
  have l1 : ((marks s n).take j).length = j := by simp; omega
  have l2 : ((marks s n).take (j + 1)).length = j + 1 := by simp; omega
  apply List.ext_getElem?
  intro i
  rw [List.getElem?_modify, List.getElem?_modify, List.getElem?_modify]
  by_cases e : j = i
  · subst e
    rw [List.getElem?_append_right (by omega), List.getElem?_append_left (by omega), List.getElem?_take, if_pos (by omega), l1]
    have hg : (marks s n)[j]? = some (s + 3 * (j : Int), mt (s + 3 * (j : Int) + 1), mt (s + 3 * (j : Int) + 2)) := by
      rw [← g]; simp [List.getD, l, hj]
    rw [hg]
    simp [List.getElem?_drop, h, hj]
  · by_cases d : i < j
    · rw [List.getElem?_append_left (by omega), List.getElem?_append_left (by omega), List.getElem?_take, List.getElem?_take, if_pos d, if_pos (by omega)]
      simp [e]
    · rw [List.getElem?_append_right (by omega), List.getElem?_append_right (by omega), l1, l2]
      simp only [List.getElem?_drop]
      rw [show j + (i - j) = i by omega, show j + 1 + (i - (j + 1)) = i by omega]
      simp [e]

set_option maxRecDepth 100000 in
set_option maxHeartbeats 2000000 in
theorem markS (w : World) (base g n cap : Nat) (s : Int) (ps : List TF) (h20 : n ≤ 1048576) (s0 : 1 ≤ s) (s1 : s ≤ 90000000) (hb0 : base ≤ w.heap.size) (ho : OwnF 46 w base g n cap ps) :
    Calls Try.prog 25 #[.slice (some ⟨g, 0, none⟩) n cap, .int .i64 s] w fun e w' => e = .returned (.int .i64 (s + 3 * (n : Int))) ∧ OwnF 46 w' base g n cap (marks s n) ∧ w.grownBy w' (some g) := by
  have hl := ho.len
  have ho' : OwnF 46 w base g n cap (marked s ps n 0) := by rw [marked_zero]; exact ho
  clear ho
  go_enter Try.func25, Try.ntmps25
  go_wp2
  go_loopw [1, 5] (fun m i wr => ∃ (k : Nat), k ≤ n ∧ i = .int .i64 k ∧ m = .int .i64 (s + 3 * (k : Int)) ∧ OwnF 46 wr base g n cap (marked s ps n k) ∧ w.grownBy wr (some g)) (fun _ i _ => n - (intOf i).toNat)
  case atStart => exact ⟨0, by omega, rfl, by go_num, ho', World.grownBy.refl _ _⟩
  case round =>
    clear ho'
    obtain ⟨k, hk, rfl, rfl, hown, hg⟩ := hrel
    by_cases t : k < n
    · obtain ⟨o1, q1⟩ := hown.set0 k (s + 3 * (k : Int))
      obtain ⟨hd0, hd1, hd2⟩ := hown.at k (by rw [OwnF.len hown]; exact t)
      have hf0 := hown.free (k * 3)
      have HO1 := hide o1
      have HG1 := hide (grown_trans hg q1)
      have ms := marked_step s ps n k hl t
      rw [show s + 3 * (k : Int) + 2 = s + 3 * (k : Int) + 1 + 1 by omega] at ms
      have MS := hide ms
      clear ms
      clear hown hg o1 q1 hd1 hd2
      generalize (elF (marked s ps n k) k).1 = z0 at hd0
      generalize marked s ps n k = mk at *
      have r1 : IntKind.i64.wrap (s + 3 * (k : Int) + 1) = s + 3 * (k : Int) + 1 := by rw [IntKind.wrap_i64]; omega
      have r2 : IntKind.i64.wrap (s + 3 * (k : Int) + 1 + 1) = s + 3 * (k : Int) + 1 + 1 := by rw [IntKind.wrap_i64]; omega
      have r3 : IntKind.i64.wrap (s + 3 * (k : Int) + 1 + 1 + 1) = s + 3 * (k : Int) + 1 + 1 + 1 := by rw [IntKind.wrap_i64]; omega
      go_wp2_with fail
      refine (markT _ (s + 3 * (k : Int) + 1) (by omega) (by omega)).mono ?_
      rintro e u1 ⟨rfl, bb⟩
      have a1 := (unhide HO1).below bb (unhide HO1).lt.2
      have G2 := hide (grown_trans (unhide HG1) ⟨bb.os, bb.tape, bb.output, bb.size, fun i hi _ => bb.block i hi⟩)
      obtain ⟨o2, q2⟩ := a1.set1 k (mt (s + 3 * (k : Int) + 1))
      obtain ⟨_, hd1, _⟩ := a1.at k (by rw [OwnF.len a1]; exact t)
      have hf1 := a1.free (k * 3 + 1)
      have HO2 := hide o2
      have HG2 := hide (grown_trans (unhide G2) q2)
      clear bb a1 o2 q2 G2 HO1 HG1 hd0 hf0
      generalize (elF (mk.modify k fun p => (s + 3 * (k : Int), p.2)) k).2.1 = z1 at hd1
      generalize mk.modify k (fun p => (s + 3 * (k : Int), p.2)) = mk1 at *
      go_wp2_with fail
      refine (markT _ (s + 3 * (k : Int) + 1 + 1) (by omega) (by omega)).mono ?_
      rintro e u2 ⟨rfl, bb⟩
      have a2 := (unhide HO2).below bb (unhide HO2).lt.2
      have G3 := hide (grown_trans (unhide HG2) ⟨bb.os, bb.tape, bb.output, bb.size, fun i hi _ => bb.block i hi⟩)
      obtain ⟨o3, q3⟩ := a2.set2 k (mt (s + 3 * (k : Int) + 1 + 1))
      obtain ⟨_, _, hd2⟩ := a2.at k (by rw [OwnF.len a2]; exact t)
      have hf2 := a2.free (k * 3 + 2)
      have HO3 := hide o3
      have HG3 := hide (grown_trans (unhide G3) q3)
      clear bb a2 o3 q3 G3 HO2 HG2 hd1 hf1
      generalize (elF (mk1.modify k fun p => (p.1, mt (s + 3 * (k : Int) + 1), p.2.2)) k).2.2 = z2 at hd2
      go_wp2
      go_roundw
      case rel => exact ⟨k + 1, by omega, by go_num, by go_num, by have h := unhide HO3; rw [unhide MS] at h; exact h, unhide HG3⟩
      case measure => simp [intOf]; omega
    · obtain rfl : k = n := by omega
      rw [marked_all s ps k hl] at hown
      have HO := hide hown
      have HG := hide hg
      clear hown hg
      go_wp2
      go_ret
      exact ⟨rfl, unhide HO, unhide HG⟩

abbrev oP0 : Oper := { dst := some 21, op := Go.Op.move (Go.Operand.tmp 0), type := 26, pos := "exact.go:1083", after := #[], guard := none }
abbrev oP1 : Oper := { dst := some 22, op := Go.Op.move (Go.Operand.tmp 5), type := 3, pos := "exact.go:1083", after := #[], guard := none }
abbrev oP2 : Oper := { dst := some 23, op := Go.Op.indexAddr 26 (Go.Operand.tmp 21) (Go.Operand.tmp 22), type := 0, pos := "exact.go:1083", after := #[{ on := 0, ground := Go.Ground.data }, { on := 1, ground := Go.Ground.data }], guard := none }
abbrev oP3 : Oper := { dst := some 24, op := Go.Op.fieldAddr 46 (Go.Operand.tmp 23) 1, type := 0, pos := "exact.go:1083", after := #[{ on := 2, ground := Go.Ground.data }], guard := none }
abbrev oP4 : Oper := { dst := some 25, op := Go.Op.load 9 (Go.Operand.tmp 24), type := 9, pos := "exact.go:1083", after := #[{ on := 3, ground := Go.Ground.data }], guard := none }
abbrev oP5 : Oper := { dst := some 26, op := Go.Op.move (Go.Operand.tmp 1), type := 3, pos := "exact.go:1083", after := #[], guard := none }
abbrev oP6 : Oper := { dst := some 27, op := Go.Op.call { callee := Go.Callee.value (Go.Operand.func 37), args := #[Go.Operand.tmp 26], argTypes := #[3] }, type := 9, pos := "exact.go:1083", after := #[{ on := 5, ground := Go.Ground.data }], guard := none }
abbrev oP7 : Oper := { dst := some 28, op := Go.Op.binOp Go.BinOp.neq 9 (Go.Operand.tmp 25) (Go.Operand.tmp 27) 9, type := 4, pos := "exact.go:1083", after := #[{ on := 4, ground := Go.Ground.data }, { on := 6, ground := Go.Ground.data }], guard := none }
abbrev oQ0 : Oper := { dst := some 31, op := Go.Op.move (Go.Operand.tmp 0), type := 26, pos := "exact.go:1087", after := #[], guard := none }
abbrev oQ1 : Oper := { dst := some 32, op := Go.Op.move (Go.Operand.tmp 5), type := 3, pos := "exact.go:1087", after := #[], guard := none }
abbrev oQ2 : Oper := { dst := some 33, op := Go.Op.indexAddr 26 (Go.Operand.tmp 31) (Go.Operand.tmp 32), type := 0, pos := "exact.go:1087", after := #[{ on := 0, ground := Go.Ground.data }, { on := 1, ground := Go.Ground.data }], guard := none }
abbrev oQ3 : Oper := { dst := some 34, op := Go.Op.fieldAddr 46 (Go.Operand.tmp 33) 2, type := 0, pos := "exact.go:1087", after := #[{ on := 2, ground := Go.Ground.data }], guard := none }
abbrev oQ4 : Oper := { dst := some 35, op := Go.Op.load 9 (Go.Operand.tmp 34), type := 9, pos := "exact.go:1087", after := #[{ on := 3, ground := Go.Ground.data }], guard := none }
abbrev oQ5 : Oper := { dst := some 36, op := Go.Op.move (Go.Operand.tmp 1), type := 3, pos := "exact.go:1087", after := #[], guard := none }
abbrev oQ6 : Oper := { dst := some 37, op := Go.Op.call { callee := Go.Callee.value (Go.Operand.func 37), args := #[Go.Operand.tmp 36], argTypes := #[3] }, type := 9, pos := "exact.go:1087", after := #[{ on := 5, ground := Go.Ground.data }], guard := none }
abbrev oQ7 : Oper := { dst := some 38, op := Go.Op.binOp Go.BinOp.neq 9 (Go.Operand.tmp 35) (Go.Operand.tmp 37) 9, type := 4, pos := "exact.go:1087", after := #[{ on := 4, ground := Go.Ground.data }, { on := 6, ground := Go.Ground.data }], guard := none }

set_option maxRecDepth 100000 in
set_option maxHeartbeats 2000000 in
theorem heldS (w : World) (g n cap : Nat) (s : Int) (h20 : n ≤ 1048576) (s0 : 1 ≤ s) (s1 : s ≤ 90000000) (lg : g < w.heap.size) (h : AtF w g (marks s n)) :
    Calls Try.prog 26 #[.slice (some ⟨g, 0, none⟩) n cap, .int .i64 s] w fun e w' => e = .returned (.int .i64 (s + 3 * (n : Int))) ∧ Below w.heap.size w w' := by
  have H := hide h
  clear h
  go_enter Try.func26, Try.ntmps26
  go_wp2
  go_loopw [1, 5] (fun m i wr => ∃ (k : Nat), k ≤ n ∧ i = .int .i64 k ∧ m = .int .i64 (s + 3 * (k : Int)) ∧ Hid (Below w.heap.size w wr)) (fun _ i _ => n - (intOf i).toNat)
  case atStart => exact ⟨0, by omega, rfl, by go_num, hide (Below.refl _ _)⟩
  case round =>
    obtain ⟨k, hk, rfl, rfl, HB⟩ := hrel
    by_cases t : k < n
    · obtain ⟨e1, e2, e3⟩ := ((unhide H).below (unhide HB) lg) k (by rw [marks_len]; exact t)
      rw [marks_getD s n k t] at e1 e2 e3
      have K1 : wr.cell? ⟨g, k * 3 + 1, none⟩ = some (.string (mt (s + 3 * (k : Int) + 1))) := e2
      replace e3 : wr.cell? ⟨g, k * 3 + 2, none⟩ = some (.string (mt (s + 3 * (k : Int) + 1 + 1))) := by rw [e3, show s + 3 * (k : Int) + 1 + 1 = s + 3 * (k : Int) + 2 by omega]
      have r1 : IntKind.i64.wrap (s + 3 * (k : Int) + 1) = s + 3 * (k : Int) + 1 := by rw [IntKind.wrap_i64]; omega
      have r2 : IntKind.i64.wrap (s + 3 * (k : Int) + 1 + 1) = s + 3 * (k : Int) + 1 + 1 := by rw [IntKind.wrap_i64]; omega
      have r3 : IntKind.i64.wrap (s + 3 * (k : Int) + 1 + 1 + 1) = s + 3 * (k : Int) + 1 + 1 + 1 := by rw [IntKind.wrap_i64]; omega
      clear e2
      go_wp2_with fail
      refine wp_region_held_drew (S := (fun w' => w'.cell? ⟨g, k * 3 + 1, none⟩ = some (.string (mt (s + 3 * (k : Int) + 1))))) (by kernel_rfl) K1 (fun hHeld => ?_)
      refine wpAnyH_take (i := 0) (oi := oP0) (v := .slice (some ⟨g, 0, none⟩) n cap) rfl (by kernel_rfl) (by kernel_rfl) (by kernel_rfl) (fun _ _ _ h => h) (Or.inl ⟨by rfl, fun w hSw => ?_⟩) hHeld ?_
      · (try dsimp only at hSw)
        unfold oP0
        go_simp
      try simp only [oP0, Act.put, List.setIfInBounds_toArray, List.set_cons_zero, List.set_cons_succ]
      refine wpAnyH_take (i := 1) (oi := oP1) (v := .int .i64 k) rfl (by kernel_rfl) (by kernel_rfl) (by kernel_rfl) (fun _ _ _ h => h) (Or.inl ⟨by rfl, fun w hSw => ?_⟩) hHeld ?_
      · (try dsimp only at hSw)
        unfold oP1
        go_simp
      try simp only [oP1, Act.put, List.setIfInBounds_toArray, List.set_cons_zero, List.set_cons_succ]
      refine wpAnyH_take (i := 2) (oi := oP2) (v := .pointer (some ⟨g, k * 3, none⟩)) rfl (by kernel_rfl) (by kernel_rfl) (by kernel_rfl) (fun _ _ _ h => h) (Or.inl ⟨by rfl, fun w hSw => ?_⟩) hHeld ?_
      · (try dsimp only at hSw)
        unfold oP2
        go_simp
      try simp only [oP2, Act.put, List.setIfInBounds_toArray, List.set_cons_zero, List.set_cons_succ]
      refine wpAnyH_take (i := 3) (oi := oP3) (v := .pointer (some ⟨g, k * 3 + 1, none⟩)) rfl (by kernel_rfl) (by kernel_rfl) (by kernel_rfl) (fun _ _ _ h => h) (Or.inl ⟨by rfl, fun w hSw => ?_⟩) hHeld ?_
      · (try dsimp only at hSw)
        unfold oP3
        go_simp
      try simp only [oP3, Act.put, List.setIfInBounds_toArray, List.set_cons_zero, List.set_cons_succ]
      refine wpAnyH_take (i := 4) (oi := oP4) (v := .string (mt (s + 3 * (k : Int) + 1))) rfl (by kernel_rfl) (by kernel_rfl) (by kernel_rfl) (fun _ _ _ h => h) (Or.inl ⟨by rfl, fun w hSw => ?_⟩) hHeld ?_
      · (try dsimp only at hSw)
        unfold oP4
        go_simp
      try simp only [oP4, Act.put, List.setIfInBounds_toArray, List.set_cons_zero, List.set_cons_succ]
      refine wpAnyH_take (i := 5) (oi := oP5) (v := .int .i64 (s + 3 * (k : Int) + 1)) rfl (by kernel_rfl) (by kernel_rfl) (by kernel_rfl) (fun _ _ _ h => h) (Or.inl ⟨by rfl, fun w hSw => ?_⟩) hHeld ?_
      · (try dsimp only at hSw)
        unfold oP5
        go_simp
      try simp only [oP5, Act.put, List.setIfInBounds_toArray, List.set_cons_zero, List.set_cons_succ]
      refine wpAnyH_ready (rs := [6]) (by kernel_rfl) (by simp) ?_
      refine AllReadyH.cons (o := oP6) rfl (fun K hK => ?_) AllReadyH.nil
      unfold oP6
      go_simp
      go_wp2_with fail
      refine (markT _ (s + 3 * (k : Int) + 1) (by omega) (by omega)).mono ?_
      rintro e u1 ⟨rfl, bb⟩
      have bu1 := hide (show Below wr.heap.size wr u1 from ⟨bb.os, bb.tape, bb.output, bb.size, bb.block⟩)
      have Ku1 : u1.cell? ⟨g, k * 3 + 1, none⟩ = some (.string (mt (s + 3 * (k : Int) + 1))) := ((unhide bu1).cell (p := ⟨g, k * 3 + 1, none⟩) (Nat.lt_of_lt_of_le lg (unhide HB).size)).trans K1
      clear bb
      go_wp2_with fail
      refine hK.out _ _ Ku1 (fun hHeld => ?_)
      clear hK K
      try simp only [oP6, Act.put, List.setIfInBounds_toArray, List.set_cons_zero, List.set_cons_succ]
      refine wpAnyH_take (i := 7) (oi := oP7) (v := .bool false) rfl (by kernel_rfl) (by kernel_rfl) (by kernel_rfl) (fun _ _ _ h => h) (Or.inl ⟨by rfl, fun w hSw => ?_⟩) hHeld ?_
      · (try dsimp only at hSw)
        unfold oP7
        go_simp
      try simp only [oP7, Act.put, List.setIfInBounds_toArray, List.set_cons_zero, List.set_cons_succ]
      refine wpAnyH_done (by kernel_rfl) ?_ _
      have B1 := hide ((unhide HB).trans ((unhide bu1).mono (unhide HB).size))
      have K2 : u1.cell? ⟨g, k * 3 + 2, none⟩ = some (.string (mt (s + 3 * (k : Int) + 1 + 1))) := ((unhide bu1).cell (p := ⟨g, k * 3 + 2, none⟩) (Nat.lt_of_lt_of_le lg (unhide HB).size)).trans e3
      clear K1 Ku1
      go_wp2_with fail
      refine wp_region_held_drew (S := (fun w' => w'.cell? ⟨g, k * 3 + 2, none⟩ = some (.string (mt (s + 3 * (k : Int) + 1 + 1))))) (by kernel_rfl) K2 (fun hHeld => ?_)
      refine wpAnyH_take (i := 0) (oi := oQ0) (v := .slice (some ⟨g, 0, none⟩) n cap) rfl (by kernel_rfl) (by kernel_rfl) (by kernel_rfl) (fun _ _ _ h => h) (Or.inl ⟨by rfl, fun w hSw => ?_⟩) hHeld ?_
      · (try dsimp only at hSw)
        unfold oQ0
        go_simp
      try simp only [oQ0, Act.put, List.setIfInBounds_toArray, List.set_cons_zero, List.set_cons_succ]
      refine wpAnyH_take (i := 1) (oi := oQ1) (v := .int .i64 k) rfl (by kernel_rfl) (by kernel_rfl) (by kernel_rfl) (fun _ _ _ h => h) (Or.inl ⟨by rfl, fun w hSw => ?_⟩) hHeld ?_
      · (try dsimp only at hSw)
        unfold oQ1
        go_simp
      try simp only [oQ1, Act.put, List.setIfInBounds_toArray, List.set_cons_zero, List.set_cons_succ]
      refine wpAnyH_take (i := 2) (oi := oQ2) (v := .pointer (some ⟨g, k * 3, none⟩)) rfl (by kernel_rfl) (by kernel_rfl) (by kernel_rfl) (fun _ _ _ h => h) (Or.inl ⟨by rfl, fun w hSw => ?_⟩) hHeld ?_
      · (try dsimp only at hSw)
        unfold oQ2
        go_simp
      try simp only [oQ2, Act.put, List.setIfInBounds_toArray, List.set_cons_zero, List.set_cons_succ]
      refine wpAnyH_take (i := 3) (oi := oQ3) (v := .pointer (some ⟨g, k * 3 + 2, none⟩)) rfl (by kernel_rfl) (by kernel_rfl) (by kernel_rfl) (fun _ _ _ h => h) (Or.inl ⟨by rfl, fun w hSw => ?_⟩) hHeld ?_
      · (try dsimp only at hSw)
        unfold oQ3
        go_simp
      try simp only [oQ3, Act.put, List.setIfInBounds_toArray, List.set_cons_zero, List.set_cons_succ]
      refine wpAnyH_take (i := 4) (oi := oQ4) (v := .string (mt (s + 3 * (k : Int) + 1 + 1))) rfl (by kernel_rfl) (by kernel_rfl) (by kernel_rfl) (fun _ _ _ h => h) (Or.inl ⟨by rfl, fun w hSw => ?_⟩) hHeld ?_
      · (try dsimp only at hSw)
        unfold oQ4
        go_simp
      try simp only [oQ4, Act.put, List.setIfInBounds_toArray, List.set_cons_zero, List.set_cons_succ]
      refine wpAnyH_take (i := 5) (oi := oQ5) (v := .int .i64 (s + 3 * (k : Int) + 1 + 1)) rfl (by kernel_rfl) (by kernel_rfl) (by kernel_rfl) (fun _ _ _ h => h) (Or.inl ⟨by rfl, fun w hSw => ?_⟩) hHeld ?_
      · (try dsimp only at hSw)
        unfold oQ5
        go_simp
      try simp only [oQ5, Act.put, List.setIfInBounds_toArray, List.set_cons_zero, List.set_cons_succ]
      refine wpAnyH_ready (rs := [6]) (by kernel_rfl) (by simp) ?_
      refine AllReadyH.cons (o := oQ6) rfl (fun K hK => ?_) AllReadyH.nil
      unfold oQ6
      go_simp
      go_wp2_with fail
      refine (markT _ (s + 3 * (k : Int) + 1 + 1) (by omega) (by omega)).mono ?_
      rintro e u2 ⟨rfl, bb⟩
      have bu2 := hide (show Below u1.heap.size u1 u2 from ⟨bb.os, bb.tape, bb.output, bb.size, bb.block⟩)
      have Ku2 : u2.cell? ⟨g, k * 3 + 2, none⟩ = some (.string (mt (s + 3 * (k : Int) + 1 + 1))) := ((unhide bu2).cell (p := ⟨g, k * 3 + 2, none⟩) (Nat.lt_of_lt_of_le lg (unhide B1).size)).trans K2
      clear bb
      go_wp2_with fail
      refine hK.out _ _ Ku2 (fun hHeld => ?_)
      clear hK K
      try simp only [oQ6, Act.put, List.setIfInBounds_toArray, List.set_cons_zero, List.set_cons_succ]
      refine wpAnyH_take (i := 7) (oi := oQ7) (v := .bool false) rfl (by kernel_rfl) (by kernel_rfl) (by kernel_rfl) (fun _ _ _ h => h) (Or.inl ⟨by rfl, fun w hSw => ?_⟩) hHeld ?_
      · (try dsimp only at hSw)
        unfold oQ7
        go_simp
      try simp only [oQ7, Act.put, List.setIfInBounds_toArray, List.set_cons_zero, List.set_cons_succ]
      refine wpAnyH_done (by kernel_rfl) ?_ _
      have B2 := hide ((unhide B1).trans ((unhide bu2).mono (unhide B1).size))
      clear K2 Ku2 bu2
      go_wp2
      go_roundw
      case rel => exact ⟨k + 1, by omega, by go_num, by go_num, B2⟩
      case measure => simp [intOf]; omega
    · obtain rfl : k = n := by omega
      go_wp2
      go_ret
      exact ⟨rfl, unhide HB⟩

end Go.Proofs.Ytnjhgkclcnfooab.MarkFS14
