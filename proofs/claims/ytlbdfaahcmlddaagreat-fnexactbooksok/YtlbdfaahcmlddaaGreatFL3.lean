/- Texts of one proof, one behind the other: LotApp, SSplit. -/
import Derived.Test.YtlbdfaahcmlddaaGreatRows
import Derived.Test.YtlbdfaahcmlddaaGreatFA1
import Derived.Test.YtlbdfaahcmlddaaGreatFA2
import Derived.Maps.AppendAt
set_option linter.unusedVariables false
set_option linter.unusedSimpArgs false
namespace Go.Proofs.YtlbdfaahcmlddaaGreat.LotApp
open Go.ChangeShapes Go.WideShapes Go.ChangeAt Go.RowKit Tup5
theorem info2 : (Tryz.prog.info? 106).map (fun i => (i.zero, i.size, i.bytes)) = some (some (.agg #[.int .i64 0, .int .i64 0, .int .i64 0, .int .i64 0, .int .i64 0]), 5, 40) := by kernel_rfl
theorem wp_app (u : World) {ops : Array Oper} {rest : List Oper} {o : Oper} {a : Act} {Q : Exit → Act → World → Prop} (hgd : o.guard = none) (s x : Operand)
    (ho : o.op = .call { callee := .builtin .append, args := #[s, x], argTypes := #[34, 34] }) (base g n cap : Nat) (ps : List T5) (vb : Nat) (x0 x1 x2 x3 x4 : Int)
    (hs : a.eval s = .slice (some ⟨g, 0, none⟩) n cap) (hx : a.eval x = .slice (some ⟨vb, 0, none⟩) 1 1) (hown : Own5 106 u base g n cap ps) (hv : Holds5 u vb 0 (x0, x1, x2, x3, x4)) (hn : n ≤ 1048576) (hb : base ≤ u.heap.size)
    (h : ∀ g' c' w', Own5 106 w' base g' (n + 1) c' (ps ++ [(x0, x1, x2, x3, x4)]) → u.grownBy w' (some g) → (g' = g ∨ g' = u.heap.size) → wpList Tryz.prog ops Q rest (a.put o.dst (.slice (some ⟨g', 0, none⟩) (n + 1) c')) w') : wpList Tryz.prog ops Q (o :: rest) a u := by
  obtain ⟨i0, hi, hz0, hz1, hz2⟩ := info_parts info2
  have hat : At5 u vb [(x0, x1, x2, x3, x4)] := by
    intro i hi
    obtain rfl : i = 0 := by simpa using hi
    exact hv
  refine wpList_append_own_at u hgd s x 34 ho base 106 i0 (.agg #[.int .i64 0, .int .i64 0, .int .i64 0, .int .i64 0, .int .i64 0]) 5 40 Tryz.underlying34 hi hz0 hz1 hz2 rfl (by decide) _ n _ hs hown ⟨vb, 0, none⟩ 1 1 (flat5 [(x0, x1, x2, x3, x4)]) hx rfl hat.cells (fun u hu => flat5_one u _ hu) (by unfold maxLen; omega) (by omega) hb ?_
  intro v' w' own' gr' nil' loc'
  obtain ⟨g', c', rfl, o'⟩ := own5_of_row (n' := n + 1) (ps := ps ++ [(x0, x1, x2, x3, x4)]) own' rfl (by rw [flat5_append]) (by rw [nil']; simp)
  exact h g' c' w' o' gr' (by simpa [Value.ownBlock] using loc')
end Go.Proofs.YtlbdfaahcmlddaaGreat.LotApp
namespace Go.Proofs.YtlbdfaahcmlddaaGreat.SSplit
open Go.ChangeShapes Go.WideShapes Go.ChangeAt Go.RowKit Tup5 Lots Takes SOk5 Quieter
set_option maxRecDepth 100000 in
set_option maxHeartbeats 4000000 in
theorem sSplit (w : World) (g n cap : Nat) (ps : List T5) (a i : Int) (hl : ps.length = n) (h20 : n ≤ 100000) (hg : g < w.heap.size) (h : At5 w g ps) :
    Calls Tryz.prog 88 #[.slice (some ⟨g, 0, none⟩) n cap, .int .i64 a, .int .i64 i] w fun e w' => ∃ g1 c1 g2 c2, e = .returned (.tuple #[.slice (some ⟨g1, 0, none⟩) (ownL ps a i).length c1, .slice (some ⟨g2, 0, none⟩) (restL ps a i).length c2]) ∧ Own5 106 w' w.heap.size g1 (ownL ps a i).length c1 (ownL ps a i) ∧ Own5 106 w' w.heap.size g2 (restL ps a i).length c2 (restL ps a i) ∧ g1 ≠ g2 ∧ Below w.heap.size w w' := by
  have H := hide h
  clear h
  have O1 := hide ((lit50 106 w w.heap.size (Nat.le_refl _)).alloc (.cells #[] 106))
  have O2 := hide (lit50 106 (w.alloc (.cells #[] 106)) w.heap.size (by simp))
  have B0 := hide (show Below w.heap.size w ((w.alloc (.cells #[] 106)).alloc (.cells #[] 106)) from ((Below.refl _ _).alloc (Nat.le_refl _) _).alloc (by simp) _)
  simp only [World.size_alloc] at O2
  go_enter Tryz.func88, Tryz.ntmps88
  go_wp2
  generalize (w.alloc (.cells #[] 106)).alloc (.cells #[] 106) = w0 at *
  go_loopw [8, 9, 10] (fun l m j wr => ∃ (p q : List T5) (g1 c1 g2 c2 k : Nat), l = .slice (some ⟨g1, 0, none⟩) p.length c1 ∧ m = .slice (some ⟨g2, 0, none⟩) q.length c2 ∧ j = .int .i64 k ∧ k ≤ n ∧ p.length ≤ k ∧ q.length ≤ k ∧ g1 ≠ g2 ∧ Hid (p = ownL (ps.take k) a i) ∧ Hid (q = restL (ps.take k) a i) ∧ Hid (Own5 106 wr w.heap.size g1 p.length c1 p) ∧ Hid (Own5 106 wr w.heap.size g2 q.length c2 q) ∧ Hid (Below w.heap.size w wr)) (fun _ _ j _ => n - (intOf j).toNat)
  case atStart => exact ⟨[], [], w.heap.size, 0, w.heap.size + 1, 0, 0, rfl, rfl, rfl, by omega, by simp, by simp, by omega, hide rfl, hide rfl, O1, O2, B0⟩
  case round =>
    clear O1 O2 B0
    obtain ⟨p, q, g1, c1, g2, c2, k, rfl, rfl, rfl, hk, pl, ql, g12, HP, HQ, H1, H2, HB⟩ := hrel
    have bs := (unhide HB).size
    have gl1 := (unhide H1).lt.2
    have gl2 := (unhide H2).lt.2
    by_cases t : k < n
    · obtain ⟨e0, e1, e2, e3, e4⟩ := (unhide H).below (unhide HB) hg k (by omega)
      have NP := hide (own_next (ps := ps) (k := k) (by omega) a i)
      have NQ := hide (rest_next (ps := ps) (k := k) (by omega) a i)
      rw [← unhide HP] at NP
      rw [← unhide HQ] at NQ
      have EQ : el5 ps k = ((el5 ps k).1, (el5 ps k).2.1, (el5 ps k).2.2.1, (el5 ps k).2.2.2.1, (el5 ps k).2.2.2.2) := rfl
      rw [EQ] at NP NQ
      clear EQ HP HQ
      generalize (el5 ps k).1 = x0 at *
      generalize (el5 ps k).2.1 = x1 at *
      generalize (el5 ps k).2.2.1 = x2 at *
      generalize (el5 ps k).2.2.2.1 = x3 at *
      generalize (el5 ps k).2.2.2.2 = x4 at *
      have V5 := hide (show Holds5 (wr.alloc (.cells #[.int .i64 x0, .int .i64 x1, .int .i64 x2, .int .i64 x3, .int .i64 x4] 106)) wr.heap.size 0 (x0, x1, x2, x3, x4) from by unfold Holds5; simp)
      by_cases own : x0 = a ∧ x1 = i
      · have NP1 : Hid (ownL (ps.take (k + 1)) a i = p ++ [(x0, x1, x2, x3, x4)]) := hide (by rw [unhide NP, if_pos own])
        have NQ1 : Hid (restL (ps.take (k + 1)) a i = q) := hide (by rw [unhide NQ, if_pos own, List.append_nil])
        clear NP NQ
        obtain ⟨rfl, rfl⟩ := own
        go_wp2_with (first | (at_builtin; refine LotApp.wp_app _ rfl _ _ rfl w.heap.size g1 p.length c1 p wr.heap.size x0 x1 x2 x3 x4 rfl rfl ((unhide H1).alloc _) (unhide V5) (by omega) (by simp; omega) ?_) | go_in)
        intro g5 c5 w5 o5 gr5 loc5
        have O5 := hide o5
        have K5 := hide (((unhide H2).alloc (.cells #[.int .i64 x0, .int .i64 x1, .int .i64 x2, .int .i64 x3, .int .i64 x4] 106)).kept gr5 (by simp; omega))
        have B5 := hide (((unhide HB).alloc bs (.cells #[.int .i64 x0, .int .i64 x1, .int .i64 x2, .int .i64 x3, .int .i64 x4] 106)).grown gr5 (by simp; omega) (fun j hj => by cases hj; exact (unhide H1).lt.1))
        have g5B : g5 ≠ g2 := by
          try simp at loc5
          omega
        clear o5 gr5 loc5 V5
        go_wp2
        go_roundw
        case rel => exact ⟨p ++ [(x0, x1, x2, x3, x4)], q, g5, c5, g2, c2, k + 1, by rw [show (p ++ [(x0, x1, x2, x3, x4)]).length = p.length + 1 by simp], rfl, by go_num, by omega, by simp; omega, by omega, g5B, hide (unhide NP1).symm, hide (unhide NQ1).symm, hide (by rw [show (p ++ [(x0, x1, x2, x3, x4)]).length = p.length + 1 by simp]; exact unhide O5), K5, B5⟩
        case measure => simp [intOf]; omega
      · have NP1 : Hid (ownL (ps.take (k + 1)) a i = p) := hide (by rw [unhide NP, if_neg own, List.append_nil])
        have NQ1 : Hid (restL (ps.take (k + 1)) a i = q ++ [(x0, x1, x2, x3, x4)]) := hide (by rw [unhide NQ, if_neg own])
        clear NP NQ
        rcases (show x0 ≠ a ∨ (x0 = a ∧ x1 ≠ i) by omega) with o2 | ⟨rfl, o2⟩
        · have ob : (x0 == a) = false := by simpa using o2
          go_wp2_with (first | (at_builtin; refine LotApp.wp_app _ rfl _ _ rfl w.heap.size g2 q.length c2 q wr.heap.size x0 x1 x2 x3 x4 rfl rfl ((unhide H2).alloc _) (unhide V5) (by omega) (by simp; omega) ?_) | go_in)
          intro g5 c5 w5 o5 gr5 loc5
          have O5 := hide o5
          have K5 := hide (((unhide H1).alloc (.cells #[.int .i64 x0, .int .i64 x1, .int .i64 x2, .int .i64 x3, .int .i64 x4] 106)).kept gr5 (by simp; omega))
          have B5 := hide (((unhide HB).alloc bs (.cells #[.int .i64 x0, .int .i64 x1, .int .i64 x2, .int .i64 x3, .int .i64 x4] 106)).grown gr5 (by simp; omega) (fun j hj => by cases hj; exact (unhide H2).lt.1))
          have g5B : g5 ≠ g1 := by
            try simp at loc5
            omega
          clear o5 gr5 loc5 V5
          go_wp2
          go_roundw
          case rel => exact ⟨p, q ++ [(x0, x1, x2, x3, x4)], g1, c1, g5, c5, k + 1, rfl, by rw [show (q ++ [(x0, x1, x2, x3, x4)]).length = q.length + 1 by simp], by go_num, by omega, by omega, by simp; omega, fun e => g5B e.symm, hide (unhide NP1).symm, hide (unhide NQ1).symm, K5, hide (by rw [show (q ++ [(x0, x1, x2, x3, x4)]).length = q.length + 1 by simp]; exact unhide O5), B5⟩
          case measure => simp [intOf]; omega
        · have ob : (x1 == i) = false := by simpa using o2
          go_wp2_with (first | (at_builtin; refine LotApp.wp_app _ rfl _ _ rfl w.heap.size g2 q.length c2 q wr.heap.size x0 x1 x2 x3 x4 rfl rfl ((unhide H2).alloc _) (unhide V5) (by omega) (by simp; omega) ?_) | go_in)
          intro g5 c5 w5 o5 gr5 loc5
          have O5 := hide o5
          have K5 := hide (((unhide H1).alloc (.cells #[.int .i64 x0, .int .i64 x1, .int .i64 x2, .int .i64 x3, .int .i64 x4] 106)).kept gr5 (by simp; omega))
          have B5 := hide (((unhide HB).alloc bs (.cells #[.int .i64 x0, .int .i64 x1, .int .i64 x2, .int .i64 x3, .int .i64 x4] 106)).grown gr5 (by simp; omega) (fun j hj => by cases hj; exact (unhide H2).lt.1))
          have g5B : g5 ≠ g1 := by
            try simp at loc5
            omega
          clear o5 gr5 loc5 V5
          go_wp2
          go_roundw
          case rel => exact ⟨p, q ++ [(x0, x1, x2, x3, x4)], g1, c1, g5, c5, k + 1, rfl, by rw [show (q ++ [(x0, x1, x2, x3, x4)]).length = q.length + 1 by simp], by go_num, by omega, by omega, by simp; omega, fun e => g5B e.symm, hide (unhide NP1).symm, hide (unhide NQ1).symm, K5, hide (by rw [show (q ++ [(x0, x1, x2, x3, x4)]).length = q.length + 1 by simp]; exact unhide O5), B5⟩
          case measure => simp [intOf]; omega
    · obtain rfl : k = n := by omega
      have EP := hide (show p = ownL ps a i by rw [unhide HP, List.take_of_length_le (by omega)])
      have EQ := hide (show q = restL ps a i by rw [unhide HQ, List.take_of_length_le (by omega)])
      clear HP HQ
      go_wp2
      go_ret2
      rw [← unhide EP, ← unhide EQ]
      exact ⟨g1, c1, g2, c2, rfl, unhide H1, unhide H2, g12, unhide HB⟩
theorem take_sum {ps : List T5} (h : ∀ p ∈ ps, Pos p) (k : Nat) : 0 ≤ sumQ (ps.take k) ∧ sumQ (ps.take k) ≤ sumQ ps ∧ 0 ≤ sumC (ps.take k) ∧ sumC (ps.take k) ≤ sumC ps := by
  have e : ps = ps.take k ++ ps.drop k := (List.take_append_drop k ps).symm
  have p1 := sum_pos (ps.take k) (fun p hp => h p (List.mem_of_mem_take hp))
  have p2 := sum_pos (ps.drop k) (fun p hp => h p (List.mem_of_mem_drop hp))
  have e1 := sumQ_append (ps.take k) (ps.drop k)
  have e2 := sumC_append (ps.take k) (ps.drop k)
  rw [← e] at e1 e2
  omega
set_option maxRecDepth 100000 in
theorem sQty (w : World) (g n cap : Nat) (ps : List T5) (hl : ps.length = n) (h20 : n ≤ 1048576) (h : At5 w g ps) (hp : ∀ p ∈ ps, Pos p) (hs : sumQ ps ≤ 1000000000000000) :
    Calls Tryz.prog 89 #[.slice (some ⟨g, 0, none⟩) n cap] w fun e w' => e = .returned (.int .i64 (sumQ ps)) ∧ Below w.heap.size w w' := by
  have HP := hide hp
  clear hp
  go_enter Tryz.func89, Tryz.ntmps89
  go_wp2
  go_loopw [3, 4] (fun q j wr => ∃ (k : Nat) (s : Int), q = .int .i64 s ∧ j = .int .i64 k ∧ k ≤ n ∧ At5 wr g ps ∧ Hid (s = sumQ (ps.take k)) ∧ Hid (Below w.heap.size w wr)) (fun _ j _ => n - (intOf j).toNat)
  case atStart => exact ⟨0, 0, rfl, rfl, by omega, h, hide rfl, hide (Below.refl _ _)⟩
  case round =>
    clear h
    obtain ⟨k, s, rfl, rfl, hk, h, HS, HB⟩ := hrel
    have ts := take_sum (unhide HP) k
    have s0 : 0 ≤ s := by rw [unhide HS]; omega
    by_cases t : k < n
    · obtain ⟨e0, e1, e2, e3, e4⟩ := h k (by omega)
      have ts1 := take_sum (unhide HP) (k + 1)
      have NX := hide (sumQ_next (ps := ps) (k := k) (by omega))
      rw [← unhide HS] at NX
      have xp := (unhide HP) _ (getD_mem (ps := ps) (i := k) (by omega))
      unfold Pos at xp
      have b1 : s + (el5 ps k).2.2.2.1 ≤ 1000000000000000 := by rw [← unhide NX]; omega
      have HA := hide h
      clear h HS ts ts1
      obtain ⟨⟨x31, x32⟩, x41, x42⟩ := xp
      generalize (el5 ps k).1 = x0 at *
      generalize (el5 ps k).2.1 = x1 at *
      generalize (el5 ps k).2.2.1 = x2 at *
      generalize (el5 ps k).2.2.2.1 = x3 at *
      generalize (el5 ps k).2.2.2.2 = x4 at *
      have wS : IntKind.i64.wrap (s + x3) = s + x3 := by rw [IntKind.wrap_i64]; omega
      go_wp2
      go_roundw
      case rel => exact ⟨k + 1, s + x3, rfl, by go_num, by omega, unhide HA, hide (unhide NX).symm, HB⟩
      case measure => simp [intOf]; omega
    · obtain rfl : k = n := by omega
      have E := hide (show s = sumQ ps by rw [unhide HS, List.take_of_length_le (by omega)])
      clear h HS ts
      go_wp2
      go_ret
      exact ⟨by rw [← unhide E]; rfl, unhide HB⟩
end Go.Proofs.YtlbdfaahcmlddaaGreat.SSplit
