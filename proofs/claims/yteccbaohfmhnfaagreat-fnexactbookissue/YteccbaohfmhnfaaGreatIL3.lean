/- Texts of one proof, one behind the other: LotApp, SSplit, IPlace5, ICut, Cat5, SOpen, Wide, Concat5, Nil5, IOpen, Open0, IPl. -/
import Derived.Test.YteccbaohfmhnfaaGreatRows
import Derived.Test.YteccbaohfmhnfaaGreatIA1
import Derived.Test.YteccbaohfmhnfaaGreatIA2
import Derived.Maps.AppendAt
import Derived.Deep.LoopGhost
import Derived.BigRegion
import Derived.Deep.AppendLies
import Derived.Deep.RegionHeld3
import Derived.WalkKit
import Derived.ProofKit
import Derived.OpenShut
import Derived.Below
import Derived.Lib.AppendZerosOnto
import Derived.Lib.AppendZeros
import Derived.WalkSmall
import Derived.BigQuiet
set_option linter.unusedVariables false
set_option linter.unusedSimpArgs false
namespace Go.Proofs.YteccbaohfmhnfaaGreat.LotApp
open Go.ChangeShapes Go.WideShapes Go.ChangeAt Go.RowKit Tup5
theorem info2 : (Tryz.prog.info? 97).map (fun i => (i.zero, i.size, i.bytes)) = some (some (.agg #[.int .i64 0, .int .i64 0, .int .i64 0, .int .i64 0, .int .i64 0]), 5, 40) := by kernel_rfl
theorem wp_app (u : World) {ops : Array Oper} {rest : List Oper} {o : Oper} {a : Act} {Q : Exit → Act → World → Prop} (hgd : o.guard = none) (s x : Operand)
    (ho : o.op = .call { callee := .builtin .append, args := #[s, x], argTypes := #[33, 33] }) (base g n cap : Nat) (ps : List T5) (vb : Nat) (x0 x1 x2 x3 x4 : Int)
    (hs : a.eval s = .slice (some ⟨g, 0, none⟩) n cap) (hx : a.eval x = .slice (some ⟨vb, 0, none⟩) 1 1) (hown : Own5 97 u base g n cap ps) (hv : Holds5 u vb 0 (x0, x1, x2, x3, x4)) (hn : n ≤ 1048576) (hb : base ≤ u.heap.size)
    (h : ∀ g' c' w', Own5 97 w' base g' (n + 1) c' (ps ++ [(x0, x1, x2, x3, x4)]) → u.grownBy w' (some g) → (g' = g ∨ g' = u.heap.size) → wpList Tryz.prog ops Q rest (a.put o.dst (.slice (some ⟨g', 0, none⟩) (n + 1) c')) w') : wpList Tryz.prog ops Q (o :: rest) a u := by
  obtain ⟨i0, hi, hz0, hz1, hz2⟩ := info_parts info2
  have hat : At5 u vb [(x0, x1, x2, x3, x4)] := by
    intro i hi
    obtain rfl : i = 0 := by simpa using hi
    exact hv
  refine wpList_append_own_at u hgd s x 33 ho base 97 i0 (.agg #[.int .i64 0, .int .i64 0, .int .i64 0, .int .i64 0, .int .i64 0]) 5 40 Tryz.underlying33 hi hz0 hz1 hz2 rfl (by decide) _ n _ hs hown ⟨vb, 0, none⟩ 1 1 (flat5 [(x0, x1, x2, x3, x4)]) hx rfl hat.cells (fun u hu => flat5_one u _ hu) (by unfold maxLen; omega) (by omega) hb ?_
  intro v' w' own' gr' nil' loc'
  obtain ⟨g', c', rfl, o'⟩ := own5_of_row (n' := n + 1) (ps := ps ++ [(x0, x1, x2, x3, x4)]) own' rfl (by rw [flat5_append]) (by rw [nil']; simp)
  exact h g' c' w' o' gr' (by simpa [Value.ownBlock] using loc')
end Go.Proofs.YteccbaohfmhnfaaGreat.LotApp
namespace Go.Proofs.YteccbaohfmhnfaaGreat.SSplit
open Go.ChangeShapes Go.WideShapes Go.ChangeAt Go.RowKit Tup5 Lots Takes SOk5 Quieter
set_option maxRecDepth 100000 in
set_option maxHeartbeats 4000000 in
theorem sSplit (w : World) (g n cap : Nat) (ps : List T5) (a i : Int) (hl : ps.length = n) (h20 : n ≤ 100000) (hg : g < w.heap.size) (h : At5 w g ps) :
    Calls Tryz.prog 89 #[.slice (some ⟨g, 0, none⟩) n cap, .int .i64 a, .int .i64 i] w fun e w' => ∃ g1 c1 g2 c2, e = .returned (.tuple #[.slice (some ⟨g1, 0, none⟩) (ownL ps a i).length c1, .slice (some ⟨g2, 0, none⟩) (restL ps a i).length c2]) ∧ Own5 97 w' w.heap.size g1 (ownL ps a i).length c1 (ownL ps a i) ∧ Own5 97 w' w.heap.size g2 (restL ps a i).length c2 (restL ps a i) ∧ g1 ≠ g2 ∧ Below w.heap.size w w' := by
  have H := hide h
  clear h
  have O1 := hide ((lit50 97 w w.heap.size (Nat.le_refl _)).alloc (.cells #[] 97))
  have O2 := hide (lit50 97 (w.alloc (.cells #[] 97)) w.heap.size (by simp))
  have B0 := hide (show Below w.heap.size w ((w.alloc (.cells #[] 97)).alloc (.cells #[] 97)) from ((Below.refl _ _).alloc (Nat.le_refl _) _).alloc (by simp) _)
  simp only [World.size_alloc] at O2
  go_enter Tryz.func89, Tryz.ntmps89
  go_wp2
  generalize (w.alloc (.cells #[] 97)).alloc (.cells #[] 97) = w0 at *
  go_loopw [8, 9, 10] (fun l m j wr => ∃ (p q : List T5) (g1 c1 g2 c2 k : Nat), l = .slice (some ⟨g1, 0, none⟩) p.length c1 ∧ m = .slice (some ⟨g2, 0, none⟩) q.length c2 ∧ j = .int .i64 k ∧ k ≤ n ∧ p.length ≤ k ∧ q.length ≤ k ∧ g1 ≠ g2 ∧ Hid (p = ownL (ps.take k) a i) ∧ Hid (q = restL (ps.take k) a i) ∧ Hid (Own5 97 wr w.heap.size g1 p.length c1 p) ∧ Hid (Own5 97 wr w.heap.size g2 q.length c2 q) ∧ Hid (Below w.heap.size w wr)) (fun _ _ j _ => n - (intOf j).toNat)
  case atStart => exact ⟨[], [], w.heap.size, 0, w.heap.size + 1, 0, 0, rfl, rfl, rfl, by omega, by simp, by simp, by omega, hide rfl, hide rfl, O1, O2, B0⟩
  case round =>
    clear O1 O2 B0
    obtain ⟨p, q, g1, c1, g2, c2, k, rfl, rfl, rfl, hk, pl, ql, g12, HP, HQ, H1, H2, HB⟩ := hrel
    have bs := (unhide HB).size
    have gl1 := (unhide H1).lt.2
    have gl2 := (unhide H2).lt.2
    by_cases t : k < n
    · obtain ⟨e0, e1, e2, e3, e4⟩ := (unhide H).below (unhide HB) hg k (by omega)
      have NP := hide (own_next (ps := ps) (k := k) (by omega) a i)
      have NQ := hide (rest_next (ps := ps) (k := k) (by omega) a i)
      rw [← unhide HP] at NP
      rw [← unhide HQ] at NQ
      have EQ : el5 ps k = ((el5 ps k).1, (el5 ps k).2.1, (el5 ps k).2.2.1, (el5 ps k).2.2.2.1, (el5 ps k).2.2.2.2) := rfl
      rw [EQ] at NP NQ
      clear EQ HP HQ
      generalize (el5 ps k).1 = x0 at *
      generalize (el5 ps k).2.1 = x1 at *
      generalize (el5 ps k).2.2.1 = x2 at *
      generalize (el5 ps k).2.2.2.1 = x3 at *
      generalize (el5 ps k).2.2.2.2 = x4 at *
      have V5 := hide (show Holds5 (wr.alloc (.cells #[.int .i64 x0, .int .i64 x1, .int .i64 x2, .int .i64 x3, .int .i64 x4] 97)) wr.heap.size 0 (x0, x1, x2, x3, x4) from by unfold Holds5; simp)
      by_cases own : x0 = a ∧ x1 = i
      · have NP1 : Hid (ownL (ps.take (k + 1)) a i = p ++ [(x0, x1, x2, x3, x4)]) := hide (by rw [unhide NP, if_pos own])
        have NQ1 : Hid (restL (ps.take (k + 1)) a i = q) := hide (by rw [unhide NQ, if_pos own, List.append_nil])
        clear NP NQ
        obtain ⟨rfl, rfl⟩ := own
        go_wp2_with (first | (at_builtin; refine LotApp.wp_app _ rfl _ _ rfl w.heap.size g1 p.length c1 p wr.heap.size x0 x1 x2 x3 x4 rfl rfl ((unhide H1).alloc _) (unhide V5) (by omega) (by simp; omega) ?_) | go_in)
        intro g5 c5 w5 o5 gr5 loc5
        have O5 := hide o5
        have K5 := hide (((unhide H2).alloc (.cells #[.int .i64 x0, .int .i64 x1, .int .i64 x2, .int .i64 x3, .int .i64 x4] 97)).kept gr5 (by simp; omega))
        have B5 := hide (((unhide HB).alloc bs (.cells #[.int .i64 x0, .int .i64 x1, .int .i64 x2, .int .i64 x3, .int .i64 x4] 97)).grown gr5 (by simp; omega) (fun j hj => by cases hj; exact (unhide H1).lt.1))
        have g5B : g5 ≠ g2 := by
          try simp at loc5
          omega
        clear o5 gr5 loc5 V5
        go_wp2
        go_roundw
        case rel => exact ⟨p ++ [(x0, x1, x2, x3, x4)], q, g5, c5, g2, c2, k + 1, by rw [show (p ++ [(x0, x1, x2, x3, x4)]).length = p.length + 1 by simp], rfl, by go_num, by omega, by simp; omega, by omega, g5B, hide (unhide NP1).symm, hide (unhide NQ1).symm, hide (by rw [show (p ++ [(x0, x1, x2, x3, x4)]).length = p.length + 1 by simp]; exact unhide O5), K5, B5⟩
        case measure => simp [intOf]; omega
      · have NP1 : Hid (ownL (ps.take (k + 1)) a i = p) := hide (by rw [unhide NP, if_neg own, List.append_nil])
        have NQ1 : Hid (restL (ps.take (k + 1)) a i = q ++ [(x0, x1, x2, x3, x4)]) := hide (by rw [unhide NQ, if_neg own])
        clear NP NQ
        rcases (show x0 ≠ a ∨ (x0 = a ∧ x1 ≠ i) by omega) with o2 | ⟨rfl, o2⟩
        · have ob : (x0 == a) = false := by simpa using o2
          go_wp2_with (first | (at_builtin; refine LotApp.wp_app _ rfl _ _ rfl w.heap.size g2 q.length c2 q wr.heap.size x0 x1 x2 x3 x4 rfl rfl ((unhide H2).alloc _) (unhide V5) (by omega) (by simp; omega) ?_) | go_in)
          intro g5 c5 w5 o5 gr5 loc5
          have O5 := hide o5
          have K5 := hide (((unhide H1).alloc (.cells #[.int .i64 x0, .int .i64 x1, .int .i64 x2, .int .i64 x3, .int .i64 x4] 97)).kept gr5 (by simp; omega))
          have B5 := hide (((unhide HB).alloc bs (.cells #[.int .i64 x0, .int .i64 x1, .int .i64 x2, .int .i64 x3, .int .i64 x4] 97)).grown gr5 (by simp; omega) (fun j hj => by cases hj; exact (unhide H2).lt.1))
          have g5B : g5 ≠ g1 := by
            try simp at loc5
            omega
          clear o5 gr5 loc5 V5
          go_wp2
          go_roundw
          case rel => exact ⟨p, q ++ [(x0, x1, x2, x3, x4)], g1, c1, g5, c5, k + 1, rfl, by rw [show (q ++ [(x0, x1, x2, x3, x4)]).length = q.length + 1 by simp], by go_num, by omega, by omega, by simp; omega, fun e => g5B e.symm, hide (unhide NP1).symm, hide (unhide NQ1).symm, K5, hide (by rw [show (q ++ [(x0, x1, x2, x3, x4)]).length = q.length + 1 by simp]; exact unhide O5), B5⟩
          case measure => simp [intOf]; omega
        · have ob : (x1 == i) = false := by simpa using o2
          go_wp2_with (first | (at_builtin; refine LotApp.wp_app _ rfl _ _ rfl w.heap.size g2 q.length c2 q wr.heap.size x0 x1 x2 x3 x4 rfl rfl ((unhide H2).alloc _) (unhide V5) (by omega) (by simp; omega) ?_) | go_in)
          intro g5 c5 w5 o5 gr5 loc5
          have O5 := hide o5
          have K5 := hide (((unhide H1).alloc (.cells #[.int .i64 x0, .int .i64 x1, .int .i64 x2, .int .i64 x3, .int .i64 x4] 97)).kept gr5 (by simp; omega))
          have B5 := hide (((unhide HB).alloc bs (.cells #[.int .i64 x0, .int .i64 x1, .int .i64 x2, .int .i64 x3, .int .i64 x4] 97)).grown gr5 (by simp; omega) (fun j hj => by cases hj; exact (unhide H2).lt.1))
          have g5B : g5 ≠ g1 := by
            try simp at loc5
            omega
          clear o5 gr5 loc5 V5
          go_wp2
          go_roundw
          case rel => exact ⟨p, q ++ [(x0, x1, x2, x3, x4)], g1, c1, g5, c5, k + 1, rfl, by rw [show (q ++ [(x0, x1, x2, x3, x4)]).length = q.length + 1 by simp], by go_num, by omega, by omega, by simp; omega, fun e => g5B e.symm, hide (unhide NP1).symm, hide (unhide NQ1).symm, K5, hide (by rw [show (q ++ [(x0, x1, x2, x3, x4)]).length = q.length + 1 by simp]; exact unhide O5), B5⟩
          case measure => simp [intOf]; omega
    · obtain rfl : k = n := by omega
      have EP := hide (show p = ownL ps a i by rw [unhide HP, List.take_of_length_le (by omega)])
      have EQ := hide (show q = restL ps a i by rw [unhide HQ, List.take_of_length_le (by omega)])
      clear HP HQ
      go_wp2
      go_ret2
      rw [← unhide EP, ← unhide EQ]
      exact ⟨g1, c1, g2, c2, rfl, unhide H1, unhide H2, g12, unhide HB⟩
theorem take_sum {ps : List T5} (h : ∀ p ∈ ps, Pos p) (k : Nat) : 0 ≤ sumQ (ps.take k) ∧ sumQ (ps.take k) ≤ sumQ ps ∧ 0 ≤ sumC (ps.take k) ∧ sumC (ps.take k) ≤ sumC ps := by
  have e : ps = ps.take k ++ ps.drop k := (List.take_append_drop k ps).symm
  have p1 := sum_pos (ps.take k) (fun p hp => h p (List.mem_of_mem_take hp))
  have p2 := sum_pos (ps.drop k) (fun p hp => h p (List.mem_of_mem_drop hp))
  have e1 := sumQ_append (ps.take k) (ps.drop k)
  have e2 := sumC_append (ps.take k) (ps.drop k)
  rw [← e] at e1 e2
  omega
set_option maxRecDepth 100000 in
theorem sQty (w : World) (g n cap : Nat) (ps : List T5) (hl : ps.length = n) (h20 : n ≤ 1048576) (h : At5 w g ps) (hp : ∀ p ∈ ps, Pos p) (hs : sumQ ps ≤ 1000000000000000) :
    Calls Tryz.prog 90 #[.slice (some ⟨g, 0, none⟩) n cap] w fun e w' => e = .returned (.int .i64 (sumQ ps)) ∧ Below w.heap.size w w' := by
  have HP := hide hp
  clear hp
  go_enter Tryz.func90, Tryz.ntmps90
  go_wp2
  go_loopw [3, 4] (fun q j wr => ∃ (k : Nat) (s : Int), q = .int .i64 s ∧ j = .int .i64 k ∧ k ≤ n ∧ At5 wr g ps ∧ Hid (s = sumQ (ps.take k)) ∧ Hid (Below w.heap.size w wr)) (fun _ j _ => n - (intOf j).toNat)
  case atStart => exact ⟨0, 0, rfl, rfl, by omega, h, hide rfl, hide (Below.refl _ _)⟩
  case round =>
    clear h
    obtain ⟨k, s, rfl, rfl, hk, h, HS, HB⟩ := hrel
    have ts := take_sum (unhide HP) k
    have s0 : 0 ≤ s := by rw [unhide HS]; omega
    by_cases t : k < n
    · obtain ⟨e0, e1, e2, e3, e4⟩ := h k (by omega)
      have ts1 := take_sum (unhide HP) (k + 1)
      have NX := hide (sumQ_next (ps := ps) (k := k) (by omega))
      rw [← unhide HS] at NX
      have xp := (unhide HP) _ (getD_mem (ps := ps) (i := k) (by omega))
      unfold Pos at xp
      have b1 : s + (el5 ps k).2.2.2.1 ≤ 1000000000000000 := by rw [← unhide NX]; omega
      have HA := hide h
      clear h HS ts ts1
      obtain ⟨⟨x31, x32⟩, x41, x42⟩ := xp
      generalize (el5 ps k).1 = x0 at *
      generalize (el5 ps k).2.1 = x1 at *
      generalize (el5 ps k).2.2.1 = x2 at *
      generalize (el5 ps k).2.2.2.1 = x3 at *
      generalize (el5 ps k).2.2.2.2 = x4 at *
      have wS : IntKind.i64.wrap (s + x3) = s + x3 := by rw [IntKind.wrap_i64]; omega
      go_wp2
      go_roundw
      case rel => exact ⟨k + 1, s + x3, rfl, by go_num, by omega, unhide HA, hide (unhide NX).symm, HB⟩
      case measure => simp [intOf]; omega
    · obtain rfl : k = n := by omega
      have E := hide (show s = sumQ ps by rw [unhide HS, List.take_of_length_le (by omega)])
      clear h HS ts
      go_wp2
      go_ret
      exact ⟨by rw [← unhide E]; rfl, unhide HB⟩
set_option maxRecDepth 100000 in
set_option maxHeartbeats 4000000 in
theorem sMerge (w : World) (ga na ca gb nb cb : Nat) (ps qs : List T5) (hl1 : ps.length = na) (hl2 : qs.length = nb) (h1 : na ≤ 100000) (h2 : nb ≤ 100000) (hga : ga < w.heap.size) (hgb : gb < w.heap.size) (ha : At5 w ga ps) (hb : At5 w gb qs) :
    Calls Tryz.prog 97 #[.slice (some ⟨ga, 0, none⟩) na ca, .slice (some ⟨gb, 0, none⟩) nb cb] w fun e w' => ∃ g' c', e = .returned (.slice (some ⟨g', 0, none⟩) (na + nb) c') ∧ Own5 97 w' w.heap.size g' (na + nb) c' (mergeL (na + nb) ps qs) ∧ Below w.heap.size w w' := by
  have HA := hide ha
  have HBB := hide hb
  clear ha hb
  have O1 := hide (lit50 97 w w.heap.size (Nat.le_refl _))
  have B0 := hide (show Below w.heap.size w (w.alloc (.cells #[] 97)) from (Below.refl _ _).alloc (Nat.le_refl _) _)
  go_enter Tryz.func97, Tryz.ntmps97
  obtain ⟨R, hR⟩ : ∃ R, R = mergeL (na + nb) ps qs := ⟨_, rfl⟩
  have HR := hide hR
  have RL : R.length = na + nb := by rw [hR, merge_len _ _ _ (by omega), hl1, hl2]
  clear hR
  go_wp2
  generalize w.alloc (.cells #[] 97) = w0 at *
  go_loopw [5, 6, 7] (fun l j m wr => ∃ (out : List T5) (gO c i k : Nat), l = .slice (some ⟨gO, 0, none⟩) out.length c ∧ j = .int .i64 i ∧ m = .int .i64 k ∧ i ≤ na ∧ k ≤ nb ∧ Hid (out.length = i + k) ∧ Hid (Own5 97 wr w.heap.size gO out.length c out) ∧ Hid (out ++ mergeL (na + nb - (i + k)) (ps.drop i) (qs.drop k) = R) ∧ Hid (Below w.heap.size w wr)) (fun _ j m _ => na + nb - ((intOf j).toNat + (intOf m).toNat))
  case atStart => exact ⟨[], w.heap.size, 0, 0, 0, rfl, rfl, rfl, by omega, by omega, hide rfl, O1, hide (by rw [unhide HR]; rfl), B0⟩
  case round =>
    clear O1 B0
    obtain ⟨out, gO, c, i, k, rfl, rfl, rfl, hi, hk, OL, HO, HE, HB⟩ := hrel
    have ob : out.length ≤ 200000 := by have := unhide OL; omega
    have gl := (unhide HO).lt.2
    have bs := (unhide HB).size
    have gna : ga < wr.heap.size := by omega
    have gnb : gb < wr.heap.size := by omega
    rcases (show (i < na ∧ k < nb) ∨ (i < na ∧ k = nb) ∨ (i = na ∧ k < nb) ∨ (i = na ∧ k = nb) by omega) with ⟨ti, tk⟩ | ⟨ti, rfl⟩ | ⟨rfl, tk⟩ | ⟨rfl, rfl⟩
    · obtain ⟨f0, f1, f2, f3, f4⟩ := (unhide HA).below (unhide HB) hga i (by omega)
      obtain ⟨d0, d1, d2, d3, d4⟩ := (unhide HBB).below (unhide HB) hgb k (by omega)
      have DX := hide (drop_next (ps := ps) (k := i) (by omega))
      have DY := hide (drop_next (ps := qs) (k := k) (by omega))
      rw [drop_next (ps := ps) (k := i) (by omega), drop_next (ps := qs) (k := k) (by omega), show na + nb - (i + k) = (na + nb - (i + k + 1)) + 1 by omega] at HE
      have kz : ((k : Int) == (nb : Int)) = false := by rw [beq_eq_false_iff_ne]; omega
      have ki : (i : Int) < (na : Int) := by omega
      have kk : (k : Int) < (nb : Int) := by omega
      have kn : ¬ ((k : Int) = (nb : Int)) := by omega
      rw [show el5 ps i = ((el5 ps i).1, (el5 ps i).2.1, (el5 ps i).2.2.1, (el5 ps i).2.2.2.1, (el5 ps i).2.2.2.2) from rfl] at HE DX
      generalize (el5 ps i).1 = x0 at *
      generalize (el5 ps i).2.1 = x1 at *
      generalize (el5 ps i).2.2.1 = x2 at *
      generalize (el5 ps i).2.2.2.1 = x3 at *
      generalize (el5 ps i).2.2.2.2 = x4 at *
      rw [show el5 qs k = ((el5 qs k).1, (el5 qs k).2.1, (el5 qs k).2.2.1, (el5 qs k).2.2.2.1, (el5 qs k).2.2.2.2) from rfl] at HE DY
      generalize (el5 qs k).1 = y0 at *
      generalize (el5 qs k).2.1 = y1 at *
      generalize (el5 qs k).2.2.1 = y2 at *
      generalize (el5 qs k).2.2.2.1 = y3 at *
      generalize (el5 qs k).2.2.2.2 = y4 at *
      obtain ⟨b2, B2⟩ := says_of (Bef (x0, x1, x2, x3, x4) (y0, y1, y2, y3, y4))
      go_wp2_with fail
      have Cx0 : ∀ n : Near wr, n.u.cell? ⟨ga, i * 5, none⟩ = some (.int .i64 x0) := fun n => (n.b.cell (p := ⟨ga, i * 5, none⟩) gna).trans f0
      have Cx1 : ∀ n : Near wr, n.u.cell? ⟨ga, i * 5 + 1, none⟩ = some (.int .i64 x1) := fun n => (n.b.cell (p := ⟨ga, i * 5 + 1, none⟩) gna).trans f1
      have Cx2 : ∀ n : Near wr, n.u.cell? ⟨ga, i * 5 + 2, none⟩ = some (.int .i64 x2) := fun n => (n.b.cell (p := ⟨ga, i * 5 + 2, none⟩) gna).trans f2
      have Cx3 : ∀ n : Near wr, n.u.cell? ⟨ga, i * 5 + 3, none⟩ = some (.int .i64 x3) := fun n => (n.b.cell (p := ⟨ga, i * 5 + 3, none⟩) gna).trans f3
      have Cx4 : ∀ n : Near wr, n.u.cell? ⟨ga, i * 5 + 4, none⟩ = some (.int .i64 x4) := fun n => (n.b.cell (p := ⟨ga, i * 5 + 4, none⟩) gna).trans f4
      have Cy0 : ∀ n : Near wr, n.u.cell? ⟨gb, k * 5, none⟩ = some (.int .i64 y0) := fun n => (n.b.cell (p := ⟨gb, k * 5, none⟩) gnb).trans d0
      have Cy1 : ∀ n : Near wr, n.u.cell? ⟨gb, k * 5 + 1, none⟩ = some (.int .i64 y1) := fun n => (n.b.cell (p := ⟨gb, k * 5 + 1, none⟩) gnb).trans d1
      have Cy2 : ∀ n : Near wr, n.u.cell? ⟨gb, k * 5 + 2, none⟩ = some (.int .i64 y2) := fun n => (n.b.cell (p := ⟨gb, k * 5 + 2, none⟩) gnb).trans d2
      have Cy3 : ∀ n : Near wr, n.u.cell? ⟨gb, k * 5 + 3, none⟩ = some (.int .i64 y3) := fun n => (n.b.cell (p := ⟨gb, k * 5 + 3, none⟩) gnb).trans d3
      have Cy4 : ∀ n : Near wr, n.u.cell? ⟨gb, k * 5 + 4, none⟩ = some (.int .i64 y4) := fun n => (n.b.cell (p := ⟨gb, k * 5 + 4, none⟩) gnb).trans d4
      have near := near_is wr
      cases b2
      · have HE := hide (show out ++ ((y0, y1, y2, y3, y4) :: mergeL (na + nb - (i + k + 1)) ((x0, x1, x2, x3, x4) :: ps.drop (i + 1)) (qs.drop (k + 1))) = R from by rw [← unhide HE, merge_no B2.no])
        refine quiet_near (by kernel_rfl) (by kernel_rfl) ?_
        repeat (go_big_quiet_step (first
          | (go_at_call 87
             rename_i nn
             refine (sBef x0 x1 x2 x3 x4 y0 y1 y2 y3 y4 false nn.u B2).mono ?_
             rintro e u6 ⟨rfl, b6⟩
             exact ⟨rfl, ⟨u6, next nn.b b6⟩, rfl⟩)))
        refine wpQuiet_nil ?_
        rintro u ⟨⟨_, b9⟩, rfl⟩
        have HO := hide ((unhide HO).below b9 gl)
        have HB := hide (next (unhide HB) b9)
        have z0 : u.cell? ⟨gb, k * 5, none⟩ = some (.int .i64 y0) := (b9.cell (p := ⟨gb, k * 5, none⟩) gnb).trans d0
        have z1 : u.cell? ⟨gb, k * 5 + 1, none⟩ = some (.int .i64 y1) := (b9.cell (p := ⟨gb, k * 5 + 1, none⟩) gnb).trans d1
        have z2 : u.cell? ⟨gb, k * 5 + 2, none⟩ = some (.int .i64 y2) := (b9.cell (p := ⟨gb, k * 5 + 2, none⟩) gnb).trans d2
        have z3 : u.cell? ⟨gb, k * 5 + 3, none⟩ = some (.int .i64 y3) := (b9.cell (p := ⟨gb, k * 5 + 3, none⟩) gnb).trans d3
        have z4 : u.cell? ⟨gb, k * 5 + 4, none⟩ = some (.int .i64 y4) := (b9.cell (p := ⟨gb, k * 5 + 4, none⟩) gnb).trans d4
        clear b9 near Cx0 Cy0 f0 d0 Cx1 Cy1 f1 d1 Cx2 Cy2 f2 d2 Cx3 Cy3 f3 d3 Cx4 Cy4 f4 d4
        have bs := (unhide HB).size
        have V5 := hide (show Holds5 (u.alloc (.cells #[.int .i64 y0, .int .i64 y1, .int .i64 y2, .int .i64 y3, .int .i64 y4] 97)) u.heap.size 0 (y0, y1, y2, y3, y4) from by unfold Holds5; simp)
        go_wp2_with (first | (at_builtin; refine LotApp.wp_app _ rfl _ _ rfl w.heap.size gO out.length c out u.heap.size y0 y1 y2 y3 y4 rfl rfl ((unhide HO).alloc _) (unhide V5) (by omega) (by simp; omega) ?_) | go_in)
        intro g5 c5 w5 o5 gr5 loc5
        have O5 := hide o5
        have B5 := hide (((unhide HB).alloc bs (.cells #[.int .i64 y0, .int .i64 y1, .int .i64 y2, .int .i64 y3, .int .i64 y4] 97)).grown gr5 (by simp; omega) (fun j hj => by cases hj; exact (unhide HO).lt.1))
        have E5 := hide (show (out ++ [(y0, y1, y2, y3, y4)]) ++ mergeL (na + nb - (i + k + 1)) ((x0, x1, x2, x3, x4) :: ps.drop (i + 1)) (qs.drop (k + 1)) = R from by rw [List.append_assoc]; exact unhide HE)
        clear o5 gr5 loc5 V5 HE
        go_wp2
        go_roundw
        case rel => exact ⟨out ++ [(y0, y1, y2, y3, y4)], g5, c5, i, k + 1, by rw [show (out ++ [(y0, y1, y2, y3, y4)]).length = out.length + 1 by simp], by go_num, by go_num, by omega, by omega, hide (by have := unhide OL; simp; omega), hide (by rw [show (out ++ [(y0, y1, y2, y3, y4)]).length = out.length + 1 by simp]; exact unhide O5), hide (by rw [show i + (k + 1) = i + k + 1 by omega, unhide DX]; exact unhide E5), B5⟩
        case measure => simp [intOf]; omega
      · have HE := hide (show out ++ ((x0, x1, x2, x3, x4) :: mergeL (na + nb - (i + k + 1)) (ps.drop (i + 1)) ((y0, y1, y2, y3, y4) :: qs.drop (k + 1))) = R from by rw [← unhide HE, merge_yes B2.yes])
        refine quiet_near (by kernel_rfl) (by kernel_rfl) ?_
        repeat (go_big_quiet_step (first
          | (go_at_call 87
             rename_i nn
             refine (sBef x0 x1 x2 x3 x4 y0 y1 y2 y3 y4 true nn.u B2).mono ?_
             rintro e u6 ⟨rfl, b6⟩
             exact ⟨rfl, ⟨u6, next nn.b b6⟩, rfl⟩)))
        refine wpQuiet_nil ?_
        rintro u ⟨⟨_, b9⟩, rfl⟩
        have HO := hide ((unhide HO).below b9 gl)
        have HB := hide (next (unhide HB) b9)
        have z0 : u.cell? ⟨ga, i * 5, none⟩ = some (.int .i64 x0) := (b9.cell (p := ⟨ga, i * 5, none⟩) gna).trans f0
        have z1 : u.cell? ⟨ga, i * 5 + 1, none⟩ = some (.int .i64 x1) := (b9.cell (p := ⟨ga, i * 5 + 1, none⟩) gna).trans f1
        have z2 : u.cell? ⟨ga, i * 5 + 2, none⟩ = some (.int .i64 x2) := (b9.cell (p := ⟨ga, i * 5 + 2, none⟩) gna).trans f2
        have z3 : u.cell? ⟨ga, i * 5 + 3, none⟩ = some (.int .i64 x3) := (b9.cell (p := ⟨ga, i * 5 + 3, none⟩) gna).trans f3
        have z4 : u.cell? ⟨ga, i * 5 + 4, none⟩ = some (.int .i64 x4) := (b9.cell (p := ⟨ga, i * 5 + 4, none⟩) gna).trans f4
        clear b9 near Cx0 Cy0 f0 d0 Cx1 Cy1 f1 d1 Cx2 Cy2 f2 d2 Cx3 Cy3 f3 d3 Cx4 Cy4 f4 d4
        have bs := (unhide HB).size
        have V5 := hide (show Holds5 (u.alloc (.cells #[.int .i64 x0, .int .i64 x1, .int .i64 x2, .int .i64 x3, .int .i64 x4] 97)) u.heap.size 0 (x0, x1, x2, x3, x4) from by unfold Holds5; simp)
        go_wp2_with (first | (at_builtin; refine LotApp.wp_app _ rfl _ _ rfl w.heap.size gO out.length c out u.heap.size x0 x1 x2 x3 x4 rfl rfl ((unhide HO).alloc _) (unhide V5) (by omega) (by simp; omega) ?_) | go_in)
        intro g5 c5 w5 o5 gr5 loc5
        have O5 := hide o5
        have B5 := hide (((unhide HB).alloc bs (.cells #[.int .i64 x0, .int .i64 x1, .int .i64 x2, .int .i64 x3, .int .i64 x4] 97)).grown gr5 (by simp; omega) (fun j hj => by cases hj; exact (unhide HO).lt.1))
        have E5 := hide (show (out ++ [(x0, x1, x2, x3, x4)]) ++ mergeL (na + nb - (i + k + 1)) (ps.drop (i + 1)) ((y0, y1, y2, y3, y4) :: qs.drop (k + 1)) = R from by rw [List.append_assoc]; exact unhide HE)
        clear o5 gr5 loc5 V5 HE
        go_wp2
        go_roundw
        case rel => exact ⟨out ++ [(x0, x1, x2, x3, x4)], g5, c5, i + 1, k, by rw [show (out ++ [(x0, x1, x2, x3, x4)]).length = out.length + 1 by simp], by go_num, by go_num, by omega, by omega, hide (by have := unhide OL; simp; omega), hide (by rw [show (out ++ [(x0, x1, x2, x3, x4)]).length = out.length + 1 by simp]; exact unhide O5), hide (by rw [show i + 1 + k = i + k + 1 by omega, unhide DY]; exact unhide E5), B5⟩
        case measure => simp [intOf]; omega
    · obtain ⟨f0, f1, f2, f3, f4⟩ := (unhide HA).below (unhide HB) hga i (by omega)
      have HE := hide (show out ++ (el5 ps i :: mergeL (na + k - (i + 1 + k)) (ps.drop (i + 1)) (qs.drop k)) = R from by
        rw [← unhide HE]
        rw [List.drop_of_length_le (l := qs) (by omega), merge_left _ _ (by simp; omega), merge_left _ _ (by simp; omega), ← drop_next (by omega)])
      rw [show el5 ps i = ((el5 ps i).1, (el5 ps i).2.1, (el5 ps i).2.2.1, (el5 ps i).2.2.2.1, (el5 ps i).2.2.2.2) from rfl] at HE
      generalize (el5 ps i).1 = x0 at *
      generalize (el5 ps i).2.1 = x1 at *
      generalize (el5 ps i).2.2.1 = x2 at *
      generalize (el5 ps i).2.2.2.1 = x3 at *
      generalize (el5 ps i).2.2.2.2 = x4 at *
      have ki : (i : Int) < (na : Int) := by omega
      go_wp2_with fail
      go_quiet (fail)
      have HO := hide (show Own5 97 (wr.drewN nq) w.heap.size gO out.length c out from unhide HO)
      have HB := hide (below_drewN (unhide HB) nq)
      have f0 : (wr.drewN nq).cell? ⟨ga, i * 5, none⟩ = some (.int .i64 x0) := f0
      have f1 : (wr.drewN nq).cell? ⟨ga, i * 5 + 1, none⟩ = some (.int .i64 x1) := f1
      have f2 : (wr.drewN nq).cell? ⟨ga, i * 5 + 2, none⟩ = some (.int .i64 x2) := f2
      have f3 : (wr.drewN nq).cell? ⟨ga, i * 5 + 3, none⟩ = some (.int .i64 x3) := f3
      have f4 : (wr.drewN nq).cell? ⟨ga, i * 5 + 4, none⟩ = some (.int .i64 x4) := f4
      clear gl bs gna gnb
      generalize wr.drewN nq = u at *
      have gl := (unhide HO).lt.2
      have bs := (unhide HB).size
      have V5 := hide (show Holds5 (u.alloc (.cells #[.int .i64 x0, .int .i64 x1, .int .i64 x2, .int .i64 x3, .int .i64 x4] 97)) u.heap.size 0 (x0, x1, x2, x3, x4) from by unfold Holds5; simp)
      go_wp2_with (first | (at_builtin; refine LotApp.wp_app _ rfl _ _ rfl w.heap.size gO out.length c out u.heap.size x0 x1 x2 x3 x4 rfl rfl ((unhide HO).alloc _) (unhide V5) (by omega) (by simp; omega) ?_) | go_in)
      intro g5 c5 w5 o5 gr5 loc5
      have O5 := hide o5
      have B5 := hide (((unhide HB).alloc bs (.cells #[.int .i64 x0, .int .i64 x1, .int .i64 x2, .int .i64 x3, .int .i64 x4] 97)).grown gr5 (by simp; omega) (fun j hj => by cases hj; exact (unhide HO).lt.1))
      have E5 := hide (show (out ++ [(x0, x1, x2, x3, x4)]) ++ mergeL (na + k - (i + 1 + k)) (ps.drop (i + 1)) (qs.drop k) = R from by rw [List.append_assoc]; exact unhide HE)
      clear o5 gr5 loc5 V5 HE
      go_wp2
      go_roundw
      case rel => exact ⟨out ++ [(x0, x1, x2, x3, x4)], g5, c5, i + 1, k, by rw [show (out ++ [(x0, x1, x2, x3, x4)]).length = out.length + 1 by simp], by go_num, by go_num, by omega, by omega, hide (by have := unhide OL; simp; omega), hide (by rw [show (out ++ [(x0, x1, x2, x3, x4)]).length = out.length + 1 by simp]; exact unhide O5), E5, B5⟩
      case measure => simp [intOf]; omega
    · obtain ⟨f0, f1, f2, f3, f4⟩ := (unhide HBB).below (unhide HB) hgb k (by omega)
      have HE := hide (show out ++ (el5 qs k :: mergeL (i + nb - (i + (k + 1))) (ps.drop i) (qs.drop (k + 1))) = R from by
        rw [← unhide HE]
        rw [List.drop_of_length_le (l := ps) (by omega), merge_right _ _ (by simp; omega), merge_right _ _ (by simp; omega), ← drop_next (by omega)])
      rw [show el5 qs k = ((el5 qs k).1, (el5 qs k).2.1, (el5 qs k).2.2.1, (el5 qs k).2.2.2.1, (el5 qs k).2.2.2.2) from rfl] at HE
      generalize (el5 qs k).1 = y0 at *
      generalize (el5 qs k).2.1 = y1 at *
      generalize (el5 qs k).2.2.1 = y2 at *
      generalize (el5 qs k).2.2.2.1 = y3 at *
      generalize (el5 qs k).2.2.2.2 = y4 at *
      have kz : ((k : Int) == (nb : Int)) = false := by rw [beq_eq_false_iff_ne]; omega
      have kk : (k : Int) < (nb : Int) := by omega
      have kn : ¬ ((k : Int) = (nb : Int)) := by omega
      go_wp2_with fail
      go_quiet (fail)
      have HO := hide (show Own5 97 (wr.drewN nq) w.heap.size gO out.length c out from unhide HO)
      have HB := hide (below_drewN (unhide HB) nq)
      have f0 : (wr.drewN nq).cell? ⟨gb, k * 5, none⟩ = some (.int .i64 y0) := f0
      have f1 : (wr.drewN nq).cell? ⟨gb, k * 5 + 1, none⟩ = some (.int .i64 y1) := f1
      have f2 : (wr.drewN nq).cell? ⟨gb, k * 5 + 2, none⟩ = some (.int .i64 y2) := f2
      have f3 : (wr.drewN nq).cell? ⟨gb, k * 5 + 3, none⟩ = some (.int .i64 y3) := f3
      have f4 : (wr.drewN nq).cell? ⟨gb, k * 5 + 4, none⟩ = some (.int .i64 y4) := f4
      clear gl bs gna gnb
      generalize wr.drewN nq = u at *
      have gl := (unhide HO).lt.2
      have bs := (unhide HB).size
      have V5 := hide (show Holds5 (u.alloc (.cells #[.int .i64 y0, .int .i64 y1, .int .i64 y2, .int .i64 y3, .int .i64 y4] 97)) u.heap.size 0 (y0, y1, y2, y3, y4) from by unfold Holds5; simp)
      go_wp2_with (first | (at_builtin; refine LotApp.wp_app _ rfl _ _ rfl w.heap.size gO out.length c out u.heap.size y0 y1 y2 y3 y4 rfl rfl ((unhide HO).alloc _) (unhide V5) (by omega) (by simp; omega) ?_) | go_in)
      intro g5 c5 w5 o5 gr5 loc5
      have O5 := hide o5
      have B5 := hide (((unhide HB).alloc bs (.cells #[.int .i64 y0, .int .i64 y1, .int .i64 y2, .int .i64 y3, .int .i64 y4] 97)).grown gr5 (by simp; omega) (fun j hj => by cases hj; exact (unhide HO).lt.1))
      have E5 := hide (show (out ++ [(y0, y1, y2, y3, y4)]) ++ mergeL (i + nb - (i + (k + 1))) (ps.drop i) (qs.drop (k + 1)) = R from by rw [List.append_assoc]; exact unhide HE)
      clear o5 gr5 loc5 V5 HE
      go_wp2
      go_roundw
      case rel => exact ⟨out ++ [(y0, y1, y2, y3, y4)], g5, c5, i, k + 1, by rw [show (out ++ [(y0, y1, y2, y3, y4)]).length = out.length + 1 by simp], by go_num, by go_num, by omega, by omega, hide (by have := unhide OL; simp; omega), hide (by rw [show (out ++ [(y0, y1, y2, y3, y4)]).length = out.length + 1 by simp]; exact unhide O5), E5, B5⟩
      case measure => simp [intOf]; omega
    · have E := hide (show out = R from by
        have := unhide HE
        rw [show i + k - (i + k) = 0 by omega] at this
        simpa [mergeL] using this)
      clear HE
      go_wp2
      go_ret
      rw [← unhide HR, ← unhide E, ← unhide OL]
      exact ⟨gO, c, rfl, unhide HO, unhide HB⟩
end Go.Proofs.YteccbaohfmhnfaaGreat.SSplit
namespace Go.Proofs.YteccbaohfmhnfaaGreat.IPlace5
open Go.ChangeShapes Go.WideShapes Go.ChangeAt Go.RowKit Tup5 Lots Takes CmpL IOk5 Quieter
/-- Ascending. -/
def Asc (ps : List T5) : Prop := ∀ j i, i < j → j < ps.length → Bef (el5 ps i) (el5 ps j)
theorem asc_right {ps : List T5} (h : Right ps) : Asc ps := asc_of (m := ps.length) (Nat.le_refl _) h.2.1
set_option maxRecDepth 100000 in
set_option maxHeartbeats 2000000 in
theorem iSearchL (w : World) (g n cap : Nat) (ps : List T5) (y0 y1 y2 y3 y4 : Int) (hl : ps.length = n) (h20 : n ≤ 1048576) (hg : g < w.heap.size) (h : At5 w g ps) (asc : Hid (Asc ps)) :
    Calls Tryz.prog 129 #[.slice (some ⟨g, 0, none⟩) n cap, .agg #[.int .i64 y0, .int .i64 y1, .int .i64 y2, .int .i64 y3, .int .i64 y4], .func (.func 130) #[] #[]] w fun e w' => ∃ c f, IsPl ps (y0, y1, y2, y3, y4) c ∧ e = .returned (.tuple #[.int .i64 (c : Nat), .bool f]) ∧ Below w.heap.size w w' := by
  have B0 := hide (show Below w.heap.size w (w.alloc (.cells #[.int .i64 y0, .int .i64 y1, .int .i64 y2, .int .i64 y3, .int .i64 y4] 97)) from (Below.refl _ _).alloc (Nat.le_refl _) _)
  have A0 := hide (h.below (unhide B0) hg)
  have T0 := hide (show (w.alloc (.cells #[.int .i64 y0, .int .i64 y1, .int .i64 y2, .int .i64 y3, .int .i64 y4] 97)).cell? ⟨w.heap.size, 0, none⟩ = some (.int .i64 y0) ∧ (w.alloc (.cells #[.int .i64 y0, .int .i64 y1, .int .i64 y2, .int .i64 y3, .int .i64 y4] 97)).cell? ⟨w.heap.size, 1, none⟩ = some (.int .i64 y1) ∧ (w.alloc (.cells #[.int .i64 y0, .int .i64 y1, .int .i64 y2, .int .i64 y3, .int .i64 y4] 97)).cell? ⟨w.heap.size, 2, none⟩ = some (.int .i64 y2) ∧ (w.alloc (.cells #[.int .i64 y0, .int .i64 y1, .int .i64 y2, .int .i64 y3, .int .i64 y4] 97)).cell? ⟨w.heap.size, 3, none⟩ = some (.int .i64 y3) ∧ (w.alloc (.cells #[.int .i64 y0, .int .i64 y1, .int .i64 y2, .int .i64 y3, .int .i64 y4] 97)).cell? ⟨w.heap.size, 4, none⟩ = some (.int .i64 y4) from by simp)
  have hs : w.heap.size < (w.alloc (.cells #[.int .i64 y0, .int .i64 y1, .int .i64 y2, .int .i64 y3, .int .i64 y4] 97)).heap.size := by simp
  have hg0 : g < (w.alloc (.cells #[.int .i64 y0, .int .i64 y1, .int .i64 y2, .int .i64 y3, .int .i64 y4] 97)).heap.size := by simp; omega
  clear h
  go_enter Tryz.func129, Tryz.ntmps129
  go_wp2
  generalize w.alloc (.cells #[.int .i64 y0, .int .i64 y1, .int .i64 y2, .int .i64 y3, .int .i64 y4] 97) = u at *
  go_loopw [9, 10] (fun p q wr => ∃ (lo hi : Nat), lo ≤ hi ∧ hi ≤ n ∧ p = .int .i64 lo ∧ q = .int .i64 hi ∧ Below u.heap.size u wr ∧ Hid ((∀ t, t < lo → Bef (el5 ps t) (y0, y1, y2, y3, y4)) ∧ ∀ t, hi ≤ t → t < n → ¬ Bef (el5 ps t) (y0, y1, y2, y3, y4))) (fun p q _ => (intOf q).toNat - (intOf p).toNat)
  case atStart => exact ⟨0, n, by omega, by omega, rfl, rfl, Below.refl _ _, hide ⟨fun t ht => by omega, fun t h1 h2 => by omega⟩⟩
  case round =>
    obtain ⟨lo, hi, hlh, hin, rfl, rfl, hb, HI⟩ := hrel
    have sz := hb.size
    have h := (unhide A0).below hb hg0
    obtain ⟨t0, t1, t2, t3, t4⟩ : wr.cell? ⟨w.heap.size, 0, none⟩ = some (.int .i64 y0) ∧ wr.cell? ⟨w.heap.size, 1, none⟩ = some (.int .i64 y1) ∧ wr.cell? ⟨w.heap.size, 2, none⟩ = some (.int .i64 y2) ∧ wr.cell? ⟨w.heap.size, 3, none⟩ = some (.int .i64 y3) ∧ wr.cell? ⟨w.heap.size, 4, none⟩ = some (.int .i64 y4) := by
      have := unhide T0
      refine ⟨(hb.cell (p := ⟨w.heap.size, 0, none⟩) hs).trans this.1, (hb.cell (p := ⟨w.heap.size, 1, none⟩) hs).trans this.2.1, (hb.cell (p := ⟨w.heap.size, 2, none⟩) hs).trans this.2.2.1, (hb.cell (p := ⟨w.heap.size, 3, none⟩) hs).trans this.2.2.2.1, (hb.cell (p := ⟨w.heap.size, 4, none⟩) hs).trans this.2.2.2.2⟩
    have gw : g < wr.heap.size := by omega
    have ws : w.heap.size < wr.heap.size := by omega
    by_cases t : lo < hi
    · obtain ⟨m, hm⟩ : ∃ m, m = (lo + hi) / 2 := ⟨_, rfl⟩
      obtain ⟨e0, e1, e2, e3, e4⟩ := h m (by omega)
      have HB := hide hb
      clear h hb
      have LOW := hide (show Bef (el5 ps m) (y0, y1, y2, y3, y4) → ∀ t, t < m + 1 → Bef (el5 ps t) (y0, y1, y2, y3, y4) from fun hx t ht => by
        by_cases e : t = m
        · subst e; exact hx
        · exact bef_trans ((unhide asc) m t (by omega) (by omega)) hx)
      have HIGH := hide (show ¬ Bef (el5 ps m) (y0, y1, y2, y3, y4) → ∀ t, m ≤ t → t < n → ¬ Bef (el5 ps t) (y0, y1, y2, y3, y4) from fun hx t h1 h2 k => by
        by_cases e : t = m
        · subst e; exact hx k
        · exact hx (bef_trans ((unhide asc) t m (by omega) (by omega)) k))
      rw [show el5 ps m = ((el5 ps m).1, (el5 ps m).2.1, (el5 ps m).2.2.1, (el5 ps m).2.2.2.1, (el5 ps m).2.2.2.2) from rfl] at LOW HIGH
      generalize (el5 ps m).1 = x0 at *
      generalize (el5 ps m).2.1 = x1 at *
      generalize (el5 ps m).2.2.1 = x2 at *
      generalize (el5 ps m).2.2.2.1 = x3 at *
      generalize (el5 ps m).2.2.2.2 = x4 at *
      have hm' : (((lo : Int) + (hi : Int)) / 2) = ((m : Nat) : Int) := by omega
      have M1 : lo ≤ m := by omega
      have M2 : m < hi := by omega
      have HM := hide hm
      clear hm
      have C0 : ∀ n : Near wr, n.u.cell? ⟨g, m * 5, none⟩ = some (.int .i64 x0) := fun n => (n.b.cell (p := ⟨g, m * 5, none⟩) gw).trans e0
      have C1 : ∀ n : Near wr, n.u.cell? ⟨g, m * 5 + 1, none⟩ = some (.int .i64 x1) := fun n => (n.b.cell (p := ⟨g, m * 5 + 1, none⟩) gw).trans e1
      have C2 : ∀ n : Near wr, n.u.cell? ⟨g, m * 5 + 2, none⟩ = some (.int .i64 x2) := fun n => (n.b.cell (p := ⟨g, m * 5 + 2, none⟩) gw).trans e2
      have C3 : ∀ n : Near wr, n.u.cell? ⟨g, m * 5 + 3, none⟩ = some (.int .i64 x3) := fun n => (n.b.cell (p := ⟨g, m * 5 + 3, none⟩) gw).trans e3
      have C4 : ∀ n : Near wr, n.u.cell? ⟨g, m * 5 + 4, none⟩ = some (.int .i64 x4) := fun n => (n.b.cell (p := ⟨g, m * 5 + 4, none⟩) gw).trans e4
      have D0 : ∀ n : Near wr, n.u.cell? ⟨w.heap.size, 0, none⟩ = some (.int .i64 y0) := fun n => (n.b.cell (p := ⟨w.heap.size, 0, none⟩) ws).trans t0
      have D1 : ∀ n : Near wr, n.u.cell? ⟨w.heap.size, 1, none⟩ = some (.int .i64 y1) := fun n => (n.b.cell (p := ⟨w.heap.size, 1, none⟩) ws).trans t1
      have D2 : ∀ n : Near wr, n.u.cell? ⟨w.heap.size, 2, none⟩ = some (.int .i64 y2) := fun n => (n.b.cell (p := ⟨w.heap.size, 2, none⟩) ws).trans t2
      have D3 : ∀ n : Near wr, n.u.cell? ⟨w.heap.size, 3, none⟩ = some (.int .i64 y3) := fun n => (n.b.cell (p := ⟨w.heap.size, 3, none⟩) ws).trans t3
      have D4 : ∀ n : Near wr, n.u.cell? ⟨w.heap.size, 4, none⟩ = some (.int .i64 y4) := fun n => (n.b.cell (p := ⟨w.heap.size, 4, none⟩) ws).trans t4
      have near := near_is wr
      have CL := hide (show cmpL (x0, x1, x2, x3, x4) (y0, y1, y2, y3, y4) < 0 ↔ Bef (x0, x1, x2, x3, x4) (y0, y1, y2, y3, y4) from cmpL_lt (x0, x1, x2, x3, x4) (y0, y1, y2, y3, y4))
      obtain ⟨r, hr⟩ : ∃ r, Hid (cmpL (x0, x1, x2, x3, x4) (y0, y1, y2, y3, y4) = r) := ⟨_, rfl⟩
      go_wp2_with fail
      refine quiet_near (by kernel_rfl) (by kernel_rfl) ?_
      repeat (go_big_quiet_step (first
        | (rename_i nn
           refine (compareLot x0 x1 x2 x3 x4 y0 y1 y2 y3 y4 nn.u).mono ?_
           rintro e u6 ⟨rfl, b6⟩
           exact ⟨rfl, ⟨u6, next nn.b b6⟩, rfl⟩)))
      refine wpQuiet_nil ?_
      rintro u9 ⟨⟨_, b1⟩, rfl⟩
      rw [unhide hr] at CL ⊢
      have BB := hide (next (unhide HB) b1)
      by_cases lt : r < 0
      · have L := hide ((unhide LOW) ((unhide CL).1 lt))
        clear b1 LOW HIGH CL HB C0 C1 C2 C3 C4 D0 D1 D2 D3 D4 near
        go_wp2
        go_roundw
        case rel => exact ⟨m + 1, hi, by omega, hin, by go_num, rfl, unhide BB, hide ⟨unhide L, (unhide HI).2⟩⟩
        case measure => simp [intOf]; omega
      · have L := hide ((unhide HIGH) (fun k => lt ((unhide CL).2 k)))
        clear b1 LOW HIGH CL HB C0 C1 C2 C3 C4 D0 D1 D2 D3 D4 near
        go_wp2
        go_roundw
        case rel => exact ⟨lo, m, by omega, by omega, rfl, by go_num, unhide BB, hide ⟨(unhide HI).1, unhide L⟩⟩
        case measure => simp [intOf]; omega
    · obtain rfl : lo = hi := by omega
      have PL := hide (show IsPl ps (y0, y1, y2, y3, y4) lo from ⟨by omega, (unhide HI).1, fun t h1 h2 => (unhide HI).2 t h1 (by omega)⟩)
      have HB := hide (next (unhide B0) hb)
      by_cases lt : lo < n
      · obtain ⟨e0, e1, e2, e3, e4⟩ := h lo (by omega)
        clear h HI
        generalize (el5 ps lo).1 = x0 at *
        generalize (el5 ps lo).2.1 = x1 at *
        generalize (el5 ps lo).2.2.1 = x2 at *
        generalize (el5 ps lo).2.2.2.1 = x3 at *
        generalize (el5 ps lo).2.2.2.2 = x4 at *
        have C0 : ∀ n : Near wr, n.u.cell? ⟨g, lo * 5, none⟩ = some (.int .i64 x0) := fun n => (n.b.cell (p := ⟨g, lo * 5, none⟩) gw).trans e0
        have C1 : ∀ n : Near wr, n.u.cell? ⟨g, lo * 5 + 1, none⟩ = some (.int .i64 x1) := fun n => (n.b.cell (p := ⟨g, lo * 5 + 1, none⟩) gw).trans e1
        have C2 : ∀ n : Near wr, n.u.cell? ⟨g, lo * 5 + 2, none⟩ = some (.int .i64 x2) := fun n => (n.b.cell (p := ⟨g, lo * 5 + 2, none⟩) gw).trans e2
        have C3 : ∀ n : Near wr, n.u.cell? ⟨g, lo * 5 + 3, none⟩ = some (.int .i64 x3) := fun n => (n.b.cell (p := ⟨g, lo * 5 + 3, none⟩) gw).trans e3
        have C4 : ∀ n : Near wr, n.u.cell? ⟨g, lo * 5 + 4, none⟩ = some (.int .i64 x4) := fun n => (n.b.cell (p := ⟨g, lo * 5 + 4, none⟩) gw).trans e4
        have D0 : ∀ n : Near wr, n.u.cell? ⟨w.heap.size, 0, none⟩ = some (.int .i64 y0) := fun n => (n.b.cell (p := ⟨w.heap.size, 0, none⟩) ws).trans t0
        have D1 : ∀ n : Near wr, n.u.cell? ⟨w.heap.size, 1, none⟩ = some (.int .i64 y1) := fun n => (n.b.cell (p := ⟨w.heap.size, 1, none⟩) ws).trans t1
        have D2 : ∀ n : Near wr, n.u.cell? ⟨w.heap.size, 2, none⟩ = some (.int .i64 y2) := fun n => (n.b.cell (p := ⟨w.heap.size, 2, none⟩) ws).trans t2
        have D3 : ∀ n : Near wr, n.u.cell? ⟨w.heap.size, 3, none⟩ = some (.int .i64 y3) := fun n => (n.b.cell (p := ⟨w.heap.size, 3, none⟩) ws).trans t3
        have D4 : ∀ n : Near wr, n.u.cell? ⟨w.heap.size, 4, none⟩ = some (.int .i64 y4) := fun n => (n.b.cell (p := ⟨w.heap.size, 4, none⟩) ws).trans t4
        have near := near_is wr
        go_wp2_with fail
        refine quiet_near (by kernel_rfl) (by kernel_rfl) ?_
        repeat (go_big_quiet_step (first
          | (rename_i nn
             refine (compareLot x0 x1 x2 x3 x4 y0 y1 y2 y3 y4 nn.u).mono ?_
             rintro e u6 ⟨rfl, b6⟩
             exact ⟨rfl, ⟨u6, next nn.b b6⟩, rfl⟩)))
        refine wpQuiet_nil ?_
        rintro u9 ⟨⟨_, b1⟩, rfl⟩
        have BB := hide ((unhide HB).trans (b1.mono (Nat.le_trans (unhide B0).size sz)))
        clear b1 HB C0 C1 C2 C3 C4 D0 D1 D2 D3 D4 near
        go_wp2
        go_ret2
        exact ⟨lo, _, unhide PL, rfl, unhide BB⟩
      · clear h HI hb
        go_wp2_with fail
        go_quiet (fail)
        have HB := hide (below_drewN (unhide HB) nq)
        go_wp2
        go_ret2
        exact ⟨lo, _, unhide PL, rfl, unhide HB⟩
end Go.Proofs.YteccbaohfmhnfaaGreat.IPlace5
namespace Go.Proofs.YteccbaohfmhnfaaGreat.ICut
open Go.ChangeShapes Go.WideShapes Go.ChangeAt Go.RowKit Tup5 Lots Takes CmpL IOk5 Quieter IPlace5
/-- A list that begins at cell o of block g. -/
def AtO (w : World) (g o : Nat) (ps : List T5) : Prop := ∀ i, i < ps.length → Holds5 w g (o + i * 5) (el5 ps i)
theorem AtO.below {w w' : World} {g o B : Nat} {ps : List T5} (h : AtO w g o ps) (k : Below B w w') (hg : g < B) : AtO w' g o ps := fun i hi => (h i hi).below k hg
theorem at_o {w : World} {g : Nat} {ps : List T5} (h : At5 w g ps) : AtO w g 0 ps := fun i hi => by rw [Nat.zero_add]; exact h i hi
theorem o_take {w : World} {g : Nat} {ps : List T5} (h : At5 w g ps) (f : Nat) : AtO w g 0 (ps.take f) := fun i hi => by
  have hi : i < f ∧ i < ps.length := by simp at hi; omega
  have e : el5 (ps.take f) i = el5 ps i := by simp [el5, List.getD, hi.1, hi.2]
  rw [e, Nat.zero_add]
  exact h i hi.2
theorem o_drop {w : World} {g : Nat} {ps : List T5} (h : At5 w g ps) (u : Nat) : AtO w g (u * 5) (ps.drop u) := fun i hi => by
  have hi : u + i < ps.length := by simp at hi; omega
  have e : el5 (ps.drop u) i = el5 ps (u + i) := by simp [el5, List.getD]
  rw [e, show u * 5 + i * 5 = (u + i) * 5 by omega]
  exact h (u + i) hi
theorem o_nil {w : World} {g o : Nat} {ps : List T5} (h : ps.length = 0) : AtO w g o ps := fun i hi => by omega
end Go.Proofs.YteccbaohfmhnfaaGreat.ICut
namespace Go.Proofs.YteccbaohfmhnfaaGreat.Cat5
open Go.ChangeShapes Go.WideShapes Go.ChangeAt Go.RowKit Tup5 Lots Takes ICut
open LotApp (info2)
theorem AtO.cells {w : World} {g o : Nat} {ps : List T5} (h : AtO w g o ps) : ∀ (j : Nat) (u : Value), (flat5 ps)[j]? = some u → w.cell? ((⟨g, o, none⟩ : Addr).add j) = some u := by
  intro j u hj
  have hl : j < ps.length * 5 := by
    have := (List.getElem?_eq_some_iff.1 hj).1
    rw [flat5_len] at this
    exact this
  rw [Addr.add_lit]
  obtain ⟨c0, c1, c2, c3, c4⟩ := h (j / 5) (by omega)
  obtain ⟨f0, f1, f2, f3, f4⟩ := flat5_get ps (j / 5) (by omega)
  rcases (show j % 5 = 0 ∨ j % 5 = 1 ∨ j % 5 = 2 ∨ j % 5 = 3 ∨ j % 5 = 4 by omega) with e | e | e | e | e
  · rw [show o + j / 5 * 5 = o + j by omega] at c0
    rw [show j / 5 * 5 = j by omega] at f0
    rw [c0, ← hj, f0]
  · rw [show o + j / 5 * 5 + 1 = o + j by omega] at c1
    rw [show j / 5 * 5 + 1 = j by omega] at f1
    rw [c1, ← hj, f1]
  · rw [show o + j / 5 * 5 + 2 = o + j by omega] at c2
    rw [show j / 5 * 5 + 2 = j by omega] at f2
    rw [c2, ← hj, f2]
  · rw [show o + j / 5 * 5 + 3 = o + j by omega] at c3
    rw [show j / 5 * 5 + 3 = j by omega] at f3
    rw [c3, ← hj, f3]
  · rw [show o + j / 5 * 5 + 4 = o + j by omega] at c4
    rw [show j / 5 * 5 + 4 = j by omega] at f4
    rw [c4, ← hj, f4]
/-- A whole list appended to another one. -/
theorem wp_cat (u : World) {ops : Array Oper} {rest : List Oper} {o : Oper} {a : Act} {Q : Exit → Act → World → Prop} (hgd : o.guard = none) (s x : Operand)
    (ho : o.op = .call { callee := .builtin .append, args := #[s, x], argTypes := #[33, 33] }) (base g n cap m : Nat) (ps qs : List T5) (vb off c : Nat)
    (hs : a.eval s = .slice (some ⟨g, 0, none⟩) n cap) (hx : a.eval x = .slice (some ⟨vb, off, none⟩) m c) (hown : Own5 97 u base g n cap ps) (hl : qs.length = m) (hv : AtO u vb off qs) (hn : n + m ≤ 1048576) (hb : base ≤ u.heap.size)
    (h : ∀ g' c' w', Own5 97 w' base g' (n + m) c' (ps ++ qs) → u.grownBy w' (some g) → (g' = g ∨ g' = u.heap.size) → wpList Tryz.prog ops Q rest (a.put o.dst (.slice (some ⟨g', 0, none⟩) (n + m) c')) w') : wpList Tryz.prog ops Q (o :: rest) a u := by
  obtain ⟨i0, hi, hz0, hz1, hz2⟩ := info_parts info2
  refine wpList_append_own_at u hgd s x 33 ho base 97 i0 (.agg #[.int .i64 0, .int .i64 0, .int .i64 0, .int .i64 0, .int .i64 0]) 5 40 Tryz.underlying33 hi hz0 hz1 hz2 rfl (by decide) _ n _ hs hown ⟨vb, off, none⟩ m c (flat5 qs) hx (by rw [flat5_len, hl]) (AtO.cells hv) (fun u hu => flat5_one u _ hu) (by unfold maxLen; omega) (by omega) hb ?_
  intro v' w' own' gr' nil' loc'
  obtain ⟨g', c', rfl, o'⟩ := own5_of_row (n' := n + m) (ps := ps ++ qs) own' rfl (by rw [flat5_append]) (by rw [nil']; simp)
  exact h g' c' w' o' gr' (by simpa [Value.ownBlock] using loc')
/-- A copy of a list. -/
theorem wp_copyO (u : World) {ops : Array Oper} {rest : List Oper} {o : Oper} {a : Act} {Q : Exit → Act → World → Prop} (hgd : o.guard = none) (s x : Operand)
    (ho : o.op = .call { callee := .builtin .append, args := #[s, x], argTypes := #[33, 33] }) (base g cap m : Nat) (qs : List T5) (vb off c : Nat)
    (hs : a.eval s = .slice (some ⟨g, 0, none⟩) 0 cap) (hx : a.eval x = .slice (some ⟨vb, off, none⟩) m c) (hown : Own5 97 u base g 0 cap []) (hl : qs.length = m) (hv : AtO u vb off qs) (hn : m ≤ 1048576) (hb : base ≤ u.heap.size)
    (h : ∀ g' c' w', Own5 97 w' base g' m c' qs → u.grownBy w' (some g) → (g' = g ∨ g' = u.heap.size) → wpList Tryz.prog ops Q rest (a.put o.dst (.slice (some ⟨g', 0, none⟩) m c')) w') : wpList Tryz.prog ops Q (o :: rest) a u := by
  refine wp_cat u hgd s x ho base g 0 cap m [] qs vb off c hs hx hown hl hv (by omega) hb ?_
  intro g' c' w' o' gr' loc'
  rw [Nat.zero_add] at o' ⊢
  exact h g' c' w' o' gr' loc'
end Go.Proofs.YteccbaohfmhnfaaGreat.Cat5
namespace Go.Proofs.YteccbaohfmhnfaaGreat.SOpen
open Go.ChangeShapes Go.WideShapes Go.ChangeAt Go.RowKit Tup5 Lots Takes SOk5 SSplit Quieter ICut Cat5
open CmpL (at0)
/-- What LotOpen answers: the list, and the code. -/
def openA (ps R : List T5) (ok okl okn : Bool) : List T5 := if ok = true ∧ okl = true then (if okn = true then R else ps) else []
def openC (ok okl okn : Bool) : Int := if ok = true ∧ okl = true then (if okn = true then 0 else 3) else 1
theorem open_bad (ps R : List T5) {ok okl : Bool} (okn : Bool) (h : ok = false ∨ okl = false) : openA ps R ok okl okn = [] ∧ openC ok okl okn = 1 := by
  unfold openA openC
  have n : ¬ (ok = true ∧ okl = true) := by rcases h with h | h <;> simp [h]
  rw [if_neg n, if_neg n]
  exact ⟨rfl, rfl⟩
set_option maxRecDepth 100000 in
set_option maxHeartbeats 2000000 in
theorem sOpen (w : World) (g n cap : Nat) (ps R : List T5) (x0 x1 x2 x3 x4 : Int) (ok okl okn : Bool) (hR : Hid (R = mergeL (n + 1) ps [(x0, x1, x2, x3, x4)])) (hl : ps.length = n) (h20 : n ≤ 1048576) (hg : g < w.heap.size) (h : At5 w g ps) (hok : Says ok (Right ps)) (hkl : Says okl (One (x0, x1, x2, x3, x4))) (hkn : Says okn (Right R)) :
    Calls Tryz.prog 60 #[.slice (some ⟨g, 0, none⟩) n cap, .agg #[.int .i64 x0, .int .i64 x1, .int .i64 x2, .int .i64 x3, .int .i64 x4]] w fun e w' => ∃ g' c', e = .returned (.tuple #[.slice (some ⟨g', 0, none⟩) (openA ps R ok okl okn).length c', .int .i64 (openC ok okl okn)]) ∧ Own5 97 w' w.heap.size g' (openA ps R ok okl okn).length c' (openA ps R ok okl okn) ∧ Below w.heap.size w w' := by
  have RL : R.length = n + 1 := by rw [unhide hR, merge_len _ _ _ (by simp; omega), hl]; rfl
  have B0 := hide (show Below w.heap.size w (w.alloc (.cells #[.int .i64 x0, .int .i64 x1, .int .i64 x2, .int .i64 x3, .int .i64 x4] 97)) from (Below.refl _ _).alloc (Nat.le_refl _) _)
  have A0 := hide (h.below (unhide B0) hg)
  have X0 := hide (show Holds5 (w.alloc (.cells #[.int .i64 x0, .int .i64 x1, .int .i64 x2, .int .i64 x3, .int .i64 x4] 97)) w.heap.size 0 (x0, x1, x2, x3, x4) from by unfold Holds5; simp)
  have hs : w.heap.size < (w.alloc (.cells #[.int .i64 x0, .int .i64 x1, .int .i64 x2, .int .i64 x3, .int .i64 x4] 97)).heap.size := by simp
  have hg0 : g < (w.alloc (.cells #[.int .i64 x0, .int .i64 x1, .int .i64 x2, .int .i64 x3, .int .i64 x4] 97)).heap.size := by simp; omega
  clear h
  go_enter Tryz.func60, Tryz.ntmps60
  go_wp2_with fail
  generalize w.alloc (.cells #[.int .i64 x0, .int .i64 x1, .int .i64 x2, .int .i64 x3, .int .i64 x4] 97) = u at *
  refine (sOk u g n cap ps ok hl h20 hg0 (unhide A0) hok).mono ?_
  rintro e w1 ⟨rfl, b1⟩
  have B1 := hide ((unhide B0).trans (b1.mono (unhide B0).size))
  have A1 := hide ((unhide A0).below b1 hg0)
  have X1 := hide ((unhide X0).below b1 hs)
  have hs1 := Nat.lt_of_lt_of_le hs b1.size
  have hg1 := Nat.lt_of_lt_of_le hg0 b1.size
  clear b1 B0 A0 X0 hs hg0
  cases ok
  · have EE := open_bad ps R (ok := false) (okl := okl) okn (.inl rfl)
    have O1 := hide (lit50 97 w1 w.heap.size (unhide B1).size)
    have B2 := hide ((unhide B1).alloc (unhide B1).size (.cells #[] 97))
    go_wp2
    go_ret2
    rw [EE.1, EE.2]
    exact ⟨w1.heap.size, 0, rfl, unhide O1, unhide B2⟩
  obtain ⟨c0, c1, c2, c3, c4⟩ := at0 (unhide X1)
  go_wp2_with fail
  refine (sRight x0 x1 x2 x3 x4 okl _ hkl).mono ?_
  rintro e w2 ⟨rfl, b2⟩
  have B2 := hide ((unhide B1).trans (b2.mono (unhide B1).size))
  have A2 := hide ((unhide A1).below b2 hg1)
  have X2 := hide ((unhide X1).below b2 hs1)
  have hs2 := Nat.lt_of_lt_of_le hs1 b2.size
  have hg2 := Nat.lt_of_lt_of_le hg1 b2.size
  clear b2 B1 A1 X1 hs1 hg1 c0 c1 c2 c3 c4
  cases okl
  · have EE := open_bad ps R (ok := true) (okl := false) okn (.inr rfl)
    have O1 := hide (lit50 97 w2 w.heap.size (unhide B2).size)
    have B3 := hide ((unhide B2).alloc (unhide B2).size (.cells #[] 97))
    go_wp2
    go_ret2
    rw [EE.1, EE.2]
    exact ⟨w2.heap.size, 0, rfl, unhide O1, unhide B3⟩
  have n120 := hok.yes.1
  obtain ⟨c0, c1, c2, c3, c4⟩ := at0 (unhide X2)
  have V3 := hide (lit51 97 w2 w2.heap.size x0 x1 x2 x3 x4 (Nat.le_refl _))
  have A3 := hide ((unhide A2).below ((Below.refl w2.heap.size w2).alloc (Nat.le_refl _) (.cells #[.int .i64 x0, .int .i64 x1, .int .i64 x2, .int .i64 x3, .int .i64 x4] 97)) hg2)
  have B3 := hide ((unhide B2).alloc (unhide B2).size (.cells #[.int .i64 x0, .int .i64 x1, .int .i64 x2, .int .i64 x3, .int .i64 x4] 97))
  have hg3 : g < (w2.alloc (.cells #[.int .i64 x0, .int .i64 x1, .int .i64 x2, .int .i64 x3, .int .i64 x4] 97)).heap.size := by simp; omega
  clear B2 X2
  go_wp2_with fail
  generalize w2.alloc (.cells #[.int .i64 x0, .int .i64 x1, .int .i64 x2, .int .i64 x3, .int .i64 x4] 97) = u3 at *
  obtain ⟨vb, VB⟩ : ∃ vb, Hid (vb = w2.heap.size) := ⟨_, rfl⟩
  rw [← unhide VB] at V3 ⊢
  refine (sMerge u3 g n cap vb 1 1 ps [(x0, x1, x2, x3, x4)] hl rfl (by omega) (by omega) hg3 (unhide V3).lt.2 (unhide A3) (unhide V3).at).mono ?_
  rw [← unhide hR]
  rintro e w4 ⟨g4, c4', rfl, o4, b4⟩
  have O4 := hide (o4.rebase (base' := w.heap.size) (Nat.le_trans (unhide B3).size o4.lt.1))
  have B4 := hide ((unhide B3).trans (b4.mono (unhide B3).size))
  have A4 := hide ((unhide A3).below b4 hg3)
  have hg4 := Nat.lt_of_lt_of_le hg3 b4.size
  clear o4 b4 V3 A3 B3 hg3
  go_wp2_with fail
  refine (sOk w4 g4 (n + 1) c4' R okn RL (by omega) (unhide O4).lt.2 (unhide O4).at hkn).mono ?_
  rintro e w5 ⟨rfl, b5⟩
  have O5 := hide ((unhide O4).below b5 (unhide O4).lt.2)
  have B5 := hide ((unhide B4).trans (b5.mono (unhide B4).size))
  have A5 := hide ((unhide A4).below b5 hg4)
  have hg5 := Nat.lt_of_lt_of_le hg4 b5.size
  clear b5 O4 B4 A4 hg4
  cases okn
  · have EA : openA ps R true true false = ps := by simp [openA]
    have EC : openC true true false = 3 := by simp [openC]
    have L1 := hide (lit50 97 w5 w.heap.size (unhide B5).size)
    have B6 := hide ((unhide B5).alloc (unhide B5).size (.cells #[] 97))
    have A6 := hide ((unhide A5).below ((Below.refl w5.heap.size w5).alloc (Nat.le_refl _) (.cells #[] 97)) hg5)
    have bs := (unhide B6).size
    go_wp2_with (first | (at_builtin; refine wp_copyO _ rfl _ _ rfl w.heap.size w5.heap.size 0 n ps g 0 cap rfl rfl (unhide L1) hl (at_o (unhide A6)) (by omega) bs ?_) | go_in)
    intro g7 c7 w7 o7 gr7 loc7
    have O7 := hide o7
    have B7 := hide ((unhide B6).grown gr7 bs (fun j hj => by cases hj; exact (unhide L1).lt.1))
    clear o7 gr7 loc7
    go_wp2
    go_ret2
    rw [EA, EC, hl]
    exact ⟨g7, c7, rfl, unhide O7, unhide B7⟩
  · have EA : openA ps R true true true = R := by simp [openA]
    have EC : openC true true true = 0 := by simp [openC]
    go_wp2
    go_ret2
    rw [EA, EC, RL]
    exact ⟨g4, c4', rfl, unhide O5, unhide B5⟩
end Go.Proofs.YteccbaohfmhnfaaGreat.SOpen
namespace Go.Proofs.YteccbaohfmhnfaaGreat.Wide
open Go.ChangeShapes Go.WideShapes Go.ChangeAt Go.RowKit
/-- The world has at most new blocks, and the tape is the one that it was. -/
def Gr (w w' : World) : Prop := Grown w w' ∧ w'.tape = w.tape
theorem Gr.refl (w : World) : Gr w w := ⟨Grown.refl w, rfl⟩
theorem Gr.drew {a w : World} (h : Gr a w) : Gr a w.drew := ⟨Grown.drew h.1, h.2⟩
theorem Gr.alloc {a w : World} (h : Gr a w) (c : Array Value) (t : TypeId) : Gr a (w.alloc (.cells c t)) := ⟨Grown.alloc h.1 c t, h.2⟩
theorem Gr.trans {a b c : World} (h : Gr a b) (k : Gr b c) : Gr a c := by
  obtain ⟨⟨h1, h2, h3⟩, h4⟩ := h
  obtain ⟨⟨k1, k2, k3⟩, k4⟩ := k
  exact ⟨⟨World.keptBut_trans h1 k1, fun x => (k2 x).trans (h2 x), Nat.le_trans h3 k3⟩, k4.trans h4⟩
/-- No block that was there has turned. -/
theorem Gr.below {w w' : World} (h : Gr w w') : Below w.heap.size w w' := by
  obtain ⟨⟨⟨h1, h2, h3⟩, h4, h5⟩, h6⟩ := h
  refine ⟨h1, h6, h2, h5, fun k hk => ?_⟩
  have m := h3 k hk
  revert m
  generalize w.heap[k]? = x
  generalize w'.heap[k]? = y
  intro m
  split at m
  · obtain ⟨rfl, rfl, hs, hj⟩ := m
    exact congrArg (fun z => some (Obj.cells z _ _)) (Array.ext_getElem? (fun j => hj j (by simp)))
  · rcases m with m | ⟨rfl, rfl⟩
    · exact m.elim
    · rfl
  · exact m
end Go.Proofs.YteccbaohfmhnfaaGreat.Wide
namespace Go.Proofs.YteccbaohfmhnfaaGreat.Concat5
open Go.ChangeShapes Go.WideShapes Go.ChangeAt Go.RowKit Tup5 Lots Takes ICut Cat5
open LotApp (info2)
/-- A list of the call's own, or nothing at all. -/
def OwnV (e : TypeId) (w : World) (base : Nat) (v : Value) (ps : List T5) : Prop := w.ownsRow base e 5 v ps.length (flat5 ps)
theorem OwnV.cases {e : TypeId} {w : World} {base : Nat} {v : Value} {ps : List T5} (h : OwnV e w base v ps) : (v = .slice none 0 0 ∧ ps = []) ∨ ∃ g c, v = .slice (some ⟨g, 0, none⟩) ps.length c ∧ Own5 e w base g ps.length c ps := by
  rcases h.2 with ⟨h1, h2⟩ | ⟨g, c, cur, h1, h2⟩
  · exact .inl ⟨h1, List.eq_nil_of_length_eq_zero h2⟩
  · refine .inr ⟨g, c, h1, ?_⟩
    have h' : w.ownsRow base e 5 v ps.length (flat5 ps) := h
    rw [h1] at h'
    exact h'
theorem OwnV.of {e : TypeId} {w : World} {base g n c : Nat} {ps : List T5} (h : Own5 e w base g n c ps) : OwnV e w base (.slice (some ⟨g, 0, none⟩) n c) ps := by
  unfold OwnV
  rw [h.len]
  exact h
theorem OwnV.nil (e : TypeId) (w : World) (base : Nat) : OwnV e w base (.slice none 0 0) [] := ⟨rfl, .inl ⟨rfl, rfl⟩⟩
theorem OwnV.lt {e : TypeId} {w : World} {base : Nat} {v : Value} {ps : List T5} (h : OwnV e w base v ps) : ∀ g, v.ownBlock = some g → base ≤ g ∧ g < w.heap.size := fun g hg => World.ownsRow.lt h g hg
theorem OwnV.below {e : TypeId} {w w' : World} {base B : Nat} {v : Value} {ps : List T5} (h : OwnV e w base v ps) (k : Below B w w') (hB : ∀ g, v.ownBlock = some g → g < B) : OwnV e w' base v ps := by
  rcases h.cases with ⟨rfl, rfl⟩ | ⟨g, c, rfl, o⟩
  · exact OwnV.nil _ _ _
  · exact OwnV.of (o.below k (hB g rfl))
theorem OwnV.kept {e : TypeId} {w w' : World} {base : Nat} {row : Option Nat} {v : Value} {ps : List T5} (h : OwnV e w base v ps) (k : w.grownBy w' row) (hne : ∀ g, v.ownBlock = some g → row ≠ some g) : OwnV e w' base v ps := by
  rcases h.cases with ⟨rfl, rfl⟩ | ⟨g, c, rfl, o⟩
  · exact OwnV.nil _ _ _
  · exact OwnV.of (o.kept k (fun e => hne g rfl e.symm))
theorem OwnV.rebase {e : TypeId} {w : World} {base base' : Nat} {v : Value} {ps : List T5} (h : OwnV e w base v ps) (hb : base' ≤ base) : OwnV e w base' v ps := by
  rcases h.cases with ⟨rfl, rfl⟩ | ⟨g, c, rfl, o⟩
  · exact OwnV.nil _ _ _
  · exact OwnV.of (o.rebase (Nat.le_trans hb o.lt.1))
/-- A list appended to another one, which may be nothing. -/
theorem wp_catV (u : World) {ops : Array Oper} {rest : List Oper} {o : Oper} {a : Act} {Q : Exit → Act → World → Prop} (hgd : o.guard = none) (s x : Operand)
    (ho : o.op = .call { callee := .builtin .append, args := #[s, x], argTypes := #[33, 33] }) (base m : Nat) (v : Value) (ps qs : List T5) (vb off c : Nat)
    (hs : a.eval s = v) (hx : a.eval x = .slice (some ⟨vb, off, none⟩) m c) (hown : OwnV 97 u base v ps) (hl : qs.length = m) (hv : AtO u vb off qs) (hn : ps.length + m ≤ 1048576) (hb : base ≤ u.heap.size)
    (h : ∀ v' w', OwnV 97 w' base v' (ps ++ qs) → u.grownBy w' v.ownBlock → (v'.ownBlock = v.ownBlock ∨ v'.ownBlock = some u.heap.size) → wpList Tryz.prog ops Q rest (a.put o.dst v') w') : wpList Tryz.prog ops Q (o :: rest) a u := by
  obtain ⟨i0, hi, hz0, hz1, hz2⟩ := info_parts info2
  refine wpList_append_own_at u hgd s x 33 ho base 97 i0 (.agg #[.int .i64 0, .int .i64 0, .int .i64 0, .int .i64 0, .int .i64 0]) 5 40 Tryz.underlying33 hi hz0 hz1 hz2 rfl (by decide) v ps.length _ hs hown ⟨vb, off, none⟩ m c (flat5 qs) hx (by rw [flat5_len, hl]) (AtO.cells hv) (fun u hu => flat5_one u _ hu) (by unfold maxLen; omega) (by omega) hb ?_
  intro v' w' own' gr' nil' loc'
  refine h v' w' ?_ gr' loc'
  unfold OwnV
  rw [flat5_append, List.length_append, hl]
  exact own'
set_option maxRecDepth 100000 in
theorem grow_none (w : World) : Calls Tryz.prog 150 #[.slice none 0 0, .int .i64 0] w fun e w' => e = .returned (.slice none 0 0) ∧ Below w.heap.size w w' := by
  go_enter Tryz.func150, Tryz.ntmps150
  go_wp2
  go_ret
  exact ⟨rfl, Below.refl _ _⟩
set_option maxRecDepth 100000 in
theorem grow_some (w : World) (k : Nat) (h0 : 0 < k) (h20 : k ≤ 1048576) : Calls Tryz.prog 150 #[.slice none 0 0, .int .i64 k] w fun e w' => ∃ v, e = .returned v ∧ OwnV 97 w' w.heap.size v [] ∧ Below w.heap.size w w' := by
  obtain ⟨i0, hi, hz0, hz1, hz2⟩ := info_parts info2
  have kp : (0 : Int) < (k : Int) := by omega
  have hold : (Builtin.firstCells i0.size 0 (.slice none 0 0)).run Tryz.prog w.drew = .ok ([] : List Value).toArray w.drew := run_firstCells_none _ _ _ _ _
  obtain ⟨G, hG⟩ : ∃ G, G = grownCap w k 0 97 := ⟨_, rfl⟩
  have hG1 : k ≤ G := by rw [hG]; exact grownCap_ge w _ _ _
  have hG2 : G ≤ maxLen := by rw [hG]; exact grownCap_le_maxLen w _ _ _ (by unfold maxLen; omega)
  obtain ⟨ROW, hROW⟩ : ∃ ROW : Array Value, ROW = ([] : List Value).toArray ++ Builtin.zeroCells (Value.agg #[.int .i64 0, .int .i64 0, .int .i64 0, .int .i64 0, .int .i64 0]).cells k ++ Builtin.zeroCells (Value.agg #[.int .i64 0, .int .i64 0, .int .i64 0, .int .i64 0, .int .i64 0]).cells (G - k) := ⟨_, rfl⟩
  have hrz : ∀ ty, (Builtin.append_ #[33, 3] ty #[.slice none 0 0, .int .i64 (k : Int)]).run Tryz.prog w = .ok (.slice (some ⟨w.heap.size, 0, none⟩) k G) (w.drew.alloc (.cells ROW 97)) := fun ty => by
    have h := Lib.run_append_grow_zeros w 33 3 ty 97 i0 _ .i64 .i64 Tryz.underlying33 Tryz.underlying3 hi hz0 none 0 0 [] hold k h0 (by rw [hz1]; decide) (by omega) (by omega) (by rw [hz2]; omega) (by rw [hz2]; exact growslice_fits (by omega) (by omega))
    rw [Nat.zero_add, ← hG, ← hROW] at h
    exact h
  have hRs : ROW.size = G * 5 := by
    rw [hROW]
    simp [Builtin.zeroCells, Value.cells]
    omega
  have OV := hide (show OwnV 97 (w.drew.alloc (.cells ROW 97)) w.heap.size (.slice (some ⟨w.heap.size, 0, none⟩) 0 G) [] from ⟨rfl, .inr ⟨w.heap.size, G, ROW, rfl, Nat.le_refl _, heap_alloc_new w.drew _, Nat.zero_le _, hG2, hRs, by simp [flat5]⟩⟩)
  have BB := hide (show Below w.heap.size w (w.drew.alloc (.cells ROW 97)) from (Below.refl _ _).drew.alloc (Nat.le_refl _) _)
  have G63 : (G : Int) ≤ 9223372036854775807 := by unfold maxLen at hG2; omega
  clear hold hROW hRs hG hi hz0 hz1 hz2
  go_enter Tryz.func150, Tryz.ntmps150
  go_wp2_with (first | (at_builtin; refine Lib.wpList_append_run _ rfl _ _ _ _ rfl _ _ rfl rfl _ _ (hrz _) ?_) | go_in)
  go_ret
  exact ⟨_, rfl, unhide OV, unhide BB⟩
set_option maxRecDepth 100000 in
set_option maxHeartbeats 4000000 in
theorem iConcat (w : World) (b g1 o1 n1 c1 g2 o2 n2 c2 g3 o3 n3 c3 : Nat) (p1 p2 p3 : List T5) (l1 : p1.length = n1) (l2 : p2.length = n2) (l3 : p3.length = n3) (h20 : n1 + n2 + n3 ≤ 1048576)
    (hb : b < w.heap.size) (q1 : g1 < w.heap.size) (q2 : g2 < w.heap.size) (q3 : g3 < w.heap.size) (a1 : AtO w g1 o1 p1) (a2 : AtO w g2 o2 p2) (a3 : AtO w g3 o3 p3)
    (s1 : w.cell? ⟨b, 0, none⟩ = some (.slice (some ⟨g1, o1, none⟩) n1 c1)) (s2 : w.cell? ⟨b, 1, none⟩ = some (.slice (some ⟨g2, o2, none⟩) n2 c2)) (s3 : w.cell? ⟨b, 2, none⟩ = some (.slice (some ⟨g3, o3, none⟩) n3 c3)) :
    Calls Tryz.prog 131 #[.slice (some ⟨b, 0, none⟩) 3 3] w fun e w' => ∃ v, e = .returned v ∧ OwnV 97 w' w.heap.size v (p1 ++ (p2 ++ p3)) ∧ Below w.heap.size w w' := by
  have A1 := hide a1
  have A2 := hide a2
  have A3 := hide a3
  clear a1 a2 a3
  go_enter Tryz.func131, Tryz.ntmps131
  go_wp2
  go_loop [3, 5, 11] (fun q _ j => ∃ (k : Nat) (z : Int), j = .int .i64 k ∧ q = .int .i64 z ∧ ((k = 0 ∧ z = 0) ∨ (k = 1 ∧ z = (n1 : Int)) ∨ (k = 2 ∧ z = (n1 : Int) + (n2 : Int)) ∨ (k = 3 ∧ z = (n1 : Int) + (n2 : Int) + (n3 : Int)))) (fun _ _ j => 3 - (intOf j).toNat)
  case atStart => exact ⟨0, 0, rfl, rfl, .inl ⟨rfl, rfl⟩⟩
  case round =>
    obtain ⟨k, z, rfl, rfl, hk⟩ := hrel
    rcases hk with ⟨rfl, rfl⟩ | ⟨rfl, rfl⟩ | ⟨rfl, rfl⟩ | ⟨rfl, rfl⟩
    · go_wp2
      go_round
      case rel => exact ⟨1, (n1 : Int), by go_num, by go_num, .inr (.inl ⟨rfl, rfl⟩)⟩
      case measure => simp [intOf]
    · go_wp2
      go_round
      case rel => exact ⟨2, (n1 : Int) + (n2 : Int), by go_num, by go_num, .inr (.inr (.inl ⟨rfl, rfl⟩))⟩
      case measure => simp [intOf]
    · go_wp2
      go_round
      case rel => exact ⟨3, (n1 : Int) + (n2 : Int) + (n3 : Int), by go_num, by go_num, .inr (.inr (.inr ⟨rfl, rfl⟩))⟩
      case measure => simp [intOf]
    · have GR := hide (show Calls Tryz.prog 150 #[.slice none 0 0, .int .i64 ((n1 : Int) + (n2 : Int) + (n3 : Int))] w fun e w' => ∃ v, e = .returned v ∧ OwnV 97 w' w.heap.size v [] ∧ Below w.heap.size w w' from by
        by_cases z : n1 + n2 + n3 = 0
        · rw [show (n1 : Int) + (n2 : Int) + (n3 : Int) = 0 by omega]
          exact (grow_none w).mono fun _ _ ⟨he, hb⟩ => ⟨_, he, OwnV.nil _ _ _, hb⟩
        · have := grow_some w (n1 + n2 + n3) (by omega) h20
          rw [show ((n1 + n2 + n3 : Nat) : Int) = (n1 : Int) + (n2 : Int) + (n3 : Int) by omega] at this
          exact this)
      go_wp2_with fail
      refine (unhide GR).mono ?_
      rintro e w1 ⟨v, rfl, ov, b1⟩
      have OV := hide ov
      have B1 := hide b1
      clear ov b1 GR
      go_wp2
      go_loopw [6, 8, 27] (fun x _ j wr => ∃ (k : Nat) (v : Value) (out : List T5), j = .int .i64 k ∧ v = x ∧ Hid (OwnV 97 wr w.heap.size v out) ∧ Hid (Below w.heap.size w wr) ∧ ((k = 0 ∧ out = []) ∨ (k = 1 ∧ p1 = out) ∨ (k = 2 ∧ out = p1 ++ p2) ∨ (k = 3 ∧ out = p1 ++ (p2 ++ p3)))) (fun _ _ j _ => 3 - (intOf j).toNat)
      case atStart => exact ⟨0, v, [], rfl, rfl, OV, B1, .inl ⟨rfl, rfl⟩⟩
      case round =>
      clear OV B1
      obtain ⟨k, v, out, rfl, rfl, OV, HB, hk⟩ := hrel
      rcases hk with ⟨rfl, rfl⟩ | ⟨rfl, rfl⟩ | ⟨rfl, rfl⟩ | ⟨rfl, rfl⟩
      · have s : wr.cell? ⟨b, 0, none⟩ = some (.slice (some ⟨g1, o1, none⟩) n1 c1) := ((unhide HB).cell (p := ⟨b, 0, none⟩) hb).trans s1
        have A := hide ((unhide A1).below (unhide HB) q1)
        have bs := (unhide HB).size
        have LN := hide (show ([] : List T5).length + n1 ≤ 1048576 from by (try simp); omega)
        go_wp2_with (first | (at_builtin; refine wp_catV _ rfl _ _ rfl w.heap.size n1 v ([] : List T5) p1 g1 o1 c1 rfl rfl (unhide OV) l1 (unhide A) (unhide LN) bs ?_) | go_in)
        intro v5 w5 ov5 gr5 loc5
        have O5 := hide (show OwnV 97 w5 w.heap.size v5 (p1) from by have := ov5; exact this)
        have B5 := hide ((unhide HB).grown gr5 bs (fun j hj => ((unhide OV).lt j hj).1))
        clear ov5 gr5 loc5 A s
        go_wp2
        go_roundw
        case rel => exact ⟨1, v5, p1, by go_num, rfl, O5, B5, .inr (.inl ⟨rfl, rfl⟩)⟩
        case measure => simp [intOf]
      · have s : wr.cell? ⟨b, 1, none⟩ = some (.slice (some ⟨g2, o2, none⟩) n2 c2) := ((unhide HB).cell (p := ⟨b, 1, none⟩) hb).trans s2
        have A := hide ((unhide A2).below (unhide HB) q2)
        have bs := (unhide HB).size
        have LN := hide (show (p1).length + n2 ≤ 1048576 from by (try simp); omega)
        go_wp2_with (first | (at_builtin; refine wp_catV _ rfl _ _ rfl w.heap.size n2 v (p1) p2 g2 o2 c2 rfl rfl (unhide OV) l2 (unhide A) (unhide LN) bs ?_) | go_in)
        intro v5 w5 ov5 gr5 loc5
        have O5 := hide (show OwnV 97 w5 w.heap.size v5 (p1 ++ p2) from by have := ov5; exact this)
        have B5 := hide ((unhide HB).grown gr5 bs (fun j hj => ((unhide OV).lt j hj).1))
        clear ov5 gr5 loc5 A s
        go_wp2
        go_roundw
        case rel => exact ⟨2, v5, p1 ++ p2, by go_num, rfl, O5, B5, .inr (.inr (.inl ⟨rfl, rfl⟩))⟩
        case measure => simp [intOf]
      · have s : wr.cell? ⟨b, 2, none⟩ = some (.slice (some ⟨g3, o3, none⟩) n3 c3) := ((unhide HB).cell (p := ⟨b, 2, none⟩) hb).trans s3
        have A := hide ((unhide A3).below (unhide HB) q3)
        have bs := (unhide HB).size
        have LN := hide (show (p1 ++ p2).length + n3 ≤ 1048576 from by (try simp); omega)
        go_wp2_with (first | (at_builtin; refine wp_catV _ rfl _ _ rfl w.heap.size n3 v (p1 ++ p2) p3 g3 o3 c3 rfl rfl (unhide OV) l3 (unhide A) (unhide LN) bs ?_) | go_in)
        intro v5 w5 ov5 gr5 loc5
        have O5 := hide (show OwnV 97 w5 w.heap.size v5 (p1 ++ (p2 ++ p3)) from by first | exact ov5 | (have := ov5; rw [List.append_assoc] at this; exact this))
        have B5 := hide ((unhide HB).grown gr5 bs (fun j hj => ((unhide OV).lt j hj).1))
        clear ov5 gr5 loc5 A s
        go_wp2
        go_roundw
        case rel => exact ⟨3, v5, p1 ++ (p2 ++ p3), by go_num, rfl, O5, B5, .inr (.inr (.inr ⟨rfl, rfl⟩))⟩
        case measure => simp [intOf]
      · go_wp2
        go_ret
        exact ⟨_, rfl, unhide OV, unhide HB⟩
end Go.Proofs.YteccbaohfmhnfaaGreat.Concat5
namespace Go.Proofs.YteccbaohfmhnfaaGreat.Nil5
open Go.ChangeShapes Go.WideShapes Go.ChangeAt Go.RowKit Tup5 Lots Takes Quieter ICut Cat5 Concat5 IOk5
theorem right_nil : Right [] := ⟨by simp, fun i hi => absurd hi (by simp), fun a i => by simp [qtyOf, costOf]⟩
set_option maxRecDepth 100000 in
theorem ok0 (w : World) : Calls Tryz.prog 113 #[.slice none 0 0] w fun e w' => e = .returned (.bool true) ∧ Below w.heap.size w w' := by
  go_enter Tryz.func113, Tryz.ntmps113
  go_wp2
  go_loopw [4, 5, 7, 14] (fun _ _ _ i wr => i = .int .i64 0 ∧ wr = w.alloc (.cells #[.int .i64 0, .int .i64 0, .int .i64 0, .int .i64 0, .int .i64 0] 97)) (fun _ _ _ _ _ => 0)
  case atStart => exact ⟨rfl, rfl⟩
  case round =>
    obtain ⟨rfl, rfl⟩ := hrel
    go_wp2
    go_ret
    exact ⟨rfl, (Below.refl _ _).alloc (Nat.le_refl _) _⟩
end Go.Proofs.YteccbaohfmhnfaaGreat.Nil5
namespace Go.Proofs.YteccbaohfmhnfaaGreat.IOpen
open Go.ChangeShapes Go.WideShapes Go.ChangeAt Go.RowKit Tup5 Lots Takes CmpL IOk5 Quieter IPlace5 ICut Cat5 Concat5 SOpen
theorem right_one (l : T5) : Right [l] ↔ One l := by
  constructor
  · intro h
    exact (h.2.1 0 (by simp)).1
  · intro h
    refine ⟨by simp, fun i hi => ?_, fun a i => ?_⟩
    · obtain rfl : i = 0 := by simpa using hi
      exact ⟨h, fun h0 => absurd h0 (by omega)⟩
    · obtain ⟨_, _, _, h4, h5⟩ := h
      simp only [qtyOf, costOf]
      constructor
      · split <;> omega
      · split <;> omega
set_option maxRecDepth 100000 in
set_option maxHeartbeats 2000000 in
theorem iOpen (w : World) (g n cap : Nat) (ps R : List T5) (x0 x1 x2 x3 x4 : Int) (ok okl okn : Bool) (hR : Hid (R = mergeL (n + 1) ps [(x0, x1, x2, x3, x4)])) (hl : ps.length = n) (h20 : n ≤ 1048576) (hc : n ≤ cap) (hcm : cap ≤ 9223372036854775807) (hg : g < w.heap.size) (h : At5 w g ps) (hok : Says ok (Right ps)) (hkl : Says okl (One (x0, x1, x2, x3, x4))) (hkn : Says okn (Right R)) :
    Calls Tryz.prog 108 #[.slice (some ⟨g, 0, none⟩) n cap, .agg #[.int .i64 x0, .int .i64 x1, .int .i64 x2, .int .i64 x3, .int .i64 x4]] w fun e w' => ∃ g' c', e = .returned (.tuple #[.slice (some ⟨g', 0, none⟩) (openA ps R ok okl okn).length c', .int .i64 (openC ok okl okn)]) ∧ Own5 97 w' w.heap.size g' (openA ps R ok okl okn).length c' (openA ps R ok okl okn) ∧ Below w.heap.size w w' := by
  have RL : R.length = n + 1 := by rw [unhide hR, merge_len _ _ _ (by simp; omega), hl]; rfl
  have B0 := hide (show Below w.heap.size w (w.alloc (.cells #[.int .i64 x0, .int .i64 x1, .int .i64 x2, .int .i64 x3, .int .i64 x4] 97)) from (Below.refl _ _).alloc (Nat.le_refl _) _)
  have A0 := hide (h.below (unhide B0) hg)
  have X0 := hide (show Holds5 (w.alloc (.cells #[.int .i64 x0, .int .i64 x1, .int .i64 x2, .int .i64 x3, .int .i64 x4] 97)) w.heap.size 0 (x0, x1, x2, x3, x4) from by unfold Holds5; simp)
  have hs : w.heap.size < (w.alloc (.cells #[.int .i64 x0, .int .i64 x1, .int .i64 x2, .int .i64 x3, .int .i64 x4] 97)).heap.size := by simp
  have hg0 : g < (w.alloc (.cells #[.int .i64 x0, .int .i64 x1, .int .i64 x2, .int .i64 x3, .int .i64 x4] 97)).heap.size := by simp; omega
  clear h
  go_enter Tryz.func108, Tryz.ntmps108
  go_wp2_with fail
  generalize w.alloc (.cells #[.int .i64 x0, .int .i64 x1, .int .i64 x2, .int .i64 x3, .int .i64 x4] 97) = u at *
  refine (iOk u g n cap ps ok hl h20 hg0 (unhide A0) hok).mono ?_
  rintro e w1 ⟨rfl, b1⟩
  have B1 := hide ((unhide B0).trans (b1.mono (unhide B0).size))
  have A1 := hide ((unhide A0).below b1 hg0)
  have X1 := hide ((unhide X0).below b1 hs)
  have hs1 := Nat.lt_of_lt_of_le hs b1.size
  have hg1 := Nat.lt_of_lt_of_le hg0 b1.size
  clear b1 B0 A0 X0 hs hg0
  cases ok
  · have EE := open_bad ps R (ok := false) (okl := okl) okn (.inl rfl)
    have O1 := hide (lit50 97 w1 w.heap.size (unhide B1).size)
    have B2 := hide ((unhide B1).alloc (unhide B1).size (.cells #[] 97))
    go_wp2
    go_ret2
    rw [EE.1, EE.2]
    exact ⟨w1.heap.size, 0, rfl, unhide O1, unhide B2⟩
  obtain ⟨c0, c1, c2, c3, c4⟩ := at0 (unhide X1)
  have V1 := hide (lit51 97 w1 w1.heap.size x0 x1 x2 x3 x4 (Nat.le_refl _))
  have one := (Below.refl w1.heap.size w1).alloc (Nat.le_refl _) (.cells #[.int .i64 x0, .int .i64 x1, .int .i64 x2, .int .i64 x3, .int .i64 x4] 97)
  have A1 := hide ((unhide A1).below one hg1)
  have X1 := hide ((unhide X1).below one hs1)
  have B1 := hide ((unhide B1).alloc (unhide B1).size (.cells #[.int .i64 x0, .int .i64 x1, .int .i64 x2, .int .i64 x3, .int .i64 x4] 97))
  have hs1 := Nat.lt_of_lt_of_le hs1 one.size
  have hg1 := Nat.lt_of_lt_of_le hg1 one.size
  have HK : Says okl (Right [(x0, x1, x2, x3, x4)]) := ⟨fun e => (right_one _).2 (hkl.1 e), fun r => hkl.2 ((right_one _).1 r)⟩
  clear one
  go_wp2_with fail
  generalize w1.alloc (.cells #[.int .i64 x0, .int .i64 x1, .int .i64 x2, .int .i64 x3, .int .i64 x4] 97) = u1 at *
  obtain ⟨vb, VB⟩ : ∃ vb, Hid (vb = w1.heap.size) := ⟨_, rfl⟩
  rw [← unhide VB] at V1 ⊢
  refine (iOk u1 vb 1 1 [(x0, x1, x2, x3, x4)] okl rfl (by omega) (unhide V1).lt.2 (unhide V1).at HK).mono ?_
  rintro e w2 ⟨rfl, b2⟩
  have B2 := hide ((unhide B1).trans (b2.mono (unhide B1).size))
  have A2 := hide ((unhide A1).below b2 hg1)
  have X2 := hide ((unhide X1).below b2 hs1)
  have hs2 := Nat.lt_of_lt_of_le hs1 b2.size
  have hg2 := Nat.lt_of_lt_of_le hg1 b2.size
  clear b2 B1 A1 X1 hs1 hg1 c0 c1 c2 c3 c4 V1 HK
  cases okl
  · have EE := open_bad ps R (ok := true) (okl := false) okn (.inr rfl)
    have O1 := hide (lit50 97 w2 w.heap.size (unhide B2).size)
    have B3 := hide ((unhide B2).alloc (unhide B2).size (.cells #[] 97))
    go_wp2
    go_ret2
    rw [EE.1, EE.2]
    exact ⟨w2.heap.size, 0, rfl, unhide O1, unhide B3⟩
  have n120 := hok.yes.1
  have ASC := hide (asc_right hok.yes)
  obtain ⟨c0, c1, c2, c3, c4⟩ := at0 (unhide X2)
  go_wp2_with fail
  refine (iSearchL w2 g n cap ps x0 x1 x2 x3 x4 hl h20 hg2 (unhide A2) ASC).mono ?_
  rintro e w3 ⟨c, ff, pl, rfl, b3⟩
  have cn : c ≤ n := by have := pl.1; omega
  have OM0 := hide (open_merge (n := n + 1) pl (by omega))
  have OM := hide ((unhide hR).trans (unhide OM0))
  clear OM0
  have B3 := hide ((unhide B2).trans (b3.mono (unhide B2).size))
  have A3 := hide ((unhide A2).below b3 hg2)
  have X3 := hide ((unhide X2).below b3 hs2)
  have hs3 := Nat.lt_of_lt_of_le hs2 b3.size
  have hg3 := Nat.lt_of_lt_of_le hg2 b3.size
  clear pl b3 B2 A2 X2 hs2 hg2 c0 c1 c2 c3 c4 ASC
  obtain ⟨c0, c1, c2, c3, c4⟩ := at0 (unhide X3)
  have j1 : (c : Int) ≤ (n : Int) := by omega
  have j2 : (c : Int) ≤ (cap : Int) := by omega
  have j3 : (n : Int) ≤ (cap : Int) := by omega
  go_wp2_with fail
  by_cases ec : cap = c
  · obtain rfl : c = n := by omega
    subst ec
    go_region_held3 (fun w' => w'.cell? ⟨w.heap.size, 0, none⟩ = some (.int .i64 x0) ∧ w'.cell? ⟨w.heap.size, 1, none⟩ = some (.int .i64 x1) ∧ w'.cell? ⟨w.heap.size, 2, none⟩ = some (.int .i64 x2) ∧ w'.cell? ⟨w.heap.size, 3, none⟩ = some (.int .i64 x3) ∧ w'.cell? ⟨w.heap.size, 4, none⟩ = some (.int .i64 x4)) (go_keep)
      (first | (go_at_call 131; refine (iConcat _ (w3.heap.size + 1) g 0 cap cap w3.heap.size 0 1 1 g 0 0 0 (ps.take cap) [(x0, x1, x2, x3, x4)] (ps.drop cap) (by simp; omega) rfl (by simp; omega) (by omega) ?_ ?_ ?_ ?_ ?_ ?_ ?_ ?_ ?_ ?_).mono ?_; (simp); (simp; omega); (simp; try omega); (simp; omega); (exact o_take ((unhide A3).below (by repeat (first | exact Below.refl _ _ | refine Below.alloc ?_ (by simp; try omega) _ | refine Below.drew ?_)) hg3) cap); (intro i hi; obtain rfl : i = 0 := (by simpa using hi); unfold Holds5; simp); (exact o_nil (by simp; omega)); (simp); (simp); (simp); rintro e w4 ⟨v, rfl, ov, b4⟩; have BW4 : Below w3.heap.size w3 w4 := Below.trans (show Below w3.heap.size w3 _ from (by repeat (first | exact Below.refl _ _ | refine Below.alloc ?_ (by simp; try omega) _ | refine Below.drew ?_))) (b4.mono (by simp; omega)); obtain ⟨d0, d1, d2, d3, d4⟩ := at0 ((unhide X3).below BW4 hs3)))
    have OV := hide (show OwnV 97 w4 w.heap.size v R from by
      rw [unhide OM]
      exact ov.rebase (Nat.le_trans (unhide B3).size (by simp; try omega)))
    have B4 := hide ((unhide B3).trans (BW4.mono (unhide B3).size))
    have A4 := hide ((unhide A3).below BW4 hg3)
    have hg4 := Nat.lt_of_lt_of_le hg3 BW4.size
    clear ov b4 BW4 d0 d1 d2 d3 d4 c0 c1 c2 c3 c4 X3 A3 B3
    rcases (unhide OV).cases with ⟨_, e⟩ | ⟨g4, c4', rfl, o4⟩
    · exact absurd RL (by rw [e]; simp)
    have O4 := hide o4
    rw [RL] at O4
    clear o4 OV
    rw [RL]
    go_wp2_with fail
    refine (iOk w4 g4 (cap + 1) c4' R okn RL (by omega) (unhide O4).lt.2 (unhide O4).at hkn).mono ?_
    rintro e w5 ⟨rfl, b5⟩
    have O5 := hide ((unhide O4).below b5 (unhide O4).lt.2)
    have B5 := hide ((unhide B4).trans (b5.mono (unhide B4).size))
    have A5 := hide ((unhide A4).below b5 hg4)
    have hg5 := Nat.lt_of_lt_of_le hg4 b5.size
    clear b5 O4 B4 A4 hg4
    cases okn
    · have EA : openA ps R true true false = ps := by simp [openA]
      have EC : openC true true false = 3 := by simp [openC]
      have L1 := hide (lit50 97 w5 w.heap.size (unhide B5).size)
      have B6 := hide ((unhide B5).alloc (unhide B5).size (.cells #[] 97))
      have A6 := hide ((unhide A5).below ((Below.refl w5.heap.size w5).alloc (Nat.le_refl _) (.cells #[] 97)) hg5)
      have bs := (unhide B6).size
      go_wp2_with (first | (at_builtin; refine wp_copyO _ rfl _ _ rfl w.heap.size w5.heap.size 0 cap ps g 0 cap rfl rfl (unhide L1) hl (at_o (unhide A6)) (by omega) bs ?_) | go_in)
      intro g7 c7 w7 o7 gr7 loc7
      have O7 := hide o7
      have B7 := hide ((unhide B6).grown gr7 bs (fun j hj => by cases hj; exact (unhide L1).lt.1))
      clear o7 gr7 loc7
      go_wp2
      go_ret2
      rw [EA, EC, hl]
      exact ⟨g7, c7, rfl, unhide O7, unhide B7⟩
    · have EA : openA ps R true true true = R := by simp [openA]
      have EC : openC true true true = 0 := by simp [openC]
      go_wp2
      go_ret2
      rw [EA, EC, RL]
      exact ⟨g4, c4', rfl, unhide O5, unhide B5⟩
  · have ec2 : ¬ c = cap := fun e => ec e.symm
    go_region_held3 (fun w' => w'.cell? ⟨w.heap.size, 0, none⟩ = some (.int .i64 x0) ∧ w'.cell? ⟨w.heap.size, 1, none⟩ = some (.int .i64 x1) ∧ w'.cell? ⟨w.heap.size, 2, none⟩ = some (.int .i64 x2) ∧ w'.cell? ⟨w.heap.size, 3, none⟩ = some (.int .i64 x3) ∧ w'.cell? ⟨w.heap.size, 4, none⟩ = some (.int .i64 x4)) (go_keep)
      (first | (go_at_call 131; refine (iConcat _ (w3.heap.size + 1) g 0 c cap w3.heap.size 0 1 1 g (c * 5) (n - c) (cap - c) (ps.take c) [(x0, x1, x2, x3, x4)] (ps.drop c) (by simp; omega) rfl (by simp; omega) (by omega) ?_ ?_ ?_ ?_ ?_ ?_ ?_ ?_ ?_ ?_).mono ?_; (simp); (simp; omega); (simp; try omega); (simp; omega); (exact o_take ((unhide A3).below (by repeat (first | exact Below.refl _ _ | refine Below.alloc ?_ (by simp; try omega) _ | refine Below.drew ?_)) hg3) c); (intro i hi; obtain rfl : i = 0 := (by simpa using hi); unfold Holds5; simp); (exact o_drop ((unhide A3).below (by repeat (first | exact Below.refl _ _ | refine Below.alloc ?_ (by simp; try omega) _ | refine Below.drew ?_)) hg3) c); (simp); (simp); (simp); rintro e w4 ⟨v, rfl, ov, b4⟩; have BW4 : Below w3.heap.size w3 w4 := Below.trans (show Below w3.heap.size w3 _ from (by repeat (first | exact Below.refl _ _ | refine Below.alloc ?_ (by simp; try omega) _ | refine Below.drew ?_))) (b4.mono (by simp; omega)); obtain ⟨d0, d1, d2, d3, d4⟩ := at0 ((unhide X3).below BW4 hs3)))
    have OV := hide (show OwnV 97 w4 w.heap.size v R from by
      rw [unhide OM]
      exact ov.rebase (Nat.le_trans (unhide B3).size (by simp; try omega)))
    have B4 := hide ((unhide B3).trans (BW4.mono (unhide B3).size))
    have A4 := hide ((unhide A3).below BW4 hg3)
    have hg4 := Nat.lt_of_lt_of_le hg3 BW4.size
    clear ov b4 BW4 d0 d1 d2 d3 d4 c0 c1 c2 c3 c4 X3 A3 B3
    rcases (unhide OV).cases with ⟨_, e⟩ | ⟨g4, c4', rfl, o4⟩
    · exact absurd RL (by rw [e]; simp)
    have O4 := hide o4
    rw [RL] at O4
    clear o4 OV
    rw [RL]
    go_wp2_with fail
    refine (iOk w4 g4 (n + 1) c4' R okn RL (by omega) (unhide O4).lt.2 (unhide O4).at hkn).mono ?_
    rintro e w5 ⟨rfl, b5⟩
    have O5 := hide ((unhide O4).below b5 (unhide O4).lt.2)
    have B5 := hide ((unhide B4).trans (b5.mono (unhide B4).size))
    have A5 := hide ((unhide A4).below b5 hg4)
    have hg5 := Nat.lt_of_lt_of_le hg4 b5.size
    clear b5 O4 B4 A4 hg4
    cases okn
    · have EA : openA ps R true true false = ps := by simp [openA]
      have EC : openC true true false = 3 := by simp [openC]
      have L1 := hide (lit50 97 w5 w.heap.size (unhide B5).size)
      have B6 := hide ((unhide B5).alloc (unhide B5).size (.cells #[] 97))
      have A6 := hide ((unhide A5).below ((Below.refl w5.heap.size w5).alloc (Nat.le_refl _) (.cells #[] 97)) hg5)
      have bs := (unhide B6).size
      go_wp2_with (first | (at_builtin; refine wp_copyO _ rfl _ _ rfl w.heap.size w5.heap.size 0 n ps g 0 cap rfl rfl (unhide L1) hl (at_o (unhide A6)) (by omega) bs ?_) | go_in)
      intro g7 c7 w7 o7 gr7 loc7
      have O7 := hide o7
      have B7 := hide ((unhide B6).grown gr7 bs (fun j hj => by cases hj; exact (unhide L1).lt.1))
      clear o7 gr7 loc7
      go_wp2
      go_ret2
      rw [EA, EC, hl]
      exact ⟨g7, c7, rfl, unhide O7, unhide B7⟩
    · have EA : openA ps R true true true = R := by simp [openA]
      have EC : openC true true true = 0 := by simp [openC]
      go_wp2
      go_ret2
      rw [EA, EC, RL]
      exact ⟨g4, c4', rfl, unhide O5, unhide B5⟩
end Go.Proofs.YteccbaohfmhnfaaGreat.IOpen
namespace Go.Proofs.YteccbaohfmhnfaaGreat.Open0
open Go.ChangeShapes Go.WideShapes Go.ChangeAt Go.RowKit Tup5 Lots Takes Quieter ICut Cat5 Concat5 IOk5 SOpen LotApp Nil5 IOpen CmpL
/-- Nothing at all appended to a list. -/
theorem wp_cat0 (u : World) {ops : Array Oper} {rest : List Oper} {o : Oper} {a : Act} {Q : Exit → Act → World → Prop} (hgd : o.guard = none) (s x : Operand)
    (ho : o.op = .call { callee := .builtin .append, args := #[s, x], argTypes := #[33, 33] }) (base : Nat) (v : Value) (ps : List T5)
    (hs : a.eval s = v) (hx : a.eval x = .slice none 0 0) (hown : OwnV 97 u base v ps)
    (h : wpList Tryz.prog ops Q rest (a.put o.dst v) u) : wpList Tryz.prog ops Q (o :: rest) a u := by
  obtain ⟨i0, hi, hz0, hz1, hz2⟩ := info_parts info2
  have hr : ∀ ty, (Builtin.append_ #[33, 33] ty #[v, .slice none 0 0]).run Tryz.prog u = .ok v u := by
    intro ty
    rcases hown.cases with ⟨rfl, _⟩ | ⟨g, c, rfl, o⟩
    · simp [Builtin.append_, run_underlying Tryz.underlying33, sizeOf, typeInfo, hi, Builtin.lenOf, Builtin.firstCells]
    · have hc := (BMem.own_cap o).1
      simp [Builtin.append_, run_underlying Tryz.underlying33, sizeOf, typeInfo, hi, Builtin.lenOf, Builtin.firstCells, hc, storeCells]
  exact Lib.wpList_append_run u hgd s x _ _ ho _ _ hs hx _ _ (hr _) h
set_option maxRecDepth 100000 in
set_option maxHeartbeats 4000000 in
theorem iConcat0 (w : World) (b g2 : Nat) (p2 : List T5) (l2 : p2.length = 1) (hb : b < w.heap.size) (q2 : g2 < w.heap.size) (a2 : AtO w g2 0 p2)
    (s1 : w.cell? ⟨b, 0, none⟩ = some (.slice none 0 0)) (s2 : w.cell? ⟨b, 1, none⟩ = some (.slice (some ⟨g2, 0, none⟩) 1 1)) (s3 : w.cell? ⟨b, 2, none⟩ = some (.slice none 0 0)) :
    Calls Tryz.prog 131 #[.slice (some ⟨b, 0, none⟩) 3 3] w fun e w' => ∃ v, e = .returned v ∧ OwnV 97 w' w.heap.size v p2 ∧ Below w.heap.size w w' := by
  have A2 := hide a2
  clear a2
  go_enter Tryz.func131, Tryz.ntmps131
  go_wp2
  go_loop [3, 5, 11] (fun q _ j => ∃ (k : Nat) (z : Int), j = .int .i64 k ∧ q = .int .i64 z ∧ ((k = 0 ∧ z = 0) ∨ (k = 1 ∧ z = 0) ∨ (k = 2 ∧ z = 1) ∨ (k = 3 ∧ z = 1))) (fun _ _ j => 3 - (intOf j).toNat)
  case atStart => exact ⟨0, 0, rfl, rfl, .inl ⟨rfl, rfl⟩⟩
  case round =>
    obtain ⟨k, z, rfl, rfl, hk⟩ := hrel
    rcases hk with ⟨rfl, rfl⟩ | ⟨rfl, rfl⟩ | ⟨rfl, rfl⟩ | ⟨rfl, rfl⟩
    · go_wp2
      go_round
      case rel => exact ⟨1, 0, by go_num, by go_num, .inr (.inl ⟨rfl, rfl⟩)⟩
      case measure => simp [intOf]
    · go_wp2
      go_round
      case rel => exact ⟨2, 1, by go_num, by go_num, .inr (.inr (.inl ⟨rfl, rfl⟩))⟩
      case measure => simp [intOf]
    · go_wp2
      go_round
      case rel => exact ⟨3, 1, by go_num, by go_num, .inr (.inr (.inr ⟨rfl, rfl⟩))⟩
      case measure => simp [intOf]
    · have GR := hide (grow_some w 1 (by omega) (by omega))
      go_wp2_with fail
      refine (unhide GR).mono ?_
      rintro e w1 ⟨v, rfl, ov, b1⟩
      have OV := hide ov
      have B1 := hide b1
      clear ov b1 GR
      go_wp2
      go_loopw [6, 8, 27] (fun x _ j wr => ∃ (k : Nat) (v : Value) (out : List T5), j = .int .i64 k ∧ v = x ∧ Hid (OwnV 97 wr w.heap.size v out) ∧ Hid (Below w.heap.size w wr) ∧ ((k = 0 ∧ out = []) ∨ (k = 1 ∧ out = []) ∨ (k = 2 ∧ out = p2) ∨ (k = 3 ∧ out = p2))) (fun _ _ j _ => 3 - (intOf j).toNat)
      case atStart => exact ⟨0, v, [], rfl, rfl, OV, B1, .inl ⟨rfl, rfl⟩⟩
      case round =>
      clear OV B1
      obtain ⟨k, v, out, rfl, rfl, OV, HB, hk⟩ := hrel
      rcases hk with ⟨rfl, rfl⟩ | ⟨rfl, rfl⟩ | ⟨rfl, rfl⟩ | ⟨rfl, rfl⟩
      · have s : wr.cell? ⟨b, 0, none⟩ = some (.slice none 0 0) := ((unhide HB).cell (p := ⟨b, 0, none⟩) hb).trans s1
        go_wp2_with (first | (at_builtin; refine wp_cat0 _ rfl _ _ rfl w.heap.size v ([] : List T5) rfl rfl (unhide OV) ?_) | go_in)
        go_roundw
        case rel => exact ⟨1, v, [], by go_num, rfl, OV, HB, .inr (.inl ⟨rfl, rfl⟩)⟩
        case measure => simp [intOf]
      · have s : wr.cell? ⟨b, 1, none⟩ = some (.slice (some ⟨g2, 0, none⟩) 1 1) := ((unhide HB).cell (p := ⟨b, 1, none⟩) hb).trans s2
        have A := hide ((unhide A2).below (unhide HB) q2)
        have bs := (unhide HB).size
        go_wp2_with (first | (at_builtin; refine wp_catV _ rfl _ _ rfl w.heap.size 1 v ([] : List T5) p2 g2 0 1 rfl rfl (unhide OV) l2 (unhide A) (by simp) bs ?_) | go_in)
        intro v5 w5 ov5 gr5 loc5
        have O5 := hide (show OwnV 97 w5 w.heap.size v5 p2 from by have := ov5; exact this)
        have B5 := hide ((unhide HB).grown gr5 bs (fun j hj => ((unhide OV).lt j hj).1))
        clear ov5 gr5 loc5 A s
        go_wp2
        go_roundw
        case rel => exact ⟨2, v5, p2, by go_num, rfl, O5, B5, .inr (.inr (.inl ⟨rfl, rfl⟩))⟩
        case measure => simp [intOf]
      · have s : wr.cell? ⟨b, 2, none⟩ = some (.slice none 0 0) := ((unhide HB).cell (p := ⟨b, 2, none⟩) hb).trans s3
        go_wp2_with (first | (at_builtin; refine wp_cat0 _ rfl _ _ rfl w.heap.size v _ rfl rfl (unhide OV) ?_) | go_in)
        go_roundw
        case rel => exact ⟨3, v, _, by go_num, rfl, OV, HB, .inr (.inr (.inr ⟨rfl, rfl⟩))⟩
        case measure => simp [intOf]
      · go_wp2
        go_ret
        exact ⟨_, rfl, unhide OV, unhide HB⟩
set_option maxRecDepth 100000 in
theorem searchL0 (w : World) (y0 y1 y2 y3 y4 : Int) : Calls Tryz.prog 129 #[.slice none 0 0, .agg #[.int .i64 y0, .int .i64 y1, .int .i64 y2, .int .i64 y3, .int .i64 y4], .func (.func 130) #[] #[]] w fun e w' => e = .returned (.tuple #[.int .i64 0, .bool false]) ∧ Below w.heap.size w w' := by
  have B0 := hide (show Below w.heap.size w (w.alloc (.cells #[.int .i64 y0, .int .i64 y1, .int .i64 y2, .int .i64 y3, .int .i64 y4] 97)) from (Below.refl _ _).alloc (Nat.le_refl _) _)
  go_enter Tryz.func129, Tryz.ntmps129
  go_wp2
  generalize w.alloc (.cells #[.int .i64 y0, .int .i64 y1, .int .i64 y2, .int .i64 y3, .int .i64 y4] 97) = u at *
  go_loopw [9, 10] (fun p q wr => p = .int .i64 0 ∧ q = .int .i64 0 ∧ wr = u) (fun _ _ _ => 0)
  case atStart => exact ⟨rfl, rfl, rfl⟩
  case round =>
    obtain ⟨rfl, rfl, rfl⟩ := hrel
    go_wp2_with fail
    go_quiet (fail)
    have HB := hide (below_drewN (unhide B0) nq)
    go_wp2
    go_ret2
    exact ⟨rfl, unhide HB⟩
set_option maxRecDepth 100000 in
set_option maxHeartbeats 2000000 in
theorem open0 (w : World) (R : List T5) (x0 x1 x2 x3 x4 : Int) (okl : Bool) (hR : Hid (R = [(x0, x1, x2, x3, x4)])) (hkl : Says okl (One (x0, x1, x2, x3, x4))) :
    Calls Tryz.prog 108 #[.slice none 0 0, .agg #[.int .i64 x0, .int .i64 x1, .int .i64 x2, .int .i64 x3, .int .i64 x4]] w fun e w' => ∃ g' c', e = .returned (.tuple #[.slice (some ⟨g', 0, none⟩) (openA [] R true okl okl).length c', .int .i64 (openC true okl okl)]) ∧ Own5 97 w' w.heap.size g' (openA [] R true okl okl).length c' (openA [] R true okl okl) ∧ Below w.heap.size w w' := by
  have RL : R.length = 1 := by rw [unhide hR]; rfl
  have B0 := hide (show Below w.heap.size w (w.alloc (.cells #[.int .i64 x0, .int .i64 x1, .int .i64 x2, .int .i64 x3, .int .i64 x4] 97)) from (Below.refl _ _).alloc (Nat.le_refl _) _)
  have X0 := hide (show Holds5 (w.alloc (.cells #[.int .i64 x0, .int .i64 x1, .int .i64 x2, .int .i64 x3, .int .i64 x4] 97)) w.heap.size 0 (x0, x1, x2, x3, x4) from by unfold Holds5; simp)
  have hs : w.heap.size < (w.alloc (.cells #[.int .i64 x0, .int .i64 x1, .int .i64 x2, .int .i64 x3, .int .i64 x4] 97)).heap.size := by simp
  go_enter Tryz.func108, Tryz.ntmps108
  go_wp2_with fail
  generalize w.alloc (.cells #[.int .i64 x0, .int .i64 x1, .int .i64 x2, .int .i64 x3, .int .i64 x4] 97) = u at *
  refine (ok0 u).mono ?_
  rintro e w1 ⟨rfl, b1⟩
  have B1 := hide ((unhide B0).trans (b1.mono (unhide B0).size))
  have X1 := hide ((unhide X0).below b1 hs)
  have hs1 := Nat.lt_of_lt_of_le hs b1.size
  clear b1 B0 X0 hs
  obtain ⟨c0, c1, c2, c3, c4⟩ := at0 (unhide X1)
  have V1 := hide (lit51 97 w1 w1.heap.size x0 x1 x2 x3 x4 (Nat.le_refl _))
  have one := (Below.refl w1.heap.size w1).alloc (Nat.le_refl _) (.cells #[.int .i64 x0, .int .i64 x1, .int .i64 x2, .int .i64 x3, .int .i64 x4] 97)
  have X1 := hide ((unhide X1).below one hs1)
  have B1 := hide ((unhide B1).alloc (unhide B1).size (.cells #[.int .i64 x0, .int .i64 x1, .int .i64 x2, .int .i64 x3, .int .i64 x4] 97))
  have hs1 := Nat.lt_of_lt_of_le hs1 one.size
  have HK : Says okl (Right [(x0, x1, x2, x3, x4)]) := ⟨fun e => (right_one _).2 (hkl.1 e), fun r => hkl.2 ((right_one _).1 r)⟩
  clear one
  go_wp2_with fail
  generalize w1.alloc (.cells #[.int .i64 x0, .int .i64 x1, .int .i64 x2, .int .i64 x3, .int .i64 x4] 97) = u1 at *
  obtain ⟨vb, VB⟩ : ∃ vb, Hid (vb = w1.heap.size) := ⟨_, rfl⟩
  rw [← unhide VB] at V1 ⊢
  refine (iOk u1 vb 1 1 [(x0, x1, x2, x3, x4)] okl rfl (by omega) (unhide V1).lt.2 (unhide V1).at HK).mono ?_
  rintro e w2 ⟨rfl, b2⟩
  have B2 := hide ((unhide B1).trans (b2.mono (unhide B1).size))
  have X2 := hide ((unhide X1).below b2 hs1)
  have hs2 := Nat.lt_of_lt_of_le hs1 b2.size
  clear b2 B1 X1 hs1 c0 c1 c2 c3 c4 V1
  cases okl
  · have EE := open_bad ([] : List T5) R (ok := true) (okl := false) false (.inr rfl)
    have O1 := hide (lit50 97 w2 w.heap.size (unhide B2).size)
    have B3 := hide ((unhide B2).alloc (unhide B2).size (.cells #[] 97))
    go_wp2
    go_ret2
    rw [EE.1, EE.2]
    exact ⟨w2.heap.size, 0, rfl, unhide O1, unhide B3⟩
  obtain ⟨c0, c1, c2, c3, c4⟩ := at0 (unhide X2)
  go_wp2_with fail
  refine (searchL0 w2 x0 x1 x2 x3 x4).mono ?_
  rintro e w3 ⟨rfl, b3⟩
  have B3 := hide ((unhide B2).trans (b3.mono (unhide B2).size))
  have X3 := hide ((unhide X2).below b3 hs2)
  have hs3 := Nat.lt_of_lt_of_le hs2 b3.size
  clear b3 B2 X2 hs2 c0 c1 c2 c3 c4
  obtain ⟨c0, c1, c2, c3, c4⟩ := at0 (unhide X3)
  go_wp2_with fail
  go_region_held3 (fun w' => w'.cell? ⟨w.heap.size, 0, none⟩ = some (.int .i64 x0) ∧ w'.cell? ⟨w.heap.size, 1, none⟩ = some (.int .i64 x1) ∧ w'.cell? ⟨w.heap.size, 2, none⟩ = some (.int .i64 x2) ∧ w'.cell? ⟨w.heap.size, 3, none⟩ = some (.int .i64 x3) ∧ w'.cell? ⟨w.heap.size, 4, none⟩ = some (.int .i64 x4)) (go_keep)
    (first | (go_at_call 131; refine (iConcat0 _ (w3.heap.size + 1) w3.heap.size [(x0, x1, x2, x3, x4)] rfl ?_ ?_ ?_ ?_ ?_ ?_).mono ?_; (simp); (simp; try omega); (intro i hi; obtain rfl : i = 0 := (by simpa using hi); unfold Holds5; simp); (simp); (simp); (simp); rintro e w4 ⟨v, rfl, ov, b4⟩; have BW4 : Below w3.heap.size w3 w4 := Below.trans (show Below w3.heap.size w3 _ from (by repeat (first | exact Below.refl _ _ | refine Below.alloc ?_ (by simp; try omega) _ | refine Below.drew ?_))) (b4.mono (by simp; omega)); obtain ⟨d0, d1, d2, d3, d4⟩ := at0 ((unhide X3).below BW4 hs3)))
  have OV := hide (show OwnV 97 w4 w.heap.size v R from by
    rw [unhide hR]
    exact ov.rebase (Nat.le_trans (unhide B3).size (by simp; try omega)))
  have B4 := hide ((unhide B3).trans (BW4.mono (unhide B3).size))
  clear ov b4 BW4 d0 d1 d2 d3 d4 c0 c1 c2 c3 c4 X3 B3
  rcases (unhide OV).cases with ⟨_, e⟩ | ⟨g4, c4', rfl, o4⟩
  · exact absurd RL (by rw [e]; simp)
  have O4 := hide o4
  rw [RL] at O4
  clear o4 OV
  rw [RL]
  go_wp2_with fail
  refine (iOk w4 g4 1 c4' R true RL (by omega) (unhide O4).lt.2 (unhide O4).at (by rw [unhide hR]; exact HK)).mono ?_
  rintro e w5 ⟨rfl, b5⟩
  have O5 := hide ((unhide O4).below b5 (unhide O4).lt.2)
  have B5 := hide ((unhide B4).trans (b5.mono (unhide B4).size))
  clear b5 O4 B4
  have EA : openA ([] : List T5) R true true true = R := by simp [openA]
  have EC : openC true true true = 0 := by simp [openC]
  go_wp2
  go_ret2
  rw [EA, EC, RL]
  exact ⟨g4, c4', rfl, unhide O5, unhide B5⟩
/-- A list that may be nothing at all. -/
theorem openV (w : World) (base : Nat) (v : Value) (ps R : List T5) (x0 x1 x2 x3 x4 : Int) (ok okl okn : Bool) (hR : Hid (R = mergeL (ps.length + 1) ps [(x0, x1, x2, x3, x4)])) (h20 : ps.length ≤ 1048576) (h : OwnV 97 w base v ps) (hok : Says ok (Right ps)) (hkl : Says okl (One (x0, x1, x2, x3, x4))) (hkn : Says okn (Right R)) :
    Calls Tryz.prog 108 #[v, .agg #[.int .i64 x0, .int .i64 x1, .int .i64 x2, .int .i64 x3, .int .i64 x4]] w fun e w' => ∃ g' c', e = .returned (.tuple #[.slice (some ⟨g', 0, none⟩) (openA ps R ok okl okn).length c', .int .i64 (openC ok okl okn)]) ∧ Own5 97 w' w.heap.size g' (openA ps R ok okl okn).length c' (openA ps R ok okl okn) ∧ Below w.heap.size w w' := by
  rcases h.cases with ⟨rfl, rfl⟩ | ⟨g, c, rfl, o⟩
  · obtain rfl : ok = true := hok.of right_nil
    have e : R = [(x0, x1, x2, x3, x4)] := (unhide hR).trans rfl
    have HK : Says okl (Right R) := by
      rw [e]
      exact ⟨fun e => (right_one _).2 (hkl.1 e), fun r => hkl.2 ((right_one _).1 r)⟩
    obtain rfl : okl = okn := by
      cases okl <;> cases okn
      · rfl
      · exact absurd hkn.yes HK.no
      · exact absurd HK.yes hkn.no
      · rfl
    exact open0 w R x0 x1 x2 x3 x4 okl e hkl
  · exact IOpen.iOpen w g ps.length c ps R x0 x1 x2 x3 x4 ok okl okn hR rfl h20 (BMem.own_cap o).1 (BMem.own_cap o).2 o.lt.2 o.at hok hkl hkn
end Go.Proofs.YteccbaohfmhnfaaGreat.Open0
namespace Go.Proofs.YteccbaohfmhnfaaGreat.IPl
open Go.ChangeShapes Go.WideShapes Go.ChangeAt Go.RowKit Tup5 Lots Takes
/-- A number in a block of the call's own. -/
def Cell (w : World) (base b : Nat) (x : Int) : Prop := w.ownsRow base 3 1 (.slice (some ⟨b, 0, none⟩) 1 1) 1 [.int .i64 x]
theorem Cell.cell {w : World} {base b : Nat} {x : Int} (h : Cell w base b x) : w.cell? ⟨b, 0, none⟩ = some (.int .i64 x) := World.ownsRow.cellAt h 0 (by omega)
theorem Cell.free {w : World} {base b : Nat} {x : Int} (h : Cell w base b x) : w.frozen? ⟨b, 0, none⟩ = false := World.ownsRow.frozenAt h 0
theorem Cell.lt {w : World} {base b : Nat} {x : Int} (h : Cell w base b x) : base ≤ b ∧ b < w.heap.size := World.ownsRow.lt h b rfl
theorem Cell.alloc {w : World} {base b : Nat} {x : Int} (h : Cell w base b x) (o : Obj) : Cell (w.alloc o) base b x := World.ownsRow.alloc h o
theorem Cell.kept {w w' : World} {base b : Nat} {x : Int} {row : Option Nat} (h : Cell w base b x) (k : w.grownBy w' row) (hne : some b ≠ row) : Cell w' base b x := World.ownsRow.kept h k (Or.inr hne)
theorem Cell.below {w w' : World} {base b B : Nat} {x : Int} (h : Cell w base b x) (k : Below B w w') (hb : b < B) : Cell w' base b x := by
  refine ⟨h.1, ?_⟩
  rcases h.2 with ⟨h1, _⟩ | ⟨g', c, cur, h1, h2, h3, h4⟩
  · simp at h1
  · obtain ⟨e, _⟩ : b = g' ∧ 1 = c := by simpa using h1
    subst e
    exact Or.inr ⟨b, c, cur, h1, h2, by rw [k.block b hb]; exact h3, h4⟩
theorem Cell.set {w : World} {base b : Nat} {x : Int} (h : Cell w base b x) (y : Int) : Cell (w.setCell ⟨b, 0, none⟩ (.int .i64 y)) base b y ∧ w.grownBy (w.setCell ⟨b, 0, none⟩ (.int .i64 y)) (some b) := World.ownsRow.stored h 0 (.int .i64 y)
theorem Cell.drewN {w : World} {base b : Nat} {x : Int} (h : Cell w base b x) (m : Nat) : Cell (w.drewN m) base b x := h
end Go.Proofs.YteccbaohfmhnfaaGreat.IPl
