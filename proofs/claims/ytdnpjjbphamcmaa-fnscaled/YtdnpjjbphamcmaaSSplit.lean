/- Contracts of the model's helpers on lots: those of both and all others, two lists in order, all pieces and all costs. Conditions: lists of at most 100000 lots. -/
import Derived.Test.YtdnpjjbphamcmaaSOk5
import Derived.Test.YtdnpjjbphamcmaaTakes
import Derived.Test.YtdnpjjbphamcmaaLotApp
namespace Go.Proofs.Ytdnpjjbphamcmaa.SSplit
open Go.ChangeShapes Go.WideShapes Go.ChangeAt Go.RowKit Tup5 Lots Takes SOk5 Quieter
set_option linter.unusedVariables false
set_option linter.unusedSimpArgs false

theorem own_len (ps : List T5) (k : Nat) (a i : Int) (hk : k ≤ ps.length) : (ownL (ps.take k) a i).length ≤ k ∧ (restL (ps.take k) a i).length ≤ k := by
  constructor
  · exact Nat.le_trans (List.length_filter_le _ _) (by simp; omega)
  · exact Nat.le_trans (List.length_filter_le _ _) (by simp; omega)

set_option maxRecDepth 100000 in
set_option maxHeartbeats 4000000 in
theorem sSplit (w : World) (g n cap : Nat) (ps : List T5) (a i : Int) (hl : ps.length = n) (h20 : n ≤ 100000) (hg : g < w.heap.size) (h : At5 w g ps) :
    Calls Try.prog 33 #[.slice (some ⟨g, 0, none⟩) n cap, .int .i64 a, .int .i64 i] w fun e w' => ∃ g1 c1 g2 c2, e = .returned (.tuple #[.slice (some ⟨g1, 0, none⟩) (ownL ps a i).length c1, .slice (some ⟨g2, 0, none⟩) (restL ps a i).length c2]) ∧ Own5 40 w' w.heap.size g1 (ownL ps a i).length c1 (ownL ps a i) ∧ Own5 40 w' w.heap.size g2 (restL ps a i).length c2 (restL ps a i) ∧ g1 ≠ g2 ∧ Below w.heap.size w w' := by
  have H := hide h
  clear h
  have O1 := hide ((lit50 40 w w.heap.size (Nat.le_refl _)).alloc (.cells #[] 40))
  have O2 := hide (lit50 40 (w.alloc (.cells #[] 40)) w.heap.size (by simp))
  have B0 := hide (show Below w.heap.size w ((w.alloc (.cells #[] 40)).alloc (.cells #[] 40)) from ((Below.refl _ _).alloc (Nat.le_refl _) _).alloc (by simp) _)
  simp only [World.size_alloc] at O2
  go_enter Try.func33, Try.ntmps33
  go_wp2
  generalize (w.alloc (.cells #[] 40)).alloc (.cells #[] 40) = w0 at *
  go_loopw [8, 9, 10] (fun l m j wr => ∃ (p q : List T5) (g1 c1 g2 c2 k : Nat), l = .slice (some ⟨g1, 0, none⟩) p.length c1 ∧ m = .slice (some ⟨g2, 0, none⟩) q.length c2 ∧ j = .int .i64 k ∧ k ≤ n ∧ p.length ≤ k ∧ q.length ≤ k ∧ g1 ≠ g2 ∧ Hid (p = ownL (ps.take k) a i) ∧ Hid (q = restL (ps.take k) a i) ∧ Hid (Own5 40 wr w.heap.size g1 p.length c1 p) ∧ Hid (Own5 40 wr w.heap.size g2 q.length c2 q) ∧ Hid (Below w.heap.size w wr)) (fun _ _ j _ => n - (intOf j).toNat)
  case atStart => exact ⟨[], [], w.heap.size, 0, w.heap.size + 1, 0, 0, rfl, rfl, rfl, by omega, by simp, by simp, by omega, hide rfl, hide rfl, O1, O2, B0⟩
  case round =>
    clear O1 O2 B0
    obtain ⟨p, q, g1, c1, g2, c2, k, rfl, rfl, rfl, hk, pl, ql, g12, HP, HQ, H1, H2, HB⟩ := hrel
    have bs := (unhide HB).size
    have gl1 := (unhide H1).lt.2
    have gl2 := (unhide H2).lt.2
    by_cases t : k < n
    · obtain ⟨e0, e1, e2, e3, e4⟩ := (unhide H).below (unhide HB) hg k (by omega)
      have NP := hide (own_next (ps := ps) (k := k) (by omega) a i)
      have NQ := hide (rest_next (ps := ps) (k := k) (by omega) a i)
      rw [← unhide HP] at NP
      rw [← unhide HQ] at NQ
      have EQ : el5 ps k = ((el5 ps k).1, (el5 ps k).2.1, (el5 ps k).2.2.1, (el5 ps k).2.2.2.1, (el5 ps k).2.2.2.2) := rfl
      rw [EQ] at NP NQ
      clear EQ HP HQ
      generalize (el5 ps k).1 = x0 at *
      generalize (el5 ps k).2.1 = x1 at *
      generalize (el5 ps k).2.2.1 = x2 at *
      generalize (el5 ps k).2.2.2.1 = x3 at *
      generalize (el5 ps k).2.2.2.2 = x4 at *
      have V5 := hide (show Holds5 (wr.alloc (.cells #[.int .i64 x0, .int .i64 x1, .int .i64 x2, .int .i64 x3, .int .i64 x4] 40)) wr.heap.size 0 (x0, x1, x2, x3, x4) from by unfold Holds5; simp)
      by_cases own : x0 = a ∧ x1 = i
      · have NP1 : Hid (ownL (ps.take (k + 1)) a i = p ++ [(x0, x1, x2, x3, x4)]) := hide (by rw [unhide NP, if_pos own])
        have NQ1 : Hid (restL (ps.take (k + 1)) a i = q) := hide (by rw [unhide NQ, if_pos own, List.append_nil])
        clear NP NQ
        obtain ⟨rfl, rfl⟩ := own
        go_wp2_with (first | (at_builtin; refine LotApp.wp_app _ rfl _ _ rfl w.heap.size g1 p.length c1 p wr.heap.size x0 x1 x2 x3 x4 rfl rfl ((unhide H1).alloc _) (unhide V5) (by omega) (by simp; omega) ?_) | go_in)
        intro g5 c5 w5 o5 gr5 loc5
        have O5 := hide o5
        have K5 := hide (((unhide H2).alloc (.cells #[.int .i64 x0, .int .i64 x1, .int .i64 x2, .int .i64 x3, .int .i64 x4] 40)).kept gr5 (by simp; omega))
        have B5 := hide (((unhide HB).alloc bs (.cells #[.int .i64 x0, .int .i64 x1, .int .i64 x2, .int .i64 x3, .int .i64 x4] 40)).grown gr5 (by simp; omega) (fun j hj => by cases hj; exact (unhide H1).lt.1))
        have g5B : g5 ≠ g2 := by
          try simp at loc5
          omega
        clear o5 gr5 loc5 V5
        go_wp2
        go_roundw
        case rel => exact ⟨p ++ [(x0, x1, x2, x3, x4)], q, g5, c5, g2, c2, k + 1, by rw [show (p ++ [(x0, x1, x2, x3, x4)]).length = p.length + 1 by simp], rfl, by go_num, by omega, by simp; omega, by omega, g5B, hide (unhide NP1).symm, hide (unhide NQ1).symm, hide (by rw [show (p ++ [(x0, x1, x2, x3, x4)]).length = p.length + 1 by simp]; exact unhide O5), K5, B5⟩
        case measure => simp [intOf]; omega
      · have NP1 : Hid (ownL (ps.take (k + 1)) a i = p) := hide (by rw [unhide NP, if_neg own, List.append_nil])
        have NQ1 : Hid (restL (ps.take (k + 1)) a i = q ++ [(x0, x1, x2, x3, x4)]) := hide (by rw [unhide NQ, if_neg own])
        clear NP NQ
        rcases (show x0 ≠ a ∨ (x0 = a ∧ x1 ≠ i) by omega) with o2 | ⟨rfl, o2⟩
        · have ob : (x0 == a) = false := by simpa using o2
          go_wp2_with (first | (at_builtin; refine LotApp.wp_app _ rfl _ _ rfl w.heap.size g2 q.length c2 q wr.heap.size x0 x1 x2 x3 x4 rfl rfl ((unhide H2).alloc _) (unhide V5) (by omega) (by simp; omega) ?_) | go_in)
          intro g5 c5 w5 o5 gr5 loc5
          have O5 := hide o5
          have K5 := hide (((unhide H1).alloc (.cells #[.int .i64 x0, .int .i64 x1, .int .i64 x2, .int .i64 x3, .int .i64 x4] 40)).kept gr5 (by simp; omega))
          have B5 := hide (((unhide HB).alloc bs (.cells #[.int .i64 x0, .int .i64 x1, .int .i64 x2, .int .i64 x3, .int .i64 x4] 40)).grown gr5 (by simp; omega) (fun j hj => by cases hj; exact (unhide H2).lt.1))
          have g5B : g5 ≠ g1 := by
            try simp at loc5
            omega
          clear o5 gr5 loc5 V5
          go_wp2
          go_roundw
          case rel => exact ⟨p, q ++ [(x0, x1, x2, x3, x4)], g1, c1, g5, c5, k + 1, rfl, by rw [show (q ++ [(x0, x1, x2, x3, x4)]).length = q.length + 1 by simp], by go_num, by omega, by omega, by simp; omega, fun e => g5B e.symm, hide (unhide NP1).symm, hide (unhide NQ1).symm, K5, hide (by rw [show (q ++ [(x0, x1, x2, x3, x4)]).length = q.length + 1 by simp]; exact unhide O5), B5⟩
          case measure => simp [intOf]; omega
        · have ob : (x1 == i) = false := by simpa using o2
          go_wp2_with (first | (at_builtin; refine LotApp.wp_app _ rfl _ _ rfl w.heap.size g2 q.length c2 q wr.heap.size x0 x1 x2 x3 x4 rfl rfl ((unhide H2).alloc _) (unhide V5) (by omega) (by simp; omega) ?_) | go_in)
          intro g5 c5 w5 o5 gr5 loc5
          have O5 := hide o5
          have K5 := hide (((unhide H1).alloc (.cells #[.int .i64 x0, .int .i64 x1, .int .i64 x2, .int .i64 x3, .int .i64 x4] 40)).kept gr5 (by simp; omega))
          have B5 := hide (((unhide HB).alloc bs (.cells #[.int .i64 x0, .int .i64 x1, .int .i64 x2, .int .i64 x3, .int .i64 x4] 40)).grown gr5 (by simp; omega) (fun j hj => by cases hj; exact (unhide H2).lt.1))
          have g5B : g5 ≠ g1 := by
            try simp at loc5
            omega
          clear o5 gr5 loc5 V5
          go_wp2
          go_roundw
          case rel => exact ⟨p, q ++ [(x0, x1, x2, x3, x4)], g1, c1, g5, c5, k + 1, rfl, by rw [show (q ++ [(x0, x1, x2, x3, x4)]).length = q.length + 1 by simp], by go_num, by omega, by omega, by simp; omega, fun e => g5B e.symm, hide (unhide NP1).symm, hide (unhide NQ1).symm, K5, hide (by rw [show (q ++ [(x0, x1, x2, x3, x4)]).length = q.length + 1 by simp]; exact unhide O5), B5⟩
          case measure => simp [intOf]; omega
    · obtain rfl : k = n := by omega
      have EP := hide (show p = ownL ps a i by rw [unhide HP, List.take_of_length_le (by omega)])
      have EQ := hide (show q = restL ps a i by rw [unhide HQ, List.take_of_length_le (by omega)])
      clear HP HQ
      go_wp2
      go_ret2
      rw [← unhide EP, ← unhide EQ]
      exact ⟨g1, c1, g2, c2, rfl, unhide H1, unhide H2, g12, unhide HB⟩

theorem take_sum {ps : List T5} (h : ∀ p ∈ ps, Pos p) (k : Nat) : 0 ≤ sumQ (ps.take k) ∧ sumQ (ps.take k) ≤ sumQ ps ∧ 0 ≤ sumC (ps.take k) ∧ sumC (ps.take k) ≤ sumC ps := by
  have e : ps = ps.take k ++ ps.drop k := (List.take_append_drop k ps).symm
  have p1 := sum_pos (ps.take k) (fun p hp => h p (List.mem_of_mem_take hp))
  have p2 := sum_pos (ps.drop k) (fun p hp => h p (List.mem_of_mem_drop hp))
  have e1 := sumQ_append (ps.take k) (ps.drop k)
  have e2 := sumC_append (ps.take k) (ps.drop k)
  rw [← e] at e1 e2
  omega

set_option maxRecDepth 100000 in
theorem sQty (w : World) (g n cap : Nat) (ps : List T5) (hl : ps.length = n) (h20 : n ≤ 1048576) (h : At5 w g ps) (hp : ∀ p ∈ ps, Pos p) (hs : sumQ ps ≤ 1000000000000000) :
    Calls Try.prog 50 #[.slice (some ⟨g, 0, none⟩) n cap] w fun e w' => e = .returned (.int .i64 (sumQ ps)) ∧ Below w.heap.size w w' := by
  have HP := hide hp
  clear hp
  go_enter Try.func50, Try.ntmps50
  go_wp2
  go_loopw [3, 4] (fun q j wr => ∃ (k : Nat) (s : Int), q = .int .i64 s ∧ j = .int .i64 k ∧ k ≤ n ∧ At5 wr g ps ∧ Hid (s = sumQ (ps.take k)) ∧ Hid (Below w.heap.size w wr)) (fun _ j _ => n - (intOf j).toNat)
  case atStart => exact ⟨0, 0, rfl, rfl, by omega, h, hide rfl, hide (Below.refl _ _)⟩
  case round =>
    clear h
    obtain ⟨k, s, rfl, rfl, hk, h, HS, HB⟩ := hrel
    have ts := take_sum (unhide HP) k
    have s0 : 0 ≤ s := by rw [unhide HS]; omega
    by_cases t : k < n
    · obtain ⟨e0, e1, e2, e3, e4⟩ := h k (by omega)
      have ts1 := take_sum (unhide HP) (k + 1)
      have NX := hide (sumQ_next (ps := ps) (k := k) (by omega))
      rw [← unhide HS] at NX
      have xp := (unhide HP) _ (getD_mem (ps := ps) (i := k) (by omega))
      unfold Pos at xp
      have b1 : s + (el5 ps k).2.2.2.1 ≤ 1000000000000000 := by rw [← unhide NX]; omega
      have HA := hide h
      clear h HS ts ts1
      obtain ⟨⟨x31, x32⟩, x41, x42⟩ := xp
      generalize (el5 ps k).1 = x0 at *
      generalize (el5 ps k).2.1 = x1 at *
      generalize (el5 ps k).2.2.1 = x2 at *
      generalize (el5 ps k).2.2.2.1 = x3 at *
      generalize (el5 ps k).2.2.2.2 = x4 at *
      have wS : IntKind.i64.wrap (s + x3) = s + x3 := by rw [IntKind.wrap_i64]; omega
      go_wp2
      go_roundw
      case rel => exact ⟨k + 1, s + x3, rfl, by go_num, by omega, unhide HA, hide (unhide NX).symm, HB⟩
      case measure => simp [intOf]; omega
    · obtain rfl : k = n := by omega
      have E := hide (show s = sumQ ps by rw [unhide HS, List.take_of_length_le (by omega)])
      clear h HS ts
      go_wp2
      go_ret
      exact ⟨by rw [← unhide E]; rfl, unhide HB⟩

set_option maxRecDepth 100000 in
theorem sCost (w : World) (g n cap : Nat) (ps : List T5) (hl : ps.length = n) (h20 : n ≤ 1048576) (h : At5 w g ps) (hp : ∀ p ∈ ps, Pos p) (hs : sumC ps ≤ 1000000000000000) :
    Calls Try.prog 54 #[.slice (some ⟨g, 0, none⟩) n cap] w fun e w' => e = .returned (.int .i64 (sumC ps)) ∧ Below w.heap.size w w' := by
  have HP := hide hp
  clear hp
  go_enter Try.func54, Try.ntmps54
  go_wp2
  go_loopw [3, 4] (fun q j wr => ∃ (k : Nat) (s : Int), q = .int .i64 s ∧ j = .int .i64 k ∧ k ≤ n ∧ At5 wr g ps ∧ Hid (s = sumC (ps.take k)) ∧ Hid (Below w.heap.size w wr)) (fun _ j _ => n - (intOf j).toNat)
  case atStart => exact ⟨0, 0, rfl, rfl, by omega, h, hide rfl, hide (Below.refl _ _)⟩
  case round =>
    clear h
    obtain ⟨k, s, rfl, rfl, hk, h, HS, HB⟩ := hrel
    have ts := take_sum (unhide HP) k
    have s0 : 0 ≤ s := by rw [unhide HS]; omega
    by_cases t : k < n
    · obtain ⟨e0, e1, e2, e3, e4⟩ := h k (by omega)
      have ts1 := take_sum (unhide HP) (k + 1)
      have NX := hide (sumC_next (ps := ps) (k := k) (by omega))
      rw [← unhide HS] at NX
      have xp := (unhide HP) _ (getD_mem (ps := ps) (i := k) (by omega))
      unfold Pos at xp
      have b1 : s + (el5 ps k).2.2.2.2 ≤ 1000000000000000 := by rw [← unhide NX]; omega
      have HA := hide h
      clear h HS ts ts1
      obtain ⟨⟨x31, x32⟩, x41, x42⟩ := xp
      generalize (el5 ps k).1 = x0 at *
      generalize (el5 ps k).2.1 = x1 at *
      generalize (el5 ps k).2.2.1 = x2 at *
      generalize (el5 ps k).2.2.2.1 = x3 at *
      generalize (el5 ps k).2.2.2.2 = x4 at *
      have wS : IntKind.i64.wrap (s + x4) = s + x4 := by rw [IntKind.wrap_i64]; omega
      go_wp2
      go_roundw
      case rel => exact ⟨k + 1, s + x4, rfl, by go_num, by omega, unhide HA, hide (unhide NX).symm, HB⟩
      case measure => simp [intOf]; omega
    · obtain rfl : k = n := by omega
      have E := hide (show s = sumC ps by rw [unhide HS, List.take_of_length_le (by omega)])
      clear h HS ts
      go_wp2
      go_ret
      exact ⟨by rw [← unhide E]; rfl, unhide HB⟩

set_option maxRecDepth 100000 in
set_option maxHeartbeats 4000000 in
theorem sMerge (w : World) (ga na ca gb nb cb : Nat) (ps qs : List T5) (hl1 : ps.length = na) (hl2 : qs.length = nb) (h1 : na ≤ 100000) (h2 : nb ≤ 100000) (hga : ga < w.heap.size) (hgb : gb < w.heap.size) (ha : At5 w ga ps) (hb : At5 w gb qs) :
    Calls Try.prog 35 #[.slice (some ⟨ga, 0, none⟩) na ca, .slice (some ⟨gb, 0, none⟩) nb cb] w fun e w' => ∃ g' c', e = .returned (.slice (some ⟨g', 0, none⟩) (na + nb) c') ∧ Own5 40 w' w.heap.size g' (na + nb) c' (mergeL (na + nb) ps qs) ∧ Below w.heap.size w w' := by
  have HA := hide ha
  have HBB := hide hb
  clear ha hb
  have O1 := hide (lit50 40 w w.heap.size (Nat.le_refl _))
  have B0 := hide (show Below w.heap.size w (w.alloc (.cells #[] 40)) from (Below.refl _ _).alloc (Nat.le_refl _) _)
  go_enter Try.func35, Try.ntmps35
  obtain ⟨R, hR⟩ : ∃ R, R = mergeL (na + nb) ps qs := ⟨_, rfl⟩
  have HR := hide hR
  have RL : R.length = na + nb := by rw [hR, merge_len _ _ _ (by omega), hl1, hl2]
  clear hR
  go_wp2
  generalize w.alloc (.cells #[] 40) = w0 at *
  go_loopw [5, 6, 7] (fun l j m wr => ∃ (out : List T5) (gO c i k : Nat), l = .slice (some ⟨gO, 0, none⟩) out.length c ∧ j = .int .i64 i ∧ m = .int .i64 k ∧ i ≤ na ∧ k ≤ nb ∧ Hid (out.length = i + k) ∧ Hid (Own5 40 wr w.heap.size gO out.length c out) ∧ Hid (out ++ mergeL (na + nb - (i + k)) (ps.drop i) (qs.drop k) = R) ∧ Hid (Below w.heap.size w wr)) (fun _ j m _ => na + nb - ((intOf j).toNat + (intOf m).toNat))
  case atStart => exact ⟨[], w.heap.size, 0, 0, 0, rfl, rfl, rfl, by omega, by omega, hide rfl, O1, hide (by rw [unhide HR]; rfl), B0⟩
  case round =>
    clear O1 B0
    obtain ⟨out, gO, c, i, k, rfl, rfl, rfl, hi, hk, OL, HO, HE, HB⟩ := hrel
    have ob : out.length ≤ 200000 := by have := unhide OL; omega
    have gl := (unhide HO).lt.2
    have bs := (unhide HB).size
    have gna : ga < wr.heap.size := by omega
    have gnb : gb < wr.heap.size := by omega
    rcases (show (i < na ∧ k < nb) ∨ (i < na ∧ k = nb) ∨ (i = na ∧ k < nb) ∨ (i = na ∧ k = nb) by omega) with ⟨ti, tk⟩ | ⟨ti, rfl⟩ | ⟨rfl, tk⟩ | ⟨rfl, rfl⟩
    · obtain ⟨f0, f1, f2, f3, f4⟩ := (unhide HA).below (unhide HB) hga i (by omega)
      obtain ⟨d0, d1, d2, d3, d4⟩ := (unhide HBB).below (unhide HB) hgb k (by omega)
      have DX := hide (drop_next (ps := ps) (k := i) (by omega))
      have DY := hide (drop_next (ps := qs) (k := k) (by omega))
      rw [drop_next (ps := ps) (k := i) (by omega), drop_next (ps := qs) (k := k) (by omega), show na + nb - (i + k) = (na + nb - (i + k + 1)) + 1 by omega] at HE
      have kz : ((k : Int) == (nb : Int)) = false := by rw [beq_eq_false_iff_ne]; omega
      have ki : (i : Int) < (na : Int) := by omega
      have kk : (k : Int) < (nb : Int) := by omega
      have kn : ¬ ((k : Int) = (nb : Int)) := by omega
      rw [show el5 ps i = ((el5 ps i).1, (el5 ps i).2.1, (el5 ps i).2.2.1, (el5 ps i).2.2.2.1, (el5 ps i).2.2.2.2) from rfl] at HE DX
      generalize (el5 ps i).1 = x0 at *
      generalize (el5 ps i).2.1 = x1 at *
      generalize (el5 ps i).2.2.1 = x2 at *
      generalize (el5 ps i).2.2.2.1 = x3 at *
      generalize (el5 ps i).2.2.2.2 = x4 at *
      rw [show el5 qs k = ((el5 qs k).1, (el5 qs k).2.1, (el5 qs k).2.2.1, (el5 qs k).2.2.2.1, (el5 qs k).2.2.2.2) from rfl] at HE DY
      generalize (el5 qs k).1 = y0 at *
      generalize (el5 qs k).2.1 = y1 at *
      generalize (el5 qs k).2.2.1 = y2 at *
      generalize (el5 qs k).2.2.2.1 = y3 at *
      generalize (el5 qs k).2.2.2.2 = y4 at *
      obtain ⟨b2, B2⟩ := says_of (Bef (x0, x1, x2, x3, x4) (y0, y1, y2, y3, y4))
      go_wp2_with fail
      have Cx0 : ∀ n : Near wr, n.u.cell? ⟨ga, i * 5, none⟩ = some (.int .i64 x0) := fun n => (n.b.cell (p := ⟨ga, i * 5, none⟩) gna).trans f0
      have Cx1 : ∀ n : Near wr, n.u.cell? ⟨ga, i * 5 + 1, none⟩ = some (.int .i64 x1) := fun n => (n.b.cell (p := ⟨ga, i * 5 + 1, none⟩) gna).trans f1
      have Cx2 : ∀ n : Near wr, n.u.cell? ⟨ga, i * 5 + 2, none⟩ = some (.int .i64 x2) := fun n => (n.b.cell (p := ⟨ga, i * 5 + 2, none⟩) gna).trans f2
      have Cx3 : ∀ n : Near wr, n.u.cell? ⟨ga, i * 5 + 3, none⟩ = some (.int .i64 x3) := fun n => (n.b.cell (p := ⟨ga, i * 5 + 3, none⟩) gna).trans f3
      have Cx4 : ∀ n : Near wr, n.u.cell? ⟨ga, i * 5 + 4, none⟩ = some (.int .i64 x4) := fun n => (n.b.cell (p := ⟨ga, i * 5 + 4, none⟩) gna).trans f4
      have Cy0 : ∀ n : Near wr, n.u.cell? ⟨gb, k * 5, none⟩ = some (.int .i64 y0) := fun n => (n.b.cell (p := ⟨gb, k * 5, none⟩) gnb).trans d0
      have Cy1 : ∀ n : Near wr, n.u.cell? ⟨gb, k * 5 + 1, none⟩ = some (.int .i64 y1) := fun n => (n.b.cell (p := ⟨gb, k * 5 + 1, none⟩) gnb).trans d1
      have Cy2 : ∀ n : Near wr, n.u.cell? ⟨gb, k * 5 + 2, none⟩ = some (.int .i64 y2) := fun n => (n.b.cell (p := ⟨gb, k * 5 + 2, none⟩) gnb).trans d2
      have Cy3 : ∀ n : Near wr, n.u.cell? ⟨gb, k * 5 + 3, none⟩ = some (.int .i64 y3) := fun n => (n.b.cell (p := ⟨gb, k * 5 + 3, none⟩) gnb).trans d3
      have Cy4 : ∀ n : Near wr, n.u.cell? ⟨gb, k * 5 + 4, none⟩ = some (.int .i64 y4) := fun n => (n.b.cell (p := ⟨gb, k * 5 + 4, none⟩) gnb).trans d4
      have near := near_is wr
      cases b2
      · have HE := hide (show out ++ ((y0, y1, y2, y3, y4) :: mergeL (na + nb - (i + k + 1)) ((x0, x1, x2, x3, x4) :: ps.drop (i + 1)) (qs.drop (k + 1))) = R from by rw [← unhide HE, merge_no B2.no])
        refine quiet_near (by kernel_rfl) (by kernel_rfl) ?_
        repeat (go_big_quiet_step (first
          | (go_at_call 62
             rename_i nn
             refine (sBef x0 x1 x2 x3 x4 y0 y1 y2 y3 y4 false nn.u B2).mono ?_
             rintro e u6 ⟨rfl, b6⟩
             exact ⟨rfl, ⟨u6, next nn.b b6⟩, rfl⟩)))
        refine wpQuiet_nil ?_
        rintro u ⟨⟨_, b9⟩, rfl⟩
        have HO := hide ((unhide HO).below b9 gl)
        have HB := hide (next (unhide HB) b9)
        have z0 : u.cell? ⟨gb, k * 5, none⟩ = some (.int .i64 y0) := (b9.cell (p := ⟨gb, k * 5, none⟩) gnb).trans d0
        have z1 : u.cell? ⟨gb, k * 5 + 1, none⟩ = some (.int .i64 y1) := (b9.cell (p := ⟨gb, k * 5 + 1, none⟩) gnb).trans d1
        have z2 : u.cell? ⟨gb, k * 5 + 2, none⟩ = some (.int .i64 y2) := (b9.cell (p := ⟨gb, k * 5 + 2, none⟩) gnb).trans d2
        have z3 : u.cell? ⟨gb, k * 5 + 3, none⟩ = some (.int .i64 y3) := (b9.cell (p := ⟨gb, k * 5 + 3, none⟩) gnb).trans d3
        have z4 : u.cell? ⟨gb, k * 5 + 4, none⟩ = some (.int .i64 y4) := (b9.cell (p := ⟨gb, k * 5 + 4, none⟩) gnb).trans d4
        clear b9 near Cx0 Cy0 f0 d0 Cx1 Cy1 f1 d1 Cx2 Cy2 f2 d2 Cx3 Cy3 f3 d3 Cx4 Cy4 f4 d4
        have bs := (unhide HB).size
        have V5 := hide (show Holds5 (u.alloc (.cells #[.int .i64 y0, .int .i64 y1, .int .i64 y2, .int .i64 y3, .int .i64 y4] 40)) u.heap.size 0 (y0, y1, y2, y3, y4) from by unfold Holds5; simp)
        go_wp2_with (first | (at_builtin; refine LotApp.wp_app _ rfl _ _ rfl w.heap.size gO out.length c out u.heap.size y0 y1 y2 y3 y4 rfl rfl ((unhide HO).alloc _) (unhide V5) (by omega) (by simp; omega) ?_) | go_in)
        intro g5 c5 w5 o5 gr5 loc5
        have O5 := hide o5
        have B5 := hide (((unhide HB).alloc bs (.cells #[.int .i64 y0, .int .i64 y1, .int .i64 y2, .int .i64 y3, .int .i64 y4] 40)).grown gr5 (by simp; omega) (fun j hj => by cases hj; exact (unhide HO).lt.1))
        have E5 := hide (show (out ++ [(y0, y1, y2, y3, y4)]) ++ mergeL (na + nb - (i + k + 1)) ((x0, x1, x2, x3, x4) :: ps.drop (i + 1)) (qs.drop (k + 1)) = R from by rw [List.append_assoc]; exact unhide HE)
        clear o5 gr5 loc5 V5 HE
        go_wp2
        go_roundw
        case rel => exact ⟨out ++ [(y0, y1, y2, y3, y4)], g5, c5, i, k + 1, by rw [show (out ++ [(y0, y1, y2, y3, y4)]).length = out.length + 1 by simp], by go_num, by go_num, by omega, by omega, hide (by have := unhide OL; simp; omega), hide (by rw [show (out ++ [(y0, y1, y2, y3, y4)]).length = out.length + 1 by simp]; exact unhide O5), hide (by rw [show i + (k + 1) = i + k + 1 by omega, unhide DX]; exact unhide E5), B5⟩
        case measure => simp [intOf]; omega
      · have HE := hide (show out ++ ((x0, x1, x2, x3, x4) :: mergeL (na + nb - (i + k + 1)) (ps.drop (i + 1)) ((y0, y1, y2, y3, y4) :: qs.drop (k + 1))) = R from by rw [← unhide HE, merge_yes B2.yes])
        refine quiet_near (by kernel_rfl) (by kernel_rfl) ?_
        repeat (go_big_quiet_step (first
          | (go_at_call 62
             rename_i nn
             refine (sBef x0 x1 x2 x3 x4 y0 y1 y2 y3 y4 true nn.u B2).mono ?_
             rintro e u6 ⟨rfl, b6⟩
             exact ⟨rfl, ⟨u6, next nn.b b6⟩, rfl⟩)))
        refine wpQuiet_nil ?_
        rintro u ⟨⟨_, b9⟩, rfl⟩
        have HO := hide ((unhide HO).below b9 gl)
        have HB := hide (next (unhide HB) b9)
        have z0 : u.cell? ⟨ga, i * 5, none⟩ = some (.int .i64 x0) := (b9.cell (p := ⟨ga, i * 5, none⟩) gna).trans f0
        have z1 : u.cell? ⟨ga, i * 5 + 1, none⟩ = some (.int .i64 x1) := (b9.cell (p := ⟨ga, i * 5 + 1, none⟩) gna).trans f1
        have z2 : u.cell? ⟨ga, i * 5 + 2, none⟩ = some (.int .i64 x2) := (b9.cell (p := ⟨ga, i * 5 + 2, none⟩) gna).trans f2
        have z3 : u.cell? ⟨ga, i * 5 + 3, none⟩ = some (.int .i64 x3) := (b9.cell (p := ⟨ga, i * 5 + 3, none⟩) gna).trans f3
        have z4 : u.cell? ⟨ga, i * 5 + 4, none⟩ = some (.int .i64 x4) := (b9.cell (p := ⟨ga, i * 5 + 4, none⟩) gna).trans f4
        clear b9 near Cx0 Cy0 f0 d0 Cx1 Cy1 f1 d1 Cx2 Cy2 f2 d2 Cx3 Cy3 f3 d3 Cx4 Cy4 f4 d4
        have bs := (unhide HB).size
        have V5 := hide (show Holds5 (u.alloc (.cells #[.int .i64 x0, .int .i64 x1, .int .i64 x2, .int .i64 x3, .int .i64 x4] 40)) u.heap.size 0 (x0, x1, x2, x3, x4) from by unfold Holds5; simp)
        go_wp2_with (first | (at_builtin; refine LotApp.wp_app _ rfl _ _ rfl w.heap.size gO out.length c out u.heap.size x0 x1 x2 x3 x4 rfl rfl ((unhide HO).alloc _) (unhide V5) (by omega) (by simp; omega) ?_) | go_in)
        intro g5 c5 w5 o5 gr5 loc5
        have O5 := hide o5
        have B5 := hide (((unhide HB).alloc bs (.cells #[.int .i64 x0, .int .i64 x1, .int .i64 x2, .int .i64 x3, .int .i64 x4] 40)).grown gr5 (by simp; omega) (fun j hj => by cases hj; exact (unhide HO).lt.1))
        have E5 := hide (show (out ++ [(x0, x1, x2, x3, x4)]) ++ mergeL (na + nb - (i + k + 1)) (ps.drop (i + 1)) ((y0, y1, y2, y3, y4) :: qs.drop (k + 1)) = R from by rw [List.append_assoc]; exact unhide HE)
        clear o5 gr5 loc5 V5 HE
        go_wp2
        go_roundw
        case rel => exact ⟨out ++ [(x0, x1, x2, x3, x4)], g5, c5, i + 1, k, by rw [show (out ++ [(x0, x1, x2, x3, x4)]).length = out.length + 1 by simp], by go_num, by go_num, by omega, by omega, hide (by have := unhide OL; simp; omega), hide (by rw [show (out ++ [(x0, x1, x2, x3, x4)]).length = out.length + 1 by simp]; exact unhide O5), hide (by rw [show i + 1 + k = i + k + 1 by omega, unhide DY]; exact unhide E5), B5⟩
        case measure => simp [intOf]; omega
    · obtain ⟨f0, f1, f2, f3, f4⟩ := (unhide HA).below (unhide HB) hga i (by omega)
      have HE := hide (show out ++ (el5 ps i :: mergeL (na + k - (i + 1 + k)) (ps.drop (i + 1)) (qs.drop k)) = R from by
        rw [← unhide HE]
        rw [List.drop_of_length_le (l := qs) (by omega), merge_left _ _ (by simp; omega), merge_left _ _ (by simp; omega), ← drop_next (by omega)])
      rw [show el5 ps i = ((el5 ps i).1, (el5 ps i).2.1, (el5 ps i).2.2.1, (el5 ps i).2.2.2.1, (el5 ps i).2.2.2.2) from rfl] at HE
      generalize (el5 ps i).1 = x0 at *
      generalize (el5 ps i).2.1 = x1 at *
      generalize (el5 ps i).2.2.1 = x2 at *
      generalize (el5 ps i).2.2.2.1 = x3 at *
      generalize (el5 ps i).2.2.2.2 = x4 at *
      have ki : (i : Int) < (na : Int) := by omega
      go_wp2_with fail
      go_quiet (fail)
      have HO := hide (show Own5 40 (wr.drewN nq) w.heap.size gO out.length c out from unhide HO)
      have HB := hide (below_drewN (unhide HB) nq)
      have f0 : (wr.drewN nq).cell? ⟨ga, i * 5, none⟩ = some (.int .i64 x0) := f0
      have f1 : (wr.drewN nq).cell? ⟨ga, i * 5 + 1, none⟩ = some (.int .i64 x1) := f1
      have f2 : (wr.drewN nq).cell? ⟨ga, i * 5 + 2, none⟩ = some (.int .i64 x2) := f2
      have f3 : (wr.drewN nq).cell? ⟨ga, i * 5 + 3, none⟩ = some (.int .i64 x3) := f3
      have f4 : (wr.drewN nq).cell? ⟨ga, i * 5 + 4, none⟩ = some (.int .i64 x4) := f4
      clear gl bs gna gnb
      generalize wr.drewN nq = u at *
      have gl := (unhide HO).lt.2
      have bs := (unhide HB).size
      have V5 := hide (show Holds5 (u.alloc (.cells #[.int .i64 x0, .int .i64 x1, .int .i64 x2, .int .i64 x3, .int .i64 x4] 40)) u.heap.size 0 (x0, x1, x2, x3, x4) from by unfold Holds5; simp)
      go_wp2_with (first | (at_builtin; refine LotApp.wp_app _ rfl _ _ rfl w.heap.size gO out.length c out u.heap.size x0 x1 x2 x3 x4 rfl rfl ((unhide HO).alloc _) (unhide V5) (by omega) (by simp; omega) ?_) | go_in)
      intro g5 c5 w5 o5 gr5 loc5
      have O5 := hide o5
      have B5 := hide (((unhide HB).alloc bs (.cells #[.int .i64 x0, .int .i64 x1, .int .i64 x2, .int .i64 x3, .int .i64 x4] 40)).grown gr5 (by simp; omega) (fun j hj => by cases hj; exact (unhide HO).lt.1))
      have E5 := hide (show (out ++ [(x0, x1, x2, x3, x4)]) ++ mergeL (na + k - (i + 1 + k)) (ps.drop (i + 1)) (qs.drop k) = R from by rw [List.append_assoc]; exact unhide HE)
      clear o5 gr5 loc5 V5 HE
      go_wp2
      go_roundw
      case rel => exact ⟨out ++ [(x0, x1, x2, x3, x4)], g5, c5, i + 1, k, by rw [show (out ++ [(x0, x1, x2, x3, x4)]).length = out.length + 1 by simp], by go_num, by go_num, by omega, by omega, hide (by have := unhide OL; simp; omega), hide (by rw [show (out ++ [(x0, x1, x2, x3, x4)]).length = out.length + 1 by simp]; exact unhide O5), E5, B5⟩
      case measure => simp [intOf]; omega
    · obtain ⟨f0, f1, f2, f3, f4⟩ := (unhide HBB).below (unhide HB) hgb k (by omega)
      have HE := hide (show out ++ (el5 qs k :: mergeL (i + nb - (i + (k + 1))) (ps.drop i) (qs.drop (k + 1))) = R from by
        rw [← unhide HE]
        rw [List.drop_of_length_le (l := ps) (by omega), merge_right _ _ (by simp; omega), merge_right _ _ (by simp; omega), ← drop_next (by omega)])
      rw [show el5 qs k = ((el5 qs k).1, (el5 qs k).2.1, (el5 qs k).2.2.1, (el5 qs k).2.2.2.1, (el5 qs k).2.2.2.2) from rfl] at HE
      generalize (el5 qs k).1 = y0 at *
      generalize (el5 qs k).2.1 = y1 at *
      generalize (el5 qs k).2.2.1 = y2 at *
      generalize (el5 qs k).2.2.2.1 = y3 at *
      generalize (el5 qs k).2.2.2.2 = y4 at *
      have kz : ((k : Int) == (nb : Int)) = false := by rw [beq_eq_false_iff_ne]; omega
      have kk : (k : Int) < (nb : Int) := by omega
      have kn : ¬ ((k : Int) = (nb : Int)) := by omega
      go_wp2_with fail
      go_quiet (fail)
      have HO := hide (show Own5 40 (wr.drewN nq) w.heap.size gO out.length c out from unhide HO)
      have HB := hide (below_drewN (unhide HB) nq)
      have f0 : (wr.drewN nq).cell? ⟨gb, k * 5, none⟩ = some (.int .i64 y0) := f0
      have f1 : (wr.drewN nq).cell? ⟨gb, k * 5 + 1, none⟩ = some (.int .i64 y1) := f1
      have f2 : (wr.drewN nq).cell? ⟨gb, k * 5 + 2, none⟩ = some (.int .i64 y2) := f2
      have f3 : (wr.drewN nq).cell? ⟨gb, k * 5 + 3, none⟩ = some (.int .i64 y3) := f3
      have f4 : (wr.drewN nq).cell? ⟨gb, k * 5 + 4, none⟩ = some (.int .i64 y4) := f4
      clear gl bs gna gnb
      generalize wr.drewN nq = u at *
      have gl := (unhide HO).lt.2
      have bs := (unhide HB).size
      have V5 := hide (show Holds5 (u.alloc (.cells #[.int .i64 y0, .int .i64 y1, .int .i64 y2, .int .i64 y3, .int .i64 y4] 40)) u.heap.size 0 (y0, y1, y2, y3, y4) from by unfold Holds5; simp)
      go_wp2_with (first | (at_builtin; refine LotApp.wp_app _ rfl _ _ rfl w.heap.size gO out.length c out u.heap.size y0 y1 y2 y3 y4 rfl rfl ((unhide HO).alloc _) (unhide V5) (by omega) (by simp; omega) ?_) | go_in)
      intro g5 c5 w5 o5 gr5 loc5
      have O5 := hide o5
      have B5 := hide (((unhide HB).alloc bs (.cells #[.int .i64 y0, .int .i64 y1, .int .i64 y2, .int .i64 y3, .int .i64 y4] 40)).grown gr5 (by simp; omega) (fun j hj => by cases hj; exact (unhide HO).lt.1))
      have E5 := hide (show (out ++ [(y0, y1, y2, y3, y4)]) ++ mergeL (i + nb - (i + (k + 1))) (ps.drop i) (qs.drop (k + 1)) = R from by rw [List.append_assoc]; exact unhide HE)
      clear o5 gr5 loc5 V5 HE
      go_wp2
      go_roundw
      case rel => exact ⟨out ++ [(y0, y1, y2, y3, y4)], g5, c5, i, k + 1, by rw [show (out ++ [(y0, y1, y2, y3, y4)]).length = out.length + 1 by simp], by go_num, by go_num, by omega, by omega, hide (by have := unhide OL; simp; omega), hide (by rw [show (out ++ [(y0, y1, y2, y3, y4)]).length = out.length + 1 by simp]; exact unhide O5), E5, B5⟩
      case measure => simp [intOf]; omega
    · have E := hide (show out = R from by
        have := unhide HE
        rw [show i + k - (i + k) = 0 by omega] at this
        simpa [mergeL] using this)
      clear HE
      go_wp2
      go_ret
      rw [← unhide HR, ← unhide E, ← unhide OL]
      exact ⟨gO, c, rfl, unhide HO, unhide HB⟩

end Go.Proofs.Ytdnpjjbphamcmaa.SSplit
