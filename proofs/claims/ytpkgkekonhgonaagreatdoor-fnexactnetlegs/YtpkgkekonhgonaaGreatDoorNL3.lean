/- Texts of one proof, one behind the other: LotApp, SSplit, ICut, Cat5, Wide, Concat5, IPl. -/
import Derived.Test.YtpkgkekonhgonaaGreatDoorRows
import Derived.Test.YtpkgkekonhgonaaGreatDoorCards
import Derived.Test.YtpkgkekonhgonaaGreatDoorTie
import Derived.Test.YtpkgkekonhgonaaGreatDoorNA1
import Derived.Test.YtpkgkekonhgonaaGreatDoorNA2
import Derived.Maps.AppendAt
import Derived.BigRegion
import Derived.Deep.AppendLies
import Derived.Deep.RegionHeld3
import Derived.WalkKit
import Derived.ProofKit
import Derived.OpenShut
import Derived.Below
import Derived.Lib.AppendZerosOnto
import Derived.Lib.AppendZeros
import Derived.WalkSmall
import Derived.BigQuiet
set_option linter.unusedVariables false
set_option linter.unusedSimpArgs false
namespace Go.Proofs.YtpkgkekonhgonaaGreatDoor.LotApp
open Go.ChangeShapes Go.WideShapes Go.ChangeAt Go.RowKit Tup5
theorem info2 : (Tryz.prog.info? 120).map (fun i => (i.zero, i.size, i.bytes)) = some (some (.agg #[.int .i64 0, .int .i64 0, .int .i64 0, .int .i64 0, .int .i64 0]), 5, 40) := by kernel_rfl
theorem wp_app (u : World) {ops : Array Oper} {rest : List Oper} {o : Oper} {a : Act} {Q : Exit → Act → World → Prop} (hgd : o.guard = none) (s x : Operand)
    (ho : o.op = .call { callee := .builtin .append, args := #[s, x], argTypes := #[37, 37] }) (base g n cap : Nat) (ps : List T5) (vb : Nat) (x0 x1 x2 x3 x4 : Int)
    (hs : a.eval s = .slice (some ⟨g, 0, none⟩) n cap) (hx : a.eval x = .slice (some ⟨vb, 0, none⟩) 1 1) (hown : Own5 120 u base g n cap ps) (hv : Holds5 u vb 0 (x0, x1, x2, x3, x4)) (hn : n ≤ 1048576) (hb : base ≤ u.heap.size)
    (h : ∀ g' c' w', Own5 120 w' base g' (n + 1) c' (ps ++ [(x0, x1, x2, x3, x4)]) → u.grownBy w' (some g) → (g' = g ∨ g' = u.heap.size) → wpList Tryz.prog ops Q rest (a.put o.dst (.slice (some ⟨g', 0, none⟩) (n + 1) c')) w') : wpList Tryz.prog ops Q (o :: rest) a u := by
  obtain ⟨i0, hi, hz0, hz1, hz2⟩ := info_parts info2
  have hat : At5 u vb [(x0, x1, x2, x3, x4)] := by
    intro i hi
    obtain rfl : i = 0 := by simpa using hi
    exact hv
  refine wpList_append_own_at u hgd s x 37 ho base 120 i0 (.agg #[.int .i64 0, .int .i64 0, .int .i64 0, .int .i64 0, .int .i64 0]) 5 40 Tryz.underlying37 hi hz0 hz1 hz2 rfl (by decide) _ n _ hs hown ⟨vb, 0, none⟩ 1 1 (flat5 [(x0, x1, x2, x3, x4)]) hx rfl hat.cells (fun u hu => flat5_one u _ hu) (by unfold maxLen; omega) (by omega) hb ?_
  intro v' w' own' gr' nil' loc'
  obtain ⟨g', c', rfl, o'⟩ := own5_of_row (n' := n + 1) (ps := ps ++ [(x0, x1, x2, x3, x4)]) own' rfl (by rw [flat5_append]) (by rw [nil']; simp)
  exact h g' c' w' o' gr' (by simpa [Value.ownBlock] using loc')
end Go.Proofs.YtpkgkekonhgonaaGreatDoor.LotApp
namespace Go.Proofs.YtpkgkekonhgonaaGreatDoor.SSplit
open Go.ChangeShapes Go.WideShapes Go.ChangeAt Go.RowKit Tup5 Lots Takes SOk5 Quieter
set_option maxRecDepth 100000 in
set_option maxHeartbeats 4000000 in
theorem sSplit (w : World) (g n cap : Nat) (ps : List T5) (a i : Int) (hl : ps.length = n) (h20 : n ≤ 100000) (hg : g < w.heap.size) (h : At5 w g ps) :
    Calls Tryz.prog 111 #[.slice (some ⟨g, 0, none⟩) n cap, .int .i64 a, .int .i64 i] w fun e w' => ∃ g1 c1 g2 c2, e = .returned (.tuple #[.slice (some ⟨g1, 0, none⟩) (ownL ps a i).length c1, .slice (some ⟨g2, 0, none⟩) (restL ps a i).length c2]) ∧ Own5 120 w' w.heap.size g1 (ownL ps a i).length c1 (ownL ps a i) ∧ Own5 120 w' w.heap.size g2 (restL ps a i).length c2 (restL ps a i) ∧ g1 ≠ g2 ∧ Below w.heap.size w w' := by
  have H := hide h
  clear h
  have O1 := hide ((lit50 120 w w.heap.size (Nat.le_refl _)).alloc (.cells #[] 120))
  have O2 := hide (lit50 120 (w.alloc (.cells #[] 120)) w.heap.size (by simp))
  have B0 := hide (show Below w.heap.size w ((w.alloc (.cells #[] 120)).alloc (.cells #[] 120)) from ((Below.refl _ _).alloc (Nat.le_refl _) _).alloc (by simp) _)
  simp only [World.size_alloc] at O2
  go_enter Tryz.func111, Tryz.ntmps111
  go_wp2
  generalize (w.alloc (.cells #[] 120)).alloc (.cells #[] 120) = w0 at *
  go_loopw [8, 9, 10] (fun l m j wr => ∃ (p q : List T5) (g1 c1 g2 c2 k : Nat), l = .slice (some ⟨g1, 0, none⟩) p.length c1 ∧ m = .slice (some ⟨g2, 0, none⟩) q.length c2 ∧ j = .int .i64 k ∧ k ≤ n ∧ p.length ≤ k ∧ q.length ≤ k ∧ g1 ≠ g2 ∧ Hid (p = ownL (ps.take k) a i) ∧ Hid (q = restL (ps.take k) a i) ∧ Hid (Own5 120 wr w.heap.size g1 p.length c1 p) ∧ Hid (Own5 120 wr w.heap.size g2 q.length c2 q) ∧ Hid (Below w.heap.size w wr)) (fun _ _ j _ => n - (intOf j).toNat)
  case atStart => exact ⟨[], [], w.heap.size, 0, w.heap.size + 1, 0, 0, rfl, rfl, rfl, by omega, by simp, by simp, by omega, hide rfl, hide rfl, O1, O2, B0⟩
  case round =>
    clear O1 O2 B0
    obtain ⟨p, q, g1, c1, g2, c2, k, rfl, rfl, rfl, hk, pl, ql, g12, HP, HQ, H1, H2, HB⟩ := hrel
    have bs := (unhide HB).size
    have gl1 := (unhide H1).lt.2
    have gl2 := (unhide H2).lt.2
    by_cases t : k < n
    · obtain ⟨e0, e1, e2, e3, e4⟩ := (unhide H).below (unhide HB) hg k (by omega)
      have NP := hide (own_next (ps := ps) (k := k) (by omega) a i)
      have NQ := hide (rest_next (ps := ps) (k := k) (by omega) a i)
      rw [← unhide HP] at NP
      rw [← unhide HQ] at NQ
      have EQ : el5 ps k = ((el5 ps k).1, (el5 ps k).2.1, (el5 ps k).2.2.1, (el5 ps k).2.2.2.1, (el5 ps k).2.2.2.2) := rfl
      rw [EQ] at NP NQ
      clear EQ HP HQ
      generalize (el5 ps k).1 = x0 at *
      generalize (el5 ps k).2.1 = x1 at *
      generalize (el5 ps k).2.2.1 = x2 at *
      generalize (el5 ps k).2.2.2.1 = x3 at *
      generalize (el5 ps k).2.2.2.2 = x4 at *
      have V5 := hide (show Holds5 (wr.alloc (.cells #[.int .i64 x0, .int .i64 x1, .int .i64 x2, .int .i64 x3, .int .i64 x4] 120)) wr.heap.size 0 (x0, x1, x2, x3, x4) from by unfold Holds5; simp)
      by_cases own : x0 = a ∧ x1 = i
      · have NP1 : Hid (ownL (ps.take (k + 1)) a i = p ++ [(x0, x1, x2, x3, x4)]) := hide (by rw [unhide NP, if_pos own])
        have NQ1 : Hid (restL (ps.take (k + 1)) a i = q) := hide (by rw [unhide NQ, if_pos own, List.append_nil])
        clear NP NQ
        obtain ⟨rfl, rfl⟩ := own
        go_wp2_with (first | (at_builtin; refine LotApp.wp_app _ rfl _ _ rfl w.heap.size g1 p.length c1 p wr.heap.size x0 x1 x2 x3 x4 rfl rfl ((unhide H1).alloc _) (unhide V5) (by omega) (by simp; omega) ?_) | go_in)
        intro g5 c5 w5 o5 gr5 loc5
        have O5 := hide o5
        have K5 := hide (((unhide H2).alloc (.cells #[.int .i64 x0, .int .i64 x1, .int .i64 x2, .int .i64 x3, .int .i64 x4] 120)).kept gr5 (by simp; omega))
        have B5 := hide (((unhide HB).alloc bs (.cells #[.int .i64 x0, .int .i64 x1, .int .i64 x2, .int .i64 x3, .int .i64 x4] 120)).grown gr5 (by simp; omega) (fun j hj => by cases hj; exact (unhide H1).lt.1))
        have g5B : g5 ≠ g2 := by
          try simp at loc5
          omega
        clear o5 gr5 loc5 V5
        go_wp2
        go_roundw
        case rel => exact ⟨p ++ [(x0, x1, x2, x3, x4)], q, g5, c5, g2, c2, k + 1, by rw [show (p ++ [(x0, x1, x2, x3, x4)]).length = p.length + 1 by simp], rfl, by go_num, by omega, by simp; omega, by omega, g5B, hide (unhide NP1).symm, hide (unhide NQ1).symm, hide (by rw [show (p ++ [(x0, x1, x2, x3, x4)]).length = p.length + 1 by simp]; exact unhide O5), K5, B5⟩
        case measure => simp [intOf]; omega
      · have NP1 : Hid (ownL (ps.take (k + 1)) a i = p) := hide (by rw [unhide NP, if_neg own, List.append_nil])
        have NQ1 : Hid (restL (ps.take (k + 1)) a i = q ++ [(x0, x1, x2, x3, x4)]) := hide (by rw [unhide NQ, if_neg own])
        clear NP NQ
        rcases (show x0 ≠ a ∨ (x0 = a ∧ x1 ≠ i) by omega) with o2 | ⟨rfl, o2⟩
        · have ob : (x0 == a) = false := by simpa using o2
          go_wp2_with (first | (at_builtin; refine LotApp.wp_app _ rfl _ _ rfl w.heap.size g2 q.length c2 q wr.heap.size x0 x1 x2 x3 x4 rfl rfl ((unhide H2).alloc _) (unhide V5) (by omega) (by simp; omega) ?_) | go_in)
          intro g5 c5 w5 o5 gr5 loc5
          have O5 := hide o5
          have K5 := hide (((unhide H1).alloc (.cells #[.int .i64 x0, .int .i64 x1, .int .i64 x2, .int .i64 x3, .int .i64 x4] 120)).kept gr5 (by simp; omega))
          have B5 := hide (((unhide HB).alloc bs (.cells #[.int .i64 x0, .int .i64 x1, .int .i64 x2, .int .i64 x3, .int .i64 x4] 120)).grown gr5 (by simp; omega) (fun j hj => by cases hj; exact (unhide H2).lt.1))
          have g5B : g5 ≠ g1 := by
            try simp at loc5
            omega
          clear o5 gr5 loc5 V5
          go_wp2
          go_roundw
          case rel => exact ⟨p, q ++ [(x0, x1, x2, x3, x4)], g1, c1, g5, c5, k + 1, rfl, by rw [show (q ++ [(x0, x1, x2, x3, x4)]).length = q.length + 1 by simp], by go_num, by omega, by omega, by simp; omega, fun e => g5B e.symm, hide (unhide NP1).symm, hide (unhide NQ1).symm, K5, hide (by rw [show (q ++ [(x0, x1, x2, x3, x4)]).length = q.length + 1 by simp]; exact unhide O5), B5⟩
          case measure => simp [intOf]; omega
        · have ob : (x1 == i) = false := by simpa using o2
          go_wp2_with (first | (at_builtin; refine LotApp.wp_app _ rfl _ _ rfl w.heap.size g2 q.length c2 q wr.heap.size x0 x1 x2 x3 x4 rfl rfl ((unhide H2).alloc _) (unhide V5) (by omega) (by simp; omega) ?_) | go_in)
          intro g5 c5 w5 o5 gr5 loc5
          have O5 := hide o5
          have K5 := hide (((unhide H1).alloc (.cells #[.int .i64 x0, .int .i64 x1, .int .i64 x2, .int .i64 x3, .int .i64 x4] 120)).kept gr5 (by simp; omega))
          have B5 := hide (((unhide HB).alloc bs (.cells #[.int .i64 x0, .int .i64 x1, .int .i64 x2, .int .i64 x3, .int .i64 x4] 120)).grown gr5 (by simp; omega) (fun j hj => by cases hj; exact (unhide H2).lt.1))
          have g5B : g5 ≠ g1 := by
            try simp at loc5
            omega
          clear o5 gr5 loc5 V5
          go_wp2
          go_roundw
          case rel => exact ⟨p, q ++ [(x0, x1, x2, x3, x4)], g1, c1, g5, c5, k + 1, rfl, by rw [show (q ++ [(x0, x1, x2, x3, x4)]).length = q.length + 1 by simp], by go_num, by omega, by omega, by simp; omega, fun e => g5B e.symm, hide (unhide NP1).symm, hide (unhide NQ1).symm, K5, hide (by rw [show (q ++ [(x0, x1, x2, x3, x4)]).length = q.length + 1 by simp]; exact unhide O5), B5⟩
          case measure => simp [intOf]; omega
    · obtain rfl : k = n := by omega
      have EP := hide (show p = ownL ps a i by rw [unhide HP, List.take_of_length_le (by omega)])
      have EQ := hide (show q = restL ps a i by rw [unhide HQ, List.take_of_length_le (by omega)])
      clear HP HQ
      go_wp2
      go_ret2
      rw [← unhide EP, ← unhide EQ]
      exact ⟨g1, c1, g2, c2, rfl, unhide H1, unhide H2, g12, unhide HB⟩
theorem take_sum {ps : List T5} (h : ∀ p ∈ ps, Pos p) (k : Nat) : 0 ≤ sumQ (ps.take k) ∧ sumQ (ps.take k) ≤ sumQ ps ∧ 0 ≤ sumC (ps.take k) ∧ sumC (ps.take k) ≤ sumC ps := by
  have e : ps = ps.take k ++ ps.drop k := (List.take_append_drop k ps).symm
  have p1 := sum_pos (ps.take k) (fun p hp => h p (List.mem_of_mem_take hp))
  have p2 := sum_pos (ps.drop k) (fun p hp => h p (List.mem_of_mem_drop hp))
  have e1 := sumQ_append (ps.take k) (ps.drop k)
  have e2 := sumC_append (ps.take k) (ps.drop k)
  rw [← e] at e1 e2
  omega
set_option maxRecDepth 100000 in
theorem sQty (w : World) (g n cap : Nat) (ps : List T5) (hl : ps.length = n) (h20 : n ≤ 1048576) (h : At5 w g ps) (hp : ∀ p ∈ ps, Pos p) (hs : sumQ ps ≤ 1000000000000000) :
    Calls Tryz.prog 112 #[.slice (some ⟨g, 0, none⟩) n cap] w fun e w' => e = .returned (.int .i64 (sumQ ps)) ∧ Below w.heap.size w w' := by
  have HP := hide hp
  clear hp
  go_enter Tryz.func112, Tryz.ntmps112
  go_wp2
  go_loopw [3, 4] (fun q j wr => ∃ (k : Nat) (s : Int), q = .int .i64 s ∧ j = .int .i64 k ∧ k ≤ n ∧ At5 wr g ps ∧ Hid (s = sumQ (ps.take k)) ∧ Hid (Below w.heap.size w wr)) (fun _ j _ => n - (intOf j).toNat)
  case atStart => exact ⟨0, 0, rfl, rfl, by omega, h, hide rfl, hide (Below.refl _ _)⟩
  case round =>
    clear h
    obtain ⟨k, s, rfl, rfl, hk, h, HS, HB⟩ := hrel
    have ts := take_sum (unhide HP) k
    have s0 : 0 ≤ s := by rw [unhide HS]; omega
    by_cases t : k < n
    · obtain ⟨e0, e1, e2, e3, e4⟩ := h k (by omega)
      have ts1 := take_sum (unhide HP) (k + 1)
      have NX := hide (sumQ_next (ps := ps) (k := k) (by omega))
      rw [← unhide HS] at NX
      have xp := (unhide HP) _ (getD_mem (ps := ps) (i := k) (by omega))
      unfold Pos at xp
      have b1 : s + (el5 ps k).2.2.2.1 ≤ 1000000000000000 := by rw [← unhide NX]; omega
      have HA := hide h
      clear h HS ts ts1
      obtain ⟨⟨x31, x32⟩, x41, x42⟩ := xp
      generalize (el5 ps k).1 = x0 at *
      generalize (el5 ps k).2.1 = x1 at *
      generalize (el5 ps k).2.2.1 = x2 at *
      generalize (el5 ps k).2.2.2.1 = x3 at *
      generalize (el5 ps k).2.2.2.2 = x4 at *
      have wS : IntKind.i64.wrap (s + x3) = s + x3 := by rw [IntKind.wrap_i64]; omega
      go_wp2
      go_roundw
      case rel => exact ⟨k + 1, s + x3, rfl, by go_num, by omega, unhide HA, hide (unhide NX).symm, HB⟩
      case measure => simp [intOf]; omega
    · obtain rfl : k = n := by omega
      have E := hide (show s = sumQ ps by rw [unhide HS, List.take_of_length_le (by omega)])
      clear h HS ts
      go_wp2
      go_ret
      exact ⟨by rw [← unhide E]; rfl, unhide HB⟩
end Go.Proofs.YtpkgkekonhgonaaGreatDoor.SSplit
namespace Go.Proofs.YtpkgkekonhgonaaGreatDoor.ICut
open Go.ChangeShapes Go.WideShapes Go.ChangeAt Go.RowKit Tup5 Lots Takes CmpL IOk5 Quieter
/-- A list that begins at cell o of block g. -/
def AtO (w : World) (g o : Nat) (ps : List T5) : Prop := ∀ i, i < ps.length → Holds5 w g (o + i * 5) (el5 ps i)
theorem AtO.below {w w' : World} {g o B : Nat} {ps : List T5} (h : AtO w g o ps) (k : Below B w w') (hg : g < B) : AtO w' g o ps := fun i hi => (h i hi).below k hg
end Go.Proofs.YtpkgkekonhgonaaGreatDoor.ICut
namespace Go.Proofs.YtpkgkekonhgonaaGreatDoor.Cat5
open Go.ChangeShapes Go.WideShapes Go.ChangeAt Go.RowKit Tup5 Lots Takes ICut
open LotApp (info2)
theorem AtO.cells {w : World} {g o : Nat} {ps : List T5} (h : AtO w g o ps) : ∀ (j : Nat) (u : Value), (flat5 ps)[j]? = some u → w.cell? ((⟨g, o, none⟩ : Addr).add j) = some u := by
  intro j u hj
  have hl : j < ps.length * 5 := by
    have := (List.getElem?_eq_some_iff.1 hj).1
    rw [flat5_len] at this
    exact this
  rw [Addr.add_lit]
  obtain ⟨c0, c1, c2, c3, c4⟩ := h (j / 5) (by omega)
  obtain ⟨f0, f1, f2, f3, f4⟩ := flat5_get ps (j / 5) (by omega)
  rcases (show j % 5 = 0 ∨ j % 5 = 1 ∨ j % 5 = 2 ∨ j % 5 = 3 ∨ j % 5 = 4 by omega) with e | e | e | e | e
  · rw [show o + j / 5 * 5 = o + j by omega] at c0
    rw [show j / 5 * 5 = j by omega] at f0
    rw [c0, ← hj, f0]
  · rw [show o + j / 5 * 5 + 1 = o + j by omega] at c1
    rw [show j / 5 * 5 + 1 = j by omega] at f1
    rw [c1, ← hj, f1]
  · rw [show o + j / 5 * 5 + 2 = o + j by omega] at c2
    rw [show j / 5 * 5 + 2 = j by omega] at f2
    rw [c2, ← hj, f2]
  · rw [show o + j / 5 * 5 + 3 = o + j by omega] at c3
    rw [show j / 5 * 5 + 3 = j by omega] at f3
    rw [c3, ← hj, f3]
  · rw [show o + j / 5 * 5 + 4 = o + j by omega] at c4
    rw [show j / 5 * 5 + 4 = j by omega] at f4
    rw [c4, ← hj, f4]
end Go.Proofs.YtpkgkekonhgonaaGreatDoor.Cat5
namespace Go.Proofs.YtpkgkekonhgonaaGreatDoor.Wide
open Go.ChangeShapes Go.WideShapes Go.ChangeAt Go.RowKit
/-- The world has at most new blocks, and the tape is the one that it was. -/
def Gr (w w' : World) : Prop := Grown w w' ∧ w'.tape = w.tape
theorem Gr.refl (w : World) : Gr w w := ⟨Grown.refl w, rfl⟩
theorem Gr.drew {a w : World} (h : Gr a w) : Gr a w.drew := ⟨Grown.drew h.1, h.2⟩
theorem Gr.alloc {a w : World} (h : Gr a w) (c : Array Value) (t : TypeId) : Gr a (w.alloc (.cells c t)) := ⟨Grown.alloc h.1 c t, h.2⟩
theorem Gr.trans {a b c : World} (h : Gr a b) (k : Gr b c) : Gr a c := by
  obtain ⟨⟨h1, h2, h3⟩, h4⟩ := h
  obtain ⟨⟨k1, k2, k3⟩, k4⟩ := k
  exact ⟨⟨World.keptBut_trans h1 k1, fun x => (k2 x).trans (h2 x), Nat.le_trans h3 k3⟩, k4.trans h4⟩
/-- No block that was there has turned. -/
theorem Gr.below {w w' : World} (h : Gr w w') : Below w.heap.size w w' := by
  obtain ⟨⟨⟨h1, h2, h3⟩, h4, h5⟩, h6⟩ := h
  refine ⟨h1, h6, h2, h5, fun k hk => ?_⟩
  have m := h3 k hk
  revert m
  generalize w.heap[k]? = x
  generalize w'.heap[k]? = y
  intro m
  split at m
  · obtain ⟨rfl, rfl, hs, hj⟩ := m
    exact congrArg (fun z => some (Obj.cells z _ _)) (Array.ext_getElem? (fun j => hj j (by simp)))
  · rcases m with m | ⟨rfl, rfl⟩
    · exact m.elim
    · rfl
  · exact m
end Go.Proofs.YtpkgkekonhgonaaGreatDoor.Wide
namespace Go.Proofs.YtpkgkekonhgonaaGreatDoor.Concat5
open Go.ChangeShapes Go.WideShapes Go.ChangeAt Go.RowKit Tup5 Lots Takes ICut Cat5
open LotApp (info2)
/-- A list of the call's own, or nothing at all. -/
def OwnV (e : TypeId) (w : World) (base : Nat) (v : Value) (ps : List T5) : Prop := w.ownsRow base e 5 v ps.length (flat5 ps)
theorem OwnV.cases {e : TypeId} {w : World} {base : Nat} {v : Value} {ps : List T5} (h : OwnV e w base v ps) : (v = .slice none 0 0 ∧ ps = []) ∨ ∃ g c, v = .slice (some ⟨g, 0, none⟩) ps.length c ∧ Own5 e w base g ps.length c ps := by
  rcases h.2 with ⟨h1, h2⟩ | ⟨g, c, cur, h1, h2⟩
  · exact .inl ⟨h1, List.eq_nil_of_length_eq_zero h2⟩
  · refine .inr ⟨g, c, h1, ?_⟩
    have h' : w.ownsRow base e 5 v ps.length (flat5 ps) := h
    rw [h1] at h'
    exact h'
theorem OwnV.of {e : TypeId} {w : World} {base g n c : Nat} {ps : List T5} (h : Own5 e w base g n c ps) : OwnV e w base (.slice (some ⟨g, 0, none⟩) n c) ps := by
  unfold OwnV
  rw [h.len]
  exact h
theorem OwnV.nil (e : TypeId) (w : World) (base : Nat) : OwnV e w base (.slice none 0 0) [] := ⟨rfl, .inl ⟨rfl, rfl⟩⟩
theorem OwnV.lt {e : TypeId} {w : World} {base : Nat} {v : Value} {ps : List T5} (h : OwnV e w base v ps) : ∀ g, v.ownBlock = some g → base ≤ g ∧ g < w.heap.size := fun g hg => World.ownsRow.lt h g hg
theorem OwnV.below {e : TypeId} {w w' : World} {base B : Nat} {v : Value} {ps : List T5} (h : OwnV e w base v ps) (k : Below B w w') (hB : ∀ g, v.ownBlock = some g → g < B) : OwnV e w' base v ps := by
  rcases h.cases with ⟨rfl, rfl⟩ | ⟨g, c, rfl, o⟩
  · exact OwnV.nil _ _ _
  · exact OwnV.of (o.below k (hB g rfl))
theorem OwnV.kept {e : TypeId} {w w' : World} {base : Nat} {row : Option Nat} {v : Value} {ps : List T5} (h : OwnV e w base v ps) (k : w.grownBy w' row) (hne : ∀ g, v.ownBlock = some g → row ≠ some g) : OwnV e w' base v ps := by
  rcases h.cases with ⟨rfl, rfl⟩ | ⟨g, c, rfl, o⟩
  · exact OwnV.nil _ _ _
  · exact OwnV.of (o.kept k (fun e => hne g rfl e.symm))
theorem OwnV.rebase {e : TypeId} {w : World} {base base' : Nat} {v : Value} {ps : List T5} (h : OwnV e w base v ps) (hb : base' ≤ base) : OwnV e w base' v ps := by
  rcases h.cases with ⟨rfl, rfl⟩ | ⟨g, c, rfl, o⟩
  · exact OwnV.nil _ _ _
  · exact OwnV.of (o.rebase (Nat.le_trans hb o.lt.1))
end Go.Proofs.YtpkgkekonhgonaaGreatDoor.Concat5
namespace Go.Proofs.YtpkgkekonhgonaaGreatDoor.IPl
open Go.ChangeShapes Go.WideShapes Go.ChangeAt Go.RowKit Tup5 Lots Takes
/-- A number in a block of the call's own. -/
def Cell (w : World) (base b : Nat) (x : Int) : Prop := w.ownsRow base 3 1 (.slice (some ⟨b, 0, none⟩) 1 1) 1 [.int .i64 x]
theorem Cell.cell {w : World} {base b : Nat} {x : Int} (h : Cell w base b x) : w.cell? ⟨b, 0, none⟩ = some (.int .i64 x) := World.ownsRow.cellAt h 0 (by omega)
theorem Cell.free {w : World} {base b : Nat} {x : Int} (h : Cell w base b x) : w.frozen? ⟨b, 0, none⟩ = false := World.ownsRow.frozenAt h 0
theorem Cell.lt {w : World} {base b : Nat} {x : Int} (h : Cell w base b x) : base ≤ b ∧ b < w.heap.size := World.ownsRow.lt h b rfl
theorem Cell.alloc {w : World} {base b : Nat} {x : Int} (h : Cell w base b x) (o : Obj) : Cell (w.alloc o) base b x := World.ownsRow.alloc h o
theorem Cell.kept {w w' : World} {base b : Nat} {x : Int} {row : Option Nat} (h : Cell w base b x) (k : w.grownBy w' row) (hne : some b ≠ row) : Cell w' base b x := World.ownsRow.kept h k (Or.inr hne)
theorem Cell.below {w w' : World} {base b B : Nat} {x : Int} (h : Cell w base b x) (k : Below B w w') (hb : b < B) : Cell w' base b x := by
  refine ⟨h.1, ?_⟩
  rcases h.2 with ⟨h1, _⟩ | ⟨g', c, cur, h1, h2, h3, h4⟩
  · simp at h1
  · obtain ⟨e, _⟩ : b = g' ∧ 1 = c := by simpa using h1
    subst e
    exact Or.inr ⟨b, c, cur, h1, h2, by rw [k.block b hb]; exact h3, h4⟩
theorem Cell.set {w : World} {base b : Nat} {x : Int} (h : Cell w base b x) (y : Int) : Cell (w.setCell ⟨b, 0, none⟩ (.int .i64 y)) base b y ∧ w.grownBy (w.setCell ⟨b, 0, none⟩ (.int .i64 y)) (some b) := World.ownsRow.stored h 0 (.int .i64 y)
theorem Cell.drewN {w : World} {base b : Nat} {x : Int} (h : Cell w base b x) (m : Nat) : Cell (w.drewN m) base b x := h
end Go.Proofs.YtpkgkekonhgonaaGreatDoor.IPl
