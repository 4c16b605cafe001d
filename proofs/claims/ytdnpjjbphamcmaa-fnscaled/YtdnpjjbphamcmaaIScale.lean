/- Contract of the program's scaling of lots. Condition: at most 40 lots. -/
import Derived.Test.YtdnpjjbphamcmaaSScale
import Derived.Test.YtdnpjjbphamcmaaIShares
import Derived.Test.YtdnpjjbphamcmaaIMean
namespace Go.Proofs.Ytdnpjjbphamcmaa.IScale
open Go.ChangeShapes Go.WideShapes Go.ChangeAt Go.RowKit Tup5 Lots Takes Quieter ICut Cat5 Scale SScale
open Cmp (at0)
open SSplit (take_sum)
open Parts (STells)
set_option linter.unusedVariables false
set_option linter.unusedSimpArgs false

set_option maxRecDepth 100000 in
set_option maxHeartbeats 4000000 in
theorem iScaleLots (w : World) (g o n cap : Nat) (own : List T5) (ss : List Int) (okS : Bool) (q : Int) (hl : own.length = n) (n40 : n ≤ 40) (hg : g < w.heap.size) (h : AtO w g o own) (hp : ∀ p ∈ own, Pos p) (hq : sumQ own ≤ 1000000000000000) (hc : sumC own ≤ 1000000000000000) (q0 : 0 ≤ q) (qM : q ≤ 1000000000000000) (hS : Hid (STells q (qtys own) ss okS)) :
    Calls Try.prog 40 #[.slice (some ⟨g, o, none⟩) n cap, .int .i64 q] w fun e w' => ∃ g' c', e = .returned (.slice (some ⟨g', 0, none⟩) (scaleL own ss).length c') ∧ Own5 40 w' w.heap.size g' (scaleL own ss).length c' (scaleL own ss) ∧ Below w.heap.size w w' := by
  obtain ⟨i0, hi, hz0, hz1, hz2⟩ := info_parts Ints.info3
  have H := hide h
  have HP := hide hp
  clear h hp
  go_enter Try.func40, Try.ntmps40
  go_wp2_with (at_make; refine wpList_make_full _ rfl _ _ 50 rfl w.heap.size 3 i0 (.int .i64 0) 1 Try.underlying50 hi hz0 hz1 .i64 .i64 _ _ n rfl rfl rfl rfl (by rw [hz2]; omega) (by unfold maxLen; omega) (Nat.le_refl _) ?_; intro w1 hown hgrow)
  rw [Ints.made_zeros, ← Ints.part_zero (qtys own)] at hown
  have hb := Ints.grownBy_below hgrow
  have W1 := hide (show Ints.Own w1 w.heap.size w.heap.size n n (Ints.part (qtys own) n 0) from hown)
  have B1 := hide hb
  clear hgrow hown hb hi hz0 hz1 hz2
  go_wp2
  go_loopw [6, 7, 19] (fun _ _ j wr => ∃ (k : Nat), j = .int .i64 k ∧ k ≤ n ∧ Hid (Ints.Own wr w.heap.size w.heap.size n n (Ints.part (qtys own) n k)) ∧ Hid (Below w.heap.size w wr)) (fun _ _ j _ => n - (intOf j).toNat)
  case atStart => exact ⟨0, rfl, by omega, W1, B1⟩
  case round =>
    clear W1 B1
    obtain ⟨k, rfl, hk, HW, HB⟩ := hrel
    have bs := (unhide HB).size
    have d1 := (unhide HW).lt.2
    by_cases t : k < n
    · obtain ⟨e0, e1, e2, e3, e4⟩ := (unhide H).below (unhide HB) hg k (by omega)
      have PS := hide (Ints.part_step (qtys own) n k (by rw [qtys_len]; exact hl) t)
      have QG := qtys_getD own k (by omega)
      rw [QG] at PS
      clear QG
      generalize (el5 own k).1 = x0 at *
      generalize (el5 own k).2.1 = x1 at *
      generalize (el5 own k).2.2.1 = x2 at *
      generalize (el5 own k).2.2.2.1 = x3 at *
      generalize (el5 own k).2.2.2.2 = x4 at *
      have SW := (unhide HW).set k x3
      rw [unhide PS] at SW
      have W2 := hide (show Ints.Own ((wr.setCell ⟨w.heap.size, k, none⟩ (.int .i64 x3)).alloc (.cells #[.int .i64 x0, .int .i64 x1, .int .i64 x2, .int .i64 x3, .int .i64 x4] 40)) w.heap.size w.heap.size n n (Ints.part (qtys own) n (k + 1)) from World.ownsRow.alloc SW.1 (.cells #[.int .i64 x0, .int .i64 x1, .int .i64 x2, .int .i64 x3, .int .i64 x4] 40))
      have Bs := (unhide HB).grown SW.2 bs (fun j hj => by cases hj; exact Nat.le_refl _)
      have B2 := hide (Bs.alloc Bs.size (.cells #[.int .i64 x0, .int .i64 x1, .int .i64 x2, .int .i64 x3, .int .i64 x4] 40))
      have cw := (unhide HW).at k (by rw [Ints.Own.len (unhide HW)]; exact t)
      have fw := (unhide HW).free k
      have kk : (k : Int) < (n : Int) := by omega
      have ne1 : w.heap.size ≠ wr.heap.size := by omega
      clear SW PS Bs HW HB
      go_wp2
      go_roundw
      case rel => exact ⟨k + 1, by go_num, by omega, W2, B2⟩
      case measure => simp [intOf]; omega
    · obtain rfl : k = n := by omega
      rw [Ints.part_all (qtys own) k (by rw [qtys_len]; exact hl)] at HW
      have SL : ss.length = k := by
        by_cases z : k = 0
        · have := (unhide hS).len_le
          rw [qtys_len] at this
          omega
        · rw [shares_len (unhide hS) (good_qtys (unhide HP) hq (by omega) (by omega)) ⟨q0, qM⟩, hl]
      go_wp2_with fail
      refine (IShares.iShares wr q w.heap.size k k (qtys own) (by rw [qtys_len]; exact hl) (by omega) d1 (unhide HW).at).mono ?_
      rintro e w5 ⟨ss', ok', gS, cS, st, rfl, oS, b5⟩
      obtain ⟨rfl, rfl⟩ := STells.unique (unhide hS) st
      have sl := oS.lt
      have S5 := hide (oS.rebase (base' := w.heap.size) (Nat.le_trans bs oS.lt.1))
      have B5 := hide (next (unhide HB) b5)
      have H5 := hide ((unhide H).below (unhide B5) hg)
      have L5 := hide (lit50 40 w5 w.heap.size (unhide B5).size)
      have ONE := (Below.refl w5.heap.size w5).alloc (Nat.le_refl _) (.cells #[] 40)
      have S6 := hide ((unhide S5).below ONE (unhide S5).lt.2)
      have B6 := hide (next (unhide B5) ONE)
      have f1 := (unhide S5).lt.2
      have b5s := (unhide B5).size
      clear st oS b5 ONE HW HB S5 B5 H5
      go_wp2
      generalize w5.alloc (.cells #[] 40) = w6 at *
      generalize hb5 : w5.heap.size = b5 at *
      clear hb5
      go_loopw [10, 11, 12, 13, 39] (fun l cv _ _ j wr => ∃ (L : List T5) (c : Int) (gL cL m : Nat), l = .slice (some ⟨gL, 0, none⟩) L.length cL ∧ cv = .int .i64 c ∧ j = .int .i64 m ∧ m ≤ k ∧ L.length ≤ m ∧ 0 ≤ c ∧ c ≤ sumC (own.take m) ∧ gL ≠ gS ∧ Hid (L = keptN own ss m) ∧ Hid (c = lostN own ss m) ∧ Hid (Own5 40 wr w.heap.size gL L.length cL L) ∧ Hid (Ints.Own wr w.heap.size gS ss.length cS ss) ∧ Hid (Below w.heap.size w wr)) (fun _ _ _ _ j _ => k - (intOf j).toNat)
      case atStart => exact ⟨[], 0, b5, 0, 0, rfl, rfl, rfl, by omega, by simp, by omega, by simp [sumC], by omega, hide rfl, hide rfl, L5, S6, B6⟩
      case round =>
        clear L5 S6 B6 f1 b5s sl
        obtain ⟨L, c, gL, cL, m, rfl, rfl, rfl, hm, Lk, c0, c1, n3, HL, HC, HLo, HS, HB⟩ := hrel
        have bs := (unhide HB).size
        have d3 := (unhide HS).lt.2
        have d4 := (unhide HLo).lt
        have ts := take_sum (unhide HP) m
        by_cases t : m < k
        · obtain ⟨e0, e1, e2, e3, e4⟩ := (unhide H).below (unhide HB) hg m (by omega)
          have es := (unhide HS).at m (by omega)
          have NL := hide (show keptN own ss (m + 1) = L ++ (if ss.getD m 0 = 0 then [] else [((el5 own m).1, (el5 own m).2.1, (el5 own m).2.2.1, ss.getD m 0, (el5 own m).2.2.2.2)]) from by rw [unhide HL]; rfl)
          have NC := hide (show lostN own ss (m + 1) = c + (if ss.getD m 0 = 0 then (el5 own m).2.2.2.2 else 0) from by rw [unhide HC]; rfl)
          have SN := sumC_next (ps := own) (k := m) (by omega)
          have ts1 := take_sum (unhide HP) (m + 1)
          have xp := (unhide HP) _ (getD_mem (ps := own) (i := m) (by omega))
          unfold Pos at xp
          obtain ⟨⟨x31, x32⟩, x41, x42⟩ := xp
          generalize (el5 own m).1 = x0 at *
          generalize (el5 own m).2.1 = x1 at *
          generalize (el5 own m).2.2.1 = x2 at *
          generalize (el5 own m).2.2.2.1 = x3 at *
          generalize (el5 own m).2.2.2.2 = x4 at *
          generalize ss.getD m 0 = s at *
          have kk : (m : Int) < (k : Int) := by omega
          have B1 := hide ((unhide HB).alloc bs (.cells #[.int .i64 x0, .int .i64 x1, .int .i64 x2, .int .i64 s, .int .i64 x4] 40))
          have L1 := hide ((unhide HLo).alloc (.cells #[.int .i64 x0, .int .i64 x1, .int .i64 x2, .int .i64 s, .int .i64 x4] 40))
          have S1 := hide (World.ownsRow.alloc (unhide HS) (.cells #[.int .i64 x0, .int .i64 x1, .int .i64 x2, .int .i64 s, .int .i64 x4] 40))
          by_cases sz : s = 0
          · subst sz
            have NL := hide ((unhide NL).trans (by rw [if_pos rfl, List.append_nil]))
            have NC := hide ((unhide NC).trans (by rw [if_pos rfl]))
            go_wp2
            go_roundw
            case rel => exact ⟨L, c + x4, gL, cL, m + 1, rfl, rfl, by go_num, by omega, by omega, by omega, by omega, n3, hide (unhide NL).symm, hide (unhide NC).symm, L1, S1, B1⟩
            case measure => simp [intOf]; omega
          · have sb : (s == 0) = false := by simpa using sz
            have NL := hide ((unhide NL).trans (by rw [if_neg sz]))
            have NC := hide ((unhide NC).trans (by rw [if_neg sz, Int.add_zero]))
            have V5 := hide (show Holds5 ((wr.alloc (.cells #[.int .i64 x0, .int .i64 x1, .int .i64 x2, .int .i64 s, .int .i64 x4] 40)).alloc (.cells #[.int .i64 x0, .int .i64 x1, .int .i64 x2, .int .i64 s, .int .i64 x4] 40)) (wr.heap.size + 1) 0 (x0, x1, x2, s, x4) from by unfold Holds5; simp)
            have bs1 := (unhide B1).size
            clear sz
            go_wp2_with (first | (at_builtin; refine LotApp.wp_app _ rfl _ _ rfl w.heap.size gL L.length cL L (wr.heap.size + 1) x0 x1 x2 s x4 rfl rfl ((unhide L1).alloc _) (unhide V5) (by omega) (by simp; omega) ?_) | go_in)
            intro g9 c9 w9 o9 gr9 loc9
            have L9 := hide (show Own5 40 w9 w.heap.size g9 (L ++ [(x0, x1, x2, s, x4)]).length c9 (L ++ [(x0, x1, x2, s, x4)]) from by rw [show (L ++ [(x0, x1, x2, s, x4)]).length = L.length + 1 by simp]; exact o9)
            have S9 := hide (Ints.Own.kept (show Ints.Own ((wr.alloc (.cells #[.int .i64 x0, .int .i64 x1, .int .i64 x2, .int .i64 s, .int .i64 x4] 40)).alloc (.cells #[.int .i64 x0, .int .i64 x1, .int .i64 x2, .int .i64 s, .int .i64 x4] 40)) w.heap.size gS ss.length cS ss from World.ownsRow.alloc (unhide S1) (.cells #[.int .i64 x0, .int .i64 x1, .int .i64 x2, .int .i64 s, .int .i64 x4] 40)) gr9 (by simp; omega))
            have B9 := hide (((unhide B1).alloc bs1 (.cells #[.int .i64 x0, .int .i64 x1, .int .i64 x2, .int .i64 s, .int .i64 x4] 40)).grown gr9 (by simp; omega) (fun j hj => by cases hj; exact d4.1))
            have m3 : g9 ≠ gS := by
              try simp at loc9
              omega
            clear o9 gr9 loc9 V5 L1 S1 B1
            go_wp2
            go_roundw
            case rel => exact ⟨L ++ [(x0, x1, x2, s, x4)], c, g9, c9, m + 1, by rw [show (L ++ [(x0, x1, x2, s, x4)]).length = L.length + 1 by simp], rfl, by go_num, by omega, by simp; omega, by omega, by omega, m3, hide (unhide NL).symm, hide (unhide NC).symm, L9, S9, B9⟩
            case measure => simp [intOf]; omega
        · obtain rfl : m = k := by omega
          have EL := hide (show scaleL own ss = addFirst L c from by unfold scaleL; rw [hl, ← unhide HL, ← unhide HC])
          have KC := kept_cost (unhide HP) ss m (by omega)
          rw [← unhide HL] at KC
          have cM : c ≤ 1000000000000000 := by rw [List.take_of_length_le (by omega)] at c1; omega
          clear HL HC HS
          cases L with
          | nil =>
            go_wp2
            go_ret
            rw [unhide EL]
            exact ⟨gL, cL, rfl, unhide HLo, unhide HB⟩
          | cons p r =>
            obtain ⟨p0, p1, p2, p3, p4⟩ := p
            have pc := KC (p0, p1, p2, p3, p4) List.mem_cons_self
            have pc0 : 0 ≤ p4 := pc.1
            have pc1 : p4 ≤ 1000000000000000 := pc.2
            have HL2 := hide (show Own5 40 wr w.heap.size gL (r.length + 1) cL ((p0, p1, p2, p3, p4) :: r) from unhide HLo)
            obtain ⟨e0, e1, e2, e3, e4⟩ := (unhide HL2).at 0 (by simp)
            have e4 : wr.cell? ⟨gL, 4, none⟩ = some (.int .i64 p4) := e4
            have r4 : wr.frozen? ⟨gL, 4, none⟩ = false := (unhide HL2).free 4
            have S4 := (unhide HL2).set4 0 (p4 + c)
            have O8 := hide (show Own5 40 (wr.setCell ⟨gL, 4, none⟩ (.int .i64 (p4 + c))) w.heap.size gL (r.length + 1) cL ((p0, p1, p2, p3, p4 + c) :: r) from S4.1)
            have B8 := hide (show Below w.heap.size w (wr.setCell ⟨gL, 4, none⟩ (.int .i64 (p4 + c))) from (unhide HB).grown S4.2 bs (fun j hj => by cases hj; exact d4.1))
            have LE : ((p0, p1, p2, p3, p4) :: r).length = r.length + 1 := rfl
            rw [LE]
            clear S4 KC pc HLo HL2 e0 e1 e2 e3 LE Lk
            go_wp2
            go_ret
            rw [unhide EL]
            exact ⟨gL, cL, rfl, unhide O8, unhide B8⟩

end Go.Proofs.Ytdnpjjbphamcmaa.IScale
