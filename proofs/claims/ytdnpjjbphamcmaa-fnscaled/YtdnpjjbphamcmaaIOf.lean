/- Contracts of the program's totals of lots, of LotsOf, LotsQty and LotsCost. Condition: a list of at most 2^20 lots. -/
import Derived.Test.YtdnpjjbphamcmaaCat5
import Derived.Test.YtdnpjjbphamcmaaSSplit
namespace Go.Proofs.Ytdnpjjbphamcmaa.IOf
open Go.ChangeShapes Go.WideShapes Go.ChangeAt Go.RowKit Tup5 Lots Takes Cmp IOk5 Quieter IPlace5 ICut Cat5
open SSplit (take_sum)
set_option linter.unusedVariables false
set_option linter.unusedSimpArgs false

set_option maxRecDepth 100000 in
set_option maxHeartbeats 2000000 in
theorem iTotals (w : World) (g o n cap : Nat) (ps : List T5) (hl : ps.length = n) (h20 : n ≤ 1048576) (hg : g < w.heap.size) (h : AtO w g o ps) (hp : ∀ p ∈ ps, Pos p) (hs : sumQ ps ≤ 1000000000000000 ∧ sumC ps ≤ 1000000000000000) :
    Calls Try.prog 47 #[.slice (some ⟨g, o, none⟩) n cap] w fun e w' => e = .returned (.tuple #[.int .i64 (sumQ ps), .int .i64 (sumC ps)]) ∧ Below w.heap.size w w' := by
  have HP := hide hp
  have H := hide h
  have HS := hide hs
  clear hp h hs
  go_enter Try.func47, Try.ntmps47
  go_wp2
  go_loopw [4, 5, 7, 10] (fun q c _ j wr => ∃ (k : Nat) (s r : Int), q = .int .i64 s ∧ c = .int .i64 r ∧ j = .int .i64 k ∧ k ≤ n ∧ Hid (s = sumQ (ps.take k)) ∧ Hid (r = sumC (ps.take k)) ∧ Hid (Below w.heap.size w wr)) (fun _ _ _ j _ => n - (intOf j).toNat)
  case atStart => exact ⟨0, 0, 0, rfl, rfl, rfl, by omega, hide rfl, hide rfl, hide (Below.refl _ _)⟩
  case round =>
    obtain ⟨k, s, r, rfl, rfl, rfl, hk, ES, ER, HB⟩ := hrel
    have ts := take_sum (unhide HP) k
    have hss := unhide HS
    have s0 : 0 ≤ s := by rw [unhide ES]; omega
    have r0 : 0 ≤ r := by rw [unhide ER]; omega
    by_cases t : k < n
    · obtain ⟨e0, e1, e2, e3, e4⟩ := (unhide H).below (unhide HB) hg k (by omega)
      have ts1 := take_sum (unhide HP) (k + 1)
      have NS := hide (sumQ_next (ps := ps) (k := k) (by omega))
      have NR := hide (sumC_next (ps := ps) (k := k) (by omega))
      rw [← unhide ES] at NS
      rw [← unhide ER] at NR
      have xp := (unhide HP) _ (getD_mem (ps := ps) (i := k) (by omega))
      unfold Pos at xp
      have b1 : s + (el5 ps k).2.2.2.1 ≤ 1000000000000000 := by rw [← unhide NS]; omega
      have b2 : r + (el5 ps k).2.2.2.2 ≤ 1000000000000000 := by rw [← unhide NR]; omega
      clear ES ER ts ts1 hss
      obtain ⟨⟨x31, x32⟩, x41, x42⟩ := xp
      generalize (el5 ps k).1 = x0 at *
      generalize (el5 ps k).2.1 = x1 at *
      generalize (el5 ps k).2.2.1 = x2 at *
      generalize (el5 ps k).2.2.2.1 = x3 at *
      generalize (el5 ps k).2.2.2.2 = x4 at *
      have wS : IntKind.i64.wrap (s + x3) = s + x3 := by rw [IntKind.wrap_i64]; omega
      have wT : IntKind.i64.wrap (r + x4) = r + x4 := by rw [IntKind.wrap_i64]; omega
      have X := hide (show Holds5 (wr.alloc (.cells #[.int .i64 x0, .int .i64 x1, .int .i64 x2, .int .i64 x3, .int .i64 x4] 40)) wr.heap.size 0 (x0, x1, x2, x3, x4) from by unfold Holds5; simp)
      have B1 := hide ((unhide HB).alloc (unhide HB).size (.cells #[.int .i64 x0, .int .i64 x1, .int .i64 x2, .int .i64 x3, .int .i64 x4] 40))
      go_wp2_with fail
      generalize wr.alloc (.cells #[.int .i64 x0, .int .i64 x1, .int .i64 x2, .int .i64 x3, .int .i64 x4] 40) = u at *
      generalize wr.heap.size = yb at *
      obtain ⟨c0, c1, c2, c3, c4⟩ := at0 (unhide X)
      go_quiet (fail)
      have B2 := hide (below_drewN (unhide B1) nq)
      clear c0 c1 c2 c3 c4 e0 e1 e2 e3 e4
      go_wp2
      go_roundw
      case rel => exact ⟨k + 1, s + x3, r + x4, rfl, rfl, by go_num, by omega, hide (unhide NS).symm, hide (unhide NR).symm, B2⟩
      case measure => simp [intOf]; omega
    · have E1 := hide (show s = sumQ ps by rw [unhide ES, List.take_of_length_le (by omega)])
      have E2 := hide (show r = sumC ps by rw [unhide ER, List.take_of_length_le (by omega)])
      clear ES ER ts
      go_wp2
      go_ret2
      exact ⟨by rw [← unhide E1, ← unhide E2]; rfl, unhide HB⟩

set_option maxRecDepth 100000 in
set_option maxHeartbeats 2000000 in
theorem iOf (w : World) (g n cap : Nat) (ps : List T5) (a i : Int) (ok : Bool) (hl : ps.length = n) (h20 : n ≤ 1048576) (hc : n ≤ cap) (hg : g < w.heap.size) (h : At5 w g ps) (hok : Says ok (Right ps)) :
    Calls Try.prog 25 #[.slice (some ⟨g, 0, none⟩) n cap, .int .i64 a, .int .i64 i] w fun e w' => ∃ g' c', e = .returned (.slice (some ⟨g', 0, none⟩) (ofL ps a i ok).length c') ∧ Own5 40 w' w.heap.size g' (ofL ps a i ok).length c' (ofL ps a i ok) ∧ Below w.heap.size w w' := by
  have H := hide h
  clear h
  go_enter Try.func25, Try.ntmps25
  go_wp2_with fail
  refine (iOk w g n cap ps ok hl h20 hg (unhide H) hok).mono ?_
  rintro e w1 ⟨rfl, b1⟩
  cases ok
  · have O1 := hide (lit50 40 w1 w.heap.size b1.size)
    have B := hide (b1.alloc b1.size (.cells #[] 40))
    clear b1
    go_wp2
    go_ret
    exact ⟨w1.heap.size, 0, rfl, unhide O1, unhide B⟩
  · have A1 := hide ((unhide H).below b1 hg)
    have g1 : g < w1.heap.size := Nat.lt_of_lt_of_le hg b1.size
    have B1 := hide b1
    have ASC := hide (asc_right hok.yes)
    have OF := hide (show ofL ps a i true = ownL ps a i from rfl)
    clear b1 hok H
    have L1 := hide (lit50 40 w1 w.heap.size (unhide B1).size)
    have B2 := hide ((unhide B1).alloc (unhide B1).size (.cells #[] 40))
    have A2 := hide ((unhide A1).below ((Below.refl w1.heap.size w1).alloc (Nat.le_refl _) (.cells #[] 40)) g1)
    have g2 : g < (w1.alloc (.cells #[] 40)).heap.size := by simp; omega
    go_wp2_with fail
    generalize w1.alloc (.cells #[] 40) = v1 at *
    obtain ⟨e1, E1⟩ : ∃ e1, Hid (e1 = w1.heap.size) := ⟨_, rfl⟩
    rw [← unhide E1] at L1 ⊢
    refine (iCut v1 g n cap ps a i hl h20 hc g2 (unhide A2) ASC).mono ?_
    rintro e w2 ⟨f, u, o1, o2, o3, cut, rfl, _, a2, _, b2⟩
    have hfd : ∀ w : World, (Instr.field 58 (.agg #[.slice (some ⟨g, o1, none⟩) f f, .slice (some ⟨g, o2, none⟩) (u - f) (u - f), .slice (some ⟨g, o3, none⟩) (n - u) (n - u)]) 1).run Try.prog w = .ok (.slice (some ⟨g, o2, none⟩) (u - f) (u - f)) w := fun _ => by kernel_rfl
    have ml := mid_len cut.1 cut.2.1
    have fu := cut.1
    have un := cut.2.1
    have OW := hide (cut_own cut).1
    have L2 := hide ((unhide L1).below b2 (unhide L1).lt.2)
    have B3 := hide ((unhide B2).trans (b2.mono (unhide B2).size))
    have b3s := (unhide B3).size
    have A3 := hide a2
    clear cut a2 b2 L1 B2 A2 A1 B1
    go_wp2_with (first | (at_builtin; refine wp_copyO _ rfl _ _ rfl w.heap.size e1 0 (u - f) (midL ps f u) g o2 (u - f) rfl rfl (unhide L2) ml (unhide A3) (by omega) (by omega) ?_) | go_in)
    intro g5 c5 w5 o5 gr5 loc5
    have O5 := hide o5
    have B5 := hide ((unhide B3).grown gr5 b3s (fun j hj => by cases hj; exact (unhide L2).lt.1))
    clear o5 gr5 loc5
    go_wp2
    go_ret
    rw [unhide OF, unhide OW, ml]
    exact ⟨g5, c5, rfl, unhide O5, unhide B5⟩

set_option maxRecDepth 100000 in
theorem iLotsQty (w : World) (g n cap : Nat) (ps : List T5) (a i : Int) (ok : Bool) (hl : ps.length = n) (h20 : n ≤ 1048576) (hc : n ≤ cap) (hg : g < w.heap.size) (h : At5 w g ps) (hok : Says ok (Right ps)) :
    Calls Try.prog 21 #[.slice (some ⟨g, 0, none⟩) n cap, .int .i64 a, .int .i64 i] w fun e w' => e = .returned (.int .i64 (sumQ (ofL ps a i ok))) ∧ Below w.heap.size w w' := by
  have H := hide h
  clear h
  obtain ⟨hp, hs⟩ := of_good a i hok
  have len := of_len ps a i ok
  go_enter Try.func21, Try.ntmps21
  go_wp2_with fail
  refine (iOf w g n cap ps a i ok hl h20 hc hg (unhide H) hok).mono ?_
  rintro e w1 ⟨g1, c1, rfl, o1, b1⟩
  have HP := hide hp
  have HS := hide hs
  clear hp hs H
  have O1 := hide o1
  have B1 := hide b1
  clear o1 b1
  go_wp2_with fail
  refine (iTotals w1 g1 0 (ofL ps a i ok).length c1 (ofL ps a i ok) rfl (by omega) (unhide O1).lt.2 (at_o (unhide O1).at) (unhide HP) (unhide HS)).mono ?_
  rintro e w2 ⟨rfl, b2⟩
  have B2 := hide (next (unhide B1) b2)
  clear b2 O1 B1
  go_wp2
  go_ret
  exact ⟨rfl, unhide B2⟩

set_option maxRecDepth 100000 in
theorem iLotsCost (w : World) (g n cap : Nat) (ps : List T5) (a i : Int) (ok : Bool) (hl : ps.length = n) (h20 : n ≤ 1048576) (hc : n ≤ cap) (hg : g < w.heap.size) (h : At5 w g ps) (hok : Says ok (Right ps)) :
    Calls Try.prog 22 #[.slice (some ⟨g, 0, none⟩) n cap, .int .i64 a, .int .i64 i] w fun e w' => e = .returned (.int .i64 (sumC (ofL ps a i ok))) ∧ Below w.heap.size w w' := by
  have H := hide h
  clear h
  obtain ⟨hp, hs⟩ := of_good a i hok
  have len := of_len ps a i ok
  go_enter Try.func22, Try.ntmps22
  go_wp2_with fail
  refine (iOf w g n cap ps a i ok hl h20 hc hg (unhide H) hok).mono ?_
  rintro e w1 ⟨g1, c1, rfl, o1, b1⟩
  have HP := hide hp
  have HS := hide hs
  clear hp hs H
  have O1 := hide o1
  have B1 := hide b1
  clear o1 b1
  go_wp2_with fail
  refine (iTotals w1 g1 0 (ofL ps a i ok).length c1 (ofL ps a i ok) rfl (by omega) (unhide O1).lt.2 (at_o (unhide O1).at) (unhide HP) (unhide HS)).mono ?_
  rintro e w2 ⟨rfl, b2⟩
  have B2 := hide (next (unhide B1) b2)
  clear b2 O1 B1
  go_wp2
  go_ret
  exact ⟨rfl, unhide B2⟩

end Go.Proofs.Ytdnpjjbphamcmaa.IOf
