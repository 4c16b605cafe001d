/- Contracts of the model's LotsOf, LotsQty and LotsCost. Condition: a list of at most 2^20 lots. -/
import Derived.Test.YtdnpjjbphamcmaaSSplit
namespace Go.Proofs.Ytdnpjjbphamcmaa.SOf
open Go.ChangeShapes Go.WideShapes Go.ChangeAt Go.RowKit Tup5 Lots Takes SOk5 SSplit
set_option linter.unusedVariables false
set_option linter.unusedSimpArgs false

set_option maxRecDepth 100000 in
theorem sOf (w : World) (g n cap : Nat) (ps : List T5) (a i : Int) (ok : Bool) (hl : ps.length = n) (h20 : n ≤ 1048576) (hg : g < w.heap.size) (h : At5 w g ps) (hok : Says ok (Right ps)) :
    Calls Try.prog 26 #[.slice (some ⟨g, 0, none⟩) n cap, .int .i64 a, .int .i64 i] w fun e w' => ∃ g' c', e = .returned (.slice (some ⟨g', 0, none⟩) (ofL ps a i ok).length c') ∧ Own5 40 w' w.heap.size g' (ofL ps a i ok).length c' (ofL ps a i ok) ∧ Below w.heap.size w w' := by
  have H := hide h
  clear h
  go_enter Try.func26, Try.ntmps26
  go_wp2_with fail
  refine (sOk w g n cap ps ok hl h20 hg (unhide H) hok).mono ?_
  rintro e w1 ⟨rfl, b1⟩
  cases ok
  · have O1 := hide (lit50 40 w1 w.heap.size b1.size)
    have B := hide (b1.alloc b1.size (.cells #[] 40))
    clear b1
    go_wp2
    go_ret
    exact ⟨w1.heap.size, 0, rfl, unhide O1, unhide B⟩
  · have hr := (hok.yes).1
    have A1 := hide ((unhide H).below b1 hg)
    have g1 : g < w1.heap.size := Nat.lt_of_lt_of_le hg b1.size
    have B1 := hide b1
    clear b1 hok H
    go_wp2_with fail
    refine (sSplit w1 g n cap ps a i hl (by omega) g1 (unhide A1)).mono ?_
    rintro e w2 ⟨g2, c2, g3, c3, rfl, o2, o3, ne, b2⟩
    have O2 := hide (o2.rebase (base' := w.heap.size) (Nat.le_trans (unhide B1).size o2.lt.1))
    have B2 := hide (next (unhide B1) b2)
    clear o2 o3 b2
    go_wp2
    go_ret
    exact ⟨g2, c2, rfl, unhide O2, unhide B2⟩

set_option maxRecDepth 100000 in
theorem sLotsQty (w : World) (g n cap : Nat) (ps : List T5) (a i : Int) (ok : Bool) (hl : ps.length = n) (h20 : n ≤ 1048576) (hg : g < w.heap.size) (h : At5 w g ps) (hok : Says ok (Right ps)) :
    Calls Try.prog 19 #[.slice (some ⟨g, 0, none⟩) n cap, .int .i64 a, .int .i64 i] w fun e w' => e = .returned (.int .i64 (sumQ (ofL ps a i ok))) ∧ Below w.heap.size w w' := by
  have H := hide h
  clear h
  obtain ⟨hp, hs⟩ := of_good a i hok
  have len := of_len ps a i ok
  go_enter Try.func19, Try.ntmps19
  go_wp2_with fail
  refine (sOf w g n cap ps a i ok hl h20 hg (unhide H) hok).mono ?_
  rintro e w1 ⟨g1, c1, rfl, o1, b1⟩
  have HP := hide hp
  have HS := hide hs
  clear hp hs H
  have O1 := hide o1
  have B1 := hide b1
  clear o1 b1
  go_wp2_with fail
  refine (sQty w1 g1 (ofL ps a i ok).length c1 (ofL ps a i ok) rfl (by omega) (unhide O1).at (unhide HP) (unhide HS).1).mono ?_
  rintro e w2 ⟨rfl, b2⟩
  have B2 := hide (next (unhide B1) b2)
  clear b2 O1 B1
  go_wp2
  go_ret
  exact ⟨rfl, unhide B2⟩

set_option maxRecDepth 100000 in
theorem sLotsCost (w : World) (g n cap : Nat) (ps : List T5) (a i : Int) (ok : Bool) (hl : ps.length = n) (h20 : n ≤ 1048576) (hg : g < w.heap.size) (h : At5 w g ps) (hok : Says ok (Right ps)) :
    Calls Try.prog 20 #[.slice (some ⟨g, 0, none⟩) n cap, .int .i64 a, .int .i64 i] w fun e w' => e = .returned (.int .i64 (sumC (ofL ps a i ok))) ∧ Below w.heap.size w w' := by
  have H := hide h
  clear h
  obtain ⟨hp, hs⟩ := of_good a i hok
  have len := of_len ps a i ok
  go_enter Try.func20, Try.ntmps20
  go_wp2_with fail
  refine (sOf w g n cap ps a i ok hl h20 hg (unhide H) hok).mono ?_
  rintro e w1 ⟨g1, c1, rfl, o1, b1⟩
  have HP := hide hp
  have HS := hide hs
  clear hp hs H
  have O1 := hide o1
  have B1 := hide b1
  clear o1 b1
  go_wp2_with fail
  refine (sCost w1 g1 (ofL ps a i ok).length c1 (ofL ps a i ok) rfl (by omega) (unhide O1).at (unhide HP) (unhide HS).2).mono ?_
  rintro e w2 ⟨rfl, b2⟩
  have B2 := hide (next (unhide B1) b2)
  clear b2 O1 B1
  go_wp2
  go_ret
  exact ⟨rfl, unhide B2⟩

end Go.Proofs.Ytdnpjjbphamcmaa.SOf
