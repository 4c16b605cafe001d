/- Texts of one proof, one behind the other: IShares. -/
import Derived.Test.YtnmeiiaipacplaaGreatRows
import Derived.Test.YtnmeiiaipacplaaGreatUG1
import Derived.Test.YtnmeiiaipacplaaGreatUG2
import Derived.Test.YtnmeiiaipacplaaGreatUG3
import Derived.Test.YtnmeiiaipacplaaGreatUG4
import Derived.Test.YtnmeiiaipacplaaGreatUG5
import Derived.Test.YtnmeiiaipacplaaGreatUG6
import Derived.Test.YtnmeiiaipacplaaGreatUG7
set_option linter.unusedVariables false
set_option linter.unusedSimpArgs false
namespace Go.Proofs.YtnmeiiaipacplaaGreat.IShares
open Go.ChangeShapes Go.WideShapes Go.ChangeAt Go.RowKit Ints Weigh Quota Order Parts
set_option maxRecDepth 100000 in
set_option maxHeartbeats 4000000 in
theorem iShares_good (w : World) (t : Int) (g n cap : Nat) (xs : List Int) (hl : xs.length = n) (hg : g < w.heap.size) (h : At w g xs) (good : Weigh.Good xs) (ht : Tot t) :
    Calls Tryz.prog 165 #[.int .i64 t, .slice (some ⟨g, 0, none⟩) n cap] w fun e w' => ∃ L, ∃ M : Nat, ∃ g' c, IsOrder t xs n L ∧ t - SQ t xs n = (M : Int) ∧ M < n ∧ e = .returned (.tuple #[.slice (some ⟨g', 0, none⟩) n c, .bool true]) ∧ Own w' w.heap.size g' n c (bump (wholes t xs n) L M) ∧ Below w.heap.size w w' := by
  have n40 : n ≤ 40 := by have := good.1.2; omega
  have n1 : 1 ≤ n := by have := good.1.1; omega
  obtain ⟨M, hM, hMn⟩ := missing_nat t xs ht good
  rw [hl] at hM hMn
  have HM := hide hM
  have BD := hide (fun (k : Nat) (hk : k ≤ n) => (show 0 ≤ SQ t xs k ∧ SQ t xs k ≤ t from by
    have a1 := SQ_mono t xs ht good 0 k (by omega) (by omega)
    have a2 := SQ_mono t xs ht good k n hk (by omega)
    have a3 : SQ t xs 0 = 0 := rfl
    omega))
  have QB := hide (fun (k : Nat) (hk : k < n) => Q_le t xs k ht good (by omega))
  have WB := hide (fun L m j => bump_bd (wholes t xs n) L t ht.1 (by rw [← hl]; exact wholes_bd t xs ht good) m j)
  have t1 := ht.2
  have t0 := ht.1
  have c1 := IOrder.iQuotas w t g n cap xs hl hg h good ht
  clear good ht h hg hM
  go_enter Tryz.func165, Tryz.ntmps165
  go_wp2_with fail
  refine c1.mono ?_
  rintro e w1 ⟨g1, g2, hne, rfl, o1, o2, b1⟩
  have o1 : Own w1 w.heap.size g1 n n (wholes t xs n) := o1
  have O1 := hide o1
  have O2 := hide o2
  have B1 := hide b1
  clear o1 o2 b1 c1
  go_wp2_with fail
  go_loop [9, 27] (fun m i => ∃ (k : Nat), k ≤ n ∧ i = .int .i64 k ∧ m = .int .i64 (t - SQ t xs k)) (fun _ i => n - (intOf i).toNat)
  case atStart => exact ⟨0, by omega, rfl, by simp [SQ]⟩
  case round =>
    obtain ⟨k, hk, rfl, rfl⟩ := hrel
    by_cases lt : k < n
    · obtain ⟨q0, q1⟩ := unhide QB k lt
      obtain ⟨d0, d1⟩ := unhide BD k hk
      have e1 := (unhide O1).at k (by rw [wholes_len]; exact lt)
      rw [wholes_getD t xs n k lt] at e1
      have E := hide (show SQ t xs (k + 1) = SQ t xs k + Q t xs k from rfl)
      generalize Q t xs k = q at *
      generalize SQ t xs k = sq at *
      go_wp2
      go_round
      case rel => exact ⟨k + 1, by omega, by go_num, by rw [unhide E]; congr 1; omega⟩
      case measure => simp [intOf]; omega
    · obtain rfl : k = n := by omega
      rw [unhide HM]
      obtain ⟨m, rfl⟩ : ∃ m, k = m + 1 := ⟨k - 1, by omega⟩
      have c2 := ISort.iRestOrder t xs m g2 w1 n40 (unhide O2).lt.2 (unhide O2).at
      clear BD QB
      have m0 : (0 : Int) ≤ (M : Int) := by omega
      have m1 : (M : Int) ≤ ((m + 1 : Nat) : Int) := by omega
      go_wp2_with fail
      refine c2.mono ?_
      rintro e w3 ⟨L, g3, ord, rfl, o3, b3⟩
      have ownO := (unhide O1).below b3 (unhide O1).lt.2
      have hb := next (unhide B1) b3
      have l1 := (unhide O1).lt
      have l3 := o3.lt
      have hlen := ord.len
      have ORD := hide ord
      clear c2 b3 ord O1 O2 B1
      go_wp2_with fail
      go_loopw [40] (fun i wx => ∃ (j : Nat), j ≤ M ∧ i = .int .i64 j ∧ Own wx w.heap.size g1 (m + 1) (m + 1) (bump (wholes t xs (m + 1)) L j) ∧ Own wx w1.heap.size g3 (m + 1) (m + 1) (ints L) ∧ Below w.heap.size w wx) (fun i _ => M - (intOf i).toNat)
      case atStart => exact ⟨0, by omega, rfl, ownO, o3, hb⟩
      case round =>
        clear ownO o3 hb
        obtain ⟨j, hj, rfl, ownO, o3, hb⟩ := hrel
        by_cases lt : j < M
        · have e1 := o3.at j (by rw [ints_len, hlen]; omega)
          rw [ints_getD] at e1
          have ha := (unhide ORD).getD_lt j (by omega)
          have e2 := ownO.at (L.getD j 0) (by rw [ownO.len]; exact ha)
          have ff := ownO.free (L.getD j 0)
          obtain ⟨v0, v1⟩ := unhide WB L j (L.getD j 0)
          obtain ⟨p, q⟩ := ownO.set (L.getD j 0) ((bump (wholes t xs (m + 1)) L j).getD (L.getD j 0) 0 + 1)
          have P : Hid (Own _ w.heap.size g1 (m + 1) (m + 1) (bump (wholes t xs (m + 1)) L (j + 1))) := p
          have PL := hide (o3.kept q (by simp; omega))
          have PB := hide (hb.setCell (p := ⟨g1, L.getD j 0, none⟩) l1.1 (.int .i64 ((bump (wholes t xs (m + 1)) L j).getD (L.getD j 0) 0 + 1)))
          clear p q ownO o3 hb
          generalize (bump (wholes t xs (m + 1)) L j).getD (L.getD j 0) 0 = v at *
          generalize L.getD j 0 = a at *
          go_wp2
          go_roundw
          case rel => exact ⟨j + 1, by omega, by go_num, unhide P, unhide PL, unhide PB⟩
          case measure => simp [intOf]; omega
        · obtain rfl : j = M := by omega
          have O := hide ownO
          have B := hide hb
          clear ownO o3 hb
          go_wp2
          go_ret2
          exact ⟨L, j, g1, m + 1, unhide ORD, unhide HM, hMn, rfl, unhide O, unhide B⟩
theorem iShares (w : World) (t : Int) (g n cap : Nat) (xs : List Int) (hl : xs.length = n) (h20 : n ≤ 1048576) (hg : g < w.heap.size) (h : At w g xs) :
    Calls Tryz.prog 165 #[.int .i64 t, .slice (some ⟨g, 0, none⟩) n cap] w fun e w' => ∃ ps ok g' c, STells t xs ps ok ∧ e = .returned (.tuple #[.slice (some ⟨g', 0, none⟩) ps.length c, .bool ok]) ∧ Own w' w.heap.size g' ps.length c ps ∧ Below w.heap.size w w' := by
  by_cases good : Weigh.Good xs ∧ Tot t
  · refine (iShares_good w t g n cap xs hl hg h good.1 good.2).mono ?_
    rintro e w' ⟨L, M, g', c, ord, hM, hMn, rfl, o, b⟩
    have hn := o.len
    exact ⟨_, true, g', c, Or.inl ⟨good.1, good.2, rfl, L, M, by rw [hl]; exact ord, by rw [hl]; exact hM, by rw [hl]; exact hMn, by rw [hl]⟩, by rw [hn], by rw [hn]; exact o, b⟩
  · have c1 := IOrder.iQuotas_bad w t g n cap xs hl h20 h good
    have a1 := hide (SOrder.lit0 w w.heap.size (Nat.le_refl _))
    have b1 := hide (Below.alloc (Below.refl w.heap.size w) (Nat.le_refl _) (.cells #[] 3))
    have GG := hide good
    clear h hg good
    go_enter Tryz.func165, Tryz.ntmps165
    go_wp2_with fail
    refine c1.mono ?_
    rintro e w1 ⟨rfl, rfl⟩
    go_wp2
    go_ret2
    exact ⟨[], false, _, 0, Or.inr ⟨unhide GG, rfl, rfl⟩, rfl, unhide a1, unhide b1⟩
end Go.Proofs.YtnmeiiaipacplaaGreat.IShares
