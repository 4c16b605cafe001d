/- Contract of the program's taking of lots in turn, from either end. Condition: at most 2^20 lots. -/
import Derived.Test.YtdnpjjbphamcmaaIDel
import Derived.Test.YtdnpjjbphamcmaaIPl
namespace Go.Proofs.Ytdnpjjbphamcmaa.ITurn
open Go.ChangeShapes Go.WideShapes Go.ChangeAt Go.RowKit Tup5 Lots Takes Cmp IOk5 Quieter ICut Cat5 Sets5 IMean IDel IPl
set_option linter.unusedVariables false
set_option linter.unusedSimpArgs false

/-- The place that the closure tells next, and the one that it stands at. -/
theorem place_next (way : Int) (n j : Nat) (h : j < n) : (place0 way n + (j : Int) * step0 way) + step0 way = ((plI way n j : Nat) : Int) ∧ place0 way n + ((j + 1 : Nat) : Int) * step0 way = ((plI way n j : Nat) : Int) := by
  unfold place0 step0 plI
  by_cases w : way = 2
  · simp only [if_pos w]
    omega
  · simp only [if_neg w]
    omega

theorem cell_drew {w : World} {base b : Nat} {x : Int} (h : Cell w base b x) : Cell w.drew base b x := h

theorem pl_lt (way : Int) (n j : Nat) (h : j < n) : plI way n j < n := by unfold plI; split <;> omega

set_option maxRecDepth 100000 in
set_option maxHeartbeats 4000000 in
theorem iTurn (w : World) (g o n cap : Nat) (own : List T5) (q way : Int) (hl : own.length = n) (h20 : n ≤ 1048576) (hg : g < w.heap.size) (h : AtO w g o own) (hp : ∀ p ∈ own, Pos p) (hs : sumC own ≤ 1000000000000000) (q1 : 1 ≤ q) (qM : q ≤ 1000000000000000) (q2 : q ≤ sumQ own) :
    Calls Try.prog 73 #[.slice (some ⟨g, o, none⟩) n cap, .int .i64 q, .int .i64 way] w fun e w' => ∃ g' c', e = .returned (.tuple #[.slice (some ⟨g', 0, none⟩) (leftW way own q).length c', .int .i64 (costW way own q)]) ∧ Own5 40 w' w.heap.size g' (leftW way own q).length c' (leftW way own q) ∧ Below w.heap.size w w' := by
  have H := hide h
  have HP := hide hp
  clear h hp
  obtain ⟨O, hO⟩ : ∃ O, Hid (dirL way own = O) := ⟨_, rfl⟩
  have OL : O.length = n := by rw [← unhide hO, dir_len, hl]
  have PO := hide (show ∀ p ∈ O, Pos p from fun p hp => (unhide HP) p (dir_mem.1 (by rw [unhide hO]; exact hp)))
  have sq : sumQ O = sumQ own := by rw [← unhide hO]; exact (dir_sum way own).1
  have sc : sumC O = sumC own := by rw [← unhide hO]; exact (dir_sum way own).2
  obtain ⟨LF, hLF⟩ : ∃ LF, Hid (leftF O q = LF) := ⟨_, rfl⟩
  obtain ⟨CF, hCF⟩ : ∃ CF, Hid (costF O q = CF) := ⟨_, rfl⟩
  have CB := costF_bd O q (by omega) (unhide PO)
  rw [unhide hCF, sc] at CB
  have EW := hide (show leftW way own q = dirL way LF from by unfold leftW; rw [unhide hO, unhide hLF])
  have EC := hide (show costW way own q = CF from by unfold costW; rw [unhide hO, unhide hCF])
  go_enter Try.func73, Try.ntmps73
  go_wp2_with fail
  refine (iClone w g o n cap own hl h20 hg (unhide H)).mono ?_
  rintro e w1 ⟨gL, cL, rfl, o1, b1⟩
  have O1 := hide o1
  have B1 := hide b1
  have s1 := b1.size
  clear o1 b1 H
  go_wp2_with fail
  refine (iPlaces w1 n way).mono ?_
  rintro e w2 ⟨rfl, p2, t2, b2⟩
  have gl1 := (unhide O1).lt
  have O2 := hide ((unhide O1).below b2 (unhide O1).lt.2)
  have B2 := hide (next (unhide B1) b2)
  obtain ⟨bp, BP⟩ : ∃ bp, Hid (bp = w1.heap.size) := ⟨_, rfl⟩
  obtain ⟨bt, BT⟩ : ∃ bt, Hid (bt = w1.heap.size + 1) := ⟨_, rfl⟩
  rw [← unhide BT] at t2 ⊢
  rw [← unhide BP] at p2 t2 ⊢
  have bpt : bp ≠ bt ∧ gL < bp ∧ gL < bt ∧ w.heap.size ≤ bp ∧ w.heap.size ≤ bt := by have := unhide BP; have := unhide BT; omega
  obtain ⟨pt1, pt2, pt3, pt4, pt5⟩ := bpt
  have P2 := hide p2
  have T2 := hide t2
  clear p2 t2 b2 O1 B1
  have D0 := hide (show (dirL way own).drop 0 = O.drop 0 from by rw [unhide hO])
  have F0 := hide (show fz ((dirL way own).take 0) ++ leftF (O.drop 0) q = LF from by rw [List.take_zero, List.drop_zero]; exact unhide hLF)
  have C0 := hide (show (0 : Int) + costF (O.drop 0) q = CF from by rw [List.drop_zero, unhide hCF]; omega)
  have S0 := hide (show q ≤ sumQ (O.drop 0) from by rw [List.drop_zero, sq]; exact q2)
  have P0 := hide (show Cell w2 bp bp (place0 way n + ((0 : Nat) : Int) * step0 way) from by rw [show place0 way n + ((0 : Nat) : Int) * step0 way = place0 way n by simp]; exact unhide P2)
  go_wp2
  go_loopw [1, 9] (fun qv cv wr => ∃ (left : List T5) (j : Nat) (x c : Int), qv = .int .i64 x ∧ cv = .int .i64 c ∧ j ≤ n ∧ 0 ≤ x ∧ x ≤ 1000000000000000 ∧ 0 ≤ c ∧ c ≤ CF ∧ Hid (left.length = n) ∧ Hid (x ≤ sumQ (O.drop j)) ∧ Hid ((dirL way left).drop j = O.drop j) ∧ Hid (fz ((dirL way left).take j) ++ leftF (O.drop j) x = LF) ∧ Hid (c + costF (O.drop j) x = CF) ∧ Hid (Own5 40 wr w.heap.size gL n cL left) ∧ Hid (Cell wr bp bp (place0 way n + (j : Int) * step0 way)) ∧ Hid (Cell wr bp bt (step0 way)) ∧ Hid (Below w.heap.size w wr)) (fun qv _ _ => (intOf qv).toNat)
  case atStart => exact ⟨own, 0, q, 0, rfl, rfl, by omega, by omega, qM, by omega, CB.1, hide hl, S0, D0, F0, C0, O2, P0, T2, B2⟩
  case round =>
    clear D0 F0 C0 S0 P0 O2 P2 T2 B2
    obtain ⟨left, j, x, c, rfl, rfl, jn, x0', xM, c0', cC, LL, XS, LD, FZ, CC, HO, HPc, HT, HB⟩ := hrel
    by_cases t : 0 < x
    · have jl : j < n := by
        rcases Nat.lt_or_ge j n with h | h
        · exact h
        · have h2 := unhide XS
          rw [List.drop_of_length_le (by omega)] at h2
          simp [sumQ] at h2
          omega
      have DN := hide (drop_next (ps := O) (k := j) (by omega))
      have EJ : el5 left (plI way n j) = el5 O j := by
        have h1 := dir_el way left j (by rw [unhide LL]; exact jl)
        rw [unhide LL] at h1
        rw [← h1]
        have h2 := drop_next (ps := dirL way left) (k := j) (by rw [dir_len, unhide LL]; exact jl)
        have h3 := unhide LD
        rw [h2, unhide DN] at h3
        exact (List.cons.inj h3).1
      have D1 := hide (show (dirL way left).drop (j + 1) = O.drop (j + 1) from by
        have h2 := drop_next (ps := dirL way left) (k := j) (by rw [dir_len, unhide LL]; exact jl)
        have h3 := unhide LD
        rw [h2, unhide DN] at h3
        exact (List.cons.inj h3).2)
      have pp := (unhide PO) _ (getD_mem (ps := O) (i := j) (by omega))
      have ST := hide (take_step (r := O.drop (j + 1)) pp t)
      have PN := place_next way n j jl
      obtain ⟨k, hk⟩ : ∃ k, Hid (plI way n j = k) := ⟨_, rfl⟩
      have kn : k < n := by rw [← unhide hk]; exact pl_lt way n j jl
      rw [unhide hk] at EJ PN
      have MOD := hide (fun f => dir_modify way left j f (by rw [unhide LL]; exact jl))
      rw [unhide LL, unhide hk] at MOD
      have TM := hide (fun f => take_modify (dirL way left) j f (by rw [dir_len, unhide LL]; exact jl))
      have EM := hide (show el5 (dirL way left) j = el5 O j from by
        have h2 := drop_next (ps := dirL way left) (k := j) (by rw [dir_len, unhide LL]; exact jl)
        have h3 := unhide LD
        rw [h2, unhide DN] at h3
        exact (List.cons.inj h3).1)
      have gl := (unhide HO).lt
      have pl := (unhide HPc).lt
      go_wp2_with fail
      refine (iNext wr bp bp bt (place0 way n + (j : Int) * step0 way) (step0 way) k PN.1.symm (by omega) (unhide HPc) (unhide HT)).mono ?_
      rintro e u1 ⟨rfl, hu⟩
      have SP := (unhide HPc).set k
      rw [← hu] at SP
      have P1 := hide SP.1
      have O1 := hide ((unhide HO).kept SP.2 (by simp; omega))
      have T1 := hide ((unhide HT).kept SP.2 (by simp; exact fun e => pt1 e.symm))
      have B1 := hide ((unhide HB).grown SP.2 (unhide HB).size (fun z hz => by cases hz; exact pt4))
      clear SP hu HPc HO HT HB
      obtain ⟨e0, e1, e2, e3, e4⟩ := (unhide O1).at k (by rw [unhide LL]; exact kn)
      rw [EJ] at e0 e1 e2 e3 e4
      have r3 : u1.frozen? ⟨gL, k * 5 + 3, none⟩ = false := (unhide O1).free _
      have r4 : u1.frozen? ⟨gL, k * 5 + 4, none⟩ = false := (unhide O1).free _
      have EP : el5 O j = ((el5 O j).1, (el5 O j).2.1, (el5 O j).2.2.1, (el5 O j).2.2.2.1, (el5 O j).2.2.2.2) := rfl
      rw [EP] at DN ST EM pp
      have ELM := EP
      clear EP EJ
      generalize (el5 O j).1 = x0 at *
      generalize (el5 O j).2.1 = x1 at *
      generalize (el5 O j).2.2.1 = x2 at *
      generalize (el5 O j).2.2.2.1 = x3 at *
      generalize (el5 O j).2.2.2.2 = x4 at *
      have pp : (1 ≤ x3 ∧ x3 ≤ 1000000000000000) ∧ 0 ≤ x4 ∧ x4 ≤ 1000000000000000 := pp
      obtain ⟨⟨x31, x32⟩, x41, x42⟩ := pp
      obtain ⟨pr, hpr⟩ : ∃ pr, Hid (prt x x3 = pr) := ⟨_, rfl⟩
      have pb := part_bd (q := x) (x := x3) x0' x31
      rw [unhide hpr] at pb
      obtain ⟨pc, hpc⟩ : ∃ pc, Hid (x4 * pr / x3 = pc) := ⟨_, rfl⟩
      have pcb := div_le (c := x4) (t := pr) (x := x3) x41 pb.1 pb.2.1 x31
      have MT := hide (md_tells (a := x4) (b := pr) (c := x3) x41 x42 pb.1 pb.2.1 x31)
      rw [unhide hpc] at pcb MT
      have pr1 : 1 ≤ pr := by rw [← unhide hpr]; unfold prt; split <;> omega
      have kk : (k : Int) < (n : Int) := by omega
      have gl1' : gL < u1.heap.size := (unhide O1).lt.2
      by_cases le : x ≤ x3
      · obtain rfl : x = pr := by rw [← unhide hpr]; unfold prt; split <;> omega
        have C3 : ∀ n : Near u1, n.u.cell? ⟨gL, k * 5 + 3, none⟩ = some (.int .i64 x3) := fun n => (n.b.cell (p := ⟨gL, k * 5 + 3, none⟩) gl1').trans e3
        have C4 : ∀ n : Near u1, n.u.cell? ⟨gL, k * 5 + 4, none⟩ = some (.int .i64 x4) := fun n => (n.b.cell (p := ⟨gL, k * 5 + 4, none⟩) gl1').trans e4
        have near := near_is u1
        go_wp2_with fail
        refine quiet_near (by kernel_rfl) (by kernel_rfl) ?_
        repeat (go_big_quiet_step (first
          | (rename_i nn
             refine (MulC.iMD x4 x x3 pc (x4 * x % x3) true nn.u x41 x42 (by omega) (by omega) x31 x32 MT).mono ?_
             rintro e u6 ⟨rfl, g6⟩
             exact ⟨rfl, ⟨u6, next nn.b g6.below⟩, rfl⟩)))
        refine wpQuiet_nil ?_
        rintro u9 ⟨⟨_, b9⟩, rfl⟩
        have O9 := hide ((unhide O1).below b9 (unhide O1).lt.2)
        have P9 := hide ((unhide P1).below b9 (unhide P1).lt.2)
        have T9 := hide ((unhide T1).below b9 (unhide T1).lt.2)
        have B9 := hide (next (unhide B1) b9)
        have e3 := (b9.cell (p := ⟨gL, k * 5 + 3, none⟩) gl1').trans e3
        have e4 := (b9.cell (p := ⟨gL, k * 5 + 4, none⟩) gl1').trans e4
        have r3 : u9.frozen? ⟨gL, k * 5 + 3, none⟩ = false := (unhide O9).free _
        have r4 : u9.frozen? ⟨gL, k * 5 + 4, none⟩ = false := (unhide O9).free _
        have wQ : IntKind.i64.wrap (x3 - x) = x3 - x := by rw [IntKind.wrap_i64]; omega
        have wC : IntKind.i64.wrap (x4 - pc) = x4 - pc := by rw [IntKind.wrap_i64]; omega
        clear b9 C3 C4 near O1 P1 T1 B1 e0 e1 e2
        have AF : after (x0, x1, x2, x3, x4) x = (x0, x1, x2, x3 - x, x4 - pc) := by
          unfold after pcost
          simp only [unhide hpr, unhide hpc]
        have PR9 : ∀ p ∈ O.drop (j + 1), Pos p := fun p hp => (unhide PO) p (List.mem_of_mem_drop hp)
        have cr0 := costF_bd (O.drop (j + 1)) (x - x) (by omega) PR9
        have sr0 := sum_pos (O.drop (j + 1)) PR9
        have CC1 := hide (show (c + pc) + costF (O.drop (j + 1)) (x - x) = CF from by
          have h1 := (unhide ST).2
          have h2 := unhide CC
          rw [unhide DN] at h2
          unfold pcost at h1
          simp only [unhide hpr, unhide hpc] at h1
          omega)
        have cpc : c + pc ≤ CF := by have := unhide CC1; omega
        have XS1 := hide (show x - x ≤ sumQ (O.drop (j + 1)) from by
          have h2 := unhide XS
          rw [unhide DN] at h2
          simp only [sumQ] at h2
          omega)
        have LD1 := hide (show (dirL way (left.modify k (fun p : T5 => (p.1, p.2.1, p.2.2.1, x3 - x, x4 - pc)))).drop (j + 1) = O.drop (j + 1) from by
          rw [(unhide MOD) _, ((unhide TM) _).2]
          exact unhide D1)
        have FZ1 := hide (show fz ((dirL way (left.modify k (fun p : T5 => (p.1, p.2.1, p.2.2.1, x3 - x, x4 - pc)))).take (j + 1)) ++ leftF (O.drop (j + 1)) (x - x) = LF from by
          rw [(unhide MOD) _, ((unhide TM) _).1, fz_append, unhide EM]
          have h1 := (unhide ST).1
          have h2 := unhide FZ
          rw [unhide DN, ← h1, ← List.append_assoc, AF] at h2
          simp only [unhide hpr] at h2
          exact h2)
        have LL1 := hide (show (left.modify k (fun p : T5 => (p.1, p.2.1, p.2.2.1, x3 - x, x4 - pc))).length = n from by rw [List.length_modify]; exact unhide LL)
        have S3 := (unhide O9).set3 k (x3 - x)
        have S4 := S3.1.set4 k (x4 - pc)
        have O10 := hide (show Own5 40 (((u9.setCell ⟨gL, k * 5 + 3, none⟩ (.int .i64 (x3 - x))).setCell ⟨gL, k * 5 + 4, none⟩ (.int .i64 (x4 - pc))).drew) w.heap.size gL n cL (left.modify k (fun p : T5 => (p.1, p.2.1, p.2.2.1, x3 - x, x4 - pc))) from by rw [← mod_mod]; exact Own5.drew S4.1)
        have G10 := hide (grown_trans S3.2 S4.2)
        have P10 := hide (show Cell (((u9.setCell ⟨gL, k * 5 + 3, none⟩ (.int .i64 (x3 - x))).setCell ⟨gL, k * 5 + 4, none⟩ (.int .i64 (x4 - pc))).drew) bp bp (place0 way n + ((j + 1 : Nat) : Int) * step0 way) from by rw [PN.2]; exact cell_drew ((unhide P9).kept (unhide G10) (by simp; omega)))
        have T10 := hide (show Cell (((u9.setCell ⟨gL, k * 5 + 3, none⟩ (.int .i64 (x3 - x))).setCell ⟨gL, k * 5 + 4, none⟩ (.int .i64 (x4 - pc))).drew) bp bt (step0 way) from cell_drew ((unhide T9).kept (unhide G10) (by simp; omega)))
        have B10 := hide (show Below w.heap.size w (((u9.setCell ⟨gL, k * 5 + 3, none⟩ (.int .i64 (x3 - x))).setCell ⟨gL, k * 5 + 4, none⟩ (.int .i64 (x4 - pc))).drew) from ((unhide B9).grown (unhide G10) (unhide B9).size (fun z hz => by cases hz; exact gl.1)).drew)
        have wx : IntKind.i64.wrap (x - x) = x - x := by rw [IntKind.wrap_i64]; omega
        have wc : IntKind.i64.wrap (c + pc) = c + pc := by rw [IntKind.wrap_i64]; omega
        clear AF PR9 cr0 sr0 S3 S4 G10 O9 P9 T9 B9 ST MOD TM EM DN D1 FZ CC XS LD LL PN MT
        go_wp2
        go_region
        go_wp2
        go_roundw
        case rel => exact ⟨left.modify k (fun p : T5 => (p.1, p.2.1, p.2.2.1, x3 - x, x4 - pc)), j + 1, x - x, c + pc, by first | rfl | simp, rfl, by omega, by omega, by omega, by omega, cpc, LL1, XS1, LD1, FZ1, CC1, O10, P10, T10, B10⟩
        case measure => simp [intOf]; omega
      · obtain rfl : x3 = pr := by rw [← unhide hpr]; unfold prt; split <;> omega
        have C3 : ∀ n : Near u1, n.u.cell? ⟨gL, k * 5 + 3, none⟩ = some (.int .i64 x3) := fun n => (n.b.cell (p := ⟨gL, k * 5 + 3, none⟩) gl1').trans e3
        have C4 : ∀ n : Near u1, n.u.cell? ⟨gL, k * 5 + 4, none⟩ = some (.int .i64 x4) := fun n => (n.b.cell (p := ⟨gL, k * 5 + 4, none⟩) gl1').trans e4
        have near := near_is u1
        go_wp2_with fail
        refine quiet_near (by kernel_rfl) (by kernel_rfl) ?_
        repeat (go_big_quiet_step (first
          | (rename_i nn
             refine (MulC.iMD x4 x3 x3 pc (x4 * x3 % x3) true nn.u x41 x42 (by omega) (by omega) x31 x32 MT).mono ?_
             rintro e u6 ⟨rfl, g6⟩
             exact ⟨rfl, ⟨u6, next nn.b g6.below⟩, rfl⟩)))
        refine wpQuiet_nil ?_
        rintro u9 ⟨⟨_, b9⟩, rfl⟩
        have O9 := hide ((unhide O1).below b9 (unhide O1).lt.2)
        have P9 := hide ((unhide P1).below b9 (unhide P1).lt.2)
        have T9 := hide ((unhide T1).below b9 (unhide T1).lt.2)
        have B9 := hide (next (unhide B1) b9)
        have e3 := (b9.cell (p := ⟨gL, k * 5 + 3, none⟩) gl1').trans e3
        have e4 := (b9.cell (p := ⟨gL, k * 5 + 4, none⟩) gl1').trans e4
        have r3 : u9.frozen? ⟨gL, k * 5 + 3, none⟩ = false := (unhide O9).free _
        have r4 : u9.frozen? ⟨gL, k * 5 + 4, none⟩ = false := (unhide O9).free _
        have wQ : x3 - x3 = 0 := by omega
        have wC : IntKind.i64.wrap (x4 - pc) = x4 - pc := by rw [IntKind.wrap_i64]; omega
        clear b9 C3 C4 near O1 P1 T1 B1 e0 e1 e2
        have AF : after (x0, x1, x2, x3, x4) x = (x0, x1, x2, 0, x4 - pc) := by
          unfold after pcost
          simp only [unhide hpr, unhide hpc, Int.sub_self]
        have PR9 : ∀ p ∈ O.drop (j + 1), Pos p := fun p hp => (unhide PO) p (List.mem_of_mem_drop hp)
        have cr0 := costF_bd (O.drop (j + 1)) (x - x3) (by omega) PR9
        have sr0 := sum_pos (O.drop (j + 1)) PR9
        have CC1 := hide (show (c + pc) + costF (O.drop (j + 1)) (x - x3) = CF from by
          have h1 := (unhide ST).2
          have h2 := unhide CC
          rw [unhide DN] at h2
          unfold pcost at h1
          simp only [unhide hpr, unhide hpc] at h1
          omega)
        have cpc : c + pc ≤ CF := by have := unhide CC1; omega
        have XS1 := hide (show x - x3 ≤ sumQ (O.drop (j + 1)) from by
          have h2 := unhide XS
          rw [unhide DN] at h2
          simp only [sumQ] at h2
          omega)
        have LD1 := hide (show (dirL way (left.modify k (fun p : T5 => (p.1, p.2.1, p.2.2.1, 0, x4 - pc)))).drop (j + 1) = O.drop (j + 1) from by
          rw [(unhide MOD) _, ((unhide TM) _).2]
          exact unhide D1)
        have FZ1 := hide (show fz ((dirL way (left.modify k (fun p : T5 => (p.1, p.2.1, p.2.2.1, 0, x4 - pc)))).take (j + 1)) ++ leftF (O.drop (j + 1)) (x - x3) = LF from by
          rw [(unhide MOD) _, ((unhide TM) _).1, fz_append, unhide EM]
          have h1 := (unhide ST).1
          have h2 := unhide FZ
          rw [unhide DN, ← h1, ← List.append_assoc, AF] at h2
          simp only [unhide hpr] at h2
          exact h2)
        have LL1 := hide (show (left.modify k (fun p : T5 => (p.1, p.2.1, p.2.2.1, 0, x4 - pc))).length = n from by rw [List.length_modify]; exact unhide LL)
        have S3 := (unhide O9).set3 k (0)
        have S4 := S3.1.set4 k (x4 - pc)
        have O10 := hide (show Own5 40 (((u9.setCell ⟨gL, k * 5 + 3, none⟩ (.int .i64 (0))).setCell ⟨gL, k * 5 + 4, none⟩ (.int .i64 (x4 - pc))).drew) w.heap.size gL n cL (left.modify k (fun p : T5 => (p.1, p.2.1, p.2.2.1, 0, x4 - pc))) from by rw [← mod_mod]; exact Own5.drew S4.1)
        have G10 := hide (grown_trans S3.2 S4.2)
        have P10 := hide (show Cell (((u9.setCell ⟨gL, k * 5 + 3, none⟩ (.int .i64 (0))).setCell ⟨gL, k * 5 + 4, none⟩ (.int .i64 (x4 - pc))).drew) bp bp (place0 way n + ((j + 1 : Nat) : Int) * step0 way) from by rw [PN.2]; exact cell_drew ((unhide P9).kept (unhide G10) (by simp; omega)))
        have T10 := hide (show Cell (((u9.setCell ⟨gL, k * 5 + 3, none⟩ (.int .i64 (0))).setCell ⟨gL, k * 5 + 4, none⟩ (.int .i64 (x4 - pc))).drew) bp bt (step0 way) from cell_drew ((unhide T9).kept (unhide G10) (by simp; omega)))
        have B10 := hide (show Below w.heap.size w (((u9.setCell ⟨gL, k * 5 + 3, none⟩ (.int .i64 (0))).setCell ⟨gL, k * 5 + 4, none⟩ (.int .i64 (x4 - pc))).drew) from ((unhide B9).grown (unhide G10) (unhide B9).size (fun z hz => by cases hz; exact gl.1)).drew)
        have wx : IntKind.i64.wrap (x - x3) = x - x3 := by rw [IntKind.wrap_i64]; omega
        have wc : IntKind.i64.wrap (c + pc) = c + pc := by rw [IntKind.wrap_i64]; omega
        clear AF PR9 cr0 sr0 S3 S4 G10 O9 P9 T9 B9 ST MOD TM EM DN D1 FZ CC XS LD LL PN MT
        go_wp2
        go_region
        go_wp2
        go_roundw
        case rel => exact ⟨left.modify k (fun p : T5 => (p.1, p.2.1, p.2.2.1, 0, x4 - pc)), j + 1, x - x3, c + pc, by first | rfl | simp, rfl, by omega, by omega, by omega, by omega, cpc, LL1, XS1, LD1, FZ1, CC1, O10, P10, T10, B10⟩
        case measure => simp [intOf]; omega
    · obtain rfl : x = 0 := by omega
      have ECC : c = CF := by
        have h1 := unhide CC
        rw [costF_zero] at h1
        omega
      have FE := hide (show fz left = dirL way LF from by
        have h1 := unhide FZ
        rw [leftF_zero, ← unhide LD] at h1
        have h2 : fz ((dirL way left).drop j) = (dirL way left).drop j := fz_pos (fun p hp => by
          rw [unhide LD] at hp
          exact (unhide PO) p (List.mem_of_mem_drop hp))
        rw [← h2, ← fz_append, List.take_append_drop, dir_fz] at h1
        rw [← h1, dir_dir])
      have bs := (unhide HB).size
      clear CC FZ LD XS HPc HT
      go_wp2_with fail
      refine (iDelete wr w.heap.size gL n cL left h20 bs (unhide HO)).mono ?_
      rintro e u1 ⟨rfl, o9, b9⟩
      have O9 := hide o9
      have B9 := hide ((unhide HB).trans b9)
      clear o9 b9
      go_wp2
      go_ret2
      rw [unhide EW, unhide EC, ← unhide FE]
      exact ⟨gL, cL, rfl, unhide O9, unhide B9⟩

end Go.Proofs.Ytdnpjjbphamcmaa.ITurn
