/- Contract of the program's AccountPut: a new list, with the pair at its place, or as it was, or an empty one. Condition: a list of at most 2^20 pairs. -/
import Derived.Test.YtkbdlgbfgpoeiaaAccountIKind
import Derived.Test.YtkbdlgbfgpoeiaaAccountIInsert
import Derived.Deep.RegionWith
namespace Go.Proofs.Ytkbdlgbfgpoeiaa.AccountIPut
open Go.ChangeShapes Go.WideShapes Go.ChangeAt Go.RowKit Pairs Chart AccountIOk AccountIPlace AccountIKind AccountIInsert
set_option linter.unusedVariables false
set_option linter.unusedSimpArgs false

theorem At.more {w : World} {g : Nat} {ps : List (Int × Int)} (h : At w g ps) (hg : g < w.heap.size) (o : Obj) : At (w.alloc o) g ps := h.below ((Below.refl w.heap.size w).alloc (Nat.le_refl _) o) hg

/-- What stands behind the store of a list into the chart that comes. -/
theorem stored_next {w w2 w3 w6 w7 : World} {g n g6 k6 : Nat} {v v1 v2 u u1 u2 : Value} {ps qs : List (Int × Int)} (hw7 : w7 = w6.setCell ⟨w2.heap.size, 0, none⟩ v) (s3 : w2.heap.size < w3.heap.size) (s2 : w.heap.size < w2.heap.size) (hg : g < w2.heap.size) (hl : ps.length = n)
    (ho : Own 26 w6 w3.heap.size g6 (n + 1) k6 qs) (e60 : w6.cell? ⟨w2.heap.size, 0, none⟩ = some u) (e61 : w6.cell? ⟨w2.heap.size, 1, none⟩ = some v1) (e62 : w6.cell? ⟨w2.heap.size, 2, none⟩ = some v2)
    (c60 : w6.cell? ⟨w.heap.size, 0, none⟩ = some u) (c61 : w6.cell? ⟨w.heap.size, 1, none⟩ = some u1) (c62 : w6.cell? ⟨w.heap.size, 2, none⟩ = some u2) (hA : At w6 g ps) (hB : Below w.heap.size w w6) :
    Own 26 w7 w3.heap.size g6 (n + 1) k6 qs ∧ At w7 g6 qs ∧ g6 < w7.heap.size ∧ w7.cell? ⟨w2.heap.size, 0, none⟩ = some v ∧ w7.cell? ⟨w2.heap.size, 1, none⟩ = some v1 ∧ w7.cell? ⟨w2.heap.size, 2, none⟩ = some v2 ∧
      w7.cell? ⟨w.heap.size, 0, none⟩ = some u ∧ w7.cell? ⟨w.heap.size, 1, none⟩ = some u1 ∧ w7.cell? ⟨w.heap.size, 2, none⟩ = some u2 ∧ At w7 g ps ∧ Below w.heap.size w w7 := by
  have l6 := ho.lt
  have hgr : w6.grownBy w7 (some w2.heap.size) := by
    rw [hw7]
    exact ⟨rfl, rfl, rfl, by simp [World.setCell], fun k _ hk => Below.heap_setCell _ _ _ _ (fun e => hk (by rw [e]))⟩
  have o7 := ho.kept hgr (by simp; omega)
  have oth : ∀ (b o : Nat), b ≠ w2.heap.size → w7.cell? ⟨b, o, none⟩ = w6.cell? ⟨b, o, none⟩ := fun b o hb => by
    rw [hw7]
    exact World.cell?_setCell_other _ _ _ _ (fun e => hb (by simpa using (congrArg Addr.block e).symm))
  have oth2 : ∀ (o : Nat), o ≠ 0 → w7.cell? ⟨w2.heap.size, o, none⟩ = w6.cell? ⟨w2.heap.size, o, none⟩ := fun o ho => by
    rw [hw7]
    exact World.cell?_setCell_other _ _ _ _ (fun e => ho (by simpa using (congrArg Addr.off e).symm))
  refine ⟨o7, o7.at, o7.lt.2, ?_, (oth2 1 (by omega)).trans e61, (oth2 2 (by omega)).trans e62, (oth _ 0 (by omega)).trans c60, (oth _ 1 (by omega)).trans c61, (oth _ 2 (by omega)).trans c62, fun i hi => ⟨(oth _ _ (by omega)).trans (hA i hi).1, (oth _ _ (by omega)).trans (hA i hi).2⟩, ?_⟩
  · rw [hw7]
    exact World.cell?_setCell_same _ _ _ e60
  · rw [hw7]
    exact hB.setCell (by show w.heap.size ≤ w2.heap.size; omega) _

set_option maxRecDepth 100000 in
set_option maxHeartbeats 8000000 in
theorem iChartPut (w : World) (g n cap : Nat) (ps : List (Int × Int)) (x y : Int) (hl : ps.length = n) (h20 : n ≤ 1048576) (hg : g < w.heap.size) (h : At w g ps) :
    Calls Try.prog 40 #[.agg #[.slice (some ⟨g, 0, none⟩) n cap, .int .i64 20, .int .i64 4], .agg #[.int .i64 x, .int .i64 y]] w fun e w' => ∃ qs ok g' c', IsPut 20 4 ps (x, y) qs ok ∧
      e = .returned (.tuple #[.slice (some ⟨g', 0, none⟩) qs.length c', .bool ok]) ∧ Own 26 w' w.heap.size g' qs.length c' qs ∧ Below w.heap.size w w' := by
  obtain ⟨ok, OK⟩ := says_of 20 4 ps
  have hfd : ∀ w : World, (Instr.field 85 (.agg #[.int .i64 x, .int .i64 y]) 0).run Try.prog w = .ok (.int .i64 x) w := fun _ => by kernel_rfl
  obtain ⟨W0, hW0⟩ : ∃ W0, W0 = (w.alloc (.cells #[.slice (some ⟨g, 0, none⟩) n cap, .int .i64 20, .int .i64 4] 65)).alloc (.cells #[.int .i64 x, .int .i64 y] 26) := ⟨_, rfl⟩
  have s0 : W0.heap.size = w.heap.size + 2 := by rw [hW0]; simp
  have b0 : Below w.heap.size w W0 := by rw [hW0]; exact ((Below.refl _ _).alloc (Nat.le_refl _) _).alloc (by simp) _
  have c00 : W0.cell? ⟨w.heap.size, 0, none⟩ = some (.slice (some ⟨g, 0, none⟩) n cap) := by rw [hW0]; simp
  have c01 : W0.cell? ⟨w.heap.size, 1, none⟩ = some (.int .i64 20) := by rw [hW0]; simp
  have c02 : W0.cell? ⟨w.heap.size, 2, none⟩ = some (.int .i64 4) := by rw [hW0]; simp
  have d00 : W0.cell? ⟨w.heap.size + 1, 0, none⟩ = some (.int .i64 x) := by rw [hW0]; simp
  have d01 : W0.cell? ⟨w.heap.size + 1, 1, none⟩ = some (.int .i64 y) := by rw [hW0]; simp
  have A0 := hide (h.below b0 hg)
  have B0 := hide b0
  clear h b0
  cases ok
  · go_enter Try.func40, Try.ntmps40
    go_wp2_with fail
    rw [← hW0]
    refine (iOk _ g n cap ps false hl h20 (by omega) (unhide A0) OK).mono ?_
    rintro e w1 ⟨rfl, b1⟩
    have B1 := hide (next (unhide B0) b1)
    have s1 := b1.size
    clear b1 c00 c01 c02 d00 d01 hW0
    go_wp2
    go_ret2
    refine ⟨[], false, w1.heap.size, 0, .inl ⟨OK.no, rfl, rfl⟩, rfl, lit0 _ w1 w.heap.size (by omega), (unhide B1).alloc (by omega) _⟩
  · have n20 : n ≤ 20 := by have := OK.yes.1; omega
    go_enter Try.func40, Try.ntmps40
    go_wp2_with fail
    rw [← hW0]
    refine (iOk _ g n cap ps true hl h20 (by omega) (unhide A0) OK).mono ?_
    rintro e w1 ⟨rfl, b1⟩
    clear hW0
    have s1 := b1.size
    have A1 := hide ((unhide A0).below b1 (by omega))
    have B1 := hide (next (unhide B0) b1)
    have c10 := (b1.cell (p := ⟨w.heap.size, 0, none⟩) (by show w.heap.size < _; omega)).trans c00
    have c11 := (b1.cell (p := ⟨w.heap.size, 1, none⟩) (by show w.heap.size < _; omega)).trans c01
    have c12 := (b1.cell (p := ⟨w.heap.size, 2, none⟩) (by show w.heap.size < _; omega)).trans c02
    have d10 := (b1.cell (p := ⟨w.heap.size + 1, 0, none⟩) (by show w.heap.size + 1 < _; omega)).trans d00
    have d11 := (b1.cell (p := ⟨w.heap.size + 1, 1, none⟩) (by show w.heap.size + 1 < _; omega)).trans d01
    clear b1 c00 c01 c02 d00 d01
    go_wp2_with fail
    refine (iPlace _ g n cap ps x hl h20 (by omega) (unhide A1) (hide OK.yes.asc)).mono ?_
    rintro e w2 ⟨c, f, hc, hf, rfl, b2⟩
    have s2 := b2.size
    have A2 := hide ((unhide A1).below b2 (by omega))
    have B2 := hide (next (unhide B1) b2)
    have c20 := (b2.cell (p := ⟨w.heap.size, 0, none⟩) (by show w.heap.size < _; omega)).trans c10
    have c21 := (b2.cell (p := ⟨w.heap.size, 1, none⟩) (by show w.heap.size < _; omega)).trans c11
    have c22 := (b2.cell (p := ⟨w.heap.size, 2, none⟩) (by show w.heap.size < _; omega)).trans c12
    have d20 := (b2.cell (p := ⟨w.heap.size + 1, 0, none⟩) (by show w.heap.size + 1 < _; omega)).trans d10
    have d21 := (b2.cell (p := ⟨w.heap.size + 1, 1, none⟩) (by show w.heap.size + 1 < _; omega)).trans d11
    have PC := hide hc
    have cn : c ≤ n := by have := hc.1; omega
    clear b2 c10 c11 c12 d10 d11 hc hf
    go_wp2_with fail
    obtain ⟨w3, hw3⟩ : ∃ w3, w3 = w2.alloc (.cells #[.slice (some ⟨g, 0, none⟩) n cap, .int .i64 20, .int .i64 4] 65) := ⟨_, rfl⟩
    have s3 : w2.heap.size < w3.heap.size := by rw [hw3]; simp
    have b3 : Below w2.heap.size w2 w3 := by rw [hw3]; exact (Below.refl _ _).alloc (Nat.le_refl _) _
    have A3 : At w3 g ps := (unhide A2).below b3 (by omega)
    have B3 := hide (next (unhide B2) b3)
    have c30 := (b3.cell (p := ⟨w.heap.size, 0, none⟩) (by show w.heap.size < _; omega)).trans c20
    have c31 := (b3.cell (p := ⟨w.heap.size, 1, none⟩) (by show w.heap.size < _; omega)).trans c21
    have c32 := (b3.cell (p := ⟨w.heap.size, 2, none⟩) (by show w.heap.size < _; omega)).trans c22
    have d30 := (b3.cell (p := ⟨w.heap.size + 1, 0, none⟩) (by show w.heap.size + 1 < _; omega)).trans d20
    have d31 := (b3.cell (p := ⟨w.heap.size + 1, 1, none⟩) (by show w.heap.size + 1 < _; omega)).trans d21
    have e30 : w3.cell? ⟨w2.heap.size, 0, none⟩ = some (.slice (some ⟨g, 0, none⟩) n cap) := by rw [hw3]; simp
    have e31 : w3.cell? ⟨w2.heap.size, 1, none⟩ = some (.int .i64 20) := by rw [hw3]; simp
    have e32 : w3.cell? ⟨w2.heap.size, 2, none⟩ = some (.int .i64 4) := by rw [hw3]; simp
    have f30 : w3.frozen? ⟨w2.heap.size, 0, none⟩ = false := by rw [hw3]; simp
    rw [← hw3]
    have bV : Below w3.heap.size w3 (w3.alloc (.cells #[.int .i64 x, .int .i64 y] 26)) := (Below.refl _ _).alloc (Nat.le_refl _) _
    have v30 := (bV.cell (p := ⟨w.heap.size, 0, none⟩) (by show w.heap.size < _; omega)).trans c30
    have v31 := (bV.cell (p := ⟨w.heap.size, 1, none⟩) (by show w.heap.size < _; omega)).trans c31
    have v32 := (bV.cell (p := ⟨w.heap.size, 2, none⟩) (by show w.heap.size < _; omega)).trans c32
    clear bV
    have AA := hide A3
    clear A3 hw3 b3 c20 c21 c22 d20 d21
    go_region_with (first
      | (go_at_call 58
         refine (iCopied _ g n cap ps hl h20 (by simp; omega) (by first | exact unhide AA | exact At.more (unhide AA) (by omega) _)).mono ?_
         rintro e w4 ⟨g4, k4, rfl, o4, b4⟩
         have bw : Below w3.heap.size w3 w4 := by first | exact (Below.refl w3.heap.size w3).drew.trans b4 | exact ((Below.refl w3.heap.size w3).drew.alloc (Nat.le_refl _) _).trans (b4.mono (by simp))
         have s4 := bw.size
         have d40 := (bw.cell (p := ⟨w.heap.size + 1, 0, none⟩) (by show w.heap.size + 1 < _; omega)).trans d30
         have d41 := (bw.cell (p := ⟨w.heap.size + 1, 1, none⟩) (by show w.heap.size + 1 < _; omega)).trans d31)
      | (go_at_call_of 57 (Value.slice (some ⟨w4.heap.size, 0, none⟩) 1 1)
         refine (iInsert _ w3.heap.size g4 n c k4 w4.heap.size ps x y (by omega) (by simp; omega) cn ((o4.rebase (by have := o4.lt.1; simpa using this)).alloc _) (lit1 _ w4 w3.heap.size x y s4) (by have := o4.lt; omega)).mono ?_
         rintro e w6 ⟨g6, k6, rfl, o6, b6⟩
         have BB : Below w3.heap.size w3 w6 := (bw.alloc s4 _).trans b6
         have e60 := (BB.cell (p := ⟨w2.heap.size, 0, none⟩) (by show w2.heap.size < _; omega)).trans e30
         have f60 := (BB.frozen (p := ⟨w2.heap.size, 0, none⟩) (by show w2.heap.size < _; omega)).trans f30
         have HO6 := hide o6
         have HB6 := hide BB
         clear o6 b6 BB o4 b4 bw)
      | (go_at_call_of 57 (Value.slice (some ⟨w3.heap.size, 0, none⟩) 1 1)
         refine (iInsert _ w3.heap.size g4 n c k4 w3.heap.size ps x y (by omega) s4 cn (o4.rebase (by have := o4.lt.1; simp at this; omega)) ((lit1 26 w3.drew w3.heap.size x y (Nat.le_refl _)).below b4 (by simp)) (by have := o4.lt.1; simp at this; omega)).mono ?_
         rintro e w6 ⟨g6, k6, rfl, o6, b6⟩
         have BB : Below w3.heap.size w3 w6 := bw.trans b6
         have e60 := (BB.cell (p := ⟨w2.heap.size, 0, none⟩) (by show w2.heap.size < _; omega)).trans e30
         have f60 := (BB.frozen (p := ⟨w2.heap.size, 0, none⟩) (by show w2.heap.size < _; omega)).trans f30
         have HO6 := hide o6
         have HB6 := hide BB
         clear o6 b6 BB o4 b4 bw))
    all_goals
      (obtain ⟨w7, hw7⟩ : ∃ w7, w7 = w6.setCell ⟨w2.heap.size, 0, none⟩ (.slice (some ⟨g6, 0, none⟩) (n + 1) k6) := ⟨_, rfl⟩
       have e61 := ((unhide HB6).cell (p := ⟨w2.heap.size, 1, none⟩) s3).trans e31
       have e62 := ((unhide HB6).cell (p := ⟨w2.heap.size, 2, none⟩) s3).trans e32
       have c60 := ((unhide HB6).cell (p := ⟨w.heap.size, 0, none⟩) (by show w.heap.size < _; omega)).trans c30
       have c61 := ((unhide HB6).cell (p := ⟨w.heap.size, 1, none⟩) (by show w.heap.size < _; omega)).trans c31
       have c62 := ((unhide HB6).cell (p := ⟨w.heap.size, 2, none⟩) (by show w.heap.size < _; omega)).trans c32
       have A6 := (unhide AA).below (unhide HB6) (by omega)
       have l6 := (unhide HO6).lt
       have s6 := (unhide HB6).size
       obtain ⟨own7, at7, sz7, e70, e71, e72, c70, c71, c72, A7, B7⟩ := stored_next hw7 s3 (by omega) (by omega) hl (unhide HO6) e60 e61 e62 c60 c61 c62 A6 ((unhide B3).trans ((unhide HB6).mono (by omega)))
       rw [← hw7]
       clear hw7 e30 e31 e32 f30 e60 f60 e61 e62 c60 c61 c62 c30 c31 c32 d30 d31 d40 d41 v30 v31 v32 HO6 HB6 A6
       obtain ⟨ok2, OK2⟩ := says_of 20 4 (ins ps c (x, y))
       have li : (ins ps c (x, y)).length = n + 1 := by rw [ins_len _ _ _ (by omega)]; omega
       have O7 := hide own7
       have T7 := hide at7
       have G7 := hide A7
       have H7 := hide B7
       have LI := hide li
       clear own7 at7 A7 B7 li
       cases ok2
       · go_wp2_with fail
         refine (iOk _ g6 (n + 1) k6 (ins ps c (x, y)) false (unhide LI) (by omega) (by omega) (unhide T7) OK2).mono ?_
         rintro e w8 ⟨rfl, b8⟩
         have s8 := b8.size
         have c80 := (b8.cell (p := ⟨w.heap.size, 0, none⟩) (by show w.heap.size < _; omega)).trans c70
         have c81 := (b8.cell (p := ⟨w.heap.size, 1, none⟩) (by show w.heap.size < _; omega)).trans c71
         have c82 := (b8.cell (p := ⟨w.heap.size, 2, none⟩) (by show w.heap.size < _; omega)).trans c72
         have G8 := hide ((unhide G7).below b8 (by omega))
         have H8 := hide (next (unhide H7) b8)
         clear b8 e70 e71 e72 c70 c71 c72
         go_wp2_with fail
         refine (iCopied _ g n cap ps hl h20 (by omega) (unhide G8)).mono ?_
         rintro e w9 ⟨g9, k9, rfl, o9, b9⟩
         have O9 := hide (o9.rebase (base' := w.heap.size) (by have := o9.lt.1; omega))
         have H9 := hide (next (unhide H8) b9)
         clear o9 b9
         go_wp2
         go_ret2
         exact ⟨ps, false, g9, k9, .inr ⟨OK.yes, c, unhide PC, .inl ⟨OK2.no, rfl, rfl⟩⟩, by rw [hl]; rfl, by rw [hl]; exact unhide O9, unhide H9⟩
       · go_wp2_with fail
         refine (iOk _ g6 (n + 1) k6 (ins ps c (x, y)) true (unhide LI) (by omega) (by omega) (unhide T7) OK2).mono ?_
         rintro e w8 ⟨rfl, b8⟩
         have e80 := (b8.cell (p := ⟨w2.heap.size, 0, none⟩) (by show w2.heap.size < _; omega)).trans e70
         have O8 := hide (((unhide O7).below b8 (by omega)).rebase (base' := w.heap.size) (by omega))
         have H8 := hide (next (unhide H7) b8)
         clear b8 e70 e71 e72 c70 c71 c72
         go_wp2
         go_ret2
         exact ⟨ins ps c (x, y), true, g6, k6, .inr ⟨OK.yes, c, unhide PC, .inr ⟨OK2.yes, rfl, rfl⟩⟩, by rw [unhide LI]; rfl, by rw [unhide LI]; exact unhide O8, unhide H8⟩)

set_option maxRecDepth 100000 in
theorem iPut (w : World) (g n cap : Nat) (ps : List (Int × Int)) (x y : Int) (hl : ps.length = n) (h20 : n ≤ 1048576) (hg : g < w.heap.size) (h : At w g ps) :
    Calls Try.prog 11 #[.slice (some ⟨g, 0, none⟩) n cap, .agg #[.int .i64 x, .int .i64 y]] w fun e w' => ∃ qs ok g' c', IsPut 20 4 ps (x, y) qs ok ∧
      e = .returned (.tuple #[.slice (some ⟨g', 0, none⟩) qs.length c', .bool ok]) ∧ Own 26 w' w.heap.size g' qs.length c' qs ∧ Below w.heap.size w w' := by
  obtain ⟨W0, hW0⟩ : ∃ W0, W0 = w.alloc (.cells #[.int .i64 x, .int .i64 y] 26) := ⟨_, rfl⟩
  have s0 : w.heap.size < W0.heap.size := by rw [hW0]; simp
  have b0 : Below w.heap.size w W0 := by rw [hW0]; exact (Below.refl _ _).alloc (Nat.le_refl _) _
  have d00 : W0.cell? ⟨w.heap.size, 0, none⟩ = some (.int .i64 x) := by rw [hW0]; simp
  have d01 : W0.cell? ⟨w.heap.size, 1, none⟩ = some (.int .i64 y) := by rw [hW0]; simp
  have A0 := hide (h.below b0 hg)
  have B0 := hide b0
  clear h b0
  go_enter Try.func11, Try.ntmps11
  go_wp2_with fail
  rw [← hW0]
  clear hW0
  go_region_with (first
    | (go_at_call 41
       refine (iChart _ g n cap).mono ?_
       rintro e w1 ⟨rfl, b1⟩
       have bw : Below W0.heap.size W0 w1 := (Below.refl W0.heap.size W0).drew.trans b1
       have s1 := bw.size
       have d10 := (bw.cell (p := ⟨w.heap.size, 0, none⟩) s0).trans d00
       have d11 := (bw.cell (p := ⟨w.heap.size, 1, none⟩) s0).trans d01
       have A1 := hide ((unhide A0).below bw (by omega))
       have B1 := hide (next (unhide B0) bw)
       clear b1 bw)
    | (go_at_call 40
       refine (iChartPut _ g n cap ps x y hl h20 (by omega) (unhide A1)).mono ?_
       rintro e w2 ⟨qs, ok, g2, k2, hp, rfl, o2, b2⟩
       have P2 := hide hp
       have O2 := hide (o2.rebase (base' := w.heap.size) (by have := o2.lt.1; omega))
       have B2 := hide (next (unhide B1) b2)
       clear hp o2 b2))
  all_goals
    (go_wp2
     go_ret2
     exact ⟨qs, ok, g2, k2, unhide P2, rfl, unhide O2, unhide B2⟩)

end Go.Proofs.Ytkbdlgbfgpoeiaa.AccountIPut
