/- Disks: the specification's disk without the file at a place. -/
import Derived.Test.YtejbbhjhinkcdaaApp14
namespace Go.Proofs.Ytejbbhjhinkcdaa.SLess14
open Go.ChangeShapes Go.WideShapes Go.ChangeAt Go.RowKit Fil14 OpensF14 DiskH14 DkH14 SDk14 SOk14 SRd14 App14
open DkH14 (row_step)
set_option linter.unusedVariables false
set_option linter.unusedSimpArgs false

/-- The first k files but the one at a place. -/
def lessN (ps : List TF) (nm : Int) : Nat → List TF
  | 0 => []
  | k + 1 => if (k : Int) = nm then lessN ps nm k else lessN ps nm k ++ [elF ps k]

theorem grow_low {B : Nat} {w W W' : World} {G : Nat} (h : Below B w W) (k : W.grownBy W' (some G)) (hB : B ≤ G ∧ B ≤ W.heap.size) : Below B w W' :=
  ⟨k.os.trans h.os, k.tape.trans h.tape, k.output.trans h.output, Nat.le_trans h.size k.size, fun i hi => (k.block i (by omega) (by simp; omega)).trans (h.block i hi)⟩
theorem bc_set1 {w : World} {base g : Nat} {v0 v1 : Value} (h : Bc w base g v0 v1) (u : Value) : Bc (w.setCell ⟨g, 1, none⟩ u) base g v0 u ∧ w.grownBy (w.setCell ⟨g, 1, none⟩ u) (some g) := World.ownsRow.stored h 1 u

abbrev oL0 : Oper := { dst := some 20, op := Go.Op.fieldAddr 26 (Go.Operand.tmp 5) 1, type := 0, pos := "l14_disk.go:72", after := #[], guard := none }
abbrev oL1 : Oper := { dst := some 21, op := Go.Op.load 24 (Go.Operand.tmp 20), type := 24, pos := "l14_disk.go:72", after := #[{ on := 0, ground := Go.Ground.data }], guard := none }
abbrev oL2 : Oper := { dst := some 22, op := Go.Op.fieldAddr 26 (Go.Operand.tmp 2) 1, type := 0, pos := "l14_disk.go:72", after := #[], guard := none }
abbrev oL3 : Oper := { dst := some 23, op := Go.Op.load 24 (Go.Operand.tmp 22), type := 24, pos := "l14_disk.go:72", after := #[{ on := 2, ground := Go.Ground.data }], guard := none }
abbrev oL4 : Oper := { dst := some 24, op := Go.Op.move (Go.Operand.tmp 6), type := 3, pos := "l14_disk.go:72", after := #[], guard := none }
abbrev oL5 : Oper := { dst := some 25, op := Go.Op.indexAddr 24 (Go.Operand.tmp 23) (Go.Operand.tmp 24), type := 0, pos := "l14_disk.go:72", after := #[{ on := 3, ground := Go.Ground.data }, { on := 4, ground := Go.Ground.data }], guard := none }
abbrev oL6 : Oper := { dst := some 26, op := Go.Op.load 32 (Go.Operand.tmp 25), type := 32, pos := "l14_disk.go:72", after := #[{ on := 5, ground := Go.Ground.data }], guard := none }
abbrev oL7 : Oper := { dst := some 27, op := Go.Op.buildSlice 24 1 #[(0, Go.Operand.tmp 26)], type := 24, pos := "l14_disk.go:72", after := #[{ on := 6, ground := Go.Ground.data }], guard := none }
abbrev oL8 : Oper := { dst := some 28, op := Go.Op.call { callee := Go.Callee.builtin Go.Builtin.append, args := #[Go.Operand.tmp 21, Go.Operand.tmp 27], argTypes := #[24, 24] }, type := 24, pos := "l14_disk.go:72", after := #[{ on := 1, ground := Go.Ground.data }, { on := 7, ground := Go.Ground.data }], guard := none }
abbrev oL9 : Oper := { dst := some 29, op := Go.Op.fieldAddr 26 (Go.Operand.tmp 5) 1, type := 0, pos := "l14_disk.go:72", after := #[{ on := 0, ground := Go.Ground.phase }, { on := 1, ground := Go.Ground.phase }, { on := 2, ground := Go.Ground.phase }, { on := 3, ground := Go.Ground.phase }, { on := 4, ground := Go.Ground.phase }, { on := 5, ground := Go.Ground.phase }, { on := 6, ground := Go.Ground.phase }, { on := 7, ground := Go.Ground.phase }, { on := 8, ground := Go.Ground.phase }], guard := none }
abbrev oL10 : Oper := { dst := none, op := Go.Op.store 24 (Go.Operand.tmp 29) (Go.Operand.tmp 28), type := 0, pos := "l14_disk.go:72", after := #[{ on := 9, ground := Go.Ground.data }, { on := 8, ground := Go.Ground.data }, { on := 8, ground := Go.Ground.chain }, { on := 0, ground := Go.Ground.phase }, { on := 1, ground := Go.Ground.phase }, { on := 2, ground := Go.Ground.phase }, { on := 3, ground := Go.Ground.phase }, { on := 4, ground := Go.Ground.phase }, { on := 5, ground := Go.Ground.phase }, { on := 6, ground := Go.Ground.phase }, { on := 7, ground := Go.Ground.phase }, { on := 8, ground := Go.Ground.phase }], guard := none }

set_option maxRecDepth 100000 in
set_option maxHeartbeats 4000000 in
theorem sLess (w : World) (x : Dx) (nm : Int) (hr : RdD w x) :
    Calls Try.prog 47 #[.agg #[.int .i64 x.room, .slice x.a x.ps.length x.c], .int .i64 nm] w fun e w' => ∃ y : Dx, y.room = x.room ∧ y.ps = lessN x.ps nm x.ps.length ∧ e = .returned (.agg #[.int .i64 y.room, .slice y.a y.ps.length y.c]) ∧ OwD w' w.heap.size y ∧ Below w.heap.size w w' := by
  have F : ∀ W1, W1 = w.alloc (.cells #[.int .i64 x.room, .slice x.a x.ps.length x.c] 26) → ∀ W2, W2 = W1.alloc (.cells #[.int .i64 0, .slice none 0 0] 26) → ∀ W3, W3 = W2.alloc (.cells #[.int .i64 x.room, .slice none 0 0] 26) →
      Wd w W3 x ∧ Bc W3 w.heap.size (w.heap.size + 1) (.int .i64 0) (.slice none 0 0) ∧ Bc W3 w.heap.size (w.heap.size + 1 + 1) (.int .i64 x.room) (.slice none 0 0) ∧ W3.heap.size = w.heap.size + 3 := by
    intro W1 h1 W2 h2 W3 h3
    have s1 : W1.heap.size = w.heap.size + 1 := by rw [h1]; simp
    have s2 : W2.heap.size = w.heap.size + 1 + 1 := by rw [h2]; simp [s1]
    have s3 : W3.heap.size = w.heap.size + 3 := by rw [h3]; simp [s2]
    have d1 : Wd w W1 x := by rw [h1]; exact Wd.made hr _
    have b2 : Below W1.heap.size W1 W2 := by rw [h2]; exact one_more _ _
    have b3 : Below W2.heap.size W2 W3 := by rw [h3]; exact one_more _ _
    have R1 : Bc W2 w.heap.size (w.heap.size + 1) (.int .i64 0) (.slice none 0 0) := by rw [h2]; exact Bc.made _ _ (by omega) s1.symm
    have O1 : Bc W3 w.heap.size (w.heap.size + 1 + 1) (.int .i64 x.room) (.slice none 0 0) := by rw [h3]; exact Bc.made _ _ (by omega) s2.symm
    exact ⟨(d1.step b2).step b3, R1.below b3 (by omega), O1, s3⟩
  have G0 := hide (F _ rfl _ rfl _ rfl)
  have G1 := hide (fun g e => (hr.r g e).1)
  have h20 := hr.n
  clear F hr
  go_enter Try.func47, Try.ntmps47
  go_wp2_with fail
  generalize ((w.alloc (.cells #[.int .i64 x.room, .slice x.a x.ps.length x.c] 26)).alloc (.cells #[.int .i64 0, .slice none 0 0] 26)).alloc (.cells #[.int .i64 x.room, .slice none 0 0] 26) = W at *
  obtain ⟨WD, RB, OB, s3⟩ := unhide G0
  have HWD := hide WD
  have HRB := hide RB
  clear G0 WD RB
  go_loopw [6] (fun i wr => ∃ (k m c : Nat) (a : Option Addr), i = .int .i64 k ∧ k ≤ x.ps.length ∧ m ≤ k ∧ Hid (W.grownBy wr (some (w.heap.size + 1 + 1))) ∧ Hid (Bc wr w.heap.size (w.heap.size + 1 + 1) (.int .i64 x.room) (.slice a m c)) ∧ Hid (wr.ownsRow W.heap.size 32 3 (.slice a m c) m (flatF (lessN x.ps nm k)))) (fun i _ => x.ps.length - (intOf i).toNat)
  case atStart => exact ⟨0, 0, 0, none, rfl, by omega, by omega, hide (World.grownBy.refl _ _), hide OB, hide ⟨rfl, .inl ⟨rfl, rfl⟩⟩⟩
  case round =>
    clear OB
    obtain ⟨k, m, c, a, rfl, hk, hm, GR, BX, OW⟩ := hrel
    have gs := (unhide GR).size
    have lt : w.heap.size + 2 < wr.heap.size := by omega
    have c1 := (kcell (unhide GR) 1 (show w.heap.size < W.heap.size from by omega) (by omega)).trans (unhide HWD).c1
    by_cases t : k < x.ps.length
    · have kt : (k : Int) < x.ps.length := by omega
      by_cases q : (k : Int) = nm
      · have TK := hide (show lessN x.ps nm (k + 1) = lessN x.ps nm k from if_pos q)
        subst q
        go_wp2
        go_roundw
        case rel => exact ⟨k + 1, m, c, a, by go_num, by omega, by omega, GR, BX, hide (by rw [unhide TK]; exact unhide OW)⟩
        case measure => simp [intOf]; omega
      · have TK := hide (show lessN x.ps nm (k + 1) = lessN x.ps nm k ++ [elF x.ps k] from if_neg q)
        obtain ⟨g, ea, lg, e0, e1, e2⟩ := cells_of (unhide HWD).r t
        have lg0 := (unhide G1) g ea
        have gn : g ≠ w.heap.size + 1 + 1 := by omega
        have d0 := (kcell (unhide GR) (k * 3) lg gn).trans e0
        have d1 := (kcell (unhide GR) (k * 3 + 1) lg gn).trans e1
        have d2 := (kcell (unhide GR) (k * 3 + 2) lg gn).trans e2
        rw [ea] at c1
        generalize hp : elF x.ps k = p at *
        obtain ⟨z0, z1, z2⟩ := p
        simp only at d0 d1 d2
        clear e0 e1 e2 ea hp
        have K0 : wr.cell? ⟨w.heap.size, 1, none⟩ = some (.slice (some ⟨g, 0, none⟩) x.ps.length x.c) ∧ wr.cell? ⟨g, k * 3, none⟩ = some (.int .i64 z0) ∧ wr.cell? ⟨g, k * 3 + 1, none⟩ = some (.string z1) ∧ wr.cell? ⟨g, k * 3 + 2, none⟩ = some (.string z2) := ⟨c1, d0, d1, d2⟩
        have KB : (wr.drew.alloc (.cells #[.int .i64 z0, .string z1, .string z2] 32)).cell? ⟨w.heap.size, 1, none⟩ = some (.slice (some ⟨g, 0, none⟩) x.ps.length x.c) ∧ (wr.drew.alloc (.cells #[.int .i64 z0, .string z1, .string z2] 32)).cell? ⟨g, k * 3, none⟩ = some (.int .i64 z0) ∧ (wr.drew.alloc (.cells #[.int .i64 z0, .string z1, .string z2] 32)).cell? ⟨g, k * 3 + 1, none⟩ = some (.string z1) ∧ (wr.drew.alloc (.cells #[.int .i64 z0, .string z1, .string z2] 32)).cell? ⟨g, k * 3 + 2, none⟩ = some (.string z2) := ⟨((one_more wr.drew (.cells #[.int .i64 z0, .string z1, .string z2] 32)).cell (p := ⟨w.heap.size, 1, none⟩) (show w.heap.size < wr.heap.size from by omega)).trans c1, ((one_more wr.drew (.cells #[.int .i64 z0, .string z1, .string z2] 32)).cell (p := ⟨g, k * 3, none⟩) (show g < wr.heap.size from by omega)).trans d0, ((one_more wr.drew (.cells #[.int .i64 z0, .string z1, .string z2] 32)).cell (p := ⟨g, k * 3 + 1, none⟩) (show g < wr.heap.size from by omega)).trans d1, ((one_more wr.drew (.cells #[.int .i64 z0, .string z1, .string z2] 32)).cell (p := ⟨g, k * 3 + 2, none⟩) (show g < wr.heap.size from by omega)).trans d2⟩
        have bc := (unhide BX).c1
        have bcD : wr.drew.cell? ⟨w.heap.size + 1 + 1, 1, none⟩ = some (.slice a m c) := bc
        have bcA : (wr.alloc (.cells #[.int .i64 z0, .string z1, .string z2] 32)).cell? ⟨w.heap.size + 1 + 1, 1, none⟩ = some (.slice a m c) := ((one_more wr.drew (.cells #[.int .i64 z0, .string z1, .string z2] 32)).cell (p := ⟨w.heap.size + 1 + 1, 1, none⟩) (show w.heap.size + 1 + 1 < wr.heap.size from by omega)).trans bc
        go_wp2_with fail
        refine wp_region_held_drew (S := (fun w' => w'.cell? ⟨w.heap.size, 1, none⟩ = some (.slice (some ⟨g, 0, none⟩) x.ps.length x.c) ∧ w'.cell? ⟨g, k * 3, none⟩ = some (.int .i64 z0) ∧ w'.cell? ⟨g, k * 3 + 1, none⟩ = some (.string z1) ∧ w'.cell? ⟨g, k * 3 + 2, none⟩ = some (.string z2))) (by kernel_rfl) K0 (fun hHeld => ?_)
        refine wpAnyH_take (i := 0) (oi := oL0) (v := .pointer (some ⟨w.heap.size + 1 + 1, 1, none⟩)) rfl (by kernel_rfl) (by kernel_rfl) (by kernel_rfl) (fun _ _ _ h => h) (Or.inl ⟨by rfl, fun w hSw => ?_⟩) hHeld ?_
        · (try dsimp only at hSw)
          unfold oL0
          go_simp
        try simp only [oL0, Act.put, List.setIfInBounds_toArray, List.set_cons_zero, List.set_cons_succ]
        refine wpAnyH_take (i := 2) (oi := oL2) (v := .pointer (some ⟨w.heap.size, 1, none⟩)) rfl (by kernel_rfl) (by kernel_rfl) (by kernel_rfl) (fun _ _ _ h => h) (Or.inl ⟨by rfl, fun w hSw => ?_⟩) hHeld ?_
        · (try dsimp only at hSw)
          unfold oL2
          go_simp
        try simp only [oL2, Act.put, List.setIfInBounds_toArray, List.set_cons_zero, List.set_cons_succ]
        refine wpAnyH_take (i := 3) (oi := oL3) (v := .slice (some ⟨g, 0, none⟩) x.ps.length x.c) rfl (by kernel_rfl) (by kernel_rfl) (by kernel_rfl) (fun _ _ _ h => h) (Or.inl ⟨by rfl, fun w hSw => ?_⟩) hHeld ?_
        · (try dsimp only at hSw)
          unfold oL3
          go_simp
        try simp only [oL3, Act.put, List.setIfInBounds_toArray, List.set_cons_zero, List.set_cons_succ]
        refine wpAnyH_take (i := 4) (oi := oL4) (v := .int .i64 k) rfl (by kernel_rfl) (by kernel_rfl) (by kernel_rfl) (fun _ _ _ h => h) (Or.inl ⟨by rfl, fun w hSw => ?_⟩) hHeld ?_
        · (try dsimp only at hSw)
          unfold oL4
          go_simp
        try simp only [oL4, Act.put, List.setIfInBounds_toArray, List.set_cons_zero, List.set_cons_succ]
        refine wpAnyH_take (i := 5) (oi := oL5) (v := .pointer (some ⟨g, k * 3, none⟩)) rfl (by kernel_rfl) (by kernel_rfl) (by kernel_rfl) (fun _ _ _ h => h) (Or.inl ⟨by rfl, fun w hSw => ?_⟩) hHeld ?_
        · (try dsimp only at hSw)
          unfold oL5
          go_simp
        try simp only [oL5, Act.put, List.setIfInBounds_toArray, List.set_cons_zero, List.set_cons_succ]
        refine wpAnyH_take (i := 6) (oi := oL6) (v := .agg #[.int .i64 z0, .string z1, .string z2]) rfl (by kernel_rfl) (by kernel_rfl) (by kernel_rfl) (fun _ _ _ h => h) (Or.inl ⟨by rfl, fun w hSw => ?_⟩) hHeld ?_
        · (try dsimp only at hSw)
          unfold oL6
          go_simp
        try simp only [oL6, Act.put, List.setIfInBounds_toArray, List.set_cons_zero, List.set_cons_succ]
        refine wpAnyH_ready (rs := [1, 7]) (by kernel_rfl) (by simp) ?_
        refine AllReadyH.cons (o := oL1) rfl (fun K hK => ?_) (AllReadyH.cons (o := oL7) rfl (fun K hK => ?_) AllReadyH.nil)
        · unfold oL1
          go_simp
          refine hK.out _ _ K0 (fun hHeld => ?_)
          clear hK K
          try simp only [oL1, Act.put, List.setIfInBounds_toArray, List.set_cons_zero, List.set_cons_succ]
          refine wpAnyH_ready (rs := [7]) (by kernel_rfl) (by simp) ?_
          refine AllReadyH.cons (o := oL7) rfl (fun K hK => ?_) AllReadyH.nil
          unfold oL7
          go_simp
          refine hK.out _ _ KB (fun hHeld => ?_)
          clear hK K
          try simp only [oL7, Act.put, List.setIfInBounds_toArray, List.set_cons_zero, List.set_cons_succ]
          refine wpAnyH_ready (rs := [8]) (by kernel_rfl) (by simp) ?_
          refine AllReadyH.cons (o := oL8) rfl (fun K hK => ?_) AllReadyH.nil
          refine step_app (wr.drew.alloc (.cells #[.int .i64 z0, .string z1, .string z2] 32)) (by rfl) _ _ 24 32 (by rfl) (.agg #[.int .i64 0, .string ByteArray.empty, .string ByteArray.empty]) 3 40 Try.underlying24 HelpF14.info2 rfl (by decide) (by decide) W.heap.size (.slice a m c) m (flatF (lessN x.ps nm k)) wr.drew.heap.size [.int .i64 z0, .string z1, .string z2] (by rfl) (by rfl) (row_step (W := wr.drew) (unhide OW) (one_more wr.drew (.cells #[.int .i64 z0, .string z1, .string z2] 32))) rfl (litm wr.drew _ _ _ (by rfl)) (by simp [Value.oneCell']) (by omega) (Nat.le_trans (show W.heap.size ≤ wr.drew.heap.size from gs) (by simp)) ?_
          intro g9 c9 u9 o9 gr9
          have BL : ∀ j, (Value.slice a m c).ownBlock = some j → W.heap.size ≤ j := fun j hj => (World.ownsRow.lt (unhide OW) j hj).1
          have GR9 := hide (grow_app (unhide GR) gr9 BL)
          have NG : some (w.heap.size + 1 + 1) ≠ (Value.slice a m c).ownBlock := fun e => by have := BL _ e.symm; omega
          have BX9 := hide (((show Bc wr.drew w.heap.size (w.heap.size + 1 + 1) (.int .i64 x.room) (.slice a m c) from unhide BX).below (one_more wr.drew (.cells #[.int .i64 z0, .string z1, .string z2] 32)) (show w.heap.size + 1 + 1 < wr.heap.size from by omega)).kept gr9 NG)
          have O9 := hide o9
          have fr9 : u9.frozen? ⟨w.heap.size + 1 + 1, 1, none⟩ = false := (unhide BX9).free 1
          have bc9 := (unhide BX9).c1
          have g9l := (World.ownsRow.lt o9 g9 rfl).1
          have gs9 := (unhide GR9).size
          have KC : u9.cell? ⟨w.heap.size, 1, none⟩ = some (.slice (some ⟨g, 0, none⟩) x.ps.length x.c) ∧ u9.cell? ⟨g, k * 3, none⟩ = some (.int .i64 z0) ∧ u9.cell? ⟨g, k * 3 + 1, none⟩ = some (.string z1) ∧ u9.cell? ⟨g, k * 3 + 2, none⟩ = some (.string z2) := ⟨gr9.cell KB.1 (fun e => by have := BL _ e.symm; simp only at this; omega), gr9.cell KB.2.1 (fun e => by have := BL _ e.symm; simp only at this; omega), gr9.cell KB.2.2.1 (fun e => by have := BL _ e.symm; simp only at this; omega), gr9.cell KB.2.2.2 (fun e => by have := BL _ e.symm; simp only at this; omega)⟩
          have SB := bc_set1 (unhide BX9) (.slice (some ⟨g9, 0, none⟩) (m + 1) c9)
          have SB2 := hide SB
          have KD : (u9.setCell ⟨w.heap.size + 1 + 1, 1, none⟩ (.slice (some ⟨g9, 0, none⟩) (m + 1) c9)).cell? ⟨w.heap.size, 1, none⟩ = some (.slice (some ⟨g, 0, none⟩) x.ps.length x.c) ∧ (u9.setCell ⟨w.heap.size + 1 + 1, 1, none⟩ (.slice (some ⟨g9, 0, none⟩) (m + 1) c9)).cell? ⟨g, k * 3, none⟩ = some (.int .i64 z0) ∧ (u9.setCell ⟨w.heap.size + 1 + 1, 1, none⟩ (.slice (some ⟨g9, 0, none⟩) (m + 1) c9)).cell? ⟨g, k * 3 + 1, none⟩ = some (.string z1) ∧ (u9.setCell ⟨w.heap.size + 1 + 1, 1, none⟩ (.slice (some ⟨g9, 0, none⟩) (m + 1) c9)).cell? ⟨g, k * 3 + 2, none⟩ = some (.string z2) := ⟨(kcell SB.2 (1) (show w.heap.size < u9.heap.size from by omega) (show w.heap.size ≠ w.heap.size + 1 + 1 from by omega)).trans KC.1, (kcell SB.2 (k * 3) (show g < u9.heap.size from by omega) gn).trans KC.2.1, (kcell SB.2 (k * 3 + 1) (show g < u9.heap.size from by omega) gn).trans KC.2.2.1, (kcell SB.2 (k * 3 + 2) (show g < u9.heap.size from by omega) gn).trans KC.2.2.2⟩
          clear o9 SB
          refine hK.out _ _ KC (fun hHeld => ?_)
          clear hK K
          try simp only [oL8, Act.put, List.setIfInBounds_toArray, List.set_cons_zero, List.set_cons_succ]
          refine wpAnyH_take (i := 9) (oi := oL9) (v := .pointer (some ⟨w.heap.size + 1 + 1, 1, none⟩)) rfl (by kernel_rfl) (by kernel_rfl) (by kernel_rfl) (fun _ _ _ h => h) (Or.inl ⟨by rfl, fun w hSw => ?_⟩) hHeld ?_
          · (try dsimp only at hSw)
            unfold oL9
            go_simp
          try simp only [oL9, Act.put, List.setIfInBounds_toArray, List.set_cons_zero, List.set_cons_succ]
          refine wpAnyH_ready (rs := [10]) (by kernel_rfl) (by simp) ?_
          refine AllReadyH.cons (o := oL10) rfl (fun K hK => ?_) AllReadyH.nil
          unfold oL10
          go_simp
          refine hK.out _ _ KD (fun hHeld => ?_)
          clear hK K
          try simp only [oL10, Act.put, List.setIfInBounds_toArray, List.set_cons_zero, List.set_cons_succ]
          refine wpAnyH_done (by kernel_rfl) ?_ _
          clear K0 KB KC KD gr9 bc bcD bcA bc9 fr9
          have GRS := hide (grow_grow (unhide GR9) (unhide SB2).2)
          have BXS := hide (unhide SB2).1
          have OWS := hide (row_kept (unhide O9) (unhide SB2).2 (by omega))
          clear SB2
          go_wp2
          go_roundw
          case rel => exact ⟨k + 1, m + 1, c9, some ⟨g9, 0, none⟩, by go_num, by omega, by omega, GRS, BXS, hide (by have h := unhide OWS; rw [unhide TK]; rw [flat_1]; exact h)⟩
          case measure => simp [intOf]; omega
        · unfold oL7
          go_simp
          refine hK.out _ _ KB (fun hHeld => ?_)
          clear hK K
          try simp only [oL7, Act.put, List.setIfInBounds_toArray, List.set_cons_zero, List.set_cons_succ]
          refine wpAnyH_ready (rs := [1]) (by kernel_rfl) (by simp) ?_
          refine AllReadyH.cons (o := oL1) rfl (fun K hK => ?_) AllReadyH.nil
          unfold oL1
          go_simp
          refine hK.out _ _ KB (fun hHeld => ?_)
          clear hK K
          try simp only [oL1, Act.put, List.setIfInBounds_toArray, List.set_cons_zero, List.set_cons_succ]
          refine wpAnyH_ready (rs := [8]) (by kernel_rfl) (by simp) ?_
          refine AllReadyH.cons (o := oL8) rfl (fun K hK => ?_) AllReadyH.nil
          refine step_app (wr.drew.alloc (.cells #[.int .i64 z0, .string z1, .string z2] 32)) (by rfl) _ _ 24 32 (by rfl) (.agg #[.int .i64 0, .string ByteArray.empty, .string ByteArray.empty]) 3 40 Try.underlying24 HelpF14.info2 rfl (by decide) (by decide) W.heap.size (.slice a m c) m (flatF (lessN x.ps nm k)) wr.drew.heap.size [.int .i64 z0, .string z1, .string z2] (by rfl) (by rfl) (row_step (W := wr.drew) (unhide OW) (one_more wr.drew (.cells #[.int .i64 z0, .string z1, .string z2] 32))) rfl (litm wr.drew _ _ _ (by rfl)) (by simp [Value.oneCell']) (by omega) (Nat.le_trans (show W.heap.size ≤ wr.drew.heap.size from gs) (by simp)) ?_
          intro g9 c9 u9 o9 gr9
          have BL : ∀ j, (Value.slice a m c).ownBlock = some j → W.heap.size ≤ j := fun j hj => (World.ownsRow.lt (unhide OW) j hj).1
          have GR9 := hide (grow_app (unhide GR) gr9 BL)
          have NG : some (w.heap.size + 1 + 1) ≠ (Value.slice a m c).ownBlock := fun e => by have := BL _ e.symm; omega
          have BX9 := hide (((show Bc wr.drew w.heap.size (w.heap.size + 1 + 1) (.int .i64 x.room) (.slice a m c) from unhide BX).below (one_more wr.drew (.cells #[.int .i64 z0, .string z1, .string z2] 32)) (show w.heap.size + 1 + 1 < wr.heap.size from by omega)).kept gr9 NG)
          have O9 := hide o9
          have fr9 : u9.frozen? ⟨w.heap.size + 1 + 1, 1, none⟩ = false := (unhide BX9).free 1
          have bc9 := (unhide BX9).c1
          have g9l := (World.ownsRow.lt o9 g9 rfl).1
          have gs9 := (unhide GR9).size
          have KC : u9.cell? ⟨w.heap.size, 1, none⟩ = some (.slice (some ⟨g, 0, none⟩) x.ps.length x.c) ∧ u9.cell? ⟨g, k * 3, none⟩ = some (.int .i64 z0) ∧ u9.cell? ⟨g, k * 3 + 1, none⟩ = some (.string z1) ∧ u9.cell? ⟨g, k * 3 + 2, none⟩ = some (.string z2) := ⟨gr9.cell KB.1 (fun e => by have := BL _ e.symm; simp only at this; omega), gr9.cell KB.2.1 (fun e => by have := BL _ e.symm; simp only at this; omega), gr9.cell KB.2.2.1 (fun e => by have := BL _ e.symm; simp only at this; omega), gr9.cell KB.2.2.2 (fun e => by have := BL _ e.symm; simp only at this; omega)⟩
          have SB := bc_set1 (unhide BX9) (.slice (some ⟨g9, 0, none⟩) (m + 1) c9)
          have SB2 := hide SB
          have KD : (u9.setCell ⟨w.heap.size + 1 + 1, 1, none⟩ (.slice (some ⟨g9, 0, none⟩) (m + 1) c9)).cell? ⟨w.heap.size, 1, none⟩ = some (.slice (some ⟨g, 0, none⟩) x.ps.length x.c) ∧ (u9.setCell ⟨w.heap.size + 1 + 1, 1, none⟩ (.slice (some ⟨g9, 0, none⟩) (m + 1) c9)).cell? ⟨g, k * 3, none⟩ = some (.int .i64 z0) ∧ (u9.setCell ⟨w.heap.size + 1 + 1, 1, none⟩ (.slice (some ⟨g9, 0, none⟩) (m + 1) c9)).cell? ⟨g, k * 3 + 1, none⟩ = some (.string z1) ∧ (u9.setCell ⟨w.heap.size + 1 + 1, 1, none⟩ (.slice (some ⟨g9, 0, none⟩) (m + 1) c9)).cell? ⟨g, k * 3 + 2, none⟩ = some (.string z2) := ⟨(kcell SB.2 (1) (show w.heap.size < u9.heap.size from by omega) (show w.heap.size ≠ w.heap.size + 1 + 1 from by omega)).trans KC.1, (kcell SB.2 (k * 3) (show g < u9.heap.size from by omega) gn).trans KC.2.1, (kcell SB.2 (k * 3 + 1) (show g < u9.heap.size from by omega) gn).trans KC.2.2.1, (kcell SB.2 (k * 3 + 2) (show g < u9.heap.size from by omega) gn).trans KC.2.2.2⟩
          clear o9 SB
          refine hK.out _ _ KC (fun hHeld => ?_)
          clear hK K
          try simp only [oL8, Act.put, List.setIfInBounds_toArray, List.set_cons_zero, List.set_cons_succ]
          refine wpAnyH_take (i := 9) (oi := oL9) (v := .pointer (some ⟨w.heap.size + 1 + 1, 1, none⟩)) rfl (by kernel_rfl) (by kernel_rfl) (by kernel_rfl) (fun _ _ _ h => h) (Or.inl ⟨by rfl, fun w hSw => ?_⟩) hHeld ?_
          · (try dsimp only at hSw)
            unfold oL9
            go_simp
          try simp only [oL9, Act.put, List.setIfInBounds_toArray, List.set_cons_zero, List.set_cons_succ]
          refine wpAnyH_ready (rs := [10]) (by kernel_rfl) (by simp) ?_
          refine AllReadyH.cons (o := oL10) rfl (fun K hK => ?_) AllReadyH.nil
          unfold oL10
          go_simp
          refine hK.out _ _ KD (fun hHeld => ?_)
          clear hK K
          try simp only [oL10, Act.put, List.setIfInBounds_toArray, List.set_cons_zero, List.set_cons_succ]
          refine wpAnyH_done (by kernel_rfl) ?_ _
          clear K0 KB KC KD gr9 bc bcD bcA bc9 fr9
          have GRS := hide (grow_grow (unhide GR9) (unhide SB2).2)
          have BXS := hide (unhide SB2).1
          have OWS := hide (row_kept (unhide O9) (unhide SB2).2 (by omega))
          clear SB2
          go_wp2
          go_roundw
          case rel => exact ⟨k + 1, m + 1, c9, some ⟨g9, 0, none⟩, by go_num, by omega, by omega, GRS, BXS, hide (by have h := unhide OWS; rw [unhide TK]; rw [flat_1]; exact h)⟩
          case measure => simp [intOf]; omega
    · have e : k = x.ps.length := by omega
      subst e
      have B0 := (unhide BX).c0
      have B1 := (unhide BX).c1
      have Rk := hide ((unhide HRB).kept (unhide GR) (by simp))
      have f0 := (unhide Rk).free 0
      have f1 := (unhide Rk).free 1
      have r0 := (unhide Rk).c0
      have r1 := (unhide Rk).c1
      have lm : (lessN x.ps nm x.ps.length).length = m := by
        have := (unhide OW).1
        rw [flatF_len] at this
        omega
      have LM := hide lm
      have OR := hide (row_base (unhide OW) (show w.heap.size ≤ W.heap.size from by omega))
      have LB := hide (show ∀ j, (Value.slice a m c).ownBlock = some j → w.heap.size + 3 ≤ j from fun j hj => by have := (World.ownsRow.lt (unhide OW) j hj).1; omega)
      have s0 := (unhide Rk).set0 (.int .i64 x.room)
      have s1 := bc_set1 s0.1 (.slice a m c)
      have ST := hide (grow_grow s0.2 s1.2)
      have BB := hide ((unhide HWD).b)
      clear lm s0 s1
      go_wp2
      refine bodyPost_ret (v := .agg #[.int .i64 x.room, .slice a m c]) (by simp [results, Try.results47, go_sem, r0, r1]) rfl ⟨⟨x.room, a, c, lessN x.ps nm x.ps.length⟩, rfl, rfl, by simp [unhide LM], ?_, ?_⟩
      · unfold OwD
        simp only [unhide LM]
        exact World.ownsRow.kept (unhide OR) (unhide ST) (by
          cases hb : (Value.slice a m c).ownBlock with
          | none => exact .inl rfl
          | some g => exact .inr (fun e => by have := (unhide LB) g hb; injection e with e; omega))
      · have k := grow_low (unhide BB) (unhide GR) (by omega)
        exact grow_low k (unhide ST) (by omega)
