/- Texts of one proof, one behind the other: SLess14, SCopy14, SRef14, SCom14, Law14, VOI, StrO15, LawL15, SPut11, SUnseal11, Conv15, SegP15, SSeg15. -/
import Derived.Test.YtcajdiopgaoicaaRows
import Derived.Test.YtcajdiopgaoicaaSG1
import Derived.Test.YtcajdiopgaoicaaSG2
import Derived.Deep.RegionHeld3
import Derived.Maps.AppendAt
import Derived.Lib.ConvBytes
import Derived.Laws.BytesArg
set_option linter.unusedVariables false
set_option linter.unusedSimpArgs false
namespace Go.Proofs.Ytcajdiopgaoicaa.SLess14
open Go.ChangeShapes Go.WideShapes Go.ChangeAt Go.RowKit Fil14 DiskH14 DkH14 SDk14 SOk14 SRd14 App14
open DkH14 (row_step)
/-- The first k files but the one at a place. -/
def lessN (ps : List TF) (nm : Int) : Nat → List TF
  | 0 => []
  | k + 1 => if (k : Int) = nm then lessN ps nm k else lessN ps nm k ++ [elF ps k]
theorem grow_low {B : Nat} {w W W' : World} {G : Nat} (h : Below B w W) (k : W.grownBy W' (some G)) (hB : B ≤ G ∧ B ≤ W.heap.size) : Below B w W' :=
  ⟨k.os.trans h.os, k.tape.trans h.tape, k.output.trans h.output, Nat.le_trans h.size k.size, fun i hi => (k.block i (by omega) (by simp; omega)).trans (h.block i hi)⟩
theorem bc_set1 {w : World} {base g : Nat} {v0 v1 : Value} (h : Bc w base g v0 v1) (u : Value) : Bc (w.setCell ⟨g, 1, none⟩ u) base g v0 u ∧ w.grownBy (w.setCell ⟨g, 1, none⟩ u) (some g) := World.ownsRow.stored h 1 u
abbrev oL0 : Oper := { dst := some 20, op := Go.Op.fieldAddr 26 (Go.Operand.tmp 5) 1, type := 0, pos := "l14_disk.go:72", after := #[], guard := none }
abbrev oL1 : Oper := { dst := some 21, op := Go.Op.load 24 (Go.Operand.tmp 20), type := 24, pos := "l14_disk.go:72", after := #[{ on := 0, ground := Go.Ground.data }], guard := none }
abbrev oL2 : Oper := { dst := some 22, op := Go.Op.fieldAddr 26 (Go.Operand.tmp 2) 1, type := 0, pos := "l14_disk.go:72", after := #[], guard := none }
abbrev oL3 : Oper := { dst := some 23, op := Go.Op.load 24 (Go.Operand.tmp 22), type := 24, pos := "l14_disk.go:72", after := #[{ on := 2, ground := Go.Ground.data }], guard := none }
abbrev oL4 : Oper := { dst := some 24, op := Go.Op.move (Go.Operand.tmp 6), type := 3, pos := "l14_disk.go:72", after := #[], guard := none }
abbrev oL5 : Oper := { dst := some 25, op := Go.Op.indexAddr 24 (Go.Operand.tmp 23) (Go.Operand.tmp 24), type := 0, pos := "l14_disk.go:72", after := #[{ on := 3, ground := Go.Ground.data }, { on := 4, ground := Go.Ground.data }], guard := none }
abbrev oL6 : Oper := { dst := some 26, op := Go.Op.load 54 (Go.Operand.tmp 25), type := 54, pos := "l14_disk.go:72", after := #[{ on := 5, ground := Go.Ground.data }], guard := none }
abbrev oL7 : Oper := { dst := some 27, op := Go.Op.buildSlice 24 1 #[(0, Go.Operand.tmp 26)], type := 24, pos := "l14_disk.go:72", after := #[{ on := 6, ground := Go.Ground.data }], guard := none }
abbrev oL8 : Oper := { dst := some 28, op := Go.Op.call { callee := Go.Callee.builtin Go.Builtin.append, args := #[Go.Operand.tmp 21, Go.Operand.tmp 27], argTypes := #[24, 24] }, type := 24, pos := "l14_disk.go:72", after := #[{ on := 1, ground := Go.Ground.data }, { on := 7, ground := Go.Ground.data }], guard := none }
abbrev oL9 : Oper := { dst := some 29, op := Go.Op.fieldAddr 26 (Go.Operand.tmp 5) 1, type := 0, pos := "l14_disk.go:72", after := #[{ on := 0, ground := Go.Ground.phase }, { on := 1, ground := Go.Ground.phase }, { on := 2, ground := Go.Ground.phase }, { on := 3, ground := Go.Ground.phase }, { on := 4, ground := Go.Ground.phase }, { on := 5, ground := Go.Ground.phase }, { on := 6, ground := Go.Ground.phase }, { on := 7, ground := Go.Ground.phase }, { on := 8, ground := Go.Ground.phase }], guard := none }
abbrev oL10 : Oper := { dst := none, op := Go.Op.store 24 (Go.Operand.tmp 29) (Go.Operand.tmp 28), type := 0, pos := "l14_disk.go:72", after := #[{ on := 9, ground := Go.Ground.data }, { on := 8, ground := Go.Ground.data }, { on := 8, ground := Go.Ground.chain }, { on := 0, ground := Go.Ground.phase }, { on := 1, ground := Go.Ground.phase }, { on := 2, ground := Go.Ground.phase }, { on := 3, ground := Go.Ground.phase }, { on := 4, ground := Go.Ground.phase }, { on := 5, ground := Go.Ground.phase }, { on := 6, ground := Go.Ground.phase }, { on := 7, ground := Go.Ground.phase }, { on := 8, ground := Go.Ground.phase }], guard := none }
set_option maxRecDepth 100000 in
set_option maxHeartbeats 4000000 in
theorem sLess (w : World) (x : Dx) (nm : Int) (hr : RdD w x) :
    Calls Try.prog 85 #[.agg #[.int .i64 x.room, .slice x.a x.ps.length x.c], .int .i64 nm] w fun e w' => ∃ y : Dx, y.room = x.room ∧ y.ps = lessN x.ps nm x.ps.length ∧ e = .returned (.agg #[.int .i64 y.room, .slice y.a y.ps.length y.c]) ∧ OwD w' w.heap.size y ∧ Below w.heap.size w w' := by
  have F : ∀ W1, W1 = w.alloc (.cells #[.int .i64 x.room, .slice x.a x.ps.length x.c] 26) → ∀ W2, W2 = W1.alloc (.cells #[.int .i64 0, .slice none 0 0] 26) → ∀ W3, W3 = W2.alloc (.cells #[.int .i64 x.room, .slice none 0 0] 26) →
      Wd w W3 x ∧ Bc W3 w.heap.size (w.heap.size + 1) (.int .i64 0) (.slice none 0 0) ∧ Bc W3 w.heap.size (w.heap.size + 1 + 1) (.int .i64 x.room) (.slice none 0 0) ∧ W3.heap.size = w.heap.size + 3 := by
    intro W1 h1 W2 h2 W3 h3
    have s1 : W1.heap.size = w.heap.size + 1 := by rw [h1]; simp
    have s2 : W2.heap.size = w.heap.size + 1 + 1 := by rw [h2]; simp [s1]
    have s3 : W3.heap.size = w.heap.size + 3 := by rw [h3]; simp [s2]
    have d1 : Wd w W1 x := by rw [h1]; exact Wd.made hr _
    have b2 : Below W1.heap.size W1 W2 := by rw [h2]; exact one_more _ _
    have b3 : Below W2.heap.size W2 W3 := by rw [h3]; exact one_more _ _
    have R1 : Bc W2 w.heap.size (w.heap.size + 1) (.int .i64 0) (.slice none 0 0) := by rw [h2]; exact Bc.made _ _ (by omega) s1.symm
    have O1 : Bc W3 w.heap.size (w.heap.size + 1 + 1) (.int .i64 x.room) (.slice none 0 0) := by rw [h3]; exact Bc.made _ _ (by omega) s2.symm
    exact ⟨(d1.step b2).step b3, R1.below b3 (by omega), O1, s3⟩
  have G0 := hide (F _ rfl _ rfl _ rfl)
  have G1 := hide (fun g e => (hr.r g e).1)
  have h20 := hr.n
  clear F hr
  go_enter Try.func85, Try.ntmps85
  go_wp2_with fail
  generalize ((w.alloc (.cells #[.int .i64 x.room, .slice x.a x.ps.length x.c] 26)).alloc (.cells #[.int .i64 0, .slice none 0 0] 26)).alloc (.cells #[.int .i64 x.room, .slice none 0 0] 26) = W at *
  obtain ⟨WD, RB, OB, s3⟩ := unhide G0
  have HWD := hide WD
  have HRB := hide RB
  clear G0 WD RB
  go_loopw [6] (fun i wr => ∃ (k m c : Nat) (a : Option Addr), i = .int .i64 k ∧ k ≤ x.ps.length ∧ m ≤ k ∧ Hid (W.grownBy wr (some (w.heap.size + 1 + 1))) ∧ Hid (Bc wr w.heap.size (w.heap.size + 1 + 1) (.int .i64 x.room) (.slice a m c)) ∧ Hid (wr.ownsRow W.heap.size 54 3 (.slice a m c) m (flatF (lessN x.ps nm k)))) (fun i _ => x.ps.length - (intOf i).toNat)
  case atStart => exact ⟨0, 0, 0, none, rfl, by omega, by omega, hide (World.grownBy.refl _ _), hide OB, hide ⟨rfl, .inl ⟨rfl, rfl⟩⟩⟩
  case round =>
    clear OB
    obtain ⟨k, m, c, a, rfl, hk, hm, GR, BX, OW⟩ := hrel
    have gs := (unhide GR).size
    have lt : w.heap.size + 2 < wr.heap.size := by omega
    have c1 := (kcell (unhide GR) 1 (show w.heap.size < W.heap.size from by omega) (by omega)).trans (unhide HWD).c1
    by_cases t : k < x.ps.length
    · have kt : (k : Int) < x.ps.length := by omega
      by_cases q : (k : Int) = nm
      · have TK := hide (show lessN x.ps nm (k + 1) = lessN x.ps nm k from if_pos q)
        subst q
        go_wp2
        go_roundw
        case rel => exact ⟨k + 1, m, c, a, by go_num, by omega, by omega, GR, BX, hide (by rw [unhide TK]; exact unhide OW)⟩
        case measure => simp [intOf]; omega
      · have TK := hide (show lessN x.ps nm (k + 1) = lessN x.ps nm k ++ [elF x.ps k] from if_neg q)
        obtain ⟨g, ea, lg, e0, e1, e2⟩ := cells_of (unhide HWD).r t
        have lg0 := (unhide G1) g ea
        have gn : g ≠ w.heap.size + 1 + 1 := by omega
        have d0 := (kcell (unhide GR) (k * 3) lg gn).trans e0
        have d1 := (kcell (unhide GR) (k * 3 + 1) lg gn).trans e1
        have d2 := (kcell (unhide GR) (k * 3 + 2) lg gn).trans e2
        rw [ea] at c1
        generalize hp : elF x.ps k = p at *
        obtain ⟨z0, z1, z2⟩ := p
        simp only at d0 d1 d2
        clear e0 e1 e2 ea hp
        have K0 : wr.cell? ⟨w.heap.size, 1, none⟩ = some (.slice (some ⟨g, 0, none⟩) x.ps.length x.c) ∧ wr.cell? ⟨g, k * 3, none⟩ = some (.int .i64 z0) ∧ wr.cell? ⟨g, k * 3 + 1, none⟩ = some (.string z1) ∧ wr.cell? ⟨g, k * 3 + 2, none⟩ = some (.string z2) := ⟨c1, d0, d1, d2⟩
        have KB : (wr.drew.alloc (.cells #[.int .i64 z0, .string z1, .string z2] 54)).cell? ⟨w.heap.size, 1, none⟩ = some (.slice (some ⟨g, 0, none⟩) x.ps.length x.c) ∧ (wr.drew.alloc (.cells #[.int .i64 z0, .string z1, .string z2] 54)).cell? ⟨g, k * 3, none⟩ = some (.int .i64 z0) ∧ (wr.drew.alloc (.cells #[.int .i64 z0, .string z1, .string z2] 54)).cell? ⟨g, k * 3 + 1, none⟩ = some (.string z1) ∧ (wr.drew.alloc (.cells #[.int .i64 z0, .string z1, .string z2] 54)).cell? ⟨g, k * 3 + 2, none⟩ = some (.string z2) := ⟨((one_more wr.drew (.cells #[.int .i64 z0, .string z1, .string z2] 54)).cell (p := ⟨w.heap.size, 1, none⟩) (show w.heap.size < wr.heap.size from by omega)).trans c1, ((one_more wr.drew (.cells #[.int .i64 z0, .string z1, .string z2] 54)).cell (p := ⟨g, k * 3, none⟩) (show g < wr.heap.size from by omega)).trans d0, ((one_more wr.drew (.cells #[.int .i64 z0, .string z1, .string z2] 54)).cell (p := ⟨g, k * 3 + 1, none⟩) (show g < wr.heap.size from by omega)).trans d1, ((one_more wr.drew (.cells #[.int .i64 z0, .string z1, .string z2] 54)).cell (p := ⟨g, k * 3 + 2, none⟩) (show g < wr.heap.size from by omega)).trans d2⟩
        have bc := (unhide BX).c1
        have bcD : wr.drew.cell? ⟨w.heap.size + 1 + 1, 1, none⟩ = some (.slice a m c) := bc
        have bcA : (wr.alloc (.cells #[.int .i64 z0, .string z1, .string z2] 54)).cell? ⟨w.heap.size + 1 + 1, 1, none⟩ = some (.slice a m c) := ((one_more wr.drew (.cells #[.int .i64 z0, .string z1, .string z2] 54)).cell (p := ⟨w.heap.size + 1 + 1, 1, none⟩) (show w.heap.size + 1 + 1 < wr.heap.size from by omega)).trans bc
        go_wp2_with fail
        refine wp_region_held_drew (S := (fun w' => w'.cell? ⟨w.heap.size, 1, none⟩ = some (.slice (some ⟨g, 0, none⟩) x.ps.length x.c) ∧ w'.cell? ⟨g, k * 3, none⟩ = some (.int .i64 z0) ∧ w'.cell? ⟨g, k * 3 + 1, none⟩ = some (.string z1) ∧ w'.cell? ⟨g, k * 3 + 2, none⟩ = some (.string z2))) (by kernel_rfl) K0 (fun hHeld => ?_)
        refine wpAnyH_take (i := 0) (oi := oL0) (v := .pointer (some ⟨w.heap.size + 1 + 1, 1, none⟩)) rfl (by kernel_rfl) (by kernel_rfl) (by kernel_rfl) (fun _ _ _ h => h) (Or.inl ⟨by rfl, fun w hSw => ?_⟩) hHeld ?_
        · (try dsimp only at hSw)
          unfold oL0
          go_simp
        try simp only [oL0, Act.put, List.setIfInBounds_toArray, List.set_cons_zero, List.set_cons_succ]
        refine wpAnyH_take (i := 2) (oi := oL2) (v := .pointer (some ⟨w.heap.size, 1, none⟩)) rfl (by kernel_rfl) (by kernel_rfl) (by kernel_rfl) (fun _ _ _ h => h) (Or.inl ⟨by rfl, fun w hSw => ?_⟩) hHeld ?_
        · (try dsimp only at hSw)
          unfold oL2
          go_simp
        try simp only [oL2, Act.put, List.setIfInBounds_toArray, List.set_cons_zero, List.set_cons_succ]
        refine wpAnyH_take (i := 3) (oi := oL3) (v := .slice (some ⟨g, 0, none⟩) x.ps.length x.c) rfl (by kernel_rfl) (by kernel_rfl) (by kernel_rfl) (fun _ _ _ h => h) (Or.inl ⟨by rfl, fun w hSw => ?_⟩) hHeld ?_
        · (try dsimp only at hSw)
          unfold oL3
          go_simp
        try simp only [oL3, Act.put, List.setIfInBounds_toArray, List.set_cons_zero, List.set_cons_succ]
        refine wpAnyH_take (i := 4) (oi := oL4) (v := .int .i64 k) rfl (by kernel_rfl) (by kernel_rfl) (by kernel_rfl) (fun _ _ _ h => h) (Or.inl ⟨by rfl, fun w hSw => ?_⟩) hHeld ?_
        · (try dsimp only at hSw)
          unfold oL4
          go_simp
        try simp only [oL4, Act.put, List.setIfInBounds_toArray, List.set_cons_zero, List.set_cons_succ]
        refine wpAnyH_take (i := 5) (oi := oL5) (v := .pointer (some ⟨g, k * 3, none⟩)) rfl (by kernel_rfl) (by kernel_rfl) (by kernel_rfl) (fun _ _ _ h => h) (Or.inl ⟨by rfl, fun w hSw => ?_⟩) hHeld ?_
        · (try dsimp only at hSw)
          unfold oL5
          go_simp
        try simp only [oL5, Act.put, List.setIfInBounds_toArray, List.set_cons_zero, List.set_cons_succ]
        refine wpAnyH_take (i := 6) (oi := oL6) (v := .agg #[.int .i64 z0, .string z1, .string z2]) rfl (by kernel_rfl) (by kernel_rfl) (by kernel_rfl) (fun _ _ _ h => h) (Or.inl ⟨by rfl, fun w hSw => ?_⟩) hHeld ?_
        · (try dsimp only at hSw)
          unfold oL6
          go_simp
        try simp only [oL6, Act.put, List.setIfInBounds_toArray, List.set_cons_zero, List.set_cons_succ]
        refine wpAnyH_ready (rs := [1, 7]) (by kernel_rfl) (by simp) ?_
        refine AllReadyH.cons (o := oL1) rfl (fun K hK => ?_) (AllReadyH.cons (o := oL7) rfl (fun K hK => ?_) AllReadyH.nil)
        · unfold oL1
          go_simp
          refine hK.out _ _ K0 (fun hHeld => ?_)
          clear hK K
          try simp only [oL1, Act.put, List.setIfInBounds_toArray, List.set_cons_zero, List.set_cons_succ]
          refine wpAnyH_ready (rs := [7]) (by kernel_rfl) (by simp) ?_
          refine AllReadyH.cons (o := oL7) rfl (fun K hK => ?_) AllReadyH.nil
          unfold oL7
          go_simp
          refine hK.out _ _ KB (fun hHeld => ?_)
          clear hK K
          try simp only [oL7, Act.put, List.setIfInBounds_toArray, List.set_cons_zero, List.set_cons_succ]
          refine wpAnyH_ready (rs := [8]) (by kernel_rfl) (by simp) ?_
          refine AllReadyH.cons (o := oL8) rfl (fun K hK => ?_) AllReadyH.nil
          refine step_app (wr.drew.alloc (.cells #[.int .i64 z0, .string z1, .string z2] 54)) (by rfl) _ _ 24 54 (by rfl) (.agg #[.int .i64 0, .string ByteArray.empty, .string ByteArray.empty]) 3 40 Try.underlying24 HelpF14.info2 rfl (by decide) (by decide) W.heap.size (.slice a m c) m (flatF (lessN x.ps nm k)) wr.drew.heap.size [.int .i64 z0, .string z1, .string z2] (by rfl) (by rfl) (row_step (W := wr.drew) (unhide OW) (one_more wr.drew (.cells #[.int .i64 z0, .string z1, .string z2] 54))) rfl (litm wr.drew _ _ _ (by rfl)) (by simp [Value.oneCell']) (by omega) (Nat.le_trans (show W.heap.size ≤ wr.drew.heap.size from gs) (by simp)) ?_
          intro g9 c9 u9 o9 gr9
          have BL : ∀ j, (Value.slice a m c).ownBlock = some j → W.heap.size ≤ j := fun j hj => (World.ownsRow.lt (unhide OW) j hj).1
          have GR9 := hide (grow_app (unhide GR) gr9 BL)
          have NG : some (w.heap.size + 1 + 1) ≠ (Value.slice a m c).ownBlock := fun e => by have := BL _ e.symm; omega
          have BX9 := hide (((show Bc wr.drew w.heap.size (w.heap.size + 1 + 1) (.int .i64 x.room) (.slice a m c) from unhide BX).below (one_more wr.drew (.cells #[.int .i64 z0, .string z1, .string z2] 54)) (show w.heap.size + 1 + 1 < wr.heap.size from by omega)).kept gr9 NG)
          have O9 := hide o9
          have fr9 : u9.frozen? ⟨w.heap.size + 1 + 1, 1, none⟩ = false := (unhide BX9).free 1
          have bc9 := (unhide BX9).c1
          have g9l := (World.ownsRow.lt o9 g9 rfl).1
          have gs9 := (unhide GR9).size
          have KC : u9.cell? ⟨w.heap.size, 1, none⟩ = some (.slice (some ⟨g, 0, none⟩) x.ps.length x.c) ∧ u9.cell? ⟨g, k * 3, none⟩ = some (.int .i64 z0) ∧ u9.cell? ⟨g, k * 3 + 1, none⟩ = some (.string z1) ∧ u9.cell? ⟨g, k * 3 + 2, none⟩ = some (.string z2) := ⟨gr9.cell KB.1 (fun e => by have := BL _ e.symm; simp only at this; omega), gr9.cell KB.2.1 (fun e => by have := BL _ e.symm; simp only at this; omega), gr9.cell KB.2.2.1 (fun e => by have := BL _ e.symm; simp only at this; omega), gr9.cell KB.2.2.2 (fun e => by have := BL _ e.symm; simp only at this; omega)⟩
          have SB := bc_set1 (unhide BX9) (.slice (some ⟨g9, 0, none⟩) (m + 1) c9)
          have SB2 := hide SB
          have KD : (u9.setCell ⟨w.heap.size + 1 + 1, 1, none⟩ (.slice (some ⟨g9, 0, none⟩) (m + 1) c9)).cell? ⟨w.heap.size, 1, none⟩ = some (.slice (some ⟨g, 0, none⟩) x.ps.length x.c) ∧ (u9.setCell ⟨w.heap.size + 1 + 1, 1, none⟩ (.slice (some ⟨g9, 0, none⟩) (m + 1) c9)).cell? ⟨g, k * 3, none⟩ = some (.int .i64 z0) ∧ (u9.setCell ⟨w.heap.size + 1 + 1, 1, none⟩ (.slice (some ⟨g9, 0, none⟩) (m + 1) c9)).cell? ⟨g, k * 3 + 1, none⟩ = some (.string z1) ∧ (u9.setCell ⟨w.heap.size + 1 + 1, 1, none⟩ (.slice (some ⟨g9, 0, none⟩) (m + 1) c9)).cell? ⟨g, k * 3 + 2, none⟩ = some (.string z2) := ⟨(kcell SB.2 (1) (show w.heap.size < u9.heap.size from by omega) (show w.heap.size ≠ w.heap.size + 1 + 1 from by omega)).trans KC.1, (kcell SB.2 (k * 3) (show g < u9.heap.size from by omega) gn).trans KC.2.1, (kcell SB.2 (k * 3 + 1) (show g < u9.heap.size from by omega) gn).trans KC.2.2.1, (kcell SB.2 (k * 3 + 2) (show g < u9.heap.size from by omega) gn).trans KC.2.2.2⟩
          clear o9 SB
          refine hK.out _ _ KC (fun hHeld => ?_)
          clear hK K
          try simp only [oL8, Act.put, List.setIfInBounds_toArray, List.set_cons_zero, List.set_cons_succ]
          refine wpAnyH_take (i := 9) (oi := oL9) (v := .pointer (some ⟨w.heap.size + 1 + 1, 1, none⟩)) rfl (by kernel_rfl) (by kernel_rfl) (by kernel_rfl) (fun _ _ _ h => h) (Or.inl ⟨by rfl, fun w hSw => ?_⟩) hHeld ?_
          · (try dsimp only at hSw)
            unfold oL9
            go_simp
          try simp only [oL9, Act.put, List.setIfInBounds_toArray, List.set_cons_zero, List.set_cons_succ]
          refine wpAnyH_ready (rs := [10]) (by kernel_rfl) (by simp) ?_
          refine AllReadyH.cons (o := oL10) rfl (fun K hK => ?_) AllReadyH.nil
          unfold oL10
          go_simp
          refine hK.out _ _ KD (fun hHeld => ?_)
          clear hK K
          try simp only [oL10, Act.put, List.setIfInBounds_toArray, List.set_cons_zero, List.set_cons_succ]
          refine wpAnyH_done (by kernel_rfl) ?_ _
          clear K0 KB KC KD gr9 bc bcD bcA bc9 fr9
          have GRS := hide (grow_grow (unhide GR9) (unhide SB2).2)
          have BXS := hide (unhide SB2).1
          have OWS := hide (row_kept (unhide O9) (unhide SB2).2 (by omega))
          clear SB2
          go_wp2
          go_roundw
          case rel => exact ⟨k + 1, m + 1, c9, some ⟨g9, 0, none⟩, by go_num, by omega, by omega, GRS, BXS, hide (by have h := unhide OWS; rw [unhide TK]; rw [flat_1]; exact h)⟩
          case measure => simp [intOf]; omega
        · unfold oL7
          go_simp
          refine hK.out _ _ KB (fun hHeld => ?_)
          clear hK K
          try simp only [oL7, Act.put, List.setIfInBounds_toArray, List.set_cons_zero, List.set_cons_succ]
          refine wpAnyH_ready (rs := [1]) (by kernel_rfl) (by simp) ?_
          refine AllReadyH.cons (o := oL1) rfl (fun K hK => ?_) AllReadyH.nil
          unfold oL1
          go_simp
          refine hK.out _ _ KB (fun hHeld => ?_)
          clear hK K
          try simp only [oL1, Act.put, List.setIfInBounds_toArray, List.set_cons_zero, List.set_cons_succ]
          refine wpAnyH_ready (rs := [8]) (by kernel_rfl) (by simp) ?_
          refine AllReadyH.cons (o := oL8) rfl (fun K hK => ?_) AllReadyH.nil
          refine step_app (wr.drew.alloc (.cells #[.int .i64 z0, .string z1, .string z2] 54)) (by rfl) _ _ 24 54 (by rfl) (.agg #[.int .i64 0, .string ByteArray.empty, .string ByteArray.empty]) 3 40 Try.underlying24 HelpF14.info2 rfl (by decide) (by decide) W.heap.size (.slice a m c) m (flatF (lessN x.ps nm k)) wr.drew.heap.size [.int .i64 z0, .string z1, .string z2] (by rfl) (by rfl) (row_step (W := wr.drew) (unhide OW) (one_more wr.drew (.cells #[.int .i64 z0, .string z1, .string z2] 54))) rfl (litm wr.drew _ _ _ (by rfl)) (by simp [Value.oneCell']) (by omega) (Nat.le_trans (show W.heap.size ≤ wr.drew.heap.size from gs) (by simp)) ?_
          intro g9 c9 u9 o9 gr9
          have BL : ∀ j, (Value.slice a m c).ownBlock = some j → W.heap.size ≤ j := fun j hj => (World.ownsRow.lt (unhide OW) j hj).1
          have GR9 := hide (grow_app (unhide GR) gr9 BL)
          have NG : some (w.heap.size + 1 + 1) ≠ (Value.slice a m c).ownBlock := fun e => by have := BL _ e.symm; omega
          have BX9 := hide (((show Bc wr.drew w.heap.size (w.heap.size + 1 + 1) (.int .i64 x.room) (.slice a m c) from unhide BX).below (one_more wr.drew (.cells #[.int .i64 z0, .string z1, .string z2] 54)) (show w.heap.size + 1 + 1 < wr.heap.size from by omega)).kept gr9 NG)
          have O9 := hide o9
          have fr9 : u9.frozen? ⟨w.heap.size + 1 + 1, 1, none⟩ = false := (unhide BX9).free 1
          have bc9 := (unhide BX9).c1
          have g9l := (World.ownsRow.lt o9 g9 rfl).1
          have gs9 := (unhide GR9).size
          have KC : u9.cell? ⟨w.heap.size, 1, none⟩ = some (.slice (some ⟨g, 0, none⟩) x.ps.length x.c) ∧ u9.cell? ⟨g, k * 3, none⟩ = some (.int .i64 z0) ∧ u9.cell? ⟨g, k * 3 + 1, none⟩ = some (.string z1) ∧ u9.cell? ⟨g, k * 3 + 2, none⟩ = some (.string z2) := ⟨gr9.cell KB.1 (fun e => by have := BL _ e.symm; simp only at this; omega), gr9.cell KB.2.1 (fun e => by have := BL _ e.symm; simp only at this; omega), gr9.cell KB.2.2.1 (fun e => by have := BL _ e.symm; simp only at this; omega), gr9.cell KB.2.2.2 (fun e => by have := BL _ e.symm; simp only at this; omega)⟩
          have SB := bc_set1 (unhide BX9) (.slice (some ⟨g9, 0, none⟩) (m + 1) c9)
          have SB2 := hide SB
          have KD : (u9.setCell ⟨w.heap.size + 1 + 1, 1, none⟩ (.slice (some ⟨g9, 0, none⟩) (m + 1) c9)).cell? ⟨w.heap.size, 1, none⟩ = some (.slice (some ⟨g, 0, none⟩) x.ps.length x.c) ∧ (u9.setCell ⟨w.heap.size + 1 + 1, 1, none⟩ (.slice (some ⟨g9, 0, none⟩) (m + 1) c9)).cell? ⟨g, k * 3, none⟩ = some (.int .i64 z0) ∧ (u9.setCell ⟨w.heap.size + 1 + 1, 1, none⟩ (.slice (some ⟨g9, 0, none⟩) (m + 1) c9)).cell? ⟨g, k * 3 + 1, none⟩ = some (.string z1) ∧ (u9.setCell ⟨w.heap.size + 1 + 1, 1, none⟩ (.slice (some ⟨g9, 0, none⟩) (m + 1) c9)).cell? ⟨g, k * 3 + 2, none⟩ = some (.string z2) := ⟨(kcell SB.2 (1) (show w.heap.size < u9.heap.size from by omega) (show w.heap.size ≠ w.heap.size + 1 + 1 from by omega)).trans KC.1, (kcell SB.2 (k * 3) (show g < u9.heap.size from by omega) gn).trans KC.2.1, (kcell SB.2 (k * 3 + 1) (show g < u9.heap.size from by omega) gn).trans KC.2.2.1, (kcell SB.2 (k * 3 + 2) (show g < u9.heap.size from by omega) gn).trans KC.2.2.2⟩
          clear o9 SB
          refine hK.out _ _ KC (fun hHeld => ?_)
          clear hK K
          try simp only [oL8, Act.put, List.setIfInBounds_toArray, List.set_cons_zero, List.set_cons_succ]
          refine wpAnyH_take (i := 9) (oi := oL9) (v := .pointer (some ⟨w.heap.size + 1 + 1, 1, none⟩)) rfl (by kernel_rfl) (by kernel_rfl) (by kernel_rfl) (fun _ _ _ h => h) (Or.inl ⟨by rfl, fun w hSw => ?_⟩) hHeld ?_
          · (try dsimp only at hSw)
            unfold oL9
            go_simp
          try simp only [oL9, Act.put, List.setIfInBounds_toArray, List.set_cons_zero, List.set_cons_succ]
          refine wpAnyH_ready (rs := [10]) (by kernel_rfl) (by simp) ?_
          refine AllReadyH.cons (o := oL10) rfl (fun K hK => ?_) AllReadyH.nil
          unfold oL10
          go_simp
          refine hK.out _ _ KD (fun hHeld => ?_)
          clear hK K
          try simp only [oL10, Act.put, List.setIfInBounds_toArray, List.set_cons_zero, List.set_cons_succ]
          refine wpAnyH_done (by kernel_rfl) ?_ _
          clear K0 KB KC KD gr9 bc bcD bcA bc9 fr9
          have GRS := hide (grow_grow (unhide GR9) (unhide SB2).2)
          have BXS := hide (unhide SB2).1
          have OWS := hide (row_kept (unhide O9) (unhide SB2).2 (by omega))
          clear SB2
          go_wp2
          go_roundw
          case rel => exact ⟨k + 1, m + 1, c9, some ⟨g9, 0, none⟩, by go_num, by omega, by omega, GRS, BXS, hide (by have h := unhide OWS; rw [unhide TK]; rw [flat_1]; exact h)⟩
          case measure => simp [intOf]; omega
    · have e : k = x.ps.length := by omega
      subst e
      have B0 := (unhide BX).c0
      have B1 := (unhide BX).c1
      have Rk := hide ((unhide HRB).kept (unhide GR) (by simp))
      have f0 := (unhide Rk).free 0
      have f1 := (unhide Rk).free 1
      have r0 := (unhide Rk).c0
      have r1 := (unhide Rk).c1
      have lm : (lessN x.ps nm x.ps.length).length = m := by
        have := (unhide OW).1
        rw [flatF_len] at this
        omega
      have LM := hide lm
      have OR := hide (row_base (unhide OW) (show w.heap.size ≤ W.heap.size from by omega))
      have LB := hide (show ∀ j, (Value.slice a m c).ownBlock = some j → w.heap.size + 3 ≤ j from fun j hj => by have := (World.ownsRow.lt (unhide OW) j hj).1; omega)
      have s0 := (unhide Rk).set0 (.int .i64 x.room)
      have s1 := bc_set1 s0.1 (.slice a m c)
      have ST := hide (grow_grow s0.2 s1.2)
      have BB := hide ((unhide HWD).b)
      clear lm s0 s1
      go_wp2
      refine bodyPost_ret (v := .agg #[.int .i64 x.room, .slice a m c]) (by simp [results, Try.results85, go_sem, r0, r1]) rfl ⟨⟨x.room, a, c, lessN x.ps nm x.ps.length⟩, rfl, rfl, by simp [unhide LM], ?_, ?_⟩
      · unfold OwD
        simp only [unhide LM]
        exact World.ownsRow.kept (unhide OR) (unhide ST) (by
          cases hb : (Value.slice a m c).ownBlock with
          | none => exact .inl rfl
          | some g => exact .inr (fun e => by have := (unhide LB) g hb; injection e with e; omega))
      · have k := grow_low (unhide BB) (unhide GR) (by omega)
        exact grow_low k (unhide ST) (by omega)
end Go.Proofs.Ytcajdiopgaoicaa.SLess14
namespace Go.Proofs.Ytcajdiopgaoicaa.SCopy14
open Go.ChangeShapes Go.WideShapes Go.ChangeAt Go.RowKit Fil14 DiskH14 DkH14 SDk14 SOk14 SRd14 App14 SLess14
open DkH14 (row_step)
/-- Files appended to a list of the call's own, at a step of a region that draws its order. -/
theorem step_many (u : World) {ops : Array Oper} {o : Oper} {a : Act} {K : Act → World → Prop} {Q : Exit → Act → World → Prop} {E : Prop} (hgd : o.guard = none) (s x : Operand)
    (ho : o.op = .call { callee := .builtin .append, args := #[s, x], argTypes := #[24, 24] }) (base g n cap : Nat) (ps qs : List TF) (xa : Option Addr) (xc : Nat) (hs : a.eval s = .slice (some ⟨g, 0, none⟩) n cap) (hx : a.eval x = .slice xa qs.length xc) (hown : OwnF 54 u base g n cap ps) (hq : qs.length = 0 ∨ ∃ vb, xa = some ⟨vb, 0, none⟩ ∧ AtF u vb qs) (hn : n ≤ 1048576) (hm : qs.length ≤ 1048576) (hb : base ≤ u.heap.size)
    (h : ∀ g' c' w', OwnF 54 w' base g' (n + qs.length) c' (ps ++ qs) → u.grownBy w' (some g) → (g' = g ∨ g' = u.heap.size) → K (a.put o.dst (.slice (some ⟨g', 0, none⟩) (n + qs.length) c')) w') : if Region.wanted o (yielded ops a.tmps) = true then Oper.wp Try.prog o a u K Q else E := by
  obtain ⟨i0, hi, hz0, hz1, hz2⟩ := info_parts HelpF14.info2
  have hw : Region.wanted o (yielded ops a.tmps) = true := by simp [Region.wanted, hgd]
  rw [if_pos hw]
  rcases hq with hq | ⟨vb, rfl, hq⟩
  · have e : qs = [] := List.length_eq_zero_iff.1 hq
    subst e
    obtain ⟨hle, hcap⟩ : n ≤ cap ∧ True := by
      rcases hown.2 with ⟨h1, _⟩ | ⟨g', c, cur, h1, h2, h3, h4, _⟩
      · simp at h1
      · obtain ⟨_, e2⟩ : g = g' ∧ cap = c := by simpa using h1
        exact ⟨by omega, trivial⟩
    have hr : (Builtin.append_ #[24, 24] o.type #[.slice (some ⟨g, 0, none⟩) n cap, .slice xa 0 xc]).run Try.prog u = .ok (.slice (some ⟨g, 0, none⟩) n cap) u := by
      cases xa <;> simp [Builtin.append_, run_underlying Try.underlying24, sizeOf, typeInfo, hi, hle, storeCells, go_sem]
    unfold Oper.wp execOp
    simp only [List.length_nil] at hx
    simp only [ho, resolve, invoke, builtin, Sem.run_bind, Sem.run_pure, Result.andThen_ok, List.map_toArray, List.map_cons, List.map_nil, hs, hx, hr]
    have := h g cap u (by simpa using hown) (World.grownBy.refl _ _) (.inl rfl)
    simp only [List.length_nil, Nat.add_zero] at this
    exact this
  · obtain ⟨v', w', hr, own', gr', nil', loc'⟩ := run_append_own_at (P := Try.prog) u base 24 o.type 54 i0 (.agg #[.int .i64 0, .string ByteArray.empty, .string ByteArray.empty]) 3 40 Try.underlying24 hi hz0 hz1 hz2 rfl (by decide) (.slice (some ⟨g, 0, none⟩) n cap) n (flatF ps) hown ⟨vb, 0, none⟩ qs.length xc (flatF qs) (flatF_len qs) hq.cells (fun u hu => flatF_one u qs hu) (by unfold maxLen; omega) (by omega) hb
    unfold Oper.wp execOp
    simp only [ho, resolve, invoke, builtin, Sem.run_bind, Sem.run_pure, Result.andThen_ok, List.map_toArray, List.map_cons, List.map_nil, hs, hx, hr]
    rw [← flatF_append] at own'
    rcases own'.2 with ⟨e1, _⟩ | ⟨g', c', cur, rfl, _⟩
    · rw [e1] at nil'; simp at nil'
    · exact h g' c' w' own' gr' (loc'.elim (fun q => .inl (Option.some.inj (show some g' = some g from q))) (fun q => .inr (Option.some.inj (show some g' = some u.heap.size from q))))
abbrev oC0 : Oper := { dst := some 3, op := Go.Op.fieldAddr 26 (Go.Operand.tmp 1) 0, type := 0, pos := "l14_disk.go:64", after := #[], guard := none }
abbrev oC1 : Oper := { dst := some 4, op := Go.Op.load 3 (Go.Operand.tmp 3), type := 3, pos := "l14_disk.go:64", after := #[{ on := 0, ground := Go.Ground.data }], guard := none }
abbrev oC2 : Oper := { dst := some 5, op := Go.Op.buildSlice 24 0 #[], type := 24, pos := "l14_disk.go:64", after := #[], guard := none }
abbrev oC3 : Oper := { dst := some 6, op := Go.Op.fieldAddr 26 (Go.Operand.tmp 1) 1, type := 0, pos := "l14_disk.go:64", after := #[], guard := none }
abbrev oC4 : Oper := { dst := some 7, op := Go.Op.load 24 (Go.Operand.tmp 6), type := 24, pos := "l14_disk.go:64", after := #[{ on := 3, ground := Go.Ground.data }], guard := none }
abbrev oC5 : Oper := { dst := some 8, op := Go.Op.call { callee := Go.Callee.builtin Go.Builtin.append, args := #[Go.Operand.tmp 5, Go.Operand.tmp 7], argTypes := #[24, 24] }, type := 24, pos := "l14_disk.go:64", after := #[{ on := 2, ground := Go.Ground.data }, { on := 4, ground := Go.Ground.data }], guard := none }
abbrev oC6 : Oper := { dst := some 9, op := Go.Op.build 26 #[(0, Go.Operand.tmp 4), (1, Go.Operand.tmp 8)], type := 26, pos := "l14_disk.go:64", after := #[{ on := 1, ground := Go.Ground.data }, { on := 5, ground := Go.Ground.data }], guard := none }
abbrev oC7 : Oper := { dst := none, op := Go.Op.store 26 (Go.Operand.tmp 2) (Go.Operand.tmp 9), type := 0, pos := "l14_disk.go:64", after := #[{ on := 6, ground := Go.Ground.data }, { on := 5, ground := Go.Ground.chain }, { on := 0, ground := Go.Ground.phase }, { on := 1, ground := Go.Ground.phase }, { on := 2, ground := Go.Ground.phase }, { on := 3, ground := Go.Ground.phase }, { on := 4, ground := Go.Ground.phase }, { on := 5, ground := Go.Ground.phase }, { on := 6, ground := Go.Ground.phase }], guard := none }
set_option maxRecDepth 100000 in
set_option maxHeartbeats 4000000 in
theorem sCopy (w : World) (x : Dx) (hr : RdD w x) :
    Calls Try.prog 74 #[.agg #[.int .i64 x.room, .slice x.a x.ps.length x.c]] w fun e w' => ∃ y : Dx, y.room = x.room ∧ y.ps = x.ps ∧ e = .returned (.agg #[.int .i64 y.room, .slice y.a y.ps.length y.c]) ∧ OwD w' w.heap.size y ∧ Below w.heap.size w w' := by
  have F : ∀ W1, W1 = w.alloc (.cells #[.int .i64 x.room, .slice x.a x.ps.length x.c] 26) → ∀ W2, W2 = W1.alloc (.cells #[.int .i64 0, .slice none 0 0] 26) →
      Wd w W2 x ∧ Bc W2 w.heap.size (w.heap.size + 1) (.int .i64 0) (.slice none 0 0) ∧ W2.heap.size = w.heap.size + 2 := by
    intro W1 h1 W2 h2
    have s1 : W1.heap.size = w.heap.size + 1 := by rw [h1]; simp
    have s2 : W2.heap.size = w.heap.size + 2 := by rw [h2]; simp [s1]
    have d1 : Wd w W1 x := by rw [h1]; exact Wd.made hr _
    have b2 : Below W1.heap.size W1 W2 := by rw [h2]; exact one_more _ _
    have R1 : Bc W2 w.heap.size (w.heap.size + 1) (.int .i64 0) (.slice none 0 0) := by rw [h2]; exact Bc.made _ _ (by omega) s1.symm
    exact ⟨d1.step b2, R1, s2⟩
  have G0 := hide (F _ rfl _ rfl)
  have h20 := hr.n
  clear F hr
  go_enter Try.func74, Try.ntmps74
  go_wp2_with fail
  generalize (w.alloc (.cells #[.int .i64 x.room, .slice x.a x.ps.length x.c] 26)).alloc (.cells #[.int .i64 0, .slice none 0 0] 26) = W at *
  obtain ⟨WD, RB, s3⟩ := unhide G0
  have K0 := And.intro WD.c0 WD.c1
  have bL := one_more W.drew (.cells #[] 54)
  have WL := WD.drew.step bL
  have KB := And.intro WL.c0 WL.c1
  have RQ := hide (show x.ps.length = 0 ∨ ∃ vb, x.a = some ⟨vb, 0, none⟩ ∧ AtF (W.drew.alloc (.cells #[] 54)) vb x.ps from by
    by_cases q : x.ps.length = 0
    · exact .inl q
    · obtain ⟨g, e⟩ := WL.r.e q
      exact .inr ⟨g, e, (WL.r.r g e).2⟩)
  have LF := hide (show OwnF 54 (W.drew.alloc (.cells #[] 54)) w.heap.size (w.heap.size + 2) 0 0 [] from by
    have h := litF0 54 W.drew w.heap.size (show w.heap.size ≤ W.heap.size from by omega)
    rw [show W.drew.heap.size = w.heap.size + 2 from s3] at h
    exact h)
  have HWD := hide WD
  have HRB := hide RB
  clear G0 WD RB bL WL
  refine wp_region_held_drew (S := (fun w' => w'.cell? ⟨w.heap.size, 0, none⟩ = some (.int .i64 x.room) ∧ w'.cell? ⟨w.heap.size, 1, none⟩ = some (.slice x.a x.ps.length x.c))) (by kernel_rfl) K0 (fun hHeld => ?_)
  refine wpAnyH_take (i := 0) (oi := oC0) (v := .pointer (some ⟨w.heap.size, 0, none⟩)) rfl (by kernel_rfl) (by kernel_rfl) (by kernel_rfl) (fun _ _ _ h => h) (Or.inl ⟨by rfl, fun w hSw => ?_⟩) hHeld ?_
  · (try dsimp only at hSw)
    unfold oC0
    go_simp
  try simp only [oC0, Act.put, List.setIfInBounds_toArray, List.set_cons_zero, List.set_cons_succ]
  refine wpAnyH_take (i := 1) (oi := oC1) (v := .int .i64 x.room) rfl (by kernel_rfl) (by kernel_rfl) (by kernel_rfl) (fun _ _ _ h => h) (Or.inl ⟨by rfl, fun w hSw => ?_⟩) hHeld ?_
  · (try dsimp only at hSw)
    unfold oC1
    go_simp
  try simp only [oC1, Act.put, List.setIfInBounds_toArray, List.set_cons_zero, List.set_cons_succ]
  refine wpAnyH_take (i := 3) (oi := oC3) (v := .pointer (some ⟨w.heap.size, 1, none⟩)) rfl (by kernel_rfl) (by kernel_rfl) (by kernel_rfl) (fun _ _ _ h => h) (Or.inl ⟨by rfl, fun w hSw => ?_⟩) hHeld ?_
  · (try dsimp only at hSw)
    unfold oC3
    go_simp
  try simp only [oC3, Act.put, List.setIfInBounds_toArray, List.set_cons_zero, List.set_cons_succ]
  refine wpAnyH_take (i := 4) (oi := oC4) (v := .slice x.a x.ps.length x.c) rfl (by kernel_rfl) (by kernel_rfl) (by kernel_rfl) (fun _ _ _ h => h) (Or.inl ⟨by rfl, fun w hSw => ?_⟩) hHeld ?_
  · (try dsimp only at hSw)
    unfold oC4
    go_simp
  try simp only [oC4, Act.put, List.setIfInBounds_toArray, List.set_cons_zero, List.set_cons_succ]
  refine wpAnyH_ready (rs := [2]) (by kernel_rfl) (by simp) ?_
  refine AllReadyH.cons (o := oC2) rfl (fun K hK => ?_) AllReadyH.nil
  unfold oC2
  go_simp
  refine hK.out _ _ KB (fun hHeld => ?_)
  clear hK K
  try simp only [oC2, Act.put, List.setIfInBounds_toArray, List.set_cons_zero, List.set_cons_succ]
  refine wpAnyH_ready (rs := [5]) (by kernel_rfl) (by simp) ?_
  refine AllReadyH.cons (o := oC5) rfl (fun K hK => ?_) AllReadyH.nil
  refine step_many ((W.drew).alloc (.cells #[] 54)) (by rfl) _ _ (by rfl) w.heap.size (w.heap.size + 2) 0 0 [] x.ps x.a x.c (by rfl) (by rfl) (unhide LF) (unhide RQ) (by omega) h20 (Nat.le_trans (show w.heap.size ≤ W.drew.heap.size from by show w.heap.size ≤ W.heap.size; omega) (by simp)) ?_
  intro g9 c9 u9 o9 gr9 LOC
  simp at LOC
  have O9 := hide o9
  have G9 := hide gr9
  have K9 : u9.cell? ⟨w.heap.size, 0, none⟩ = some (.int .i64 x.room) ∧ u9.cell? ⟨w.heap.size, 1, none⟩ = some (.slice x.a x.ps.length x.c) := ⟨gr9.cell KB.1 (by simp), gr9.cell KB.2 (by simp)⟩
  have R9 := hide ((((show Bc W.drew w.heap.size (w.heap.size + 1) (.int .i64 0) (.slice none 0 0) from unhide HRB).below (one_more W.drew (.cells #[] 54)) (show w.heap.size + 1 < W.heap.size from by omega))).kept gr9 (by simp))
  have f0 := (unhide R9).free 0
  have f1 := (unhide R9).free 1
  have r0 := (unhide R9).c0
  have r1 := (unhide R9).c1
  have NB := hide (show g9 ≠ w.heap.size + 1 from fun e => by
    have h := World.ownsRow.lt o9 g9 rfl
    rcases LOC with q | q <;> omega)
  have s0 := (unhide R9).set0 (.int .i64 x.room)
  have s1 := bc_set1 s0.1 (.slice (some ⟨g9, 0, none⟩) x.ps.length c9)
  have ST := hide (grow_grow s0.2 s1.2)
  have gs9 := (unhide G9).size
  simp at gs9
  have KE : ((u9.setCell ⟨w.heap.size + 1, 0, none⟩ (.int .i64 x.room)).setCell ⟨w.heap.size + 1, 1, none⟩ (.slice (some ⟨g9, 0, none⟩) x.ps.length c9)).cell? ⟨w.heap.size, 0, none⟩ = some (.int .i64 x.room) ∧ ((u9.setCell ⟨w.heap.size + 1, 0, none⟩ (.int .i64 x.room)).setCell ⟨w.heap.size + 1, 1, none⟩ (.slice (some ⟨g9, 0, none⟩) x.ps.length c9)).cell? ⟨w.heap.size, 1, none⟩ = some (.slice x.a x.ps.length x.c) := ⟨(kcell (unhide ST) 0 (show w.heap.size < u9.heap.size from by omega) (by omega)).trans K9.1, (kcell (unhide ST) 1 (show w.heap.size < u9.heap.size from by omega) (by omega)).trans K9.2⟩
  clear o9 gr9 s0 s1
  refine hK.out _ _ K9 (fun hHeld => ?_)
  clear hK K
  try simp only [oC5, Act.put, List.setIfInBounds_toArray, List.set_cons_zero, List.set_cons_succ]
  refine wpAnyH_take (i := 6) (oi := oC6) (v := .agg #[.int .i64 x.room, .slice (some ⟨g9, 0, none⟩) (0 + x.ps.length) c9]) rfl (by kernel_rfl) (by kernel_rfl) (by kernel_rfl) (fun _ _ _ h => h) (Or.inl ⟨by rfl, fun w hSw => ?_⟩) hHeld ?_
  · (try dsimp only at hSw)
    unfold oC6
    go_simp
  try simp only [oC6, Act.put, List.setIfInBounds_toArray, List.set_cons_zero, List.set_cons_succ]
  refine wpAnyH_ready (rs := [7]) (by kernel_rfl) (by simp) ?_
  refine AllReadyH.cons (o := oC7) rfl (fun K hK => ?_) AllReadyH.nil
  unfold oC7
  go_simp
  refine hK.out _ _ KE (fun hHeld => ?_)
  clear hK K
  try simp only [oC7, Act.put, List.setIfInBounds_toArray, List.set_cons_zero, List.set_cons_succ]
  refine wpAnyH_done (by kernel_rfl) ?_ _
  clear KE K9 KB K0
  go_wp2
  refine bodyPost_ret (v := .agg #[.int .i64 x.room, .slice (some ⟨g9, 0, none⟩) x.ps.length c9]) (by simp [results, Try.results74, go_sem, r0, r1]) rfl ⟨⟨x.room, some ⟨g9, 0, none⟩, c9, x.ps⟩, rfl, rfl, rfl, ?_, ?_⟩
  · unfold OwD
    exact World.ownsRow.kept (by have h := unhide O9; simp only [List.nil_append, Nat.zero_add] at h; exact h) (unhide ST) (.inr (fun e => (unhide NB) (Option.some.inj (show some g9 = some (w.heap.size + 1) from e))))
  · exact grow_low (grow_low ((unhide HWD).b.drew.alloc (show w.heap.size ≤ W.heap.size from by omega) _) (unhide G9) ⟨by omega, by simp; omega⟩) (unhide ST) ⟨by omega, by have := (unhide G9).size; simp at this; omega⟩
end Go.Proofs.Ytcajdiopgaoicaa.SCopy14
namespace Go.Proofs.Ytcajdiopgaoicaa.SRef14
open Go.ChangeShapes Go.WideShapes Go.ChangeAt Go.RowKit Fil14 DiskH14 DkH14 SDk14 SOk14 SRd14 App14 SLess14 SCopy14
/-- What is answered of a disk when a call is refused. -/
def refD (code room : Int) (ps : List TF) : Int × List TF := if code = 1 then (0, []) else (room, ps)
set_option maxRecDepth 100000 in
set_option maxHeartbeats 4000000 in
theorem sRefused (w : World) (x : Dx) (code : Int) (hr : RdD w x) :
    Calls Try.prog 55 #[.agg #[.int .i64 x.room, .slice x.a x.ps.length x.c], .int .i64 code] w fun e w' => ∃ y : Dx, (y.room, y.ps) = refD code x.room x.ps ∧ e = .returned (.agg #[.int .i64 y.room, .slice y.a y.ps.length y.c]) ∧ OwD w' w.heap.size y ∧ Below w.heap.size w w' := by
  have F : ∀ W1, W1 = w.alloc (.cells #[.int .i64 x.room, .slice x.a x.ps.length x.c] 26) → ∀ W2, W2 = W1.alloc (.cells #[.int .i64 0, .slice none 0 0] 26) →
      Wd w W2 x ∧ Bc W2 w.heap.size (w.heap.size + 1) (.int .i64 0) (.slice none 0 0) ∧ W2.heap.size = w.heap.size + 2 := by
    intro W1 h1 W2 h2
    have s1 : W1.heap.size = w.heap.size + 1 := by rw [h1]; simp
    have s2 : W2.heap.size = w.heap.size + 2 := by rw [h2]; simp [s1]
    have d1 : Wd w W1 x := by rw [h1]; exact Wd.made hr _
    have b2 : Below W1.heap.size W1 W2 := by rw [h2]; exact one_more _ _
    have R1 : Bc W2 w.heap.size (w.heap.size + 1) (.int .i64 0) (.slice none 0 0) := by rw [h2]; exact Bc.made _ _ (by omega) s1.symm
    exact ⟨d1.step b2, R1, s2⟩
  have G0 := hide (F _ rfl _ rfl)
  clear F hr
  by_cases q : code = 1
  · have E := hide (show refD code x.room x.ps = (0, []) from if_pos q)
    generalize refD code x.room x.ps = rr at *
    subst q
    go_enter Try.func55, Try.ntmps55
    go_wp2
    obtain ⟨WD, RB, s3⟩ := unhide G0
    have r0 := RB.c0
    have r1 := RB.c1
    refine bodyPost_ret (v := .agg #[.int .i64 0, .slice none 0 0]) (by simp [results, Try.results55, go_sem]) rfl ⟨⟨0, none, 0, []⟩, (unhide E).symm, rfl, ⟨rfl, .inl ⟨rfl, rfl⟩⟩, WD.b⟩
  · have E := hide (show refD code x.room x.ps = (x.room, x.ps) from if_neg q)
    generalize refD code x.room x.ps = rr at *
    go_enter Try.func55, Try.ntmps55
    go_wp2_with fail
    generalize (w.alloc (.cells #[.int .i64 x.room, .slice x.a x.ps.length x.c] 26)).alloc (.cells #[.int .i64 0, .slice none 0 0] 26) = W at *
    obtain ⟨WD, RB, s3⟩ := unhide G0
    refine (sCopy W x WD.r).mono ?_
    rintro e u ⟨y, yr, yp, rfl, oy, by1⟩
    have HE := hide (show (y.room, y.ps) = rr by rw [unhide E, yr, yp])
    have R9 := RB.below by1 (by omega)
    have f0 := R9.free 0
    have f1 := R9.free 1
    have r0 := R9.c0
    have r1 := R9.c1
    have s0 := R9.set0 (.int .i64 y.room)
    have s1 := bc_set1 s0.1 (.slice y.a y.ps.length y.c)
    have ST := hide (grow_grow s0.2 s1.2)
    have BB := hide (WD.b.trans (by1.mono WD.b.size))
    have us := by1.size
    have O1 := hide oy
    clear WD RB R9 s0 s1 by1 G0 oy yr yp
    go_wp2
    refine bodyPost_ret (v := .agg #[.int .i64 y.room, .slice y.a y.ps.length y.c]) (by simp [results, Try.results55, go_sem, r0, r1]) rfl ⟨y, unhide HE, rfl, ?_, ?_⟩
    · exact row_base (row_kept (unhide O1) (unhide ST) (by omega)) (by omega)
    · exact grow_low (unhide BB) (unhide ST) (by omega)
end Go.Proofs.Ytcajdiopgaoicaa.SRef14
namespace Go.Proofs.Ytcajdiopgaoicaa.SCom14
open Go.ChangeShapes Go.WideShapes Go.ChangeAt Go.RowKit Fil14 DiskH14 DkH14 SDk14 SOk14 SRd14 App14 SLess14 SCopy14 SRef14
/-- A disk and a code are told, the disk's memory the call's own. -/
def ToldD (r : (Int × List TF) × Int) (w : World) (e : Ending) (w' : World) : Prop := ∃ y : Dx, (y.room, y.ps) = r.1 ∧ e = .returned (.tuple #[.agg #[.int .i64 y.room, .slice y.a y.ps.length y.c], .int .i64 r.2]) ∧ OwD w' w.heap.size y ∧ Below w.heap.size w w'
/-- An index into files whose list may be nil. -/
theorem ixF {a : Option Addr} {g n k : Nat} (c : Nat) (e : a = some ⟨g, 0, none⟩) (h : k < n) (w : World) : (Instr.indexAt 24 (.slice a n c) (.int .i64 k)).run Try.prog w = .ok (.pointer (some ⟨g, k * 3, none⟩)) w := by
  subst e
  have : (k : Int) < n := by omega
  simp [go_sem, this]
theorem at_in {room : Int} {ps : List TF} {nm : Int} (h : (atD room ps nm).2 = 0) : OkD room ps ∧ okN nm = true ∧ ∃ k : Nat, (atD room ps nm).1 = k ∧ k < ps.length ∧ (elF ps k).1 = nm := by
  unfold atD at h ⊢
  by_cases q : OkD room ps ∧ okN nm = true
  · rw [if_pos q] at h ⊢
    by_cases n : findF ps nm < 0
    · simp [n] at h
    · obtain ⟨k, e, l, m⟩ := findF_in (ps := ps) (nm := nm) (by omega)
      exact ⟨q.1, q.2, k, e, l, m⟩
  · rw [if_neg q] at h; simp at h
/-- The worlds in which the functions begin: the disk in a box, and the result's. -/
theorem begunD {w : World} {x : Dx} (hr : RdD w x) : Wd w ((w.alloc (.cells #[.int .i64 x.room, .slice x.a x.ps.length x.c] 26)).alloc (.cells #[.int .i64 0, .slice none 0 0] 26)) x ∧ Bc ((w.alloc (.cells #[.int .i64 x.room, .slice x.a x.ps.length x.c] 26)).alloc (.cells #[.int .i64 0, .slice none 0 0] 26)) w.heap.size (w.heap.size + 1) (.int .i64 0) (.slice none 0 0) :=
  ⟨(Wd.made hr _).step (one_more _ _), Bc.made _ _ (by simp) (by simp)⟩
/-- The end: the disk that was made is stored into the result. -/
theorem endedD {w u : World} {base0 : Nat} {y : Dx} (b : Below w.heap.size w u) (rb : Bc u w.heap.size (w.heap.size + 1) (.int .i64 0) (.slice none 0 0)) (o : OwD u base0 y) (hb : w.heap.size + 1 < base0) : OwD ((u.setCell ⟨w.heap.size + 1, 0, none⟩ (.int .i64 y.room)).setCell ⟨w.heap.size + 1, 1, none⟩ (.slice y.a y.ps.length y.c)) w.heap.size y ∧ Below w.heap.size w ((u.setCell ⟨w.heap.size + 1, 0, none⟩ (.int .i64 y.room)).setCell ⟨w.heap.size + 1, 1, none⟩ (.slice y.a y.ps.length y.c)) := by
  have s0 := rb.set0 (.int .i64 y.room)
  have s1 := bc_set1 s0.1 (.slice y.a y.ps.length y.c)
  have st := grow_grow s0.2 s1.2
  exact ⟨row_base (row_kept o st hb) (by omega), grow_low b st ⟨by omega, b.size⟩⟩
end Go.Proofs.Ytcajdiopgaoicaa.SCom14
namespace Go.Proofs.Ytcajdiopgaoicaa.Law14
open Go.ChangeShapes Go.WideShapes Go.ChangeAt Go.RowKit Fil14 DiskH14 DkH14 SCom14
/-- The argument in its box, and what is read of it. -/
structure La (w W : World) (k : Int) (a : Option Addr) (len cap : Nat) (ps : List TF) : Prop where
  c0 : W.cell? ⟨w.heap.size, 0, none⟩ = some (.int .i64 k)
  c1 : W.cell? ⟨w.heap.size, 1, none⟩ = some (.slice a len cap)
  s : w.heap.size < W.heap.size
  b : Below w.heap.size w W
  r : ReadsF W a ps
section
variable {w W W' : World} {k : Int} {a : Option Addr} {len cap : Nat} {ps : List TF}
theorem La.step (h : La w W k a len cap ps) (b : Below W.heap.size W W') : La w W' k a len cap ps :=
  ⟨(b.cell (p := ⟨w.heap.size, 0, none⟩) h.s).trans h.c0, (b.cell (p := ⟨w.heap.size, 1, none⟩) h.s).trans h.c1, Nat.lt_of_lt_of_le h.s b.size, h.b.trans (b.mono (Nat.le_of_lt h.s)), h.r.below b⟩
theorem La.turn {B : Nat} (H : ReadsF w a ps) (h : La w W k a len cap ps) (b : Below B W W') (hB : w.heap.size < B) : La w W' k a len cap ps := by
  have q := h.b.trans (b.mono (Nat.le_of_lt hB))
  exact ⟨(b.cell (p := ⟨w.heap.size, 0, none⟩) hB).trans h.c0, (b.cell (p := ⟨w.heap.size, 1, none⟩) hB).trans h.c1, Nat.lt_of_lt_of_le h.s b.size, q, H.below q⟩
end
/-- A disk in a box. -/
structure Kd (W : World) (g : Nat) (x : Dx) : Prop where
  c0 : W.cell? ⟨g, 0, none⟩ = some (.int .i64 x.room)
  c1 : W.cell? ⟨g, 1, none⟩ = some (.slice x.a x.ps.length x.c)
  lt : g < W.heap.size
theorem Kd.made (w : World) (x : Dx) (e : TypeId) : Kd (w.alloc (.cells #[.int .i64 x.room, .slice x.a x.ps.length x.c] e)) w.heap.size x := ⟨by simp, by simp, by simp⟩
theorem Kd.step {W W' : World} {g : Nat} {x : Dx} (h : Kd W g x) (k : Below W.heap.size W W') : Kd W' g x :=
  ⟨(k.cell (p := ⟨g, 0, none⟩) h.lt).trans h.c0, (k.cell (p := ⟨g, 1, none⟩) h.lt).trans h.c1, Nat.lt_of_lt_of_le h.lt k.size⟩
theorem Kd.turn {W W' : World} {g : Nat} {x y : Dx} (h : Kd W g x) (k : TurnD y W W') (n : some g ≠ (Value.slice y.a y.ps.length y.c).ownBlock) : Kd W' g x := by
  have e : W'.heap[g]? = W.heap[g]? := k.block g h.lt n
  exact ⟨(World.cell?_of_block (w := W) e).trans h.c0, (World.cell?_of_block (w := W) e).trans h.c1, Nat.lt_of_lt_of_le h.lt k.size⟩
end Go.Proofs.Ytcajdiopgaoicaa.Law14
namespace Go.Proofs.Ytcajdiopgaoicaa.VOI
open Go.ChangeShapes Go.WideShapes Go.ChangeAt Go.RowKit
open Ints (Own At)
/-- A list of the call's own, from block number base on; nil where it is empty, perhaps. -/
def Ob (w : World) (base : Nat) (a : Option Addr) (n cap : Nat) (xs : List Int) : Prop := w.ownsRow base 3 1 (.slice a n cap) n (xs.map (Value.int .i64))
theorem Ob.of {w : World} {base g n cap : Nat} {xs : List Int} (h : Own w base g n cap xs) : Ob w base (some ⟨g, 0, none⟩) n cap xs := h
theorem Ob.nil (w : World) (base : Nat) : Ob w base none 0 0 [] := World.ownsRow_nil w base _ _
section
variable {w w' : World} {base n cap : Nat} {a : Option Addr} {xs : List Int}
theorem Ob.len (h : Ob w base a n cap xs) : xs.length = n := by have := h.1; simpa using this
theorem Ob.either (h : Ob w base a n cap xs) : (a = none ∧ n = 0 ∧ xs = []) ∨ ∃ g, a = some ⟨g, 0, none⟩ ∧ Own w base g n cap xs := by
  have hl := h.len
  rcases h.2 with ⟨h1, _⟩ | ⟨g, c, cur, h1, _⟩
  · have : a = none ∧ n = 0 ∧ cap = 0 := by simpa using h1
    obtain ⟨rfl, rfl, rfl⟩ := this
    exact .inl ⟨rfl, rfl, List.eq_nil_of_length_eq_zero hl⟩
  · have : a = some ⟨g, 0, none⟩ ∧ cap = c := by simpa using h1
    obtain ⟨rfl, rfl⟩ := this
    exact .inr ⟨g, rfl, h⟩
/-- Its block lies between two numbers. -/
def Btw (lo hi : Nat) (a : Option Addr) : Prop := ∀ x, a = some x → lo ≤ x.block ∧ x.block < hi
theorem Ob.btw (h : Ob w base a n cap xs) : Btw base w.heap.size a := by
  intro x hx
  rcases h.either with ⟨rfl, _⟩ | ⟨g, rfl, o⟩
  · cases hx
  · cases hx; exact o.lt
theorem Btw.mono {lo hi lo' hi' : Nat} (h : Btw lo hi a) (h1 : lo' ≤ lo) (h2 : hi ≤ hi') : Btw lo' hi' a := fun x hx => ⟨Nat.le_trans h1 (h x hx).1, Nat.lt_of_lt_of_le (h x hx).2 h2⟩
theorem Ob.mono {base' : Nat} (h : Ob w base a n cap xs) (hb : base' ≤ base) : Ob w base' a n cap xs := by
  rcases h.either with ⟨rfl, rfl, rfl⟩ | ⟨g, rfl, o⟩
  · refine ⟨h.1, ?_⟩
    rcases h.2 with h | ⟨g, c, cur, h1, _⟩
    · exact .inl h
    · simp at h1
  · exact o.mono hb
theorem Ob.below {B : Nat} (h : Ob w base a n cap xs) (k : Below B w w') (hb : Btw 0 B a) : Ob w' base a n cap xs := by
  rcases h.either with ⟨rfl, rfl, rfl⟩ | ⟨g, rfl, o⟩
  · refine ⟨h.1, ?_⟩
    rcases h.2 with h | ⟨g, c, cur, h1, _⟩
    · exact .inl h
    · simp at h1
  · exact o.below k (hb _ rfl).2
theorem Ob.step (h : Ob w base a n cap xs) (k : Below w.heap.size w w') : Ob w' base a n cap xs := h.below k (h.btw.mono (Nat.zero_le _) (Nat.le_refl _))
theorem Ob.kept {row : Option Nat} (h : Ob w base a n cap xs) (k : w.grownBy w' row) (hr : ∀ x, a = some x → some x.block ≠ row) : Ob w' base a n cap xs := by
  rcases h.either with ⟨rfl, rfl, rfl⟩ | ⟨g, rfl, o⟩
  · refine ⟨h.1, ?_⟩
    rcases h.2 with h | ⟨g, c, cur, h1, _⟩
    · exact .inl h
    · simp at h1
  · exact o.kept k (hr _ rfl)
end
/-- What is read of it. -/
def Rd (w : World) (a : Option Addr) (xs : List Int) : Prop := xs = [] ∨ ∃ g, a = some ⟨g, 0, none⟩ ∧ g < w.heap.size ∧ At w g xs
theorem Ob.rd {w : World} {base n cap : Nat} {a : Option Addr} {xs : List Int} (h : Ob w base a n cap xs) : Rd w a xs := by
  rcases h.either with ⟨rfl, rfl, rfl⟩ | ⟨g, rfl, o⟩
  · exact .inl rfl
  · exact .inr ⟨g, rfl, o.lt.2, o.at⟩
theorem Rd.below {w w' : World} {a : Option Addr} {xs : List Int} (h : Rd w a xs) (k : Below w.heap.size w w') : Rd w' a xs := by
  rcases h with h | ⟨g, e, hl, hc⟩
  · exact .inl h
  · exact .inr ⟨g, e, Nat.lt_of_lt_of_le hl k.size, hc.below k hl⟩
end Go.Proofs.Ytcajdiopgaoicaa.VOI
namespace Go.Proofs.Ytcajdiopgaoicaa.StrO15
open Go.ChangeShapes Go.WideShapes Go.ChangeAt Go.RowKit
open Fil14 (hide unhide)
/-- The texts of a list of the call's own: block g from its head on. -/
def At (w : World) (g : Nat) (xs : List ByteArray) : Prop := ∀ i, i < xs.length → w.cell? ⟨g, i, none⟩ = some (.string (xs.getD i ByteArray.empty))
/-- A list of the call's own, from block number base on. -/
def Own (w : World) (base g n cap : Nat) (xs : List ByteArray) : Prop := w.ownsRow base 9 1 (.slice (some ⟨g, 0, none⟩) n cap) n (xs.map (Value.string))
theorem Own.len {w : World} {base g n cap : Nat} {xs : List ByteArray} (h : Own w base g n cap xs) : xs.length = n := by
  have := h.1
  simpa using this
theorem Own.lt {w : World} {base g n cap : Nat} {xs : List ByteArray} (h : Own w base g n cap xs) : base ≤ g ∧ g < w.heap.size := World.ownsRow.lt h g rfl
theorem Own.at {w : World} {base g n cap : Nat} {xs : List ByteArray} (h : Own w base g n cap xs) : At w g xs := by
  intro i hi
  have hl := h.len
  have := World.ownsRow.cellAt h i (by omega)
  rw [this]
  simp [List.getD, hi]
theorem Own.free {w : World} {base g n cap : Nat} {xs : List ByteArray} (h : Own w base g n cap xs) (i : Nat) : w.frozen? ⟨g, i, none⟩ = false := World.ownsRow.frozenAt h i
theorem Own.mono {w : World} {base base' g n cap : Nat} {xs : List ByteArray} (h : Own w base g n cap xs) (hb : base' ≤ base) : Own w base' g n cap xs := by
  refine ⟨h.1, ?_⟩
  rcases h.2 with ⟨h1, _⟩ | ⟨g', c, cur, h1, h2, h3⟩
  · simp at h1
  · exact Or.inr ⟨g', c, cur, h1, Nat.le_trans hb h2, h3⟩
theorem Own.kept {w w' : World} {base g n cap : Nat} {xs : List ByteArray} {row : Option Nat} (h : Own w base g n cap xs) (k : w.grownBy w' row) (hne : some g ≠ row) : Own w' base g n cap xs :=
  World.ownsRow.kept h k (Or.inr hne)
theorem Own.below {w w' : World} {base g n cap B : Nat} {xs : List ByteArray} (h : Own w base g n cap xs) (k : Below B w w') (hg : g < B) : Own w' base g n cap xs := by
  refine ⟨h.1, ?_⟩
  rcases h.2 with ⟨h1, _⟩ | ⟨g', c, cur, h1, h2, h3, h4⟩
  · simp at h1
  · obtain ⟨e, _⟩ : g = g' ∧ cap = c := by simpa using h1
    subst e
    exact Or.inr ⟨g, c, cur, h1, h2, by rw [k.block g hg]; exact h3, h4⟩
theorem At.below {w w' : World} {g B : Nat} {xs : List ByteArray} (h : At w g xs) (k : Below B w w') (hg : g < B) : At w' g xs := fun i hi => (k.cell (p := ⟨g, i, none⟩) hg).trans (h i hi)
/-- A store into a list of the call's own. -/
theorem Own.set {w : World} {base g n cap : Nat} {xs : List ByteArray} (h : Own w base g n cap xs) (i : Nat) (x : ByteArray) :
    Own (w.setCell ⟨g, i, none⟩ (.string x)) base g n cap (xs.set i x) ∧ w.grownBy (w.setCell ⟨g, i, none⟩ (.string x)) (some g) := by
  have := World.ownsRow.stored h i (.string x)
  refine ⟨?_, this.2⟩
  unfold Own
  rw [List.map_set]
  exact this.1
/-- A list of the call's own, from block number base on; nil where it is empty, perhaps. -/
def Ob (w : World) (base : Nat) (a : Option Addr) (n cap : Nat) (xs : List ByteArray) : Prop := w.ownsRow base 9 1 (.slice a n cap) n (xs.map (Value.string))
theorem Ob.of {w : World} {base g n cap : Nat} {xs : List ByteArray} (h : Own w base g n cap xs) : Ob w base (some ⟨g, 0, none⟩) n cap xs := h
theorem Ob.nil (w : World) (base : Nat) : Ob w base none 0 0 [] := World.ownsRow_nil w base _ _
section
variable {w w' : World} {base n cap : Nat} {a : Option Addr} {xs : List ByteArray}
theorem Ob.len (h : Ob w base a n cap xs) : xs.length = n := by have := h.1; simpa using this
theorem Ob.either (h : Ob w base a n cap xs) : (a = none ∧ n = 0 ∧ xs = []) ∨ ∃ g, a = some ⟨g, 0, none⟩ ∧ Own w base g n cap xs := by
  have hl := h.len
  rcases h.2 with ⟨h1, _⟩ | ⟨g, c, cur, h1, _⟩
  · have : a = none ∧ n = 0 ∧ cap = 0 := by simpa using h1
    obtain ⟨rfl, rfl, rfl⟩ := this
    exact .inl ⟨rfl, rfl, List.eq_nil_of_length_eq_zero hl⟩
  · have : a = some ⟨g, 0, none⟩ ∧ cap = c := by simpa using h1
    obtain ⟨rfl, rfl⟩ := this
    exact .inr ⟨g, rfl, h⟩
/-- Its block lies between two numbers. -/
def Btw (lo hi : Nat) (a : Option Addr) : Prop := ∀ x, a = some x → lo ≤ x.block ∧ x.block < hi
theorem Ob.btw (h : Ob w base a n cap xs) : Btw base w.heap.size a := by
  intro x hx
  rcases h.either with ⟨rfl, _⟩ | ⟨g, rfl, o⟩
  · cases hx
  · cases hx; exact o.lt
theorem Btw.mono {lo hi lo' hi' : Nat} (h : Btw lo hi a) (h1 : lo' ≤ lo) (h2 : hi ≤ hi') : Btw lo' hi' a := fun x hx => ⟨Nat.le_trans h1 (h x hx).1, Nat.lt_of_lt_of_le (h x hx).2 h2⟩
theorem Ob.mono {base' : Nat} (h : Ob w base a n cap xs) (hb : base' ≤ base) : Ob w base' a n cap xs := by
  rcases h.either with ⟨rfl, rfl, rfl⟩ | ⟨g, rfl, o⟩
  · refine ⟨h.1, ?_⟩
    rcases h.2 with h | ⟨g, c, cur, h1, _⟩
    · exact .inl h
    · simp at h1
  · exact o.mono hb
theorem Ob.below {B : Nat} (h : Ob w base a n cap xs) (k : Below B w w') (hb : Btw 0 B a) : Ob w' base a n cap xs := by
  rcases h.either with ⟨rfl, rfl, rfl⟩ | ⟨g, rfl, o⟩
  · refine ⟨h.1, ?_⟩
    rcases h.2 with h | ⟨g, c, cur, h1, _⟩
    · exact .inl h
    · simp at h1
  · exact o.below k (hb _ rfl).2
theorem Ob.step (h : Ob w base a n cap xs) (k : Below w.heap.size w w') : Ob w' base a n cap xs := h.below k (h.btw.mono (Nat.zero_le _) (Nat.le_refl _))
theorem Ob.kept {row : Option Nat} (h : Ob w base a n cap xs) (k : w.grownBy w' row) (hr : ∀ x, a = some x → some x.block ≠ row) : Ob w' base a n cap xs := by
  rcases h.either with ⟨rfl, rfl, rfl⟩ | ⟨g, rfl, o⟩
  · refine ⟨h.1, ?_⟩
    rcases h.2 with h | ⟨g, c, cur, h1, _⟩
    · exact .inl h
    · simp at h1
  · exact o.kept k (hr _ rfl)
end
/-- What is read of it. -/
def Rd (w : World) (a : Option Addr) (xs : List ByteArray) : Prop := xs = [] ∨ ∃ g, a = some ⟨g, 0, none⟩ ∧ g < w.heap.size ∧ At w g xs
theorem Ob.rd {w : World} {base n cap : Nat} {a : Option Addr} {xs : List ByteArray} (h : Ob w base a n cap xs) : Rd w a xs := by
  rcases h.either with ⟨rfl, rfl, rfl⟩ | ⟨g, rfl, o⟩
  · exact .inl rfl
  · exact .inr ⟨g, rfl, o.lt.2, o.at⟩
theorem Rd.below {w w' : World} {a : Option Addr} {xs : List ByteArray} (h : Rd w a xs) (k : Below w.heap.size w w') : Rd w' a xs := by
  rcases h with h | ⟨g, e, hl, hc⟩
  · exact .inl h
  · exact .inr ⟨g, e, Nat.lt_of_lt_of_le hl k.size, hc.below k hl⟩
theorem infoT : (Try.prog.info? 9).map (fun i => (i.zero, i.size, i.bytes)) = some (some (.string ⟨#[]⟩), 1, 16) := by kernel_rfl
/-- A text appended to a list that may be nil. -/
theorem wp_app (u : World) {ops : Array Oper} {rest : List Oper} {o : Oper} {a : Act} {Q : Exit → Act → World → Prop} (hgd : o.guard = none) (s x : Operand)
    (ho : o.op = .call { callee := .builtin .append, args := #[s, x], argTypes := #[31, 31] }) (base : Nat) (v : Value) (n : Nat) (ts : List ByteArray) (vb : Nat) (t : ByteArray) (hs : a.eval s = v) (hx : a.eval x = .slice (some ⟨vb, 0, none⟩) 1 1) (hown : u.ownsRow base 9 1 v n (ts.map Value.string)) (hc : u.cell? ⟨vb, 0, none⟩ = some (.string t)) (hn : n ≤ 1048576) (hb : base ≤ u.heap.size)
    (h : ∀ g' c' w', Own w' base g' (n + 1) c' (ts ++ [t]) → u.grownBy w' v.ownBlock → (some g' = v.ownBlock ∨ g' = u.heap.size) → wpList Try.prog ops Q rest (a.put o.dst (.slice (some ⟨g', 0, none⟩) (n + 1) c')) w') : wpList Try.prog ops Q (o :: rest) a u := by
  obtain ⟨i0, hi, hz0, hz1, hz2⟩ := info_parts infoT
  refine wpList_append_own_at u hgd s x 31 ho base 9 i0 (.string ⟨#[]⟩) 1 16 Try.underlying31 hi hz0 hz1 hz2 rfl (by decide) v n (ts.map Value.string) hs hown ⟨vb, 0, none⟩ 1 1 [.string t] hx (by simp) (fun j w hj => by
    rw [Addr.add_lit, Nat.zero_add]
    cases j with
    | zero => simp at hj; rw [← hj]; exact hc
    | succ j => simp at hj) (fun w hw => by rw [List.mem_singleton.1 hw]; rfl) (by unfold maxLen; omega) (by omega) hb ?_
  intro v' w' own' gr' nil' loc'
  rcases own'.2 with ⟨e1, _⟩ | ⟨g', c', cur, rfl, _⟩
  · rw [e1] at nil'; simp at nil'
  · exact h g' c' w' (by unfold Own; rw [List.map_append]; exact own') gr' (loc'.elim .inl (fun q => .inr (Option.some.inj (show some g' = some u.heap.size from q))))
theorem lit0 (w : World) (base : Nat) (hb : base ≤ w.heap.size) : Own (w.alloc (.cells #[] 9)) base w.heap.size 0 0 [] := World.ownsRow_lit w #[] 0 hb (by decide) rfl
end Go.Proofs.Ytcajdiopgaoicaa.StrO15
namespace Go.Proofs.Ytcajdiopgaoicaa.LawL15
open Go.ChangeShapes Go.WideShapes Go.ChangeAt Go.RowKit Fil14 DiskH14 DkH14 SCom14 Law14
theorem _root_.Go.Proofs.Ytcajdiopgaoicaa.Law14.Kd.kept {W W' : World} {g : Nat} {x : Dx} {G : Nat} (h : Kd W g x) (k : W.grownBy W' (some G)) (n : g ≠ G) : Kd W' g x :=
  ⟨(App14.kcell k 0 h.lt n).trans h.c0, (App14.kcell k 1 h.lt n).trans h.c1, Nat.lt_of_lt_of_le h.lt k.size⟩
end Go.Proofs.Ytcajdiopgaoicaa.LawL15
namespace Go.Proofs.Ytcajdiopgaoicaa.SPut11
open Go.ChangeShapes Go.WideShapes Go.ChangeAt Go.RowKit SBytes
open ByteH (Own At)
theorem own_of_row {w : World} {base n n' : Nat} {v : Value} {vs : List Value} {xs : List Int} (h : w.ownsRow base 5 1 v n vs) (hn : n = n') (e : vs = xs.map (Value.int .u8)) (hv : ¬ v = .slice none 0 0) :
    ∃ g c, v = .slice (some ⟨g, 0, none⟩) n' c ∧ Own w base g n' c xs := by
  subst hn e
  have h' := h
  rcases h.2 with ⟨h1, _⟩ | ⟨g, c, cur, rfl, _⟩
  · exact absurd h1 hv
  · exact ⟨g, c, rfl, h'⟩
theorem own_alloc {w : World} {base g n cap : Nat} {xs : List Int} (h : Own w base g n cap xs) (o : Obj) : Own (w.alloc o) base g n cap xs := World.ownsRow.alloc h o
theorem lit0 (w : World) (base : Nat) {g : Nat} (hb : base ≤ w.heap.size) (hg : g = w.heap.size) : Own (w.alloc (.cells #[] 5)) base g 0 0 [] := by
  subst hg
  exact World.ownsRow_lit w #[] 0 hb (by decide) rfl
/-- Bytes that lie from a place on. -/
def AtO (w : World) (g o : Nat) (xs : List Int) : Prop := ∀ i, i < xs.length → w.cell? ⟨g, o + i, none⟩ = some (.int .u8 (xs.getD i 0))
theorem AtO.of {w : World} {g : Nat} {xs : List Int} (h : At w g xs) : AtO w g 0 xs := fun i hi => by rw [Nat.zero_add]; exact h i hi
/-- Bytes appended to bytes of the call's own. -/
theorem wp_catB (u : World) {ops : Array Oper} {rest : List Oper} {o : Oper} {a : Act} {Q : Exit → Act → World → Prop} (hgd : o.guard = none) (s x : Operand)
    (ho : o.op = .call { callee := .builtin .append, args := #[s, x], argTypes := #[22, 22] }) (base g n cap m : Nat) (xs ys : List Int) (vb off c : Nat)
    (hs : a.eval s = .slice (some ⟨g, 0, none⟩) n cap) (hx : a.eval x = .slice (some ⟨vb, off, none⟩) m c) (hown : Own u base g n cap xs) (hl : ys.length = m) (hv : AtO u vb off ys) (hn : n + m ≤ 9223372036854) (hb : base ≤ u.heap.size)
    (h : ∀ g' c' w', Own w' base g' (n + m) c' (xs ++ ys) → u.grownBy w' (some g) → (g' = g ∨ g' = u.heap.size) → wpList Try.prog ops Q rest (a.put o.dst (.slice (some ⟨g', 0, none⟩) (n + m) c')) w') : wpList Try.prog ops Q (o :: rest) a u := by
  obtain ⟨i0, hi, hz0, hz1, hz2⟩ := info_parts ByteH.info8
  refine wpList_append_own_at u hgd s x 22 ho base 5 i0 (.int .u8 0) 1 1 Try.underlying22 hi hz0 hz1 hz2 rfl (by decide) _ n _ hs hown ⟨vb, off, none⟩ m c (ys.map (Value.int .u8)) hx (by simp [hl]) (fun j v hj => by
    have hj' : j < ys.length := by
      have := (List.getElem?_eq_some_iff.1 hj).1
      simpa using this
    have := hv j hj'
    rw [Addr.add_lit, this]
    rw [← hj]
    simp [List.getD, hj']) (by intro u hu; obtain ⟨y, _, rfl⟩ := List.mem_map.1 hu; simp [Value.oneCell']) (by unfold maxLen; omega) (by omega) hb ?_
  intro v' w' own' gr' nil' loc'
  obtain ⟨g', c', rfl, o'⟩ := own_of_row (n' := n + m) (xs := xs ++ ys) own' rfl (by simp) (by rw [nil']; simp)
  exact h g' c' w' o' gr' (by simpa [Value.ownBlock] using loc')
theorem lit_one (w : World) (y : Int) : AtO (w.alloc (.cells #[.int .u8 y] 5)) w.heap.size 0 [y] := by
  intro i hi
  have : i = 0 := by simpa using hi
  subst this
  simp
/-- The form of a number: seven bits a byte, the lowest first. -/
def numF (x : Nat) : List Int := if 127 < x then ((x % 128 + 128 : Nat) : Int) :: numF (x / 128) else [(x : Int)]
termination_by x
theorem numF_more {x : Nat} (h : 127 < x) : numF x = ((x % 128 + 128 : Nat) : Int) :: numF (x / 128) := by rw [numF, if_pos h]
theorem numF_last {x : Nat} (h : ¬ 127 < x) : numF x = [(x : Int)] := by rw [numF, if_neg h]
theorem numF_len (n : Nat) : ∀ x : Nat, x < 128 ^ (n + 1) → (numF x).length ≤ n + 1 := by
  induction n with
  | zero => intro x h; rw [numF_last (by omega)]; simp
  | succ n ih =>
    intro x h
    by_cases t : 127 < x
    · rw [numF_more t]
      have := ih (x / 128) (by rw [Nat.pow_succ] at h; omega)
      simp
      omega
    · rw [numF_last t]; simp
theorem numF_in (n : Nat) : ∀ x : Nat, x < 128 ^ (n + 1) → ∀ y ∈ numF x, 0 ≤ y ∧ y ≤ 255 := by
  induction n with
  | zero =>
    intro x h y hy
    rw [numF_last (by omega)] at hy
    simp at hy
    omega
  | succ n ih =>
    intro x h y hy
    by_cases t : 127 < x
    · rw [numF_more t] at hy
      rcases List.mem_cons.1 hy with rfl | hy
      · omega
      · exact ih (x / 128) (by rw [Nat.pow_succ] at h; omega) y hy
    · rw [numF_last t] at hy
      simp at hy
      omega
/-- What PutNum answers. -/
def numB (x : Int) : List Int := if x < 0 then [] else numF x.toNat
theorem numF_nine {x : Nat} (h : x ≤ 9223372036854775807) : (numF x).length ≤ 9 := numF_len 8 x (by omega)
theorem numB_nine {x : Int} (h : x ≤ 9223372036854775807) : (numB x).length ≤ 9 := by
  unfold numB
  split
  · simp
  · exact numF_nine (by omega)
theorem one_more (w : World) (o : Obj) : Below w.heap.size w (w.alloc o) := (Below.refl _ _).alloc (Nat.le_refl _) _
set_option maxRecDepth 100000 in
set_option maxHeartbeats 4000000 in
theorem sPutNum (w : World) (x0 : Int) (hx : x0 ≤ 9223372036854775807) :
    Calls Try.prog 76 #[.int .i64 x0] w fun e w' => ∃ g c, e = .returned (.slice (some ⟨g, 0, none⟩) (numB x0).length c) ∧ Own w' w.heap.size g (numB x0).length c (numB x0) ∧ Below w.heap.size w w' := by
  have O0 := hide (lit0 w w.heap.size (Nat.le_refl _) rfl)
  have B0 := hide (one_more w (.cells #[] 5))
  by_cases h0 : x0 < 0
  · have e : numB x0 = [] := if_pos h0
    rw [e]
    clear e hx
    go_enter Try.func76, Try.ntmps76
    go_wp2
    go_ret
    exact ⟨w.heap.size, 0, rfl, unhide O0, unhide B0⟩
  have e : numB x0 = numF x0.toNat := if_neg h0
  rw [e]
  have L := hide (numF_nine (x := x0.toNat) (by omega))
  clear e
  obtain ⟨r, hr⟩ : ∃ r, Hid (numF x0.toNat = r) := ⟨_, rfl⟩
  rw [unhide hr] at L ⊢
  have h1 : 0 ≤ x0 := by omega
  have S0 := hide (show ([] : List Int) ++ numF x0.toNat = r from unhide hr)
  clear hr h0
  go_enter Try.func76, Try.ntmps76
  go_wp2
  go_loopw [0, 3] (fun a l wr => ∃ (x : Int) (p : List Int) (g c : Nat), a = .int .i64 x ∧ l = .slice (some ⟨g, 0, none⟩) p.length c ∧ 0 ≤ x ∧ x ≤ 9223372036854775807 ∧ Hid (p ++ numF x.toNat = r) ∧ Hid (Own wr w.heap.size g p.length c p) ∧ Hid (Below w.heap.size w wr)) (fun a _ _ => (intOf a).toNat)
  case atStart => exact ⟨x0, [], w.heap.size, 0, rfl, rfl, h1, hx, S0, O0, B0⟩
  case round =>
    clear O0 B0 S0 hx h1
    obtain ⟨x, p, g, c, rfl, rfl, x1, x2, HR, HO, HB⟩ := hrel
    have bs := (unhide HB).size
    have pl : p.length ≤ 9 := by have a := unhide L; rw [← unhide HR] at a; simp at a; omega
    have og := (unhide HO).lt
    have HX := hide (And.intro x1 x2)
    by_cases t : 127 < x
    · have N := hide (show (p ++ [x % 128 + 128]) ++ numF (x / 128).toNat = r from by
        rw [← unhide HR, numF_more (x := x.toNat) (by omega), List.append_assoc]
        have e1 : ((x.toNat % 128 + 128 : Nat) : Int) = x % 128 + 128 := by omega
        have e2 : x.toNat / 128 = (x / 128).toNat := by omega
        rw [e1, e2]; rfl)
      have E := hide (show wrap64 (x.tdiv 128) = x / 128 from by rw [Int.tdiv_eq_ediv_of_nonneg x1, wrap64]; omega)
      clear HR x1 x2
      go_wp2_with (first | (at_builtin; refine wp_catB _ rfl _ _ rfl w.heap.size g p.length c 1 p [x % 128 + 128] wr.heap.size 0 1 rfl rfl (own_alloc (unhide HO) _) rfl (lit_one _ _) (by omega) (by simp; omega) ?_) | go_in)
      intro g5 c5 w5 o5 gr5 loc5
      have O5 := hide o5
      have B5 := hide (((unhide HB).alloc (by omega) (.cells #[.int .u8 (x % 128 + 128)] 5)).grown gr5 (by simp; omega) (fun j hj => by cases hj; exact og.1))
      clear o5 gr5 loc5
      go_wp2
      go_roundw
      case rel =>
        have xx := unhide HX
        exact ⟨x / 128, p ++ [x % 128 + 128], g5, c5, congrArg (Value.int .i64) (unhide E), by rw [show (p ++ [x % 128 + 128]).length = p.length + 1 by simp], by omega, by omega, N, hide (by rw [show (p ++ [x % 128 + 128]).length = p.length + 1 by simp]; exact unhide O5), B5⟩
      case measure =>
        have xx := unhide HX
        have e := unhide E
        simp [intOf, e]
        omega
    · have N := hide (show p ++ [x] = r from by
        rw [← unhide HR, numF_last (x := x.toNat) (by omega)]
        have e1 : ((x.toNat : Nat) : Int) = x := by omega
        rw [e1])
      clear HR
      go_wp2_with (first | (at_builtin; refine wp_catB _ rfl _ _ rfl w.heap.size g p.length c 1 p [x] wr.heap.size 0 1 rfl rfl (own_alloc (unhide HO) _) rfl (lit_one _ _) (by omega) (by simp; omega) ?_) | go_in)
      intro g5 c5 w5 o5 gr5 loc5
      have O5 := hide o5
      have B5 := hide (((unhide HB).alloc (by omega) (.cells #[.int .u8 x] 5)).grown gr5 (by simp; omega) (fun j hj => by cases hj; exact og.1))
      clear o5 gr5 loc5
      go_wp2
      go_ret
      have e := unhide N
      have e1 : r.length = p.length + 1 := by rw [← e]; simp
      exact ⟨g5, c5, by rw [e1]; rfl, by rw [e1, ← e]; exact unhide O5, unhide B5⟩
end Go.Proofs.Ytcajdiopgaoicaa.SPut11
namespace Go.Proofs.Ytcajdiopgaoicaa.SUnseal11
open Go.ChangeShapes Go.WideShapes Go.ChangeAt Go.RowKit SBytes SPut11
open ByteH (Own At)
theorem w64 (x : Int) (h0 : 0 ≤ x) (h1 : x ≤ 9223372036854775807) : IntKind.i64.wrap x = x := by
  rw [IntKind.wrap_i64]
  omega
/-- The bytes of a list from a place on. -/
def piece (xs : List Int) (f n : Nat) : List Int := (xs.drop f).take n
theorem piece_len {xs : List Int} {f n : Nat} (h : f + n ≤ xs.length) : (piece xs f n).length = n := by simp [piece]; omega
theorem piece_get {xs : List Int} {f n i : Nat} (h : i < n) : (piece xs f n).getD i 0 = xs.getD (f + i) 0 := by simp [piece, List.getD, h]
/-- Four bytes as a number, the lowest first. -/
def fourN (xs : List Int) (f : Nat) : Int := xs.getD f 0 + xs.getD (f + 1) 0 * 256 + xs.getD (f + 2) 0 * 65536 + xs.getD (f + 3) 0 * 16777216
/-- What Unseal answers. -/
def unsealN (xs : List Int) (p : Int) : List Int × Int × Int :=
  if (getN xs p).2.2 = false ∨ 9000 < (getN xs p).1 then ([], 0, 1)
  else if (xs.length : Int) - (getN xs p).2.1 < (getN xs p).1 + 4 then ([], 0, 2)
  else if chkB (piece xs (getN xs p).2.1.toNat (getN xs p).1.toNat) = fourN xs ((getN xs p).2.1.toNat + (getN xs p).1.toNat) then (piece xs (getN xs p).2.1.toNat (getN xs p).1.toNat, (getN xs p).2.1 + (getN xs p).1 + 4, 0)
  else ([], 0, 3)
theorem getF_in (xs : List Int) (q : Nat) : ∀ f k, (getF xs q f k).2.2 = true → 0 ≤ (getF xs q f k).1 ∧ 0 ≤ (getF xs q f k).2.1 ∧ (getF xs q f k).2.1 ≤ xs.length
  | 0, k => by simp [getF]
  | f + 1, k => by
    intro h
    simp only [getF] at h ⊢
    by_cases a : q + k < xs.length
    · rw [if_pos a] at h ⊢
      by_cases b : xs.getD (q + k) 0 < 128
      · rw [if_pos b] at h ⊢
        by_cases c : xs.getD (q + k) 0 = 0 ∧ 0 < k
        · rw [if_pos c] at h; simp at h
        · rw [if_neg c]
          exact ⟨(val_in xs q (k + 1)).1, by simp only; omega, by simp only; omega⟩
      · rw [if_neg b] at h ⊢
        exact getF_in xs q f (k + 1) h
    · rw [if_neg a] at h; simp at h
theorem getN_in (xs : List Int) (p : Int) (h : (getN xs p).2.2 = true) : 0 ≤ (getN xs p).1 ∧ 0 ≤ (getN xs p).2.1 ∧ (getN xs p).2.1 ≤ xs.length := by
  unfold getN at h ⊢
  by_cases a : p < 0 ∨ (xs.length : Int) ≤ p
  · rw [if_pos a] at h; simp at h
  · rw [if_neg a] at h ⊢
    exact getF_in xs _ 9 0 h
set_option maxRecDepth 100000 in
set_option maxHeartbeats 4000000 in
theorem sUnseal (w : World) (gl cl : Nat) (xs : List Int) (p0 : Int) (h20 : xs.length ≤ 1048576) (hc : xs.length ≤ cl) (hg : gl < w.heap.size) (hr : AtB w gl xs) :
    Calls Try.prog 53 #[.slice (some ⟨gl, 0, none⟩) xs.length cl, .int .i64 p0] w fun e w' => ∃ g c, e = .returned (.tuple #[.slice (some ⟨g, 0, none⟩) (unsealN xs p0).1.length c, .int .i64 (unsealN xs p0).2.1, .int .i64 (unsealN xs p0).2.2]) ∧ Own w' w.heap.size g (unsealN xs p0).1.length c (unsealN xs p0).1 ∧ Below w.heap.size w w' := by
  have O0 := hide (lit0 w w.heap.size (Nat.le_refl _) rfl)
  have B0 := hide (one_more w (.cells #[] 5))
  have R := hide hr
  have HG := hide hg
  have GI := hide (getN_in xs p0)
  have SG := hide (sGetNum w gl cl xs p0 h20 hr)
  obtain ⟨r, hq⟩ : ∃ r, Hid (unsealN xs p0 = r) := ⟨_, rfl⟩
  rw [unhide hq]
  unfold unsealN at hq
  clear hr hg
  generalize getN xs p0 = y at *
  obtain ⟨n, f, ok⟩ := y
  cases ok with
  | false =>
    have e := unhide hq
    rw [if_pos (.inl rfl)] at e
    subst e
    clear hq GI
    go_enter Try.func53, Try.ntmps53
    go_wp2_with fail
    refine (unhide SG).mono ?_
    rintro e u ⟨rfl, rfl⟩
    go_wp2
    go_ret3
    exact ⟨_, 0, rfl, unhide O0, unhide B0⟩
  | true =>
    obtain ⟨g0, g1, g2⟩ := (unhide GI) rfl
    simp only at g0 g1 g2
    clear GI
    by_cases n9 : 9000 < n
    · have e := unhide hq
      rw [if_pos (.inr n9)] at e
      subst e
      clear hq
      go_enter Try.func53, Try.ntmps53
      go_wp2_with fail
      refine (unhide SG).mono ?_
      rintro e u ⟨rfl, rfl⟩
      go_wp2
      go_ret3
      exact ⟨_, 0, rfl, unhide O0, unhide B0⟩
    have e := unhide hq
    rw [if_neg (by simp; omega)] at e
    simp only at e
    obtain ⟨n, rfl⟩ : ∃ m : Nat, n = m := ⟨n.toNat, by omega⟩
    obtain ⟨f, rfl⟩ : ∃ m : Nat, f = m := ⟨f.toNat, by omega⟩
    have a1 : wrap64 ((xs.length : Int) - f) = xs.length - f := by rw [wrap64]; omega
    have a2 : wrap64 ((n : Int) + 4) = n + 4 := by rw [wrap64]; omega
    clear hq
    by_cases s : (xs.length : Int) - f < n + 4
    · rw [if_pos s] at e
      subst e
      go_enter Try.func53, Try.ntmps53
      go_wp2_with fail
      refine (unhide SG).mono ?_
      rintro e u ⟨rfl, rfl⟩
      go_wp2
      go_ret3
      exact ⟨_, 0, rfl, unhide O0, unhide B0⟩
    rw [if_neg s, Int.toNat_natCast, Int.toNat_natCast] at e
    have E := hide e
    clear e
    have fn : f + n + 4 ≤ xs.length := by omega
    have a3 : wrap64 ((f : Int) + n) = f + n := by rw [wrap64]; omega
    have a4 : wrap64 ((f : Int) + n + 4) = f + n + 4 := by rw [wrap64]; omega
    have PL := hide (piece_len (xs := xs) (f := f) (n := n) (by omega))
    have PA := hide (show AtO (w.alloc (.cells #[] 5)) gl f (piece xs f n) from fun i hi => by
      rw [unhide PL] at hi
      rw [piece_get hi]
      exact ((AtB.below (unhide R) (unhide B0) (unhide HG)) (f + i) (by omega)).1)
    have b0 : (f : Int) ≤ f + n := by omega
    have b1 : (f : Int) + n ≤ cl := by omega
    have b2 : (f : Int) + n + 4 ≤ cl := by omega
    have b3 : (f : Int) + n ≤ f + n + 4 := by omega
    clear g0 g1 g2
    go_enter Try.func53, Try.ntmps53
    go_wp2_with fail
    refine (unhide SG).mono ?_
    rintro e u ⟨rfl, rfl⟩
    go_wp2_with (first | (at_builtin; refine wp_catB _ rfl _ _ rfl u.heap.size u.heap.size 0 0 n [] (piece xs f n) gl f (cl - f) rfl (by first | rfl | (simp [go_sem]; done) | (simp [Act.eval]; omega)) (unhide O0) (unhide PL) (unhide PA) (by omega) (by simp) ?_) | go_in)
    intro g5 c5 w5 o5 gr5 loc5
    have og := o5.lt
    have B5 := hide (show Below u.heap.size u w5 from (unhide B0).grown gr5 (by simp) (fun j hj => by cases hj; exact Nat.le_refl _))
    have O5 := hide o5
    have R5 := hide (AtB.below (unhide R) (unhide B5) (unhide HG))
    have D := hide (show ∀ i, i < 4 → w5.cell? ⟨gl, f + n + i, none⟩ = some (.int .u8 (xs.getD (f + n + i) 0)) ∧ 0 ≤ xs.getD (f + n + i) 0 ∧ xs.getD (f + n + i) 0 ≤ 255 from fun i hi => (unhide R5) (f + n + i) (by omega))
    clear o5 gr5 loc5 O0 B0
    obtain ⟨e0, e1⟩ := (unhide D) 0 (by omega)
    obtain ⟨f0, f1⟩ := (unhide D) 1 (by omega)
    obtain ⟨h0, h1⟩ := (unhide D) 2 (by omega)
    obtain ⟨k0, k1⟩ := (unhide D) 3 (by omega)
    rw [Nat.add_zero] at e0 e1
    have FO := hide (show fourN xs (f + n) = xs.getD (f + n) 0 + xs.getD (f + n + 1) 0 * 256 + xs.getD (f + n + 2) 0 * 65536 + xs.getD (f + n + 3) 0 * 16777216 from rfl)
    generalize xs.getD (f + n) 0 = v0 at *
    generalize xs.getD (f + n + 1) 0 = v1 at *
    generalize xs.getD (f + n + 2) 0 = v2 at *
    generalize xs.getD (f + n + 3) 0 = v3 at *
    rw [unhide FO] at E
    have PC := hide (sCheck w5.drew g5 c5 (piece xs f n) (by rw [unhide PL]; omega) (fun i hi => by
      have := (unhide O5).at i hi
      refine ⟨this, ?_⟩
      rw [unhide PL] at hi
      rw [piece_get hi]
      exact ((unhide R5) (f + i) (by omega)).2))
    rw [unhide PL] at PC
    obtain ⟨z, hz⟩ : ∃ z, Hid (chkB (piece xs f n) = z) := ⟨_, rfl⟩
    rw [unhide hz] at E
    have ez : chkB (piece xs f n) = 65536 * (chk (piece xs f n) n).2 + (chk (piece xs f n) n).1 := by unfold chkB; rw [unhide PL]
    rw [← ez, unhide hz] at PC
    have PC' : Hid (Calls Try.prog 73 #[.slice (some ⟨g5, 0, none⟩) n c5] w5.drew fun e w' => e = .returned (.int .i64 z) ∧ w' = w5.drew) := PC
    clear ez
    clear PC D FO
    have V := hide (And.intro e1 (And.intro f1 (And.intro h1 k1)))
    clear e1 f1 h1 k1
    by_cases q : z = v0 + v1 * 256 + v2 * 65536 + v3 * 16777216
    · have e := unhide E
      rw [if_pos q] at e
      subst e
      have Q := hide q
      clear E q
      go_wp2_with fail
      have K4 := And.intro e0 (And.intro f0 (And.intro h0 k0))
      go_region_held3 (fun w' => w'.cell? ⟨gl, f + n, none⟩ = some (.int .u8 v0) ∧ w'.cell? ⟨gl, f + n + 1, none⟩ = some (.int .u8 v1) ∧ w'.cell? ⟨gl, f + n + 2, none⟩ = some (.int .u8 v2) ∧ w'.cell? ⟨gl, f + n + 3, none⟩ = some (.int .u8 v3)) (first | exact K4)
        (first | (go_at_call 73; refine (unhide PC').mono ?_; rintro e u5 ⟨rfl, rfl⟩))
      obtain ⟨e1, f1, h1, k1⟩ := unhide V
      have x0 : IntKind.i64.wrap v0 = v0 := w64 _ (by omega) (by omega)
      have x1 : IntKind.i64.wrap v1 = v1 := w64 _ (by omega) (by omega)
      have x2 : IntKind.i64.wrap v2 = v2 := w64 _ (by omega) (by omega)
      have x3 : IntKind.i64.wrap v3 = v3 := w64 _ (by omega) (by omega)
      have y1 : IntKind.i64.wrap (v1 * 256) = v1 * 256 := w64 _ (by omega) (by omega)
      have y2 : IntKind.i64.wrap (v2 * 65536) = v2 * 65536 := w64 _ (by omega) (by omega)
      have y3 : IntKind.i64.wrap (v3 * 16777216) = v3 * 16777216 := w64 _ (by omega) (by omega)
      have z1 : IntKind.i64.wrap (v0 + v1 * 256) = v0 + v1 * 256 := w64 _ (by omega) (by omega)
      have z2 : IntKind.i64.wrap (v0 + v1 * 256 + v2 * 65536) = v0 + v1 * 256 + v2 * 65536 := w64 _ (by omega) (by omega)
      have z3 : IntKind.i64.wrap (v0 + v1 * 256 + v2 * 65536 + v3 * 16777216) = v0 + v1 * 256 + v2 * 65536 + v3 * 16777216 := w64 _ (by omega) (by omega)
      simp only [x0, x1, x2, x3, y1, y2, y3, z1, z2, z3]
      clear x0 x1 x2 x3 y1 y2 y3 z1 z2 z3 e1 f1 h1 k1
      rw [unhide Q]
      generalize v0 + v1 * 256 + v2 * 65536 + v3 * 16777216 = m at *
      have hm : (m != m) = false := by simp
      go_wp2
      go_ret3
      exact ⟨g5, c5, by rw [unhide PL]; rfl, by rw [unhide PL]; exact unhide O5, (unhide B5).drew⟩
    · have e := unhide E
      rw [if_neg q] at e
      subst e
      have Q := hide q
      clear E q
      go_wp2_with fail
      have K4 := And.intro e0 (And.intro f0 (And.intro h0 k0))
      go_region_held3 (fun w' => w'.cell? ⟨gl, f + n, none⟩ = some (.int .u8 v0) ∧ w'.cell? ⟨gl, f + n + 1, none⟩ = some (.int .u8 v1) ∧ w'.cell? ⟨gl, f + n + 2, none⟩ = some (.int .u8 v2) ∧ w'.cell? ⟨gl, f + n + 3, none⟩ = some (.int .u8 v3)) (first | exact K4)
        (first | (go_at_call 73; refine (unhide PC').mono ?_; rintro e u5 ⟨rfl, rfl⟩))
      obtain ⟨e1, f1, h1, k1⟩ := unhide V
      have x0 : IntKind.i64.wrap v0 = v0 := w64 _ (by omega) (by omega)
      have x1 : IntKind.i64.wrap v1 = v1 := w64 _ (by omega) (by omega)
      have x2 : IntKind.i64.wrap v2 = v2 := w64 _ (by omega) (by omega)
      have x3 : IntKind.i64.wrap v3 = v3 := w64 _ (by omega) (by omega)
      have y1 : IntKind.i64.wrap (v1 * 256) = v1 * 256 := w64 _ (by omega) (by omega)
      have y2 : IntKind.i64.wrap (v2 * 65536) = v2 * 65536 := w64 _ (by omega) (by omega)
      have y3 : IntKind.i64.wrap (v3 * 16777216) = v3 * 16777216 := w64 _ (by omega) (by omega)
      have z1 : IntKind.i64.wrap (v0 + v1 * 256) = v0 + v1 * 256 := w64 _ (by omega) (by omega)
      have z2 : IntKind.i64.wrap (v0 + v1 * 256 + v2 * 65536) = v0 + v1 * 256 + v2 * 65536 := w64 _ (by omega) (by omega)
      have z3 : IntKind.i64.wrap (v0 + v1 * 256 + v2 * 65536 + v3 * 16777216) = v0 + v1 * 256 + v2 * 65536 + v3 * 16777216 := w64 _ (by omega) (by omega)
      simp only [x0, x1, x2, x3, y1, y2, y3, z1, z2, z3]
      clear x0 x1 x2 x3 y1 y2 y3 z1 z2 z3 e1 f1 h1 k1
      have hm : (z != v0 + v1 * 256 + v2 * 65536 + v3 * 16777216) = true := by simpa using unhide Q
      generalize v0 + v1 * 256 + v2 * 65536 + v3 * 16777216 = m at *
      have O6 := hide (lit0 w5.drew u.heap.size (unhide B5).size rfl)
      have B6 := hide ((unhide B5).drew.alloc (unhide B5).size (.cells #[] 5))
      go_wp2
      go_ret3
      exact ⟨_, 0, rfl, unhide O6, unhide B6⟩
end Go.Proofs.Ytcajdiopgaoicaa.SUnseal11
namespace Go.Proofs.Ytcajdiopgaoicaa.Conv15
open Go.ChangeShapes Go.WideShapes Go.ChangeAt Go.RowKit SBytes
/-- The bytes of a text. -/
def nums (s : ByteArray) : List Int := s.data.toList.map fun b => (b.toNat : Int)
theorem nums_len (s : ByteArray) : (nums s).length = s.size := by
  unfold nums
  rw [List.length_map]
  rfl
theorem nums_mem {s : ByteArray} {x : Int} (h : x ∈ nums s) : 0 ≤ x ∧ x ≤ 255 := by
  unfold nums at h
  rw [List.mem_map] at h
  obtain ⟨b, _, rfl⟩ := h
  have := b.toNat_lt
  omega
theorem back (s : ByteArray) : strOfNums (nums s) = s := by
  unfold strOfNums nums
  rw [List.map_map]
  have : (fun n : Int => UInt8.ofNat n.toNat) ∘ (fun b : UInt8 => (b.toNat : Int)) = id := by
    funext b
    simp
  rw [this, List.map_id]
theorem forth {xs : List Int} (h : ∀ x ∈ xs, 0 ≤ x ∧ x ≤ 255) : nums (strOfNums xs) = xs := by
  unfold strOfNums nums
  simp only [List.map_map]
  have e : xs.map ((fun b : UInt8 => (b.toNat : Int)) ∘ fun n : Int => UInt8.ofNat n.toNat) = xs.map id := by
    apply List.map_congr_left
    intro x hx
    have := h x hx
    simp
    omega
  rw [e, List.map_id]
theorem to_bytes (w : World) (s : ByteArray) : ∃ c W, (nums s).length ≤ c ∧ (convert 9 22 (.string s)).run Try.prog w = .ok (.slice (some ⟨w.heap.size, 0, none⟩) (nums s).length c) W ∧ AtB W w.heap.size (nums s) ∧ W.heap.size = w.heap.size + 1 ∧ Below w.heap.size w W := by
  rw [nums_len]
  refine ⟨_, _, grownCap_ge w s.size 0 5, Lib.run_convert_string_bytes w 9 22 5 s Try.underlying9 Try.underlying22 Try.underlying5, ?_, Lib.bytesWorld_size _ _ _, ?_⟩
  · intro i hi
    rw [nums_len] at hi
    have e : (nums s).getD i 0 = ((s.data.toList.getD i 0).toNat : Int) := by
      unfold nums
      have : i < s.data.toList.length := hi
      rw [List.getD, List.getD, List.getElem?_map, List.getElem?_eq_getElem this]
      rfl
    rw [Lib.bytesWorld_cell w _ s i hi, e]
    refine ⟨rfl, ?_⟩
    have := (s.data.toList.getD i 0).toNat_lt
    omega
  · refine ⟨rfl, rfl, rfl, by rw [Lib.bytesWorld_size]; omega, fun k hk => Lib.bytesWorld_at_old w _ s k hk⟩
theorem of_bytes (w : World) (g c : Nat) (xs : List Int) (h : ByteH.At w g xs) : (convert 22 9 (.slice (some ⟨g, 0, none⟩) xs.length c)).run Try.prog w = .ok (.string (strOfNums xs)) w :=
  run_convert_bytes_arg w 22 5 Try.underlying22 Try.underlying5 g 0 xs.length c xs rfl (fun i hi => by rw [Nat.zero_add]; exact h i hi) 9 Try.underlying9
end Go.Proofs.Ytcajdiopgaoicaa.Conv15
namespace Go.Proofs.Ytcajdiopgaoicaa.SegP15
open Fil14 DiskH14 SDk14 SOk14 SRd14 SUnseal11 Conv15
/-- A segment. -/
def okS (n : Int) : Bool := decide (0 ≤ n ∧ n ≤ 19)
/-- The first j records, how many bytes these take, and whether there may be more. -/
def segS (xs : List Int) : Nat → List ByteArray × Int × Bool
  | 0 => ([], 0, true)
  | j + 1 => if (segS xs j).2.2 = true ∧ (segS xs j).2.1 < xs.length ∧ (unsealN xs (segS xs j).2.1).2.2 = 0 then ((segS xs j).1 ++ [strOfNums (unsealN xs (segS xs j).2.1).1], (unsealN xs (segS xs j).2.1).2.1, true) else ((segS xs j).1, (segS xs j).2.1, false)
theorem segS_go {xs : List Int} {j : Nat} {l : List ByteArray} {p : Int} (h : segS xs j = (l, p, true)) (a : p < xs.length) (b : (unsealN xs p).2.2 = 0) : segS xs (j + 1) = (l ++ [strOfNums (unsealN xs p).1], (unsealN xs p).2.1, true) := by
  rw [segS, h, if_pos ⟨rfl, a, b⟩]
theorem segS_stop {xs : List Int} {j : Nat} {l : List ByteArray} {p : Int} (h : segS xs j = (l, p, true)) (a : ¬ (p < xs.length ∧ (unsealN xs p).2.2 = 0)) : segS xs (j + 1) = (l, p, false) := by
  rw [segS, h, if_neg (fun q => a q.2)]
theorem segS_off {xs : List Int} {j : Nat} {l : List ByteArray} {p : Int} (h : segS xs j = (l, p, false)) : ∀ k, segS xs (j + k) = (l, p, false)
  | 0 => h
  | k + 1 => by
    rw [← Nat.add_assoc, segS, segS_off h k, if_neg (fun q => by simpa using q.1)]
theorem segS_end {xs : List Int} {j : Nat} {l : List ByteArray} {p : Int} (hj : j < 6) (h : segS xs j = (l, p, true)) (a : ¬ (p < xs.length ∧ (unsealN xs p).2.2 = 0)) : segS xs 6 = (l, p, false) := by
  have := segS_off (segS_stop h a) (5 - j)
  rwa [show j + 1 + (5 - j) = 6 by omega] at this
theorem segS_all {xs : List Int} : ∀ {j : Nat} {l : List ByteArray} {p : Int}, segS xs j = (l, p, true) → l.length = j
  | 0, l, p => fun h => by simp [segS] at h; simp [h.1]
  | j + 1, l, p => fun h => by
    rw [segS] at h
    split at h
    · rename_i q
      obtain ⟨l0, p0, b0⟩ : ∃ l0 p0, segS xs j = (l0, p0, true) := ⟨(segS xs j).1, (segS xs j).2.1, by rw [← q.1]⟩
      have := segS_all b0
      rw [b0] at h
      simp at h
      rw [← h.1]
      simp [this]
    · simp at h
/-- What SegRead answers. -/
def segD (room : Int) (ps : List TF) (seg : Int) : List ByteArray × Int := if (readD room ps seg).2 = true ∧ okS seg = true then ((segS (nums (readD room ps seg).1) 6).1, (segS (nums (readD room ps seg).1) 6).2.1) else ([], 0)
end Go.Proofs.Ytcajdiopgaoicaa.SegP15
namespace Go.Proofs.Ytcajdiopgaoicaa.SSeg15
open Go.ChangeShapes Go.WideShapes Go.ChangeAt Go.RowKit Fil14 DiskH14 DkH14 SDk14 SOk14 SRd14 Conv15 SegP15
open SBytes (AtB)
open SUnseal11 (unsealN sUnseal)
open StrO15 (Own wp_app lit0)
open App14 (kcell)
open SLess14 (grow_low)
theorem sSegOk (w : World) (n : Int) (b : Bool) (h : okS n = b) : Calls Try.prog 26 #[.int .i64 n] w fun e w' => e = .returned (.bool b) ∧ w' = w := by
  have S := hide (fun u => sInB u n 0 19 (okS n) rfl)
  rw [h] at S
  go_enter Try.func26, Try.ntmps26
  go_wp2_with fail
  refine (unhide S _).mono ?_
  rintro e u ⟨rfl, rfl⟩
  go_wp2
  go_ret
  exact ⟨rfl, rfl⟩
/-- A text that is read is not too long. -/
theorem read_size {room : Int} {ps : List TF} {nm : Int} (hz : sumZ ps ≤ 1048576) : (readD room ps nm).1.size ≤ 1048576 := by
  unfold readD
  split
  · rename_i h
    obtain ⟨k, e, l, _⟩ := findF_in h.2
    have := sumZ_next l
    have := sumZ_le ps (k + 1)
    show (bytesAt ps (findF ps nm).toNat).size ≤ 1048576
    rw [e, Int.toNat_natCast]
    unfold bytesAt
    rw [ByteArray.size_append]
    omega
  · show ByteArray.empty.size ≤ 1048576
    simp
set_option maxRecDepth 100000 in
set_option maxHeartbeats 4000000 in
theorem sSegRead (w : World) (x : Dx) (seg : Int) (hr : RdD w x) (hz : sumZ x.ps ≤ 1048576) :
    Calls Try.prog 27 #[.agg #[.int .i64 x.room, .slice x.a x.ps.length x.c], .int .i64 seg] w fun e w' => ∃ g c, e = .returned (.tuple #[.slice (some ⟨g, 0, none⟩) (segD x.room x.ps seg).1.length c, .int .i64 (segD x.room x.ps seg).2]) ∧ Own w' w.heap.size g (segD x.room x.ps seg).1.length c (segD x.room x.ps seg).1 ∧ Below w.heap.size w w' := by
  have F : ∀ W1, W1 = w.alloc (.cells #[.int .i64 x.room, .slice x.a x.ps.length x.c] 26) → ∀ W2, W2 = W1.alloc (.cells #[] 9) → Wd w W2 x ∧ Own W2 w.heap.size (w.heap.size + 1) 0 0 [] ∧ W2.heap.size = w.heap.size + 2 := by
    intro W1 h1 W2 h2
    have s1 : W1.heap.size = w.heap.size + 1 := by rw [h1]; simp
    have s2 : W2.heap.size = w.heap.size + 2 := by rw [h2]; simp [s1]
    have d1 : Wd w W1 x := by rw [h1]; exact Wd.made hr _
    have b2 : Below W1.heap.size W1 W2 := by rw [h2]; exact one_more _ _
    have o := lit0 W1 w.heap.size (by omega)
    rw [s1, ← h2] at o
    exact ⟨d1.step b2, o, s2⟩
  have G0 := hide (F _ rfl _ rfl)
  have RD := hide (fun u (h : RdD u x) => sDiskRead u x seg h hz)
  have TS := hide (read_size (room := x.room) (nm := seg) hz)
  have RE := hide (show segD x.room x.ps seg = if (readD x.room x.ps seg).2 = true ∧ okS seg = true then ((segS (nums (readD x.room x.ps seg).1) 6).1, (segS (nums (readD x.room x.ps seg).1) 6).2.1) else ([], 0) from rfl)
  generalize segD x.room x.ps seg = rr at *
  generalize readD x.room x.ps seg = rd at *
  obtain ⟨tx, th⟩ := rd
  clear F hr
  go_enter Try.func27, Try.ntmps27
  go_wp2_with fail
  generalize (w.alloc (.cells #[.int .i64 x.room, .slice x.a x.ps.length x.c] 26)).alloc (.cells #[] 9) = W at *
  refine (unhide RD _ (unhide G0).1.r).mono ?_
  rintro e u ⟨rfl, b1⟩
  have OU := hide ((unhide G0).2.1.below b1 (by have := (unhide G0).2.2; omega))
  have BU := hide ((unhide G0).1.step b1).b
  have us := b1.size
  rw [(unhide G0).2.2] at us
  clear b1 G0 RD
  cases th with
  | false =>
    obtain rfl : rr = ([], 0) := by rw [unhide RE, if_neg (by simp)]
    clear RE
    go_wp2
    go_ret2
    exact ⟨w.heap.size + 1, 0, rfl, unhide OU, unhide BU⟩
  | true =>
    cases sk : okS seg with
    | false =>
      obtain rfl : rr = ([], 0) := by rw [unhide RE, if_neg (by rw [sk]; simp)]
      have SK := hide sk
      clear RE sk
      go_wp2_with fail
      refine (sSegOk _ seg false (unhide SK)).mono ?_
      rintro e u ⟨rfl, rfl⟩
      go_wp2
      go_ret2
      exact ⟨w.heap.size + 1, 0, rfl, unhide OU, unhide BU⟩
    | true =>
      have SK := hide sk
      have RR := hide (show rr = ((segS (nums tx) 6).1, (segS (nums tx) 6).2.1) by rw [unhide RE, if_pos ⟨rfl, sk⟩])
      clear RE sk
      go_wp2_with fail
      refine (sSegOk _ seg true (unhide SK)).mono ?_
      rintro e u ⟨rfl, rfl⟩
      have XL := hide (show (nums tx).length ≤ 1048576 by rw [nums_len]; exact unhide TS)
      obtain ⟨cb, W3, hcb, CV, AB, s3, b3⟩ := to_bytes u tx
      generalize nums tx = xs at *
      have O3 := hide ((unhide OU).below b3 (unhide OU).lt.2)
      have B3 := hide ((unhide BU).trans (b3.mono (unhide BU).size))
      have AB3 := hide AB
      have S0 := hide (show segS xs 0 = ([], 0, true) from rfl)
      clear AB b3 OU BU TS
      have h20 := unhide XL
      have lt3 : u.heap.size < W3.heap.size := by omega
      go_wp2
      clear CV
      go_loopw [6, 10] (fun o a wr => ∃ (j g c : Nat) (l : List ByteArray) (p : Int), o = .slice (some ⟨g, 0, none⟩) j c ∧ a = .int .i64 p ∧ j ≤ 6 ∧ Hid (segS xs j = (l, p, true)) ∧ Hid (Own wr w.heap.size g j c l) ∧ Hid (AtB wr u.heap.size xs) ∧ u.heap.size < wr.heap.size ∧ g ≠ u.heap.size ∧ Hid (Below w.heap.size w wr)) (fun o _ _ => 6 - (match o with | .slice _ n _ => n | _ => 0))
      case atStart => exact ⟨0, w.heap.size + 1, 0, [], 0, rfl, rfl, by omega, S0, O3, AB3, lt3, by omega, B3⟩
      case round =>
        clear S0 O3 AB3 lt3 B3
        obtain ⟨j, g, c, l, p, rfl, rfl, hj, HS, HO, HA, hl, gn, HB⟩ := hrel
        by_cases t : p < xs.length
        case neg =>
          have tb : decide (p < (xs.length : Int)) = false := decide_eq_false t
          have E := hide (show rr = (l, p) ∧ l.length = j by
            refine ⟨?_, segS_all (unhide HS)⟩
            rw [unhide RR]
            by_cases q : j = 6
            · subst q; rw [unhide HS]
            · rw [segS_end (by omega) (unhide HS) (fun h => t h.1)])
          clear t
          go_wp2
          go_ret2
          rw [(unhide E).1]
          exact ⟨g, c, by rw [(unhide E).2]; rfl, by rw [(unhide E).2]; exact unhide HO, unhide HB⟩
        by_cases j6 : j < 6
        case neg =>
          have jb : decide ((j : Int) < 6) = false := decide_eq_false (by omega)
          have E := hide (show rr = (l, p) ∧ l.length = j by
            refine ⟨?_, segS_all (unhide HS)⟩
            obtain rfl : j = 6 := by omega
            rw [unhide RR, unhide HS])
          clear j6
          go_wp2
          go_ret2
          rw [(unhide E).1]
          exact ⟨g, c, by rw [(unhide E).2]; rfl, by rw [(unhide E).2]; exact unhide HO, unhide HB⟩
        have jb : (j : Int) < 6 := by omega
        have UN := hide (sUnseal wr u.heap.size cb xs p h20 hcb hl (unhide HA))
        have GO := hide (fun b => segS_go (unhide HS) t b)
        have ST := hide (fun (b : ¬ (unsealN xs p).2.2 = 0) => segS_end j6 (unhide HS) (fun h => b h.2))
        generalize unsealN xs p = un at *
        obtain ⟨ur, uq, uc⟩ := un
        go_wp2_with fail
        refine (unhide UN).mono ?_
        rintro e w4 ⟨g4, c4, rfl, o4, b4⟩
        have O4 := hide ((unhide HO).below b4 (unhide HO).lt.2)
        have A4 := hide (show AtB w4 u.heap.size xs from fun i hi => ⟨(b4.cell (p := ⟨u.heap.size, i, none⟩) hl).trans ((unhide HA) i hi).1, ((unhide HA) i hi).2⟩)
        have B4 := hide ((unhide HB).trans (b4.mono (unhide HB).size))
        have R4 := hide o4
        have z4 := b4.size
        clear b4 o4 UN HO HA HB
        by_cases cz : uc = 0
        case neg =>
          have cb' : (uc != 0) = true := by simpa using cz
          have E := hide (show rr = (l, p) ∧ l.length = j from ⟨by rw [unhide RR, (unhide ST) cz], segS_all (unhide HS)⟩)
          clear cz GO ST
          go_wp2
          go_ret2
          rw [(unhide E).1]
          exact ⟨g, c, by rw [(unhide E).2]; rfl, by rw [(unhide E).2]; exact unhide O4, unhide B4⟩
        subst cz
        have NS := hide ((unhide GO) rfl)
        clear GO ST
        have CB := of_bytes w4 g4 c4 ur (unhide R4).at
        try simp only at NS CB
        generalize strOfNums ur = rs at *
        have LB := one_more w4 (.cells #[.string rs] 9)
        have OL := hide ((unhide O4).below LB (unhide O4).lt.2)
        have AL := hide (show AtB (w4.alloc (.cells #[.string rs] 9)) u.heap.size xs from fun i hi => ⟨(LB.cell (p := ⟨u.heap.size, i, none⟩) (by show u.heap.size < w4.heap.size; omega)).trans ((unhide A4) i hi).1, ((unhide A4) i hi).2⟩)
        have BL := hide ((unhide B4).trans (LB.mono (unhide B4).size))
        have CL := hide (show (w4.alloc (.cells #[.string rs] 9)).cell? ⟨w4.heap.size, 0, none⟩ = some (.string rs) by simp [go_sem])
        have gl := hide (unhide O4).lt
        clear LB
        go_wp2_with (first | (at_builtin; refine wp_app _ rfl _ _ rfl w.heap.size (.slice (some ⟨g, 0, none⟩) j c) j l w4.heap.size rs rfl rfl (unhide OL) (unhide CL) (by omega) (unhide BL).size ?_; intro g9 c9 w9 o9 gr9 loc; have LC := hide loc; clear loc; have O9 := hide o9; have G9 := hide gr9; clear o9 gr9) | go_in)
        go_roundw
        case rel =>
          have gl1 := (unhide gl).1
          have sz9 := (unhide G9).size
          simp at sz9
          have gn9 : g9 ≠ u.heap.size := by
            rcases unhide LC with q | q
            · have q' : g9 = g := Option.some.inj (show some g9 = some g from q)
              omega
            · simp at q
              omega
          refine ⟨j + 1, g9, c9, l ++ [rs], uq, rfl, rfl, by omega, NS, O9, hide (fun i hi => ⟨(kcell (unhide G9) i (by simp; omega) (show u.heap.size ≠ g from fun e => gn e.symm)).trans ((unhide AL) i hi).1, ((unhide AL) i hi).2⟩), by omega, gn9, hide (grow_low (unhide BL) (unhide G9) ⟨gl1, (unhide BL).size⟩)⟩
        case measure => simp; omega
end Go.Proofs.Ytcajdiopgaoicaa.SSeg15
