/- Disks: the specification's DiskCrash. -/
import Derived.Test.YtnjhgkclcnfooabSCom14
import Derived.Test.YtnjhgkclcnfooabSPut14
import Derived.Deep.RegionHeld3
namespace Go.Proofs.Ytnjhgkclcnfooab.SCrash14
open Go.ChangeShapes Go.WideShapes Go.ChangeAt Go.RowKit Fil14 OpensF14 DiskH14 DkH14 SDk14 SOk14 SRd14 App14 SLess14 SCopy14 SRef14 SCom14 SPut14
open DkH14 (row_step)
set_option linter.unusedVariables false
set_option linter.unusedSimpArgs false

/-- What is left of a file behind a crash. -/
def crashF (keep : Int) (p : TF) : TF := (p.1, p.2.1 ++ p.2.2.extract 0 (min (max keep 0) p.2.2.size).toNat, ByteArray.empty)
/-- What DiskCrash answers. -/
noncomputable def crashD (room : Int) (ps : List TF) (keep : Int) : Int × List TF := @ite _ (OkD room ps) (Classical.propDecidable _) (room, ps.map (crashF keep)) (0, [])

theorem sMax (w : World) (a b m : Int) (h : max a b = m) : Calls Try.prog 29 #[.int .i64 a, .int .i64 b] w fun e w' => e = .returned (.int .i64 m) ∧ w' = w := by
  by_cases q : a > b
  · have : m = a := by omega
    subst this
    clear h
    go_enter Try.func29, Try.ntmps29
    go_wp2
    go_ret
    exact ⟨rfl, rfl⟩
  · have : m = b := by omega
    subst this
    clear h
    go_enter Try.func29, Try.ntmps29
    go_wp2
    go_ret
    exact ⟨rfl, rfl⟩
theorem sMin (w : World) (a b m : Int) (h : min a b = m) : Calls Try.prog 28 #[.int .i64 a, .int .i64 b] w fun e w' => e = .returned (.int .i64 m) ∧ w' = w := by
  by_cases q : a < b
  · have : m = a := by omega
    subst this
    clear h
    go_enter Try.func28, Try.ntmps28
    go_wp2
    go_ret
    exact ⟨rfl, rfl⟩
  · have : m = b := by omega
    subst this
    clear h
    go_enter Try.func28, Try.ntmps28
    go_wp2
    go_ret
    exact ⟨rfl, rfl⟩

abbrev oA0 : Oper := { dst := some 28, op := Go.Op.move (Go.Operand.tmp 1), type := 3, pos := "l14_disk.go:162", after := #[], guard := none }
abbrev oA1 : Oper := { dst := some 29, op := Go.Op.call { callee := Go.Callee.value (Go.Operand.func 29), args := #[Go.Operand.tmp 28, Go.Operand.const (Go.Value.int Go.IntKind.i64 0)], argTypes := #[3, 3] }, type := 3, pos := "l14_disk.go:162", after := #[{ on := 0, ground := Go.Ground.data }], guard := none }
abbrev oA2 : Oper := { dst := some 30, op := Go.Op.fieldAddr 46 (Go.Operand.tmp 7) 2, type := 0, pos := "l14_disk.go:162", after := #[], guard := none }
abbrev oA3 : Oper := { dst := some 31, op := Go.Op.load 9 (Go.Operand.tmp 30), type := 9, pos := "l14_disk.go:162", after := #[{ on := 2, ground := Go.Ground.data }], guard := none }
abbrev oA4 : Oper := { dst := some 32, op := Go.Op.call { callee := Go.Callee.builtin Go.Builtin.len, args := #[Go.Operand.tmp 31], argTypes := #[9] }, type := 3, pos := "l14_disk.go:162", after := #[{ on := 3, ground := Go.Ground.data }], guard := none }
abbrev oA5 : Oper := { dst := some 33, op := Go.Op.call { callee := Go.Callee.value (Go.Operand.func 28), args := #[Go.Operand.tmp 29, Go.Operand.tmp 32], argTypes := #[3, 3] }, type := 3, pos := "l14_disk.go:162", after := #[{ on := 1, ground := Go.Ground.data }, { on := 4, ground := Go.Ground.data }, { on := 1, ground := Go.Ground.chain }], guard := none }
abbrev oA6 : Oper := { dst := some 8, op := Go.Op.assign (Go.Operand.tmp 33), type := 3, pos := "l14_disk.go:162", after := #[{ on := 5, ground := Go.Ground.data }, { on := 5, ground := Go.Ground.chain }, { on := 0, ground := Go.Ground.phase }, { on := 1, ground := Go.Ground.phase }, { on := 2, ground := Go.Ground.phase }, { on := 3, ground := Go.Ground.phase }, { on := 4, ground := Go.Ground.phase }, { on := 5, ground := Go.Ground.phase }], guard := none }
abbrev oB0 : Oper := { dst := some 34, op := Go.Op.fieldAddr 28 (Go.Operand.tmp 5) 1, type := 0, pos := "l14_disk.go:163", after := #[], guard := none }
abbrev oB1 : Oper := { dst := some 35, op := Go.Op.load 26 (Go.Operand.tmp 34), type := 26, pos := "l14_disk.go:163", after := #[{ on := 0, ground := Go.Ground.data }], guard := none }
abbrev oB2 : Oper := { dst := some 36, op := Go.Op.fieldAddr 46 (Go.Operand.tmp 7) 0, type := 0, pos := "l14_disk.go:163", after := #[], guard := none }
abbrev oB3 : Oper := { dst := some 37, op := Go.Op.load 3 (Go.Operand.tmp 36), type := 3, pos := "l14_disk.go:163", after := #[{ on := 2, ground := Go.Ground.data }], guard := none }
abbrev oB4 : Oper := { dst := some 38, op := Go.Op.fieldAddr 46 (Go.Operand.tmp 7) 1, type := 0, pos := "l14_disk.go:163", after := #[], guard := none }
abbrev oB5 : Oper := { dst := some 39, op := Go.Op.load 9 (Go.Operand.tmp 38), type := 9, pos := "l14_disk.go:163", after := #[{ on := 4, ground := Go.Ground.data }], guard := none }
abbrev oB6 : Oper := { dst := some 40, op := Go.Op.fieldAddr 46 (Go.Operand.tmp 7) 2, type := 0, pos := "l14_disk.go:163", after := #[], guard := none }
abbrev oB7 : Oper := { dst := some 41, op := Go.Op.load 9 (Go.Operand.tmp 40), type := 9, pos := "l14_disk.go:163", after := #[{ on := 6, ground := Go.Ground.data }], guard := none }
abbrev oB8 : Oper := { dst := some 42, op := Go.Op.move (Go.Operand.tmp 8), type := 3, pos := "l14_disk.go:163", after := #[], guard := none }
abbrev oB9 : Oper := { dst := some 43, op := Go.Op.slice 9 (Go.Operand.tmp 41) none (some (Go.Operand.tmp 42)) none, type := 9, pos := "l14_disk.go:163", after := #[{ on := 7, ground := Go.Ground.data }, { on := 8, ground := Go.Ground.data }], guard := none }
abbrev oB10 : Oper := { dst := some 44, op := Go.Op.binOp Go.BinOp.add 9 (Go.Operand.tmp 39) (Go.Operand.tmp 43) 9, type := 9, pos := "l14_disk.go:163", after := #[{ on := 5, ground := Go.Ground.data }, { on := 9, ground := Go.Ground.data }], guard := none }
abbrev oB11 : Oper := { dst := some 45, op := Go.Op.build 46 #[(0, Go.Operand.tmp 37), (1, Go.Operand.tmp 44)], type := 46, pos := "l14_disk.go:163", after := #[{ on := 3, ground := Go.Ground.data }, { on := 10, ground := Go.Ground.data }], guard := none }
abbrev oB12 : Oper := { dst := some 46, op := Go.Op.buildSlice 26 1 #[(0, Go.Operand.tmp 45)], type := 26, pos := "l14_disk.go:163", after := #[{ on := 11, ground := Go.Ground.data }], guard := none }
abbrev oB13 : Oper := { dst := some 47, op := Go.Op.call { callee := Go.Callee.builtin Go.Builtin.append, args := #[Go.Operand.tmp 35, Go.Operand.tmp 46], argTypes := #[26, 26] }, type := 26, pos := "l14_disk.go:163", after := #[{ on := 1, ground := Go.Ground.data }, { on := 12, ground := Go.Ground.data }], guard := none }
abbrev oB14 : Oper := { dst := some 48, op := Go.Op.fieldAddr 28 (Go.Operand.tmp 5) 1, type := 0, pos := "l14_disk.go:163", after := #[{ on := 0, ground := Go.Ground.phase }, { on := 1, ground := Go.Ground.phase }, { on := 2, ground := Go.Ground.phase }, { on := 3, ground := Go.Ground.phase }, { on := 4, ground := Go.Ground.phase }, { on := 5, ground := Go.Ground.phase }, { on := 6, ground := Go.Ground.phase }, { on := 7, ground := Go.Ground.phase }, { on := 8, ground := Go.Ground.phase }, { on := 9, ground := Go.Ground.phase }, { on := 10, ground := Go.Ground.phase }, { on := 11, ground := Go.Ground.phase }, { on := 12, ground := Go.Ground.phase }, { on := 13, ground := Go.Ground.phase }], guard := none }
abbrev oB15 : Oper := { dst := none, op := Go.Op.store 26 (Go.Operand.tmp 48) (Go.Operand.tmp 47), type := 0, pos := "l14_disk.go:163", after := #[{ on := 14, ground := Go.Ground.data }, { on := 13, ground := Go.Ground.data }, { on := 13, ground := Go.Ground.chain }, { on := 0, ground := Go.Ground.phase }, { on := 1, ground := Go.Ground.phase }, { on := 2, ground := Go.Ground.phase }, { on := 3, ground := Go.Ground.phase }, { on := 4, ground := Go.Ground.phase }, { on := 5, ground := Go.Ground.phase }, { on := 6, ground := Go.Ground.phase }, { on := 7, ground := Go.Ground.phase }, { on := 8, ground := Go.Ground.phase }, { on := 9, ground := Go.Ground.phase }, { on := 10, ground := Go.Ground.phase }, { on := 11, ground := Go.Ground.phase }, { on := 12, ground := Go.Ground.phase }, { on := 13, ground := Go.Ground.phase }], guard := none }

set_option maxRecDepth 100000 in
set_option maxHeartbeats 4000000 in
theorem sDiskCrash (w : World) (x : Dx) (keep : Int) (hr : RdD w x) (hz : sumZ x.ps ≤ 1048576) :
    Calls Try.prog 12 #[.agg #[.int .i64 x.room, .slice x.a x.ps.length x.c], .int .i64 keep] w fun e w' => ∃ y : Dx, (y.room, y.ps) = crashD x.room x.ps keep ∧ e = .returned (.agg #[.int .i64 y.room, .slice y.a y.ps.length y.c]) ∧ OwD w' w.heap.size y ∧ Below w.heap.size w w' := by
  have G0 := hide (begunD hr)
  have s2 : ((w.alloc (.cells #[.int .i64 x.room, .slice x.a x.ps.length x.c] 28)).alloc (.cells #[.int .i64 0, .slice none 0 0] 28)).heap.size = w.heap.size + 2 := by simp
  have OK0 := hide (sDiskOk _ x (unhide G0).1.r hz)
  have RG := hide (fun g e => (hr.r g e).1)
  clear hr
  by_cases q : OkD x.room x.ps
  case neg =>
    have E := hide (show crashD x.room x.ps keep = (0, []) from if_neg q)
    have OK := hide (show Calls Try.prog 27 #[.agg #[.int .i64 x.room, .slice x.a x.ps.length x.c]] _ fun e w' => e = .returned (.bool false) ∧ Below _ _ w' by have := unhide OK0; rw [decide_eq_false q] at this; exact this)
    generalize crashD x.room x.ps keep = rr at *
    clear OK0 q
    go_enter Try.func12, Try.ntmps12
    go_wp2_with fail
    refine (unhide OK).mono ?_
    rintro e u ⟨rfl, b1⟩
    have R2 := hide ((unhide G0).2.below b1 (by omega))
    have EN := hide (endedD (y := ⟨0, none, 0, []⟩) (base0 := w.heap.size + 2) (((unhide G0).1.step b1).b) (unhide R2) ⟨rfl, .inl ⟨rfl, rfl⟩⟩ (by omega))
    have f0 := (unhide R2).free 0
    have f1 := (unhide R2).free 1
    have r0 := (unhide R2).c0
    have r1 := (unhide R2).c1
    clear b1
    go_wp2
    refine bodyPost_ret (v := .agg #[.int .i64 0, .slice none 0 0]) (by simp [results, Try.results12, go_sem, r0, r1]) rfl ⟨⟨0, none, 0, []⟩, (unhide E).symm, rfl, (unhide EN).1, (unhide EN).2⟩
  have E := hide (show crashD x.room x.ps keep = (x.room, x.ps.map (crashF keep)) from if_pos q)
  have OK := hide (show Calls Try.prog 27 #[.agg #[.int .i64 x.room, .slice x.a x.ps.length x.c]] _ fun e w' => e = .returned (.bool true) ∧ Below _ _ w' by have := unhide OK0; rw [decide_eq_true q] at this; exact this)
  have h22 := q.2.1
  generalize crashD x.room x.ps keep = rr at *
  clear OK0 q
  go_enter Try.func12, Try.ntmps12
  go_wp2_with fail
  refine (unhide OK).mono ?_
  rintro e u ⟨rfl, b1⟩
  have W1 := hide ((unhide G0).1.step b1)
  have R1 := hide ((unhide G0).2.below b1 (by omega))
  have us := b1.size
  clear b1 G0 OK
  have W3 := hide ((unhide W1).step (one_more u (.cells #[.int .i64 x.room, .slice none 0 0] 28)))
  have R3 := hide ((unhide R1).below (one_more u (.cells #[.int .i64 x.room, .slice none 0 0] 28)) (unhide R1).lt.2)
  have P0 := hide (show Pt w.heap.size u.heap.size (u.alloc (.cells #[.int .i64 x.room, .slice none 0 0] 28)) (u.alloc (.cells #[.int .i64 x.room, .slice none 0 0] 28)) x.room ((x.ps.take 0).map (crashF keep)) none 0 0 from ⟨World.grownBy.refl _ _, Bc.made _ _ (by omega) rfl, ⟨rfl, .inl ⟨rfl, rfl⟩⟩⟩)
  have s3 : (u.alloc (.cells #[.int .i64 x.room, .slice none 0 0] 28)).heap.size = u.heap.size + 1 := by simp
  have c0 := (unhide W1).c0
  have c1 := (unhide W1).c1
  have lt := (unhide W1).lt
  go_wp2
  generalize u.alloc (.cells #[.int .i64 x.room, .slice none 0 0] 28) = W at *
  clear c0 c1
  go_loopw [6, 7, 8] (fun i _ _ wr => ∃ (m c : Nat) (a : Option Addr), i = .int .i64 m ∧ m ≤ x.ps.length ∧ Hid (Pt w.heap.size u.heap.size W wr x.room ((x.ps.take m).map (crashF keep)) a m c)) (fun i _ _ _ => x.ps.length - (intOf i).toNat)
  case atStart => exact ⟨0, 0, none, rfl, by omega, P0⟩
  case round =>
    clear P0
    obtain ⟨m, c, a, rfl, hm, PT⟩ := hrel
    have gs := (unhide PT).gr.size
    have c1 := (kcell (unhide PT).gr 1 (show w.heap.size < W.heap.size from by omega) (by omega)).trans (unhide W3).c1
    by_cases t : m < x.ps.length
    · have kt : (m : Int) < x.ps.length := by omega
      have TK := hide (show (x.ps.take (m + 1)).map (crashF keep) = (x.ps.take m).map (crashF keep) ++ [crashF keep (elF x.ps m)] from by rw [List.take_succ_eq_append_getElem t, List.map_append]; simp [List.getD, t])
      obtain ⟨g, ea, lg, e0, e1, e2⟩ := cells_of (unhide W3).r t
      have lg0 := (unhide RG) g ea
      have gn : g ≠ u.heap.size := by omega
      have d0 := (kcell (unhide PT).gr (m * 3) lg gn).trans e0
      have d1 := (kcell (unhide PT).gr (m * 3 + 1) lg gn).trans e1
      have d2 := (kcell (unhide PT).gr (m * 3 + 2) lg gn).trans e2
      have ix := ixF x.c ea t
      have NX := sumZ_next t
      have LE := sumZ_le x.ps (m + 1)
      have sz : (elF x.ps m).2.1.size + (elF x.ps m).2.2.size ≤ 1048576 := by omega
      generalize hp : elF x.ps m = p at *
      obtain ⟨z0, z1, z2⟩ := p
      simp only at d0 d1 d2 sz
      obtain ⟨km, hkm⟩ : ∃ km, max keep 0 = km := ⟨_, rfl⟩
      obtain ⟨kn, hkn⟩ : ∃ kn : Nat, min km (z2.size : Int) = kn := ⟨(min km (z2.size : Int)).toNat, by omega⟩
      have HKM := hide hkm
      have HKK := hide hkn
      have kz : (kn : Int) ≤ z2.size := by omega
      have TE : crashF keep (z0, z1, z2) = (z0, z1 ++ z2.extract 0 kn, ByteArray.empty) := by
        unfold crashF
        simp only [hkm, hkn, Int.toNat_natCast]
      rw [TE] at TK
      have sx : z1.size + (z2.extract 0 kn).size ≤ 1048576 := by
        have : (z2.extract 0 kn).size ≤ z2.size := by simp; omega
        omega
      have sm : z1.size + min kn z2.size ≤ 9223372036854775807 := by omega
      clear e0 e1 e2 ea hp NX LE TE hkm hkn
      have K8 : (wr.alloc (.cells #[.int .i64 z0, .string z1, .string z2] 46)).cell? ⟨wr.heap.size, 0, none⟩ = some (.int .i64 z0) ∧ (wr.alloc (.cells #[.int .i64 z0, .string z1, .string z2] 46)).cell? ⟨wr.heap.size, 1, none⟩ = some (.string z1) ∧ (wr.alloc (.cells #[.int .i64 z0, .string z1, .string z2] 46)).cell? ⟨wr.heap.size, 2, none⟩ = some (.string z2) := by simp
      obtain ⟨V, hV⟩ : ∃ V, Hid (V = wr.alloc (.cells #[.int .i64 z0, .string z1, .string z2] 46)) := ⟨_, rfl⟩
      have vL := hide (show wr.heap.size < V.heap.size by rw [unhide hV]; simp)
      have bV := hide (show Below wr.heap.size wr V by rw [unhide hV]; exact one_more _ _)
      rw [← unhide hV] at K8
      go_wp2_with fail
      rw [← unhide hV]
      clear hV
      refine wp_region_held_drew (S := (fun w' => w'.cell? ⟨wr.heap.size, 0, none⟩ = some (.int .i64 z0) ∧ w'.cell? ⟨wr.heap.size, 1, none⟩ = some (.string z1) ∧ w'.cell? ⟨wr.heap.size, 2, none⟩ = some (.string z2))) (by kernel_rfl) K8 (fun hHeld => ?_)
      refine wpAnyH_take (i := 0) (oi := oA0) (v := .int .i64 keep) rfl (by kernel_rfl) (by kernel_rfl) (by kernel_rfl) (fun _ _ _ h => h) (Or.inl ⟨by rfl, fun w hSw => ?_⟩) hHeld ?_
      · (try dsimp only at hSw)
        unfold oA0
        go_simp
      try simp only [oA0, Act.put, List.setIfInBounds_toArray, List.set_cons_zero, List.set_cons_succ]
      refine wpAnyH_take (i := 2) (oi := oA2) (v := .pointer (some ⟨wr.heap.size, 2, none⟩)) rfl (by kernel_rfl) (by kernel_rfl) (by kernel_rfl) (fun _ _ _ h => h) (Or.inl ⟨by rfl, fun w hSw => ?_⟩) hHeld ?_
      · (try dsimp only at hSw)
        unfold oA2
        go_simp
      try simp only [oA2, Act.put, List.setIfInBounds_toArray, List.set_cons_zero, List.set_cons_succ]
      refine wpAnyH_take (i := 3) (oi := oA3) (v := .string z2) rfl (by kernel_rfl) (by kernel_rfl) (by kernel_rfl) (fun _ _ _ h => h) (Or.inl ⟨by rfl, fun w hSw => ?_⟩) hHeld ?_
      · (try dsimp only at hSw)
        unfold oA3
        go_simp
      try simp only [oA3, Act.put, List.setIfInBounds_toArray, List.set_cons_zero, List.set_cons_succ]
      refine wpAnyH_take (i := 4) (oi := oA4) (v := .int .i64 z2.size) rfl (by kernel_rfl) (by kernel_rfl) (by kernel_rfl) (fun _ _ _ h => h) (Or.inl ⟨by rfl, fun w hSw => ?_⟩) hHeld ?_
      · (try dsimp only at hSw)
        unfold oA4
        go_simp
      try simp only [oA4, Act.put, List.setIfInBounds_toArray, List.set_cons_zero, List.set_cons_succ]
      refine wpAnyH_ready (rs := [1]) (by kernel_rfl) (by simp) ?_
      refine AllReadyH.cons (o := oA1) rfl (fun K hK => ?_) AllReadyH.nil
      unfold oA1
      go_simp
      go_wp2_with fail
      refine (sMax _ keep 0 km (unhide HKM)).mono ?_
      rintro e v1 ⟨rfl, rfl⟩
      go_wp2_with fail
      refine hK.out _ _ K8 (fun hHeld => ?_)
      clear hK K
      try simp only [oA1, Act.put, List.setIfInBounds_toArray, List.set_cons_zero, List.set_cons_succ]
      refine wpAnyH_ready (rs := [5]) (by kernel_rfl) (by simp) ?_
      refine AllReadyH.cons (o := oA5) rfl (fun K hK => ?_) AllReadyH.nil
      unfold oA5
      go_simp
      go_wp2_with fail
      refine (sMin _ km z2.size kn (unhide HKK)).mono ?_
      rintro e v2 ⟨rfl, rfl⟩
      go_wp2_with fail
      refine hK.out _ _ K8 (fun hHeld => ?_)
      clear hK K
      try simp only [oA5, Act.put, List.setIfInBounds_toArray, List.set_cons_zero, List.set_cons_succ]
      refine wpAnyH_take (i := 6) (oi := oA6) (v := .int .i64 kn) rfl (by kernel_rfl) (by kernel_rfl) (by kernel_rfl) (fun _ _ _ h => h) (Or.inl ⟨by rfl, fun w hSw => ?_⟩) hHeld ?_
      · (try dsimp only at hSw)
        unfold oA6
        go_simp
      try simp only [oA6, Act.put, List.setIfInBounds_toArray, List.set_cons_zero, List.set_cons_succ]
      refine wpAnyH_done (by kernel_rfl) ?_ _
      obtain ⟨V2, hV2⟩ : ∃ V2, Hid (V2 = V.drew) := ⟨_, rfl⟩
      have bV2 := hide (show Below wr.heap.size wr V2 by rw [unhide hV2]; exact (unhide bV).drew)
      have K9 : V2.cell? ⟨wr.heap.size, 0, none⟩ = some (.int .i64 z0) ∧ V2.cell? ⟨wr.heap.size, 1, none⟩ = some (.string z1) ∧ V2.cell? ⟨wr.heap.size, 2, none⟩ = some (.string z2) := by rw [unhide hV2]; exact K8
      have g9 := (unhide bV2).size
      have vl : wr.heap.size < V2.heap.size := by rw [unhide hV2]; exact (unhide vL)
      have wl := (unhide PT).bx.lt.2
      have bc := ((unhide PT).bx.below (unhide bV2) wl).c1
      have K0 : V2.cell? ⟨wr.heap.size, 0, none⟩ = some (.int .i64 z0) ∧ V2.cell? ⟨wr.heap.size, 1, none⟩ = some (.string z1) ∧ V2.cell? ⟨wr.heap.size, 2, none⟩ = some (.string z2) := K9
      have KB : (V2.drew.alloc (.cells #[.int .i64 z0, .string (z1 ++ z2.extract 0 kn), .string ⟨#[]⟩] 46)).cell? ⟨wr.heap.size, 0, none⟩ = some (.int .i64 z0) ∧ (V2.drew.alloc (.cells #[.int .i64 z0, .string (z1 ++ z2.extract 0 kn), .string ⟨#[]⟩] 46)).cell? ⟨wr.heap.size, 1, none⟩ = some (.string z1) ∧ (V2.drew.alloc (.cells #[.int .i64 z0, .string (z1 ++ z2.extract 0 kn), .string ⟨#[]⟩] 46)).cell? ⟨wr.heap.size, 2, none⟩ = some (.string z2) := ⟨((one_more V2.drew (.cells #[.int .i64 z0, .string (z1 ++ z2.extract 0 kn), .string ⟨#[]⟩] 46)).cell (p := ⟨wr.heap.size, 0, none⟩) vl).trans K9.1, ((one_more V2.drew (.cells #[.int .i64 z0, .string (z1 ++ z2.extract 0 kn), .string ⟨#[]⟩] 46)).cell (p := ⟨wr.heap.size, 1, none⟩) vl).trans K9.2.1, ((one_more V2.drew (.cells #[.int .i64 z0, .string (z1 ++ z2.extract 0 kn), .string ⟨#[]⟩] 46)).cell (p := ⟨wr.heap.size, 2, none⟩) vl).trans K9.2.2⟩
      have bcD : V2.drew.cell? ⟨u.heap.size, 1, none⟩ = some (.slice a m c) := bc
      have bcA : (V2.alloc (.cells #[.int .i64 z0, .string (z1 ++ z2.extract 0 kn), .string ⟨#[]⟩] 46)).cell? ⟨u.heap.size, 1, none⟩ = some (.slice a m c) := ((one_more V2.drew (.cells #[.int .i64 z0, .string (z1 ++ z2.extract 0 kn), .string ⟨#[]⟩] 46)).cell (p := ⟨u.heap.size, 1, none⟩) (show u.heap.size < V2.heap.size from by omega)).trans bc
      go_wp2_with fail
      rw [← unhide hV2]
      clear hV2
      refine wp_region_held_drew (S := (fun w' => w'.cell? ⟨wr.heap.size, 0, none⟩ = some (.int .i64 z0) ∧ w'.cell? ⟨wr.heap.size, 1, none⟩ = some (.string z1) ∧ w'.cell? ⟨wr.heap.size, 2, none⟩ = some (.string z2))) (by kernel_rfl) K0 (fun hHeld => ?_)
      refine wpAnyH_take (i := 0) (oi := oB0) (v := .pointer (some ⟨u.heap.size, 1, none⟩)) rfl (by kernel_rfl) (by kernel_rfl) (by kernel_rfl) (fun _ _ _ h => h) (Or.inl ⟨by rfl, fun w hSw => ?_⟩) hHeld ?_
      · (try dsimp only at hSw)
        unfold oB0
        go_simp
      try simp only [oB0, Act.put, List.setIfInBounds_toArray, List.set_cons_zero, List.set_cons_succ]
      refine wpAnyH_take (i := 2) (oi := oB2) (v := .pointer (some ⟨wr.heap.size, 0, none⟩)) rfl (by kernel_rfl) (by kernel_rfl) (by kernel_rfl) (fun _ _ _ h => h) (Or.inl ⟨by rfl, fun w hSw => ?_⟩) hHeld ?_
      · (try dsimp only at hSw)
        unfold oB2
        go_simp
      try simp only [oB2, Act.put, List.setIfInBounds_toArray, List.set_cons_zero, List.set_cons_succ]
      refine wpAnyH_take (i := 3) (oi := oB3) (v := .int .i64 z0) rfl (by kernel_rfl) (by kernel_rfl) (by kernel_rfl) (fun _ _ _ h => h) (Or.inl ⟨by rfl, fun w hSw => ?_⟩) hHeld ?_
      · (try dsimp only at hSw)
        unfold oB3
        go_simp
      try simp only [oB3, Act.put, List.setIfInBounds_toArray, List.set_cons_zero, List.set_cons_succ]
      refine wpAnyH_take (i := 4) (oi := oB4) (v := .pointer (some ⟨wr.heap.size, 1, none⟩)) rfl (by kernel_rfl) (by kernel_rfl) (by kernel_rfl) (fun _ _ _ h => h) (Or.inl ⟨by rfl, fun w hSw => ?_⟩) hHeld ?_
      · (try dsimp only at hSw)
        unfold oB4
        go_simp
      try simp only [oB4, Act.put, List.setIfInBounds_toArray, List.set_cons_zero, List.set_cons_succ]
      refine wpAnyH_take (i := 5) (oi := oB5) (v := .string z1) rfl (by kernel_rfl) (by kernel_rfl) (by kernel_rfl) (fun _ _ _ h => h) (Or.inl ⟨by rfl, fun w hSw => ?_⟩) hHeld ?_
      · (try dsimp only at hSw)
        unfold oB5
        go_simp
      try simp only [oB5, Act.put, List.setIfInBounds_toArray, List.set_cons_zero, List.set_cons_succ]
      refine wpAnyH_take (i := 6) (oi := oB6) (v := .pointer (some ⟨wr.heap.size, 2, none⟩)) rfl (by kernel_rfl) (by kernel_rfl) (by kernel_rfl) (fun _ _ _ h => h) (Or.inl ⟨by rfl, fun w hSw => ?_⟩) hHeld ?_
      · (try dsimp only at hSw)
        unfold oB6
        go_simp
      try simp only [oB6, Act.put, List.setIfInBounds_toArray, List.set_cons_zero, List.set_cons_succ]
      refine wpAnyH_take (i := 7) (oi := oB7) (v := .string z2) rfl (by kernel_rfl) (by kernel_rfl) (by kernel_rfl) (fun _ _ _ h => h) (Or.inl ⟨by rfl, fun w hSw => ?_⟩) hHeld ?_
      · (try dsimp only at hSw)
        unfold oB7
        go_simp
      try simp only [oB7, Act.put, List.setIfInBounds_toArray, List.set_cons_zero, List.set_cons_succ]
      refine wpAnyH_take (i := 8) (oi := oB8) (v := .int .i64 kn) rfl (by kernel_rfl) (by kernel_rfl) (by kernel_rfl) (fun _ _ _ h => h) (Or.inl ⟨by rfl, fun w hSw => ?_⟩) hHeld ?_
      · (try dsimp only at hSw)
        unfold oB8
        go_simp
      try simp only [oB8, Act.put, List.setIfInBounds_toArray, List.set_cons_zero, List.set_cons_succ]
      refine wpAnyH_take (i := 9) (oi := oB9) (v := .string (z2.extract 0 kn)) rfl (by kernel_rfl) (by kernel_rfl) (by kernel_rfl) (fun _ _ _ h => h) (Or.inl ⟨by rfl, fun w hSw => ?_⟩) hHeld ?_
      · (try dsimp only at hSw)
        unfold oB9
        go_simp
      try simp only [oB9, Act.put, List.setIfInBounds_toArray, List.set_cons_zero, List.set_cons_succ]
      refine wpAnyH_take (i := 10) (oi := oB10) (v := .string (z1 ++ z2.extract 0 kn)) rfl (by kernel_rfl) (by kernel_rfl) (by kernel_rfl) (fun _ _ _ h => h) (Or.inl ⟨by rfl, fun w hSw => ?_⟩) hHeld ?_
      · (try dsimp only at hSw)
        unfold oB10
        go_simp
      try simp only [oB10, Act.put, List.setIfInBounds_toArray, List.set_cons_zero, List.set_cons_succ]
      refine wpAnyH_take (i := 11) (oi := oB11) (v := .agg #[.int .i64 z0, .string (z1 ++ z2.extract 0 kn), .string ⟨#[]⟩]) rfl (by kernel_rfl) (by kernel_rfl) (by kernel_rfl) (fun _ _ _ h => h) (Or.inl ⟨by rfl, fun w hSw => ?_⟩) hHeld ?_
      · (try dsimp only at hSw)
        unfold oB11
        go_simp
      try simp only [oB11, Act.put, List.setIfInBounds_toArray, List.set_cons_zero, List.set_cons_succ]
      refine wpAnyH_ready (rs := [1, 12]) (by kernel_rfl) (by simp) ?_
      refine AllReadyH.cons (o := oB1) rfl (fun K hK => ?_) (AllReadyH.cons (o := oB12) rfl (fun K hK => ?_) AllReadyH.nil)
      · unfold oB1
        go_simp
        refine hK.out _ _ K0 (fun hHeld => ?_)
        clear hK K
        try simp only [oB1, Act.put, List.setIfInBounds_toArray, List.set_cons_zero, List.set_cons_succ]
        refine wpAnyH_ready (rs := [12]) (by kernel_rfl) (by simp) ?_
        refine AllReadyH.cons (o := oB12) rfl (fun K hK => ?_) AllReadyH.nil
        unfold oB12
        go_simp
        refine hK.out _ _ KB (fun hHeld => ?_)
        clear hK K
        try simp only [oB12, Act.put, List.setIfInBounds_toArray, List.set_cons_zero, List.set_cons_succ]
        refine wpAnyH_ready (rs := [13]) (by kernel_rfl) (by simp) ?_
        refine AllReadyH.cons (o := oB13) rfl (fun K hK => ?_) AllReadyH.nil
        refine step_app (V2.drew.alloc (.cells #[.int .i64 z0, .string (z1 ++ z2.extract 0 kn), .string ⟨#[]⟩] 46)) (by rfl) _ _ 26 46 (by rfl) (.agg #[.int .i64 0, .string ByteArray.empty, .string ByteArray.empty]) 3 40 Try.underlying26 HelpF14.info2 rfl (by decide) (by decide) W.heap.size (.slice a m c) m (flatF ((x.ps.take m).map (crashF keep))) V2.drew.heap.size [.int .i64 z0, .string (z1 ++ z2.extract 0 kn), .string ⟨#[]⟩] (by rfl) (by rfl) (row_step (W := V2.drew) (row_step (unhide PT).ow (unhide bV2).drew) (one_more V2.drew (.cells #[.int .i64 z0, .string (z1 ++ z2.extract 0 kn), .string ⟨#[]⟩] 46))) rfl (litm V2.drew _ _ _ (by rfl)) (by simp [Value.oneCell']) (by omega) (Nat.le_trans (show W.heap.size ≤ V2.heap.size from by have := (unhide PT).gr.size; omega) (by simp)) ?_
        intro g9' c9 u9 o9 gr9
        have PA := hide (Pt.app (p := (z0, z1 ++ z2.extract 0 kn, ByteArray.empty)) (unhide PT) (by omega) (show Below wr.heap.size wr (V2.drew.alloc (.cells #[.int .i64 z0, .string (z1 ++ z2.extract 0 kn), .string ⟨#[]⟩] 46)) from (unhide bV2).drew.alloc (show wr.heap.size ≤ V2.drew.heap.size from g9) _) gr9 o9)
        have fr9 : u9.frozen? ⟨u.heap.size, 1, none⟩ = false := (unhide PA).1.free 1
        have bc9 := (unhide PA).1.c1
        have gs9 := gr9.size
        have NB : some wr.heap.size ≠ (Value.slice a m c).ownBlock := fun e => by have := (World.ownsRow.lt (unhide PT).ow _ e.symm).2; omega
        have KC : u9.cell? ⟨wr.heap.size, 0, none⟩ = some (.int .i64 z0) ∧ u9.cell? ⟨wr.heap.size, 1, none⟩ = some (.string z1) ∧ u9.cell? ⟨wr.heap.size, 2, none⟩ = some (.string z2) := ⟨gr9.cell KB.1 NB, gr9.cell KB.2.1 NB, gr9.cell KB.2.2 NB⟩
        have sg := (bc_set1 (unhide PA).1 (.slice (some ⟨g9', 0, none⟩) (m + 1) c9)).2
        have KD : (u9.setCell ⟨u.heap.size, 1, none⟩ (.slice (some ⟨g9', 0, none⟩) (m + 1) c9)).cell? ⟨wr.heap.size, 0, none⟩ = some (.int .i64 z0) ∧ (u9.setCell ⟨u.heap.size, 1, none⟩ (.slice (some ⟨g9', 0, none⟩) (m + 1) c9)).cell? ⟨wr.heap.size, 1, none⟩ = some (.string z1) ∧ (u9.setCell ⟨u.heap.size, 1, none⟩ (.slice (some ⟨g9', 0, none⟩) (m + 1) c9)).cell? ⟨wr.heap.size, 2, none⟩ = some (.string z2) := ⟨(kcell sg 0 (show wr.heap.size < u9.heap.size from by have : V2.heap.size < (V2.drew.alloc (.cells #[.int .i64 z0, .string (z1 ++ z2.extract 0 kn), .string ⟨#[]⟩] 46)).heap.size := (by show V2.heap.size < (V2.heap.push _).size; rw [Array.size_push]; omega); omega) (show wr.heap.size ≠ u.heap.size from by omega)).trans KC.1, (kcell sg 1 (show wr.heap.size < u9.heap.size from by have : V2.heap.size < (V2.drew.alloc (.cells #[.int .i64 z0, .string (z1 ++ z2.extract 0 kn), .string ⟨#[]⟩] 46)).heap.size := (by show V2.heap.size < (V2.heap.push _).size; rw [Array.size_push]; omega); omega) (show wr.heap.size ≠ u.heap.size from by omega)).trans KC.2.1, (kcell sg 2 (show wr.heap.size < u9.heap.size from by have : V2.heap.size < (V2.drew.alloc (.cells #[.int .i64 z0, .string (z1 ++ z2.extract 0 kn), .string ⟨#[]⟩] 46)).heap.size := (by show V2.heap.size < (V2.heap.push _).size; rw [Array.size_push]; omega); omega) (show wr.heap.size ≠ u.heap.size from by omega)).trans KC.2.2⟩
        clear o9 sg
        refine hK.out _ _ KC (fun hHeld => ?_)
        clear hK K
        try simp only [oB13, Act.put, List.setIfInBounds_toArray, List.set_cons_zero, List.set_cons_succ]
        refine wpAnyH_take (i := 14) (oi := oB14) (v := .pointer (some ⟨u.heap.size, 1, none⟩)) rfl (by kernel_rfl) (by kernel_rfl) (by kernel_rfl) (fun _ _ _ h => h) (Or.inl ⟨by rfl, fun w hSw => ?_⟩) hHeld ?_
        · (try dsimp only at hSw)
          unfold oB14
          go_simp
        try simp only [oB14, Act.put, List.setIfInBounds_toArray, List.set_cons_zero, List.set_cons_succ]
        refine wpAnyH_ready (rs := [15]) (by kernel_rfl) (by simp) ?_
        refine AllReadyH.cons (o := oB15) rfl (fun K hK => ?_) AllReadyH.nil
        unfold oB15
        go_simp
        refine hK.out _ _ KD (fun hHeld => ?_)
        clear hK K
        try simp only [oB15, Act.put, List.setIfInBounds_toArray, List.set_cons_zero, List.set_cons_succ]
        refine wpAnyH_done (by kernel_rfl) ?_ _
        clear K0 KB KC KD gr9 bc bcD bcA bc9 fr9 K8 K9
        have PN := hide (unhide PA).2
        clear PA
        go_wp2
        go_roundw
        case rel => exact ⟨m + 1, c9, some ⟨g9', 0, none⟩, by go_num, by omega, hide (by rw [unhide TK]; exact unhide PN)⟩
        case measure => simp [intOf]; omega
      · unfold oB12
        go_simp
        refine hK.out _ _ KB (fun hHeld => ?_)
        clear hK K
        try simp only [oB12, Act.put, List.setIfInBounds_toArray, List.set_cons_zero, List.set_cons_succ]
        refine wpAnyH_ready (rs := [1]) (by kernel_rfl) (by simp) ?_
        refine AllReadyH.cons (o := oB1) rfl (fun K hK => ?_) AllReadyH.nil
        unfold oB1
        go_simp
        refine hK.out _ _ KB (fun hHeld => ?_)
        clear hK K
        try simp only [oB1, Act.put, List.setIfInBounds_toArray, List.set_cons_zero, List.set_cons_succ]
        refine wpAnyH_ready (rs := [13]) (by kernel_rfl) (by simp) ?_
        refine AllReadyH.cons (o := oB13) rfl (fun K hK => ?_) AllReadyH.nil
        refine step_app (V2.drew.alloc (.cells #[.int .i64 z0, .string (z1 ++ z2.extract 0 kn), .string ⟨#[]⟩] 46)) (by rfl) _ _ 26 46 (by rfl) (.agg #[.int .i64 0, .string ByteArray.empty, .string ByteArray.empty]) 3 40 Try.underlying26 HelpF14.info2 rfl (by decide) (by decide) W.heap.size (.slice a m c) m (flatF ((x.ps.take m).map (crashF keep))) V2.drew.heap.size [.int .i64 z0, .string (z1 ++ z2.extract 0 kn), .string ⟨#[]⟩] (by rfl) (by rfl) (row_step (W := V2.drew) (row_step (unhide PT).ow (unhide bV2).drew) (one_more V2.drew (.cells #[.int .i64 z0, .string (z1 ++ z2.extract 0 kn), .string ⟨#[]⟩] 46))) rfl (litm V2.drew _ _ _ (by rfl)) (by simp [Value.oneCell']) (by omega) (Nat.le_trans (show W.heap.size ≤ V2.heap.size from by have := (unhide PT).gr.size; omega) (by simp)) ?_
        intro g9' c9 u9 o9 gr9
        have PA := hide (Pt.app (p := (z0, z1 ++ z2.extract 0 kn, ByteArray.empty)) (unhide PT) (by omega) (show Below wr.heap.size wr (V2.drew.alloc (.cells #[.int .i64 z0, .string (z1 ++ z2.extract 0 kn), .string ⟨#[]⟩] 46)) from (unhide bV2).drew.alloc (show wr.heap.size ≤ V2.drew.heap.size from g9) _) gr9 o9)
        have fr9 : u9.frozen? ⟨u.heap.size, 1, none⟩ = false := (unhide PA).1.free 1
        have bc9 := (unhide PA).1.c1
        have gs9 := gr9.size
        have NB : some wr.heap.size ≠ (Value.slice a m c).ownBlock := fun e => by have := (World.ownsRow.lt (unhide PT).ow _ e.symm).2; omega
        have KC : u9.cell? ⟨wr.heap.size, 0, none⟩ = some (.int .i64 z0) ∧ u9.cell? ⟨wr.heap.size, 1, none⟩ = some (.string z1) ∧ u9.cell? ⟨wr.heap.size, 2, none⟩ = some (.string z2) := ⟨gr9.cell KB.1 NB, gr9.cell KB.2.1 NB, gr9.cell KB.2.2 NB⟩
        have sg := (bc_set1 (unhide PA).1 (.slice (some ⟨g9', 0, none⟩) (m + 1) c9)).2
        have KD : (u9.setCell ⟨u.heap.size, 1, none⟩ (.slice (some ⟨g9', 0, none⟩) (m + 1) c9)).cell? ⟨wr.heap.size, 0, none⟩ = some (.int .i64 z0) ∧ (u9.setCell ⟨u.heap.size, 1, none⟩ (.slice (some ⟨g9', 0, none⟩) (m + 1) c9)).cell? ⟨wr.heap.size, 1, none⟩ = some (.string z1) ∧ (u9.setCell ⟨u.heap.size, 1, none⟩ (.slice (some ⟨g9', 0, none⟩) (m + 1) c9)).cell? ⟨wr.heap.size, 2, none⟩ = some (.string z2) := ⟨(kcell sg 0 (show wr.heap.size < u9.heap.size from by have : V2.heap.size < (V2.drew.alloc (.cells #[.int .i64 z0, .string (z1 ++ z2.extract 0 kn), .string ⟨#[]⟩] 46)).heap.size := (by show V2.heap.size < (V2.heap.push _).size; rw [Array.size_push]; omega); omega) (show wr.heap.size ≠ u.heap.size from by omega)).trans KC.1, (kcell sg 1 (show wr.heap.size < u9.heap.size from by have : V2.heap.size < (V2.drew.alloc (.cells #[.int .i64 z0, .string (z1 ++ z2.extract 0 kn), .string ⟨#[]⟩] 46)).heap.size := (by show V2.heap.size < (V2.heap.push _).size; rw [Array.size_push]; omega); omega) (show wr.heap.size ≠ u.heap.size from by omega)).trans KC.2.1, (kcell sg 2 (show wr.heap.size < u9.heap.size from by have : V2.heap.size < (V2.drew.alloc (.cells #[.int .i64 z0, .string (z1 ++ z2.extract 0 kn), .string ⟨#[]⟩] 46)).heap.size := (by show V2.heap.size < (V2.heap.push _).size; rw [Array.size_push]; omega); omega) (show wr.heap.size ≠ u.heap.size from by omega)).trans KC.2.2⟩
        clear o9 sg
        refine hK.out _ _ KC (fun hHeld => ?_)
        clear hK K
        try simp only [oB13, Act.put, List.setIfInBounds_toArray, List.set_cons_zero, List.set_cons_succ]
        refine wpAnyH_take (i := 14) (oi := oB14) (v := .pointer (some ⟨u.heap.size, 1, none⟩)) rfl (by kernel_rfl) (by kernel_rfl) (by kernel_rfl) (fun _ _ _ h => h) (Or.inl ⟨by rfl, fun w hSw => ?_⟩) hHeld ?_
        · (try dsimp only at hSw)
          unfold oB14
          go_simp
        try simp only [oB14, Act.put, List.setIfInBounds_toArray, List.set_cons_zero, List.set_cons_succ]
        refine wpAnyH_ready (rs := [15]) (by kernel_rfl) (by simp) ?_
        refine AllReadyH.cons (o := oB15) rfl (fun K hK => ?_) AllReadyH.nil
        unfold oB15
        go_simp
        refine hK.out _ _ KD (fun hHeld => ?_)
        clear hK K
        try simp only [oB15, Act.put, List.setIfInBounds_toArray, List.set_cons_zero, List.set_cons_succ]
        refine wpAnyH_done (by kernel_rfl) ?_ _
        clear K0 KB KC KD gr9 bc bcD bcA bc9 fr9 K8 K9
        have PN := hide (unhide PA).2
        clear PA
        go_wp2
        go_roundw
        case rel => exact ⟨m + 1, c9, some ⟨g9', 0, none⟩, by go_num, by omega, hide (by rw [unhide TK]; exact unhide PN)⟩
        case measure => simp [intOf]; omega
    · have e : m = x.ps.length := by omega
      subst e
      have PN := unhide PT
      rw [List.take_length] at PN
      have B0 := PN.bx.c0
      have B1 := PN.bx.c1
      have R4 := hide ((unhide R3).kept PN.gr (by simp; omega))
      have f0 := (unhide R4).free 0
      have f1 := (unhide R4).free 1
      have r0 := (unhide R4).c0
      have r1 := (unhide R4).c1
      have lm : (x.ps.map (crashF keep)).length = x.ps.length := by simp
      have BW := hide (show Below w.heap.size w wr from grow_low (unhide W3).b PN.gr ⟨by omega, (unhide W3).b.size⟩)
      have EN := hide (endedD (y := ⟨x.room, a, c, x.ps.map (crashF keep)⟩) (base0 := W.heap.size) (unhide BW) (unhide R4) (show OwD wr W.heap.size ⟨x.room, a, c, x.ps.map (crashF keep)⟩ from by unfold OwD; simp only [lm]; exact PN.ow) (by omega))
      simp only [lm] at EN
      clear PN PT lm
      go_wp2
      refine bodyPost_ret (v := .agg #[.int .i64 x.room, .slice a x.ps.length c]) (by simp [results, Try.results12, go_sem, r0, r1]) rfl ⟨⟨x.room, a, c, x.ps.map (crashF keep)⟩, (unhide E).symm, by simp, (unhide EN).1, (unhide EN).2⟩

end Go.Proofs.Ytnjhgkclcnfooab.SCrash14
