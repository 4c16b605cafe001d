/- Disks: the program's DiskCrash. -/
import Derived.Test.YtejbbhjhinkcdaaICom14
import Derived.Test.YtejbbhjhinkcdaaSCrash14
import Derived.Deep.RegionHeld3
import Derived.Lib.MinMax
namespace Go.Proofs.Ytejbbhjhinkcdaa.ICrash14
open Go.ChangeShapes Go.WideShapes Go.ChangeAt Go.RowKit Fil14 OpensF14 DiskH14 DkH14 SDk14 SOk14 SRd14 App14 SLess14 SCopy14 SRef14 SCom14 SCrash14 TabF14 PTab14 IFile14 ICp14 ICom14
set_option linter.unusedVariables false
set_option linter.unusedSimpArgs false

/-- The first k files crashed, the others as they were. -/
def half (f : TF → TF) (ps : List TF) (k : Nat) : List TF := (ps.take k).map f ++ ps.drop k
theorem half_len (f : TF → TF) (ps : List TF) (k : Nat) : (half f ps k).length = ps.length := by
  unfold half
  simp
  omega
theorem half_el (f : TF → TF) {ps : List TF} {k : Nat} (h : k < ps.length) : elF (half f ps k) k = elF ps k := by
  unfold half
  have : ((ps.take k).map f).length = k := by simp; omega
  simp only [List.getD]
  rw [List.getElem?_append_right (by omega), this, List.getElem?_drop]
  simp
theorem half_next (f : TF → TF) {ps : List TF} {k : Nat} (h : k < ps.length) : (half f ps k).set k (f (elF ps k)) = half f ps (k + 1) := by
  unfold half
  have hl : ((ps.take k).map f).length = k := by simp; omega
  rw [List.set_append_right _ _ (by omega), hl, Nat.sub_self, List.drop_eq_getElem_cons h, List.set_cons_zero, List.take_succ_eq_append_getElem h, List.map_append, List.append_assoc]
  simp [List.getD, h]
theorem mod3 {L : List TF} {k : Nat} (h : k < L.length) (a : Int) (b c : ByteArray) : ((L.modify k fun p => (a, p.2)).modify k fun p => (p.1, b, p.2.2)).modify k (fun p => (p.1, p.2.1, c)) = L.set k (a, b, c) := by
  apply List.ext_getElem?
  intro i
  simp only [List.getElem?_modify, List.getElem?_set]
  by_cases e : k = i
  · subst e
    simp [h]
  · simp [e]

/-- A world in which the disk that is copied has the files L. -/
structure Cr (u W wr : World) (v : Value) (n : Nat) (L : List TF) : Prop where
  gr : W.grownBy wr v.ownBlock
  ow : wr.ownsRow u.heap.size 32 3 v n (flatF L)
  ge : ∀ j, v.ownBlock = some j → u.heap.size ≤ j ∧ j + 1 < W.heap.size

abbrev oK0 : Oper := { dst := some 29, op := Go.Op.fieldAddr 26 (Go.Operand.tmp 5) 1, type := 0, pos := "l14_disk.go:124", after := #[], guard := none }
abbrev oK1 : Oper := { dst := some 30, op := Go.Op.load 24 (Go.Operand.tmp 29), type := 24, pos := "l14_disk.go:124", after := #[{ on := 0, ground := Go.Ground.data }], guard := none }
abbrev oK2 : Oper := { dst := some 31, op := Go.Op.move (Go.Operand.tmp 6), type := 3, pos := "l14_disk.go:124", after := #[], guard := none }
abbrev oK3 : Oper := { dst := some 32, op := Go.Op.fieldAddr 32 (Go.Operand.tmp 7) 0, type := 0, pos := "l14_disk.go:124", after := #[], guard := none }
abbrev oK4 : Oper := { dst := some 33, op := Go.Op.load 3 (Go.Operand.tmp 32), type := 3, pos := "l14_disk.go:124", after := #[{ on := 3, ground := Go.Ground.data }], guard := none }
abbrev oK5 : Oper := { dst := some 34, op := Go.Op.fieldAddr 32 (Go.Operand.tmp 7) 1, type := 0, pos := "l14_disk.go:124", after := #[], guard := none }
abbrev oK6 : Oper := { dst := some 35, op := Go.Op.load 9 (Go.Operand.tmp 34), type := 9, pos := "l14_disk.go:124", after := #[{ on := 5, ground := Go.Ground.data }], guard := none }
abbrev oK7 : Oper := { dst := some 36, op := Go.Op.fieldAddr 32 (Go.Operand.tmp 7) 2, type := 0, pos := "l14_disk.go:124", after := #[], guard := none }
abbrev oK8 : Oper := { dst := some 37, op := Go.Op.load 9 (Go.Operand.tmp 36), type := 9, pos := "l14_disk.go:124", after := #[{ on := 7, ground := Go.Ground.data }], guard := none }
abbrev oK9 : Oper := { dst := some 38, op := Go.Op.move (Go.Operand.tmp 8), type := 3, pos := "l14_disk.go:124", after := #[], guard := none }
abbrev oK10 : Oper := { dst := some 39, op := Go.Op.slice 9 (Go.Operand.tmp 37) none (some (Go.Operand.tmp 38)) none, type := 9, pos := "l14_disk.go:124", after := #[{ on := 8, ground := Go.Ground.data }, { on := 9, ground := Go.Ground.data }], guard := none }
abbrev oK11 : Oper := { dst := some 40, op := Go.Op.binOp Go.BinOp.add 9 (Go.Operand.tmp 35) (Go.Operand.tmp 39) 9, type := 9, pos := "l14_disk.go:124", after := #[{ on := 6, ground := Go.Ground.data }, { on := 10, ground := Go.Ground.data }], guard := none }
abbrev oK12 : Oper := { dst := some 41, op := Go.Op.build 32 #[(0, Go.Operand.tmp 33), (1, Go.Operand.tmp 40)], type := 32, pos := "l14_disk.go:124", after := #[{ on := 4, ground := Go.Ground.data }, { on := 11, ground := Go.Ground.data }], guard := none }
abbrev oK13 : Oper := { dst := some 42, op := Go.Op.indexAddr 24 (Go.Operand.tmp 30) (Go.Operand.tmp 31), type := 0, pos := "l14_disk.go:124", after := #[{ on := 1, ground := Go.Ground.data }, { on := 2, ground := Go.Ground.data }, { on := 0, ground := Go.Ground.phase }, { on := 1, ground := Go.Ground.phase }, { on := 2, ground := Go.Ground.phase }, { on := 3, ground := Go.Ground.phase }, { on := 4, ground := Go.Ground.phase }, { on := 5, ground := Go.Ground.phase }, { on := 6, ground := Go.Ground.phase }, { on := 7, ground := Go.Ground.phase }, { on := 8, ground := Go.Ground.phase }, { on := 9, ground := Go.Ground.phase }, { on := 10, ground := Go.Ground.phase }, { on := 11, ground := Go.Ground.phase }, { on := 12, ground := Go.Ground.phase }], guard := none }
abbrev oK14 : Oper := { dst := none, op := Go.Op.store 32 (Go.Operand.tmp 42) (Go.Operand.tmp 41), type := 0, pos := "l14_disk.go:124", after := #[{ on := 13, ground := Go.Ground.data }, { on := 12, ground := Go.Ground.data }, { on := 0, ground := Go.Ground.phase }, { on := 1, ground := Go.Ground.phase }, { on := 2, ground := Go.Ground.phase }, { on := 3, ground := Go.Ground.phase }, { on := 4, ground := Go.Ground.phase }, { on := 5, ground := Go.Ground.phase }, { on := 6, ground := Go.Ground.phase }, { on := 7, ground := Go.Ground.phase }, { on := 8, ground := Go.Ground.phase }, { on := 9, ground := Go.Ground.phase }, { on := 10, ground := Go.Ground.phase }, { on := 11, ground := Go.Ground.phase }, { on := 12, ground := Go.Ground.phase }], guard := none }

set_option maxRecDepth 100000 in
set_option maxHeartbeats 4000000 in
theorem iDiskCrash (w : World) (x : Dx) (keep : Int) (hr : RdD w x) (hz : sumZ x.ps ≤ 1048576) : Calls Try.prog 7 #[.agg #[.int .i64 x.room, .slice x.a x.ps.length x.c], .int .i64 keep] w fun e w' => ∃ y : Dx, (y.room, y.ps) = crashD x.room x.ps keep ∧ e = .returned (.agg #[.int .i64 y.room, .slice y.a y.ps.length y.c]) ∧ OwD w' w.heap.size y ∧ Below w.heap.size w w' := by
  have G0 := hide (begunD hr)
  have s2 : ((w.alloc (.cells #[.int .i64 x.room, .slice x.a x.ps.length x.c] 26)).alloc (.cells #[.int .i64 0, .slice none 0 0] 26)).heap.size = w.heap.size + 2 := by simp
  have OK0 := hide (fun b h => iOkB _ x b (unhide G0).1.r hz h)
  have h20 := hr.n
  clear hr
  by_cases ok : OkD x.room x.ps
  case neg =>
    have E := hide (show crashD x.room x.ps keep = (0, []) from if_neg ok)
    generalize crashD x.room x.ps keep = rr at *
    have OKD := hide (decide_eq_false ok)
    clear ok
    go_enter Try.func7, Try.ntmps7
    go_wp2_with fail
    refine ((unhide OK0) false (unhide OKD)).mono ?_
    rintro e u ⟨rfl, b1⟩
    have R2 := hide ((unhide G0).2.below b1 (by omega))
    have EN := hide (endedD (y := ⟨0, none, 0, []⟩) (base0 := w.heap.size + 2) (((unhide G0).1.step b1).b) (unhide R2) ⟨rfl, .inl ⟨rfl, rfl⟩⟩ (by omega))
    have f0 := (unhide R2).free 0
    have f1 := (unhide R2).free 1
    have r0 := (unhide R2).c0
    have r1 := (unhide R2).c1
    clear b1
    go_wp2
    refine bodyPost_ret (v := .agg #[.int .i64 0, .slice none 0 0]) (by simp [results, Try.results7, go_sem, r0, r1]) rfl ⟨⟨0, none, 0, []⟩, (unhide E).symm, rfl, (unhide EN).1, (unhide EN).2⟩
  have E := hide (show crashD x.room x.ps keep = (x.room, x.ps.map (crashF keep)) from if_pos ok)
  generalize crashD x.room x.ps keep = rr at *
  have OKD := hide (decide_eq_true ok)
  clear ok
  go_enter Try.func7, Try.ntmps7
  go_wp2_with fail
  refine ((unhide OK0) true (unhide OKD)).mono ?_
  rintro e u ⟨rfl, b1⟩
  have WU := hide ((unhide G0).1.step b1)
  have RU := hide ((unhide G0).2.below b1 (by omega))
  have us := b1.size
  rw [s2] at us
  clear b1 G0 OK0 s2
  have c0 := (unhide WU).c0
  have c1 := (unhide WU).c1
  have lt := (unhide WU).lt
  go_wp2_with fail
  refine (iCopied u x (unhide WU).r).mono ?_
  rintro e u1 ⟨y, hy0, hy, rfl, oy, b2⟩
  obtain ⟨yroom, ya, yc, yps⟩ := y
  simp only at hy0 hy
  subst hy0 hy
  unfold OwD at oy
  simp only at oy
  generalize hn : x.ps.length = n at *
  have HN := hide hn
  have bA := one_more u1 (.cells #[.int .i64 x.room, .slice ya n yc] 26)
  have W1 := hide (((unhide WU).step b2).step bA)
  have R1 := hide (((unhide RU).below b2 (unhide RU).lt.2).below bA (by have := (unhide RU).lt.2; have := b2.size; omega))
  have C0 := hide (show Cr u (u1.alloc (.cells #[.int .i64 x.room, .slice ya n yc] 26)) (u1.alloc (.cells #[.int .i64 x.room, .slice ya n yc] 26)) (.slice ya n yc) n (half (crashF keep) x.ps 0) from ⟨World.grownBy.refl _ _, row_step oy bA, fun j hj => by have := World.ownsRow.lt oy j hj; simp; omega⟩)
  have a0 : (u1.alloc (.cells #[.int .i64 x.room, .slice ya n yc] 26)).cell? ⟨u1.heap.size, 0, none⟩ = some (.int .i64 x.room) := by simp [go_sem]
  have a1 : (u1.alloc (.cells #[.int .i64 x.room, .slice ya n yc] 26)).cell? ⟨u1.heap.size, 1, none⟩ = some (.slice ya n yc) := by simp [go_sem]
  have s3 : (u1.alloc (.cells #[.int .i64 x.room, .slice ya n yc] 26)).heap.size = u1.heap.size + 1 := by simp
  have AW := hide (And.intro a0 a1)
  have us1 := b2.size
  clear b2 bA oy hn WU RU a0 a1 c0 c1 lt
  go_wp2
  generalize u1.alloc (.cells #[.int .i64 x.room, .slice ya n yc] 26) = W at *
  go_loopw [18] (fun i wr => ∃ (k : Nat), i = .int .i64 k ∧ k ≤ n ∧ Hid (Cr u W wr (.slice ya n yc) n (half (crashF keep) x.ps k))) (fun i _ => n - (intOf i).toNat)
  case atStart => exact ⟨0, rfl, by omega, C0⟩
  case round =>
    clear C0
    obtain ⟨k, rfl, hk, CR⟩ := hrel
    have gs := (unhide CR).gr.size
    have GE := hide (unhide CR).ge
    have k0 := hide ((World.cell?_of_block (w := W) (a := ⟨u1.heap.size, 0, none⟩) ((unhide CR).gr.block u1.heap.size (by omega) (fun e => by have := (unhide GE) _ e.symm; omega))).trans (unhide AW).1)
    have k1 := hide ((World.cell?_of_block (w := W) (a := ⟨u1.heap.size, 1, none⟩) ((unhide CR).gr.block u1.heap.size (by omega) (fun e => by have := (unhide GE) _ e.symm; omega))).trans (unhide AW).2)
    by_cases t : k < n
    · have kt : (k : Int) < n := by omega
      have tk : k < x.ps.length := by rw [unhide HN]; exact t
      obtain ⟨g, ea⟩ := (addr_of (unhide CR).ow).1 (by omega)
      subst ea
      have gg := (unhide GE) g rfl
      have EL := half_el (crashF keep) tk
      have NX := hide (half_next (crashF keep) tk)
      have LL := hide (show k < (half (crashF keep) x.ps k).length by rw [half_len]; exact tk)
      obtain ⟨e0, e1, e2⟩ := OwnF.at (unhide CR).ow k (unhide LL)
      rw [EL] at e0 e1 e2
      have IX := ixF yc (rfl : (some ⟨g, 0, none⟩ : Option Addr) = some ⟨g, 0, none⟩) t
      have SZ := el_size hz tk
      obtain ⟨km, hkm⟩ : ∃ km, max keep 0 = km := ⟨_, rfl⟩
      obtain ⟨kn, hkn⟩ : ∃ kn : Nat, min km ((elF x.ps k).2.2.size : Int) = kn := ⟨(min km ((elF x.ps k).2.2.size : Int)).toNat, by omega⟩
      have TE : crashF keep (elF x.ps k) = ((elF x.ps k).1, (elF x.ps k).2.1 ++ (elF x.ps k).2.2.extract 0 kn, ByteArray.empty) := by
        unfold crashF
        rw [hkm, hkn, Int.toNat_natCast]
      have kz : (kn : Int) ≤ ((elF x.ps k).2.2.size : Int) := by omega
      rw [TE] at NX
      generalize half (crashF keep) x.ps k = L at *

      clear TE EL
      generalize (elF x.ps k).1 = z0 at *
      generalize (elF x.ps k).2.1 = z1 at *
      generalize (elF x.ps k).2.2 = z2 at *
      have M1 : ∀ ts t w, (Builtin.max_ ts t #[.int .i64 keep, .int .i64 0]).run Try.prog w = .ok (.int .i64 km) w := fun ts t w => by rw [← hkm]; exact Lib.run_max_ints w ts t .i64 .i64 keep 0
      have M2 : ∀ ts t w, (Builtin.min_ ts t #[.int .i64 km, .int .i64 z2.size]).run Try.prog w = .ok (.int .i64 kn) w := fun ts t w => by rw [← hkn]; exact Lib.run_min_ints w ts t .i64 .i64 km z2.size
      have sx : z1.size + (z2.extract 0 kn).size ≤ 9223372036854775807 := by
        have : (z2.extract 0 kn).size ≤ z2.size := by simp; omega
        omega
      have sm : z1.size + min kn z2.size ≤ 9223372036854775807 := by omega
      have bV := hide (one_more wr (.cells #[.int .i64 z0, .string z1, .string z2] 32))
      have K8 : (wr.alloc (.cells #[.int .i64 z0, .string z1, .string z2] 32)).cell? ⟨u1.heap.size, 1, none⟩ = some (.slice (some ⟨g, 0, none⟩) n yc) ∧ (wr.alloc (.cells #[.int .i64 z0, .string z1, .string z2] 32)).cell? ⟨wr.heap.size, 0, none⟩ = some (.int .i64 z0) ∧ (wr.alloc (.cells #[.int .i64 z0, .string z1, .string z2] 32)).cell? ⟨wr.heap.size, 1, none⟩ = some (.string z1) ∧ (wr.alloc (.cells #[.int .i64 z0, .string z1, .string z2] 32)).cell? ⟨wr.heap.size, 2, none⟩ = some (.string z2) := ⟨((unhide bV).cell (p := ⟨u1.heap.size, 1, none⟩) (by show u1.heap.size < wr.heap.size; omega)).trans (unhide k1), by simp [go_sem], by simp [go_sem], by simp [go_sem]⟩
      have OV := hide (row_step (unhide CR).ow (unhide bV))
      clear hkm hkn
      obtain ⟨V, hV⟩ : ∃ V, Hid (V = wr.alloc (.cells #[.int .i64 z0, .string z1, .string z2] 32)) := ⟨_, rfl⟩
      have vL := hide (show wr.heap.size < V.heap.size by rw [unhide hV]; simp)
      rw [← unhide hV] at K8 bV OV
      have OD := hide (show OwnF 32 V.drew u.heap.size g n yc L from unhide OV)
      obtain ⟨o1, g1⟩ := (unhide OD).set0 k z0
      obtain ⟨o2, g2⟩ := o1.set1 k (z1 ++ z2.extract 0 kn)
      obtain ⟨o3, g3⟩ := o2.set2 k ⟨#[]⟩
      have GG := hide (grow_grow (grow_grow g1 g2) g3)
      rw [mod3 (unhide LL), show (⟨#[]⟩ : ByteArray) = ByteArray.empty from rfl, unhide NX] at o3
      have OVF := hide (show OwnF 32 V u.heap.size g n yc L from unhide OV)
      have fr0 := (unhide OVF).free (k * 3)
      have fr1 := (unhide OVF).free (k * 3 + 1)
      have fr2 := (unhide OVF).free (k * 3 + 2)
      have q0 := ((unhide OVF).at k (unhide LL)).1
      have q1 := ((unhide OVF).at k (unhide LL)).2.1
      have q2 := ((unhide OVF).at k (unhide LL)).2.2
      have vs := (unhide bV).size
      have K9 : (((V.drew.setCell ⟨g, k * 3, none⟩ (.int .i64 z0)).setCell ⟨g, k * 3 + 1, none⟩ (.string (z1 ++ z2.extract 0 kn))).setCell ⟨g, k * 3 + 2, none⟩ (.string ⟨#[]⟩)).cell? ⟨u1.heap.size, 1, none⟩ = some (.slice (some ⟨g, 0, none⟩) n yc) ∧ (((V.drew.setCell ⟨g, k * 3, none⟩ (.int .i64 z0)).setCell ⟨g, k * 3 + 1, none⟩ (.string (z1 ++ z2.extract 0 kn))).setCell ⟨g, k * 3 + 2, none⟩ (.string ⟨#[]⟩)).cell? ⟨wr.heap.size, 0, none⟩ = some (.int .i64 z0) ∧ (((V.drew.setCell ⟨g, k * 3, none⟩ (.int .i64 z0)).setCell ⟨g, k * 3 + 1, none⟩ (.string (z1 ++ z2.extract 0 kn))).setCell ⟨g, k * 3 + 2, none⟩ (.string ⟨#[]⟩)).cell? ⟨wr.heap.size, 1, none⟩ = some (.string z1) ∧ (((V.drew.setCell ⟨g, k * 3, none⟩ (.int .i64 z0)).setCell ⟨g, k * 3 + 1, none⟩ (.string (z1 ++ z2.extract 0 kn))).setCell ⟨g, k * 3 + 2, none⟩ (.string ⟨#[]⟩)).cell? ⟨wr.heap.size, 2, none⟩ = some (.string z2) := ⟨(kcell (unhide GG) 1 (show u1.heap.size < V.heap.size by omega) (by omega)).trans K8.1, (kcell (unhide GG) 0 (unhide vL) (by omega)).trans K8.2.1, (kcell (unhide GG) 1 (unhide vL) (by omega)).trans K8.2.2.1, (kcell (unhide GG) 2 (unhide vL) (by omega)).trans K8.2.2.2⟩
      have C9 := hide (show Cr u W (((V.drew.setCell ⟨g, k * 3, none⟩ (.int .i64 z0)).setCell ⟨g, k * 3 + 1, none⟩ (.string (z1 ++ z2.extract 0 kn))).setCell ⟨g, k * 3 + 2, none⟩ (.string ⟨#[]⟩)) (.slice (some ⟨g, 0, none⟩) n yc) n (half (crashF keep) x.ps (k + 1)) from ⟨⟨(unhide GG).os.trans ((unhide bV).os.trans (unhide CR).gr.os), (unhide GG).tape.trans ((unhide bV).tape.trans (unhide CR).gr.tape), (unhide GG).output.trans ((unhide bV).output.trans (unhide CR).gr.output), Nat.le_trans (unhide CR).gr.size (Nat.le_trans (unhide bV).size (unhide GG).size), fun i hi hne => ((unhide GG).block i (show i < V.heap.size by omega) hne).trans (((unhide bV).block i (by omega)).trans ((unhide CR).gr.block i hi hne))⟩, o3, unhide GE⟩)
      clear o1 o2 o3 g1 g2 g3
      go_wp2_with fail
      rw [← unhide hV]
      clear hV
      refine wp_region_held_drew (S := (fun w' => w'.cell? ⟨u1.heap.size, 1, none⟩ = some (.slice (some ⟨g, 0, none⟩) n yc) ∧ w'.cell? ⟨wr.heap.size, 0, none⟩ = some (.int .i64 z0) ∧ w'.cell? ⟨wr.heap.size, 1, none⟩ = some (.string z1) ∧ w'.cell? ⟨wr.heap.size, 2, none⟩ = some (.string z2))) (by kernel_rfl) K8 (fun hHeld => ?_)
      refine wpAnyH_take (i := 0) (oi := oK0) (v := .pointer (some ⟨u1.heap.size, 1, none⟩)) rfl (by kernel_rfl) (by kernel_rfl) (by kernel_rfl) (fun _ _ _ h => h) (Or.inl ⟨by rfl, fun w hSw => ?_⟩) hHeld ?_
      · (try dsimp only at hSw)
        unfold oK0
        go_simp
      try simp only [oK0, Act.put, List.setIfInBounds_toArray, List.set_cons_zero, List.set_cons_succ]
      refine wpAnyH_take (i := 1) (oi := oK1) (v := .slice (some ⟨g, 0, none⟩) n yc) rfl (by kernel_rfl) (by kernel_rfl) (by kernel_rfl) (fun _ _ _ h => h) (Or.inl ⟨by rfl, fun w hSw => ?_⟩) hHeld ?_
      · (try dsimp only at hSw)
        unfold oK1
        go_simp
      try simp only [oK1, Act.put, List.setIfInBounds_toArray, List.set_cons_zero, List.set_cons_succ]
      refine wpAnyH_take (i := 2) (oi := oK2) (v := .int .i64 k) rfl (by kernel_rfl) (by kernel_rfl) (by kernel_rfl) (fun _ _ _ h => h) (Or.inl ⟨by rfl, fun w hSw => ?_⟩) hHeld ?_
      · (try dsimp only at hSw)
        unfold oK2
        go_simp
      try simp only [oK2, Act.put, List.setIfInBounds_toArray, List.set_cons_zero, List.set_cons_succ]
      refine wpAnyH_take (i := 3) (oi := oK3) (v := .pointer (some ⟨wr.heap.size, 0, none⟩)) rfl (by kernel_rfl) (by kernel_rfl) (by kernel_rfl) (fun _ _ _ h => h) (Or.inl ⟨by rfl, fun w hSw => ?_⟩) hHeld ?_
      · (try dsimp only at hSw)
        unfold oK3
        go_simp
      try simp only [oK3, Act.put, List.setIfInBounds_toArray, List.set_cons_zero, List.set_cons_succ]
      refine wpAnyH_take (i := 4) (oi := oK4) (v := .int .i64 z0) rfl (by kernel_rfl) (by kernel_rfl) (by kernel_rfl) (fun _ _ _ h => h) (Or.inl ⟨by rfl, fun w hSw => ?_⟩) hHeld ?_
      · (try dsimp only at hSw)
        unfold oK4
        go_simp
      try simp only [oK4, Act.put, List.setIfInBounds_toArray, List.set_cons_zero, List.set_cons_succ]
      refine wpAnyH_take (i := 5) (oi := oK5) (v := .pointer (some ⟨wr.heap.size, 1, none⟩)) rfl (by kernel_rfl) (by kernel_rfl) (by kernel_rfl) (fun _ _ _ h => h) (Or.inl ⟨by rfl, fun w hSw => ?_⟩) hHeld ?_
      · (try dsimp only at hSw)
        unfold oK5
        go_simp
      try simp only [oK5, Act.put, List.setIfInBounds_toArray, List.set_cons_zero, List.set_cons_succ]
      refine wpAnyH_take (i := 6) (oi := oK6) (v := .string z1) rfl (by kernel_rfl) (by kernel_rfl) (by kernel_rfl) (fun _ _ _ h => h) (Or.inl ⟨by rfl, fun w hSw => ?_⟩) hHeld ?_
      · (try dsimp only at hSw)
        unfold oK6
        go_simp
      try simp only [oK6, Act.put, List.setIfInBounds_toArray, List.set_cons_zero, List.set_cons_succ]
      refine wpAnyH_take (i := 7) (oi := oK7) (v := .pointer (some ⟨wr.heap.size, 2, none⟩)) rfl (by kernel_rfl) (by kernel_rfl) (by kernel_rfl) (fun _ _ _ h => h) (Or.inl ⟨by rfl, fun w hSw => ?_⟩) hHeld ?_
      · (try dsimp only at hSw)
        unfold oK7
        go_simp
      try simp only [oK7, Act.put, List.setIfInBounds_toArray, List.set_cons_zero, List.set_cons_succ]
      refine wpAnyH_take (i := 8) (oi := oK8) (v := .string z2) rfl (by kernel_rfl) (by kernel_rfl) (by kernel_rfl) (fun _ _ _ h => h) (Or.inl ⟨by rfl, fun w hSw => ?_⟩) hHeld ?_
      · (try dsimp only at hSw)
        unfold oK8
        go_simp
      try simp only [oK8, Act.put, List.setIfInBounds_toArray, List.set_cons_zero, List.set_cons_succ]
      refine wpAnyH_take (i := 9) (oi := oK9) (v := .int .i64 kn) rfl (by kernel_rfl) (by kernel_rfl) (by kernel_rfl) (fun _ _ _ h => h) (Or.inl ⟨by rfl, fun w hSw => ?_⟩) hHeld ?_
      · (try dsimp only at hSw)
        unfold oK9
        go_simp
      try simp only [oK9, Act.put, List.setIfInBounds_toArray, List.set_cons_zero, List.set_cons_succ]
      refine wpAnyH_take (i := 10) (oi := oK10) (v := .string (z2.extract 0 kn)) rfl (by kernel_rfl) (by kernel_rfl) (by kernel_rfl) (fun _ _ _ h => h) (Or.inl ⟨by rfl, fun w hSw => ?_⟩) hHeld ?_
      · (try dsimp only at hSw)
        unfold oK10
        go_simp
      try simp only [oK10, Act.put, List.setIfInBounds_toArray, List.set_cons_zero, List.set_cons_succ]
      refine wpAnyH_take (i := 11) (oi := oK11) (v := .string (z1 ++ z2.extract 0 kn)) rfl (by kernel_rfl) (by kernel_rfl) (by kernel_rfl) (fun _ _ _ h => h) (Or.inl ⟨by rfl, fun w hSw => ?_⟩) hHeld ?_
      · (try dsimp only at hSw)
        unfold oK11
        go_simp
      try simp only [oK11, Act.put, List.setIfInBounds_toArray, List.set_cons_zero, List.set_cons_succ]
      refine wpAnyH_take (i := 12) (oi := oK12) (v := .agg #[.int .i64 z0, .string (z1 ++ z2.extract 0 kn), .string ⟨#[]⟩]) rfl (by kernel_rfl) (by kernel_rfl) (by kernel_rfl) (fun _ _ _ h => h) (Or.inl ⟨by rfl, fun w hSw => ?_⟩) hHeld ?_
      · (try dsimp only at hSw)
        unfold oK12
        go_simp
      try simp only [oK12, Act.put, List.setIfInBounds_toArray, List.set_cons_zero, List.set_cons_succ]
      refine wpAnyH_take (i := 13) (oi := oK13) (v := .pointer (some ⟨g, k * 3, none⟩)) rfl (by kernel_rfl) (by kernel_rfl) (by kernel_rfl) (fun _ _ _ h => h) (Or.inl ⟨by rfl, fun w hSw => ?_⟩) hHeld ?_
      · (try dsimp only at hSw)
        unfold oK13
        go_simp
      try simp only [oK13, Act.put, List.setIfInBounds_toArray, List.set_cons_zero, List.set_cons_succ]
      refine wpAnyH_ready (rs := [14]) (by kernel_rfl) (by simp) ?_
      refine AllReadyH.cons (o := oK14) rfl (fun K hK => ?_) AllReadyH.nil
      unfold oK14
      go_simp
      refine hK.out _ _ K9 (fun hHeld => ?_)
      clear hK K
      try simp only [oK14, Act.put, List.setIfInBounds_toArray, List.set_cons_zero, List.set_cons_succ]
      refine wpAnyH_done (by kernel_rfl) ?_ _
      clear K8 K9 q0 q1 q2 fr0 fr1 fr2
      go_wp2
      go_roundw
      case rel => exact ⟨k + 1, by go_num, by omega, C9⟩
      case measure => simp [intOf]; omega
    · have e : k = n := by omega
      subst e
      have ck0 := unhide k0
      have ck1 := unhide k1
      have HL := hide (show half (crashF keep) x.ps k = x.ps.map (crashF keep) by unfold half; rw [← unhide HN]; simp)
      have Rk := hide ((unhide R1).kept (unhide CR).gr (fun e => by have := (unhide GE) _ e.symm; omega))
      have BK := hide (show Below w.heap.size w wr from ⟨(unhide CR).gr.os.trans (unhide W1).b.os, (unhide CR).gr.tape.trans (unhide W1).b.tape, (unhide CR).gr.output.trans (unhide W1).b.output, Nat.le_trans (unhide W1).b.size gs, fun i hi => ((unhide CR).gr.block i (by omega) (fun e => by have := (unhide GE) _ e.symm; omega)).trans ((unhide W1).b.block i hi)⟩)
      have EN := hide (endedD (y := ⟨x.room, ya, yc, x.ps.map (crashF keep)⟩) (base0 := u.heap.size) (unhide BK) (unhide Rk) (by unfold OwD; simp only [List.length_map, unhide HN]; rw [← unhide HL]; exact (unhide CR).ow) (by omega))
      have f0 := (unhide Rk).free 0
      have f1 := (unhide Rk).free 1
      have r0 := (unhide Rk).c0
      have r1 := (unhide Rk).c1
      simp only [List.length_map, unhide HN] at EN
      clear k0 k1
      go_wp2
      refine bodyPost_ret (v := .agg #[.int .i64 x.room, .slice ya k yc]) (by simp [results, Try.results7, go_sem, r0, r1]) rfl ⟨⟨x.room, ya, yc, x.ps.map (crashF keep)⟩, (unhide E).symm, by simp [unhide HN], (unhide EN).1, (unhide EN).2⟩

end Go.Proofs.Ytejbbhjhinkcdaa.ICrash14
