/- Disks: the drawn disk, right or not, and what DrawDiskCrash draws. -/
import Derived.Test.YtejbbhjhinkcdaaDrawR14
import Derived.Deep.CutBlock
namespace Go.Proofs.Ytejbbhjhinkcdaa.DrawD14
open Go.ChangeShapes Go.WideShapes Go.ChangeAt Go.RowKit Draw Draw11 DrawS11 DrawT14 DrawR14
open Fil14 (TF elF flatF)
open DiskH14 (sumZ one_more)
open DkH14 (Dx RdD OwD Bc row_step)
open SOk14 (OkD okN)
open App14 (row_base row_kept kcell grow_grow step_app litm flat_1)
open SLess14 (bc_set1)
set_option linter.unusedVariables false
set_option linter.unusedSimpArgs false

/-- A disk that is not great. -/
def Sm (y : Dx) : Prop := y.ps.length ≤ 23 ∧ sumZ y.ps ≤ 60000
/-- A world in which a disk is being drawn. -/
structure Dv (w0 w W : World) (c bd : Nat) (a : Option Addr) (len cap : Nat) (x : Dx) : Prop where
  m : Moved w0 w W c a len cap
  bx : Bc W w.heap.size bd (.int .i64 x.room) (.slice x.a x.ps.length x.c)
  ow : OwD W w.heap.size x
  sm : Sm x
  rb : Bc W w.heap.size w.heap.size (.int .i64 0) (.slice none 0 0)
  ne : bd ≠ w.heap.size
section
variable {w0 w W W' : World} {c bd : Nat} {a : Option Addr} {len cap : Nat} {x : Dx}
theorem Dv.below (h : Dv w0 w W c bd a len cap x) (k : Below W.heap.size W W') : Dv w0 w W' c bd a len cap x :=
  ⟨moved_below h.m k, h.bx.below k h.bx.lt.2, h.ow.step k, h.sm, h.rb.below k h.rb.lt.2, h.ne⟩
theorem Dv.moved (h : Dv w0 w W c bd a len cap x) (k : Moved w0 W W' c a len cap) (hc : c < w.heap.size) : Dv w0 w W' c bd a len cap x :=
  ⟨h.m.trans k, row_only h.bx k.2 hc, row_only h.ow k.2 hc, h.sm, row_only h.rb k.2 hc, h.ne⟩
theorem Dv.drew (h : Dv w0 w W c bd a len cap x) : Dv w0 w W.drew c bd a len cap x := h.below (Below.refl _ _).drew
end
theorem sm_ok {y : Dx} (h : OkD y.room y.ps) : Sm y ∧ y.ps.length ≤ 22 := by
  have := h.1
  have := h.2.1
  have := h.2.2.1
  exact ⟨⟨by omega, by omega⟩, h.2.1⟩

abbrev oQ0 : Oper := { dst := some 16, op := Go.Op.fieldAddr 26 (Go.Operand.tmp 3) 1, type := 0, pos := "l14_disk.go:200", after := #[], guard := none }
abbrev oQ1 : Oper := { dst := some 17, op := Go.Op.load 24 (Go.Operand.tmp 16), type := 24, pos := "l14_disk.go:200", after := #[{ on := 0, ground := Go.Ground.data }], guard := none }
abbrev oQ2 : Oper := { dst := some 18, op := Go.Op.move (Go.Operand.tmp 0), type := 40, pos := "l14_disk.go:200", after := #[], guard := none }
abbrev oQ3 : Oper := { dst := some 19, op := Go.Op.buildSlice 64 4 #[(0, Go.Operand.const (Go.Value.int Go.IntKind.i64 (-1))), (1, Go.Operand.const (Go.Value.int Go.IntKind.i64 0)), (2, Go.Operand.const (Go.Value.int Go.IntKind.i64 22)), (3, Go.Operand.const (Go.Value.int Go.IntKind.i64 21))], type := 64, pos := "l14_disk.go:200", after := #[], guard := none }
abbrev oQ4 : Oper := { dst := some 20, op := Go.Op.call { callee := Go.Callee.value (Go.Operand.func 39), args := #[Go.Operand.tmp 18, Go.Operand.tmp 19], argTypes := #[40, 64] }, type := 3, pos := "l14_disk.go:200", after := #[{ on := 2, ground := Go.Ground.data }, { on := 3, ground := Go.Ground.data }], guard := none }
abbrev oQ5 : Oper := { dst := some 21, op := Go.Op.build 32 #[(0, Go.Operand.tmp 20)], type := 32, pos := "l14_disk.go:200", after := #[{ on := 4, ground := Go.Ground.data }], guard := none }
abbrev oQ6 : Oper := { dst := some 22, op := Go.Op.buildSlice 24 1 #[(0, Go.Operand.tmp 21)], type := 24, pos := "l14_disk.go:200", after := #[{ on := 5, ground := Go.Ground.data }], guard := none }
abbrev oQ7 : Oper := { dst := some 23, op := Go.Op.call { callee := Go.Callee.builtin Go.Builtin.append, args := #[Go.Operand.tmp 17, Go.Operand.tmp 22], argTypes := #[24, 24] }, type := 24, pos := "l14_disk.go:200", after := #[{ on := 1, ground := Go.Ground.data }, { on := 6, ground := Go.Ground.data }, { on := 4, ground := Go.Ground.chain }], guard := none }
abbrev oQ8 : Oper := { dst := some 24, op := Go.Op.fieldAddr 26 (Go.Operand.tmp 3) 1, type := 0, pos := "l14_disk.go:200", after := #[{ on := 0, ground := Go.Ground.phase }, { on := 1, ground := Go.Ground.phase }, { on := 2, ground := Go.Ground.phase }, { on := 3, ground := Go.Ground.phase }, { on := 4, ground := Go.Ground.phase }, { on := 5, ground := Go.Ground.phase }, { on := 6, ground := Go.Ground.phase }, { on := 7, ground := Go.Ground.phase }], guard := none }
abbrev oQ9 : Oper := { dst := none, op := Go.Op.store 24 (Go.Operand.tmp 24) (Go.Operand.tmp 23), type := 0, pos := "l14_disk.go:200", after := #[{ on := 8, ground := Go.Ground.data }, { on := 7, ground := Go.Ground.data }, { on := 7, ground := Go.Ground.chain }, { on := 0, ground := Go.Ground.phase }, { on := 1, ground := Go.Ground.phase }, { on := 2, ground := Go.Ground.phase }, { on := 3, ground := Go.Ground.phase }, { on := 4, ground := Go.Ground.phase }, { on := 5, ground := Go.Ground.phase }, { on := 6, ground := Go.Ground.phase }, { on := 7, ground := Go.Ground.phase }], guard := none }

theorem moved_row {w0 w u v : World} {c : Nat} {a : Option Addr} {len cap : Nat} {row : Option Nat} (h : Moved w0 w u c a len cap) (k : u.grownBy v row) (hc : c < w.heap.size) (hg : ∀ g, row = some g → w.heap.size ≤ g) (h0 : w0.heap.size ≤ w.heap.size) : Moved w0 w v c a len cap := by
  cases row with
  | none => exact moved_below h ⟨k.os, k.tape, k.output, k.size, fun i hi => k.block i hi (by simp)⟩
  | some g => exact moved_grown h k hc (hg g rfl) h0

set_option maxRecDepth 100000 in
set_option maxHeartbeats 8000000 in
theorem drawDisk (w0 w : World) (c : Nat) (a : Option Addr) (len cap : Nat) (hl : len ≤ 1048576) (hcode : CodeAt w0 a len) (h : Cur w0 w c a len cap) :
    Calls Try.prog 20 #[.pointer (some ⟨c, 0, none⟩)] w fun e w' => ∃ y : Dx, Sm y ∧ e = .returned (.agg #[.int .i64 y.room, .slice y.a y.ps.length y.c]) ∧ OwD w' w.heap.size y ∧ Moved w0 w w' c a len cap := by
  have HC := hide hcode
  have hc := h.hi
  have hs := h.bel.size
  have M1 := hide (moved_alloc (moved_start h) #[.int .i64 0, .slice none 0 0] 26)
  have R1 := hide (show Bc (w.alloc (.cells #[.int .i64 0, .slice none 0 0] 26)) w.heap.size w.heap.size (.int .i64 0) (.slice none 0 0) from Bc.made _ _ (Nat.le_refl _) rfl)
  clear hcode h
  go_enter Try.func20, Try.ntmps20
  go_wp2_with fail
  refine (drawRight w0 _ c a len cap hl (unhide HC) (unhide M1).1).mono ?_
  rintro e u1 ⟨y, ok, rfl, oy, mv⟩
  have M2 := hide ((unhide M1).trans mv)
  have R2 := hide (show Bc u1 w.heap.size w.heap.size (.int .i64 0) (.slice none 0 0) from row_only (unhide R1) mv.2 hc)
  have OY := hide (row_base oy (show w.heap.size ≤ (w.alloc (.cells #[.int .i64 0, .slice none 0 0] 26)).heap.size by simp))
  obtain ⟨sm, y22⟩ := sm_ok ok
  clear mv oy M1 R1
  have rl := (unhide R2).lt.2
  have D1 := hide (show Dv w0 w (u1.alloc (.cells #[.int .i64 y.room, .slice y.a y.ps.length y.c] 26)) c u1.heap.size a len cap y from
    ⟨moved_alloc (unhide M2) _ _, Bc.made _ _ (Nat.le_of_lt rl) rfl, row_step (unhide OY) (one_more _ _), sm, Bc.below (unhide R2) (one_more _ _) rl, by omega⟩)
  have nb := (unhide D1).ne
  clear M2 R2 OY
  go_wp2_with fail
  refine (below w0 _ c a len cap 25 hl (unhide HC) (unhide D1).m.1 (by omega)).mono ?_
  rintro e v ⟨⟨sw, sw0, sw1, rfl⟩, mv⟩
  have D2 := hide ((unhide D1).moved mv hc)
  clear mv D1
  generalize u1.heap.size = bd at *
  have vh := (unhide D2).m.1.hi
  have b0 := (unhide D2).bx.c0
  have b1 := (unhide D2).bx.c1
  have f0 := (unhide D2).bx.free 0
  have f1 := (unhide D2).bx.free 1
  have bl := (unhide D2).bx.lt.2
  · skip
    by_cases q0 : sw = 0
    · have qb : (sw == 0) = true := by simpa using q0
      have D3 := hide ((unhide D2).below (one_more v (.cells #[.int .i64 (-1), .int .i64 0, .int .i64 60001, .int .i64 3] 3)))
      subst q0
      go_wp2_with fail
      refine (pick w0 _ c a len cap v.heap.size 4 (of4 (-1) 0 60001 3) hl (unhide HC) (unhide D3).m.1 (by omega) (by omega) (by simp) (by omega) (fun j hj => of4_cells v _ (-1) 0 60001 3 j hj)).mono ?_
      rintro e u3 ⟨⟨j, hj, rfl⟩, mv⟩
      have D4 := hide ((unhide D3).moved mv hc)
      clear mv hj D3
      generalize of4 (-1) 0 60001 3 j = rm at *
      have d0 := (unhide D4).bx.c0
      have e0 := (unhide D4).bx.free 0
      have s0 := (unhide D4).bx.set0 (.int .i64 rm)
      have D5 := hide (show Dv w0 w (u3.setCell ⟨bd, 0, none⟩ (.int .i64 rm)) c bd a len cap ⟨rm, y.a, y.c, y.ps⟩ from
        ⟨moved_grown (unhide D4).m s0.2 hc (unhide D4).bx.lt.1 hs, s0.1, World.ownsRow.kept (unhide D4).ow s0.2 (.inr (row_ne (unhide D4).bx (unhide D4).ow (by decide) rfl)), sm, (unhide D4).rb.kept s0.2 (by have := nb; simpa using this.symm), nb⟩)
      clear s0 b0 b1 f0 f1
      have b1 := (unhide D4).bx.c1
      have r0 := (unhide D4).rb.c0
      have r1 := (unhide D4).rb.c1
      have f0 := (unhide D4).rb.free 0
      have f1 := (unhide D4).rb.free 1
      have t0 := (unhide D5).rb.set0 (.int .i64 rm)
      have t1 := bc_set1 t0.1 (.slice y.a y.ps.length y.c)
      have ST := hide (grow_grow t0.2 t1.2)
      have EM := hide (moved_grown (unhide D5).m (unhide ST) hc (Nat.le_refl _) hs)
      have EO := hide (show OwD (((u3.setCell ⟨bd, 0, none⟩ (.int .i64 rm)).setCell ⟨w.heap.size, 0, none⟩ (.int .i64 rm)).setCell ⟨w.heap.size, 1, none⟩ (.slice y.a y.ps.length y.c)) w.heap.size ⟨rm, y.a, y.c, y.ps⟩ from World.ownsRow.kept (unhide D5).ow (unhide ST) (.inr (row_ne (unhide D5).rb (unhide D5).ow (by decide) rfl)))
      have q0 := t0.1.c0
      have q1 := t1.1.c1
      have q2 := t1.1.c0
      have nb2 : w.heap.size ≠ bd := fun e => nb e.symm
      clear t0 t1
      go_wp2
      refine bodyPost_ret (v := .agg #[.int .i64 rm, .slice y.a y.ps.length y.c]) (by simp [results, Try.results20, go_sem, q1, q2]) rfl ⟨⟨rm, y.a, y.c, y.ps⟩, sm, rfl, unhide EO, unhide EM⟩
    · have qb : (sw == 0) = false := by simpa using q0
      clear q0
      by_cases q1 : sw = 1
      · have qc : (sw == 1) = true := by simpa using q1
        have DA := hide ((unhide D2).drew.below (one_more v.drew (.cells #[.int .i64 (-1), .int .i64 0, .int .i64 22, .int .i64 21] 3)))
        have bcD : v.drew.cell? ⟨bd, 1, none⟩ = some (.slice y.a y.ps.length y.c) := b1
        have bcA : (v.alloc (.cells #[.int .i64 (-1), .int .i64 0, .int .i64 22, .int .i64 21] 3)).cell? ⟨bd, 1, none⟩ = some (.slice y.a y.ps.length y.c) := ((one_more v (.cells #[.int .i64 (-1), .int .i64 0, .int .i64 22, .int .i64 21] 3)).cell (p := ⟨bd, 1, none⟩) bl).trans b1
        subst q1
        go_wp2_with fail
        refine wp_region_held_drew (S := (fun _ => True)) (by kernel_rfl) trivial (fun hHeld => ?_)
        refine wpAnyH_take (i := 0) (oi := oQ0) (v := .pointer (some ⟨bd, 1, none⟩)) rfl (by kernel_rfl) (by kernel_rfl) (by kernel_rfl) (fun _ _ _ h => h) (Or.inl ⟨by rfl, fun w hSw => ?_⟩) hHeld ?_
        · (try dsimp only at hSw)
          unfold oQ0
          go_simp
        try simp only [oQ0, Act.put, List.setIfInBounds_toArray, List.set_cons_zero, List.set_cons_succ]
        refine wpAnyH_take (i := 2) (oi := oQ2) (v := .pointer (some ⟨c, 0, none⟩)) rfl (by kernel_rfl) (by kernel_rfl) (by kernel_rfl) (fun _ _ _ h => h) (Or.inl ⟨by rfl, fun w hSw => ?_⟩) hHeld ?_
        · (try dsimp only at hSw)
          unfold oQ2
          go_simp
        try simp only [oQ2, Act.put, List.setIfInBounds_toArray, List.set_cons_zero, List.set_cons_succ]
        refine wpAnyH_ready (rs := [1, 3]) (by kernel_rfl) (by simp) ?_
        refine AllReadyH.cons (o := oQ1) rfl (fun K hK => ?_) (AllReadyH.cons (o := oQ3) rfl (fun K hK => ?_) AllReadyH.nil)
        · unfold oQ1
          go_simp
          refine hK.out _ _ trivial (fun hHeld => ?_)
          clear hK K
          try simp only [oQ1, Act.put, List.setIfInBounds_toArray, List.set_cons_zero, List.set_cons_succ]
          refine wpAnyH_ready (rs := [3]) (by kernel_rfl) (by simp) ?_
          refine AllReadyH.cons (o := oQ3) rfl (fun K hK => ?_) AllReadyH.nil
          unfold oQ3
          go_simp
          refine hK.out _ _ trivial (fun hHeld => ?_)
          clear hK K
          try simp only [oQ3, Act.put, List.setIfInBounds_toArray, List.set_cons_zero, List.set_cons_succ]
          refine wpAnyH_ready (rs := [4]) (by kernel_rfl) (by simp) ?_
          refine AllReadyH.cons (o := oQ4) rfl (fun K hK => ?_) AllReadyH.nil
          unfold oQ4
          go_simp
          go_wp2_with fail
          refine (pick w0 (v.drew.alloc (.cells #[.int .i64 (-1), .int .i64 0, .int .i64 22, .int .i64 21] 3)) c a len cap v.drew.heap.size 4 (of4 (-1) 0 22 21) hl (unhide HC) (unhide DA).m.1 (by omega) (by omega) (by simp) (show v.heap.size ≠ c by omega) (fun j hj => of4_cells v.drew _ (-1) 0 22 21 j hj)).mono ?_
          rintro e u ⟨⟨j, hj, rfl⟩, mv⟩
          have DU := hide ((unhide DA).moved mv hc)
          generalize of4 (-1) 0 22 21 j = nm at *
          have bcU := (unhide DU).bx.c1
          have bcB : (u.alloc (.cells #[.int .i64 nm, .string ⟨#[]⟩, .string ⟨#[]⟩] 32)).cell? ⟨bd, 1, none⟩ = some (.slice y.a y.ps.length y.c) := ((one_more u (.cells #[.int .i64 nm, .string ⟨#[]⟩, .string ⟨#[]⟩] 32)).cell (p := ⟨bd, 1, none⟩) (unhide DU).bx.lt.2).trans bcU
          clear mv hj
          go_wp2_with fail
          refine hK.out _ _ trivial (fun hHeld => ?_)
          clear hK K
          try simp only [oQ4, Act.put, List.setIfInBounds_toArray, List.set_cons_zero, List.set_cons_succ]
          refine wpAnyH_take (i := 5) (oi := oQ5) (v := .agg #[.int .i64 nm, .string ⟨#[]⟩, .string ⟨#[]⟩]) rfl (by kernel_rfl) (by kernel_rfl) (by kernel_rfl) (fun _ _ _ h => h) (Or.inl ⟨by rfl, fun w hSw => ?_⟩) hHeld ?_
          · (try dsimp only at hSw)
            unfold oQ5
            go_simp
          try simp only [oQ5, Act.put, List.setIfInBounds_toArray, List.set_cons_zero, List.set_cons_succ]
          refine wpAnyH_ready (rs := [6]) (by kernel_rfl) (by simp) ?_
          refine AllReadyH.cons (o := oQ6) rfl (fun K hK => ?_) AllReadyH.nil
          unfold oQ6
          go_simp
          refine hK.out _ _ trivial (fun hHeld => ?_)
          clear hK K
          try simp only [oQ6, Act.put, List.setIfInBounds_toArray, List.set_cons_zero, List.set_cons_succ]
          refine wpAnyH_ready (rs := [7]) (by kernel_rfl) (by simp) ?_
          refine AllReadyH.cons (o := oQ7) rfl (fun K hK => ?_) AllReadyH.nil
          refine step_app (u.alloc (.cells #[.int .i64 nm, .string ⟨#[]⟩, .string ⟨#[]⟩] 32)) (by rfl) _ _ 24 32 (by rfl) (.agg #[.int .i64 0, .string ByteArray.empty, .string ByteArray.empty]) 3 40 Try.underlying24 HelpF14.info2 rfl (by decide) (by decide) w.heap.size (.slice y.a y.ps.length y.c) y.ps.length (flatF y.ps) u.heap.size [.int .i64 nm, .string ⟨#[]⟩, .string ⟨#[]⟩] (by rfl) (by rfl) (row_step (W := u) (unhide DU).ow (one_more u (.cells #[.int .i64 nm, .string ⟨#[]⟩, .string ⟨#[]⟩] 32))) rfl (litm u _ _ _ (by rfl)) (by simp [Value.oneCell']) (by omega) (Nat.le_trans (Nat.le_of_lt (unhide DU).rb.lt.2) (by simp)) ?_
          intro g9 c9 u9 o9 gr9
          have DB := hide ((unhide DU).below (one_more u (.cells #[.int .i64 nm, .string ⟨#[]⟩, .string ⟨#[]⟩] 32)))
          have NB : (.slice y.a y.ps.length y.c : Value).ownBlock ≠ some bd := row_ne (unhide DB).bx (unhide DB).ow (by decide) rfl
          have NR : (.slice y.a y.ps.length y.c : Value).ownBlock ≠ some w.heap.size := row_ne (unhide DB).rb (unhide DB).ow (by decide) rfl
          have LB : ∀ g, (.slice y.a y.ps.length y.c : Value).ownBlock = some g → w.heap.size ≤ g := fun g e => (World.ownsRow.lt (unhide DB).ow g e).1
          have M9 := hide (moved_row (unhide DB).m gr9 hc LB hs)
          have B9 := hide ((unhide DB).bx.kept gr9 (Ne.symm NB))
          have R9 := hide ((unhide DB).rb.kept gr9 (Ne.symm NR))
          have O9 := hide o9
          have bc9 := (unhide B9).c1
          have fr9 := (unhide B9).free 1
          clear o9 NB NR LB
          refine hK.out _ _ trivial (fun hHeld => ?_)
          clear hK K
          try simp only [oQ7, Act.put, List.setIfInBounds_toArray, List.set_cons_zero, List.set_cons_succ]
          refine wpAnyH_take (i := 8) (oi := oQ8) (v := .pointer (some ⟨bd, 1, none⟩)) rfl (by kernel_rfl) (by kernel_rfl) (by kernel_rfl) (fun _ _ _ h => h) (Or.inl ⟨by rfl, fun w hSw => ?_⟩) hHeld ?_
          · (try dsimp only at hSw)
            unfold oQ8
            go_simp
          try simp only [oQ8, Act.put, List.setIfInBounds_toArray, List.set_cons_zero, List.set_cons_succ]
          refine wpAnyH_ready (rs := [9]) (by kernel_rfl) (by simp) ?_
          refine AllReadyH.cons (o := oQ9) rfl (fun K hK => ?_) AllReadyH.nil
          unfold oQ9
          go_simp
          refine hK.out _ _ trivial (fun hHeld => ?_)
          clear hK K
          try simp only [oQ9, Act.put, List.setIfInBounds_toArray, List.set_cons_zero, List.set_cons_succ]
          refine wpAnyH_done (by kernel_rfl) ?_ _
          have s1 := bc_set1 (unhide B9) (.slice (some ⟨g9, 0, none⟩) (y.ps.length + 1) c9)
          have y4 : (y.ps ++ [(nm, (⟨#[]⟩ : ByteArray), (⟨#[]⟩ : ByteArray))]).length = y.ps.length + 1 := by simp
          have NB9 : (Value.slice (some ⟨g9, 0, none⟩) (y.ps.length + 1) c9).ownBlock ≠ some bd := row_ne (unhide B9) (unhide O9) (by decide) rfl
          have D9 := hide (show Dv w0 w (u9.setCell ⟨bd, 1, none⟩ (.slice (some ⟨g9, 0, none⟩) (y.ps.length + 1) c9)) c bd a len cap ⟨y.room, some ⟨g9, 0, none⟩, c9, y.ps ++ [(nm, ⟨#[]⟩, ⟨#[]⟩)]⟩ from
            ⟨moved_grown (unhide M9) s1.2 hc (unhide B9).lt.1 hs, by show Bc _ _ _ _ (.slice _ (y.ps ++ _).length _); rw [y4]; exact s1.1, by
              have o := World.ownsRow.kept (unhide O9) s1.2 (.inr NB9)
              unfold OwD
              simp only [y4]
              rw [flat_1]
              exact o, ⟨by show (y.ps ++ _).length ≤ 23; rw [y4]; omega, by show sumZ (y.ps ++ _) ≤ 60000; rw [DiskH14.sumZ_append]; exact sm.2⟩, (unhide R9).kept s1.2 (by have := nb; simpa using this.symm), nb⟩)
          clear s1 NB9 bc9 fr9 bcU bcB bcD bcA b0 b1 f0 f1
          obtain ⟨X, hX⟩ : ∃ X : Dx, X = ⟨y.room, some ⟨g9, 0, none⟩, c9, y.ps ++ [(nm, ⟨#[]⟩, ⟨#[]⟩)]⟩ := ⟨_, rfl⟩
          rw [← hX] at D9
          clear hX
          generalize u9.setCell ⟨bd, 1, none⟩ (.slice (some ⟨g9, 0, none⟩) (y.ps.length + 1) c9) = vv at *
          have D7 := D9
          have b0 := (unhide D7).bx.c0
          have b1 := (unhide D7).bx.c1
          have r0 := (unhide D7).rb.c0
          have r1 := (unhide D7).rb.c1
          have f0 := (unhide D7).rb.free 0
          have f1 := (unhide D7).rb.free 1
          have s0 := (unhide D7).rb.set0 (.int .i64 X.room)
          have s1 := bc_set1 s0.1 (.slice X.a X.ps.length X.c)
          have ST := hide (grow_grow s0.2 s1.2)
          have EM := hide (moved_grown (unhide D7).m (unhide ST) hc (Nat.le_refl _) hs)
          have EO := hide (World.ownsRow.kept (unhide D7).ow (unhide ST) (.inr (row_ne (unhide D7).rb (unhide D7).ow (by decide) rfl)))
          have SM := hide (unhide D7).sm
          clear s0 s1
          go_wp2
          refine bodyPost_ret (v := .agg #[.int .i64 X.room, .slice X.a X.ps.length X.c]) (by simp [results, Try.results20, go_sem, r0, r1]) rfl ⟨X, unhide SM, rfl, unhide EO, unhide EM⟩
        · unfold oQ3
          go_simp
          refine hK.out _ _ trivial (fun hHeld => ?_)
          clear hK K
          try simp only [oQ3, Act.put, List.setIfInBounds_toArray, List.set_cons_zero, List.set_cons_succ]
          refine wpAnyH_ready (rs := [1, 4]) (by kernel_rfl) (by simp) ?_
          refine AllReadyH.cons (o := oQ1) rfl (fun K hK => ?_) (AllReadyH.cons (o := oQ4) rfl (fun K hK => ?_) AllReadyH.nil)
          · unfold oQ1
            go_simp
            refine hK.out _ _ trivial (fun hHeld => ?_)
            clear hK K
            try simp only [oQ1, Act.put, List.setIfInBounds_toArray, List.set_cons_zero, List.set_cons_succ]
            refine wpAnyH_ready (rs := [4]) (by kernel_rfl) (by simp) ?_
            refine AllReadyH.cons (o := oQ4) rfl (fun K hK => ?_) AllReadyH.nil
            unfold oQ4
            go_simp
            go_wp2_with fail
            refine (pick w0 (v.drew.alloc (.cells #[.int .i64 (-1), .int .i64 0, .int .i64 22, .int .i64 21] 3)) c a len cap v.drew.heap.size 4 (of4 (-1) 0 22 21) hl (unhide HC) (unhide DA).m.1 (by omega) (by omega) (by simp) (show v.heap.size ≠ c by omega) (fun j hj => of4_cells v.drew _ (-1) 0 22 21 j hj)).mono ?_
            rintro e u ⟨⟨j, hj, rfl⟩, mv⟩
            have DU := hide ((unhide DA).moved mv hc)
            generalize of4 (-1) 0 22 21 j = nm at *
            have bcU := (unhide DU).bx.c1
            have bcB : (u.alloc (.cells #[.int .i64 nm, .string ⟨#[]⟩, .string ⟨#[]⟩] 32)).cell? ⟨bd, 1, none⟩ = some (.slice y.a y.ps.length y.c) := ((one_more u (.cells #[.int .i64 nm, .string ⟨#[]⟩, .string ⟨#[]⟩] 32)).cell (p := ⟨bd, 1, none⟩) (unhide DU).bx.lt.2).trans bcU
            clear mv hj
            go_wp2_with fail
            refine hK.out _ _ trivial (fun hHeld => ?_)
            clear hK K
            try simp only [oQ4, Act.put, List.setIfInBounds_toArray, List.set_cons_zero, List.set_cons_succ]
            refine wpAnyH_take (i := 5) (oi := oQ5) (v := .agg #[.int .i64 nm, .string ⟨#[]⟩, .string ⟨#[]⟩]) rfl (by kernel_rfl) (by kernel_rfl) (by kernel_rfl) (fun _ _ _ h => h) (Or.inl ⟨by rfl, fun w hSw => ?_⟩) hHeld ?_
            · (try dsimp only at hSw)
              unfold oQ5
              go_simp
            try simp only [oQ5, Act.put, List.setIfInBounds_toArray, List.set_cons_zero, List.set_cons_succ]
            refine wpAnyH_ready (rs := [6]) (by kernel_rfl) (by simp) ?_
            refine AllReadyH.cons (o := oQ6) rfl (fun K hK => ?_) AllReadyH.nil
            unfold oQ6
            go_simp
            refine hK.out _ _ trivial (fun hHeld => ?_)
            clear hK K
            try simp only [oQ6, Act.put, List.setIfInBounds_toArray, List.set_cons_zero, List.set_cons_succ]
            refine wpAnyH_ready (rs := [7]) (by kernel_rfl) (by simp) ?_
            refine AllReadyH.cons (o := oQ7) rfl (fun K hK => ?_) AllReadyH.nil
            refine step_app (u.alloc (.cells #[.int .i64 nm, .string ⟨#[]⟩, .string ⟨#[]⟩] 32)) (by rfl) _ _ 24 32 (by rfl) (.agg #[.int .i64 0, .string ByteArray.empty, .string ByteArray.empty]) 3 40 Try.underlying24 HelpF14.info2 rfl (by decide) (by decide) w.heap.size (.slice y.a y.ps.length y.c) y.ps.length (flatF y.ps) u.heap.size [.int .i64 nm, .string ⟨#[]⟩, .string ⟨#[]⟩] (by rfl) (by rfl) (row_step (W := u) (unhide DU).ow (one_more u (.cells #[.int .i64 nm, .string ⟨#[]⟩, .string ⟨#[]⟩] 32))) rfl (litm u _ _ _ (by rfl)) (by simp [Value.oneCell']) (by omega) (Nat.le_trans (Nat.le_of_lt (unhide DU).rb.lt.2) (by simp)) ?_
            intro g9 c9 u9 o9 gr9
            have DB := hide ((unhide DU).below (one_more u (.cells #[.int .i64 nm, .string ⟨#[]⟩, .string ⟨#[]⟩] 32)))
            have NB : (.slice y.a y.ps.length y.c : Value).ownBlock ≠ some bd := row_ne (unhide DB).bx (unhide DB).ow (by decide) rfl
            have NR : (.slice y.a y.ps.length y.c : Value).ownBlock ≠ some w.heap.size := row_ne (unhide DB).rb (unhide DB).ow (by decide) rfl
            have LB : ∀ g, (.slice y.a y.ps.length y.c : Value).ownBlock = some g → w.heap.size ≤ g := fun g e => (World.ownsRow.lt (unhide DB).ow g e).1
            have M9 := hide (moved_row (unhide DB).m gr9 hc LB hs)
            have B9 := hide ((unhide DB).bx.kept gr9 (Ne.symm NB))
            have R9 := hide ((unhide DB).rb.kept gr9 (Ne.symm NR))
            have O9 := hide o9
            have bc9 := (unhide B9).c1
            have fr9 := (unhide B9).free 1
            clear o9 NB NR LB
            refine hK.out _ _ trivial (fun hHeld => ?_)
            clear hK K
            try simp only [oQ7, Act.put, List.setIfInBounds_toArray, List.set_cons_zero, List.set_cons_succ]
            refine wpAnyH_take (i := 8) (oi := oQ8) (v := .pointer (some ⟨bd, 1, none⟩)) rfl (by kernel_rfl) (by kernel_rfl) (by kernel_rfl) (fun _ _ _ h => h) (Or.inl ⟨by rfl, fun w hSw => ?_⟩) hHeld ?_
            · (try dsimp only at hSw)
              unfold oQ8
              go_simp
            try simp only [oQ8, Act.put, List.setIfInBounds_toArray, List.set_cons_zero, List.set_cons_succ]
            refine wpAnyH_ready (rs := [9]) (by kernel_rfl) (by simp) ?_
            refine AllReadyH.cons (o := oQ9) rfl (fun K hK => ?_) AllReadyH.nil
            unfold oQ9
            go_simp
            refine hK.out _ _ trivial (fun hHeld => ?_)
            clear hK K
            try simp only [oQ9, Act.put, List.setIfInBounds_toArray, List.set_cons_zero, List.set_cons_succ]
            refine wpAnyH_done (by kernel_rfl) ?_ _
            have s1 := bc_set1 (unhide B9) (.slice (some ⟨g9, 0, none⟩) (y.ps.length + 1) c9)
            have y4 : (y.ps ++ [(nm, (⟨#[]⟩ : ByteArray), (⟨#[]⟩ : ByteArray))]).length = y.ps.length + 1 := by simp
            have NB9 : (Value.slice (some ⟨g9, 0, none⟩) (y.ps.length + 1) c9).ownBlock ≠ some bd := row_ne (unhide B9) (unhide O9) (by decide) rfl
            have D9 := hide (show Dv w0 w (u9.setCell ⟨bd, 1, none⟩ (.slice (some ⟨g9, 0, none⟩) (y.ps.length + 1) c9)) c bd a len cap ⟨y.room, some ⟨g9, 0, none⟩, c9, y.ps ++ [(nm, ⟨#[]⟩, ⟨#[]⟩)]⟩ from
              ⟨moved_grown (unhide M9) s1.2 hc (unhide B9).lt.1 hs, by show Bc _ _ _ _ (.slice _ (y.ps ++ _).length _); rw [y4]; exact s1.1, by
                have o := World.ownsRow.kept (unhide O9) s1.2 (.inr NB9)
                unfold OwD
                simp only [y4]
                rw [flat_1]
                exact o, ⟨by show (y.ps ++ _).length ≤ 23; rw [y4]; omega, by show sumZ (y.ps ++ _) ≤ 60000; rw [DiskH14.sumZ_append]; exact sm.2⟩, (unhide R9).kept s1.2 (by have := nb; simpa using this.symm), nb⟩)
            clear s1 NB9 bc9 fr9 bcU bcB bcD bcA b0 b1 f0 f1
            obtain ⟨X, hX⟩ : ∃ X : Dx, X = ⟨y.room, some ⟨g9, 0, none⟩, c9, y.ps ++ [(nm, ⟨#[]⟩, ⟨#[]⟩)]⟩ := ⟨_, rfl⟩
            rw [← hX] at D9
            clear hX
            generalize u9.setCell ⟨bd, 1, none⟩ (.slice (some ⟨g9, 0, none⟩) (y.ps.length + 1) c9) = vv at *
            have D7 := D9
            have b0 := (unhide D7).bx.c0
            have b1 := (unhide D7).bx.c1
            have r0 := (unhide D7).rb.c0
            have r1 := (unhide D7).rb.c1
            have f0 := (unhide D7).rb.free 0
            have f1 := (unhide D7).rb.free 1
            have s0 := (unhide D7).rb.set0 (.int .i64 X.room)
            have s1 := bc_set1 s0.1 (.slice X.a X.ps.length X.c)
            have ST := hide (grow_grow s0.2 s1.2)
            have EM := hide (moved_grown (unhide D7).m (unhide ST) hc (Nat.le_refl _) hs)
            have EO := hide (World.ownsRow.kept (unhide D7).ow (unhide ST) (.inr (row_ne (unhide D7).rb (unhide D7).ow (by decide) rfl)))
            have SM := hide (unhide D7).sm
            clear s0 s1
            go_wp2
            refine bodyPost_ret (v := .agg #[.int .i64 X.room, .slice X.a X.ps.length X.c]) (by simp [results, Try.results20, go_sem, r0, r1]) rfl ⟨X, unhide SM, rfl, unhide EO, unhide EM⟩
          · unfold oQ4
            go_simp
            go_wp2_with fail
            refine (pick w0 (v.drew.alloc (.cells #[.int .i64 (-1), .int .i64 0, .int .i64 22, .int .i64 21] 3)) c a len cap v.drew.heap.size 4 (of4 (-1) 0 22 21) hl (unhide HC) (unhide DA).m.1 (by omega) (by omega) (by simp) (show v.heap.size ≠ c by omega) (fun j hj => of4_cells v.drew _ (-1) 0 22 21 j hj)).mono ?_
            rintro e u ⟨⟨j, hj, rfl⟩, mv⟩
            have DU := hide ((unhide DA).moved mv hc)
            generalize of4 (-1) 0 22 21 j = nm at *
            have bcU := (unhide DU).bx.c1
            have bcB : (u.alloc (.cells #[.int .i64 nm, .string ⟨#[]⟩, .string ⟨#[]⟩] 32)).cell? ⟨bd, 1, none⟩ = some (.slice y.a y.ps.length y.c) := ((one_more u (.cells #[.int .i64 nm, .string ⟨#[]⟩, .string ⟨#[]⟩] 32)).cell (p := ⟨bd, 1, none⟩) (unhide DU).bx.lt.2).trans bcU
            clear mv hj
            go_wp2_with fail
            refine hK.out _ _ trivial (fun hHeld => ?_)
            clear hK K
            try simp only [oQ4, Act.put, List.setIfInBounds_toArray, List.set_cons_zero, List.set_cons_succ]
            refine wpAnyH_take (i := 5) (oi := oQ5) (v := .agg #[.int .i64 nm, .string ⟨#[]⟩, .string ⟨#[]⟩]) rfl (by kernel_rfl) (by kernel_rfl) (by kernel_rfl) (fun _ _ _ h => h) (Or.inl ⟨by rfl, fun w hSw => ?_⟩) hHeld ?_
            · (try dsimp only at hSw)
              unfold oQ5
              go_simp
            try simp only [oQ5, Act.put, List.setIfInBounds_toArray, List.set_cons_zero, List.set_cons_succ]
            refine wpAnyH_ready (rs := [1, 6]) (by kernel_rfl) (by simp) ?_
            refine AllReadyH.cons (o := oQ1) rfl (fun K hK => ?_) (AllReadyH.cons (o := oQ6) rfl (fun K hK => ?_) AllReadyH.nil)
            · unfold oQ1
              go_simp
              refine hK.out _ _ trivial (fun hHeld => ?_)
              clear hK K
              try simp only [oQ1, Act.put, List.setIfInBounds_toArray, List.set_cons_zero, List.set_cons_succ]
              refine wpAnyH_ready (rs := [6]) (by kernel_rfl) (by simp) ?_
              refine AllReadyH.cons (o := oQ6) rfl (fun K hK => ?_) AllReadyH.nil
              unfold oQ6
              go_simp
              refine hK.out _ _ trivial (fun hHeld => ?_)
              clear hK K
              try simp only [oQ6, Act.put, List.setIfInBounds_toArray, List.set_cons_zero, List.set_cons_succ]
              refine wpAnyH_ready (rs := [7]) (by kernel_rfl) (by simp) ?_
              refine AllReadyH.cons (o := oQ7) rfl (fun K hK => ?_) AllReadyH.nil
              refine step_app (u.alloc (.cells #[.int .i64 nm, .string ⟨#[]⟩, .string ⟨#[]⟩] 32)) (by rfl) _ _ 24 32 (by rfl) (.agg #[.int .i64 0, .string ByteArray.empty, .string ByteArray.empty]) 3 40 Try.underlying24 HelpF14.info2 rfl (by decide) (by decide) w.heap.size (.slice y.a y.ps.length y.c) y.ps.length (flatF y.ps) u.heap.size [.int .i64 nm, .string ⟨#[]⟩, .string ⟨#[]⟩] (by rfl) (by rfl) (row_step (W := u) (unhide DU).ow (one_more u (.cells #[.int .i64 nm, .string ⟨#[]⟩, .string ⟨#[]⟩] 32))) rfl (litm u _ _ _ (by rfl)) (by simp [Value.oneCell']) (by omega) (Nat.le_trans (Nat.le_of_lt (unhide DU).rb.lt.2) (by simp)) ?_
              intro g9 c9 u9 o9 gr9
              have DB := hide ((unhide DU).below (one_more u (.cells #[.int .i64 nm, .string ⟨#[]⟩, .string ⟨#[]⟩] 32)))
              have NB : (.slice y.a y.ps.length y.c : Value).ownBlock ≠ some bd := row_ne (unhide DB).bx (unhide DB).ow (by decide) rfl
              have NR : (.slice y.a y.ps.length y.c : Value).ownBlock ≠ some w.heap.size := row_ne (unhide DB).rb (unhide DB).ow (by decide) rfl
              have LB : ∀ g, (.slice y.a y.ps.length y.c : Value).ownBlock = some g → w.heap.size ≤ g := fun g e => (World.ownsRow.lt (unhide DB).ow g e).1
              have M9 := hide (moved_row (unhide DB).m gr9 hc LB hs)
              have B9 := hide ((unhide DB).bx.kept gr9 (Ne.symm NB))
              have R9 := hide ((unhide DB).rb.kept gr9 (Ne.symm NR))
              have O9 := hide o9
              have bc9 := (unhide B9).c1
              have fr9 := (unhide B9).free 1
              clear o9 NB NR LB
              refine hK.out _ _ trivial (fun hHeld => ?_)
              clear hK K
              try simp only [oQ7, Act.put, List.setIfInBounds_toArray, List.set_cons_zero, List.set_cons_succ]
              refine wpAnyH_take (i := 8) (oi := oQ8) (v := .pointer (some ⟨bd, 1, none⟩)) rfl (by kernel_rfl) (by kernel_rfl) (by kernel_rfl) (fun _ _ _ h => h) (Or.inl ⟨by rfl, fun w hSw => ?_⟩) hHeld ?_
              · (try dsimp only at hSw)
                unfold oQ8
                go_simp
              try simp only [oQ8, Act.put, List.setIfInBounds_toArray, List.set_cons_zero, List.set_cons_succ]
              refine wpAnyH_ready (rs := [9]) (by kernel_rfl) (by simp) ?_
              refine AllReadyH.cons (o := oQ9) rfl (fun K hK => ?_) AllReadyH.nil
              unfold oQ9
              go_simp
              refine hK.out _ _ trivial (fun hHeld => ?_)
              clear hK K
              try simp only [oQ9, Act.put, List.setIfInBounds_toArray, List.set_cons_zero, List.set_cons_succ]
              refine wpAnyH_done (by kernel_rfl) ?_ _
              have s1 := bc_set1 (unhide B9) (.slice (some ⟨g9, 0, none⟩) (y.ps.length + 1) c9)
              have y4 : (y.ps ++ [(nm, (⟨#[]⟩ : ByteArray), (⟨#[]⟩ : ByteArray))]).length = y.ps.length + 1 := by simp
              have NB9 : (Value.slice (some ⟨g9, 0, none⟩) (y.ps.length + 1) c9).ownBlock ≠ some bd := row_ne (unhide B9) (unhide O9) (by decide) rfl
              have D9 := hide (show Dv w0 w (u9.setCell ⟨bd, 1, none⟩ (.slice (some ⟨g9, 0, none⟩) (y.ps.length + 1) c9)) c bd a len cap ⟨y.room, some ⟨g9, 0, none⟩, c9, y.ps ++ [(nm, ⟨#[]⟩, ⟨#[]⟩)]⟩ from
                ⟨moved_grown (unhide M9) s1.2 hc (unhide B9).lt.1 hs, by show Bc _ _ _ _ (.slice _ (y.ps ++ _).length _); rw [y4]; exact s1.1, by
                  have o := World.ownsRow.kept (unhide O9) s1.2 (.inr NB9)
                  unfold OwD
                  simp only [y4]
                  rw [flat_1]
                  exact o, ⟨by show (y.ps ++ _).length ≤ 23; rw [y4]; omega, by show sumZ (y.ps ++ _) ≤ 60000; rw [DiskH14.sumZ_append]; exact sm.2⟩, (unhide R9).kept s1.2 (by have := nb; simpa using this.symm), nb⟩)
              clear s1 NB9 bc9 fr9 bcU bcB bcD bcA b0 b1 f0 f1
              obtain ⟨X, hX⟩ : ∃ X : Dx, X = ⟨y.room, some ⟨g9, 0, none⟩, c9, y.ps ++ [(nm, ⟨#[]⟩, ⟨#[]⟩)]⟩ := ⟨_, rfl⟩
              rw [← hX] at D9
              clear hX
              generalize u9.setCell ⟨bd, 1, none⟩ (.slice (some ⟨g9, 0, none⟩) (y.ps.length + 1) c9) = vv at *
              have D7 := D9
              have b0 := (unhide D7).bx.c0
              have b1 := (unhide D7).bx.c1
              have r0 := (unhide D7).rb.c0
              have r1 := (unhide D7).rb.c1
              have f0 := (unhide D7).rb.free 0
              have f1 := (unhide D7).rb.free 1
              have s0 := (unhide D7).rb.set0 (.int .i64 X.room)
              have s1 := bc_set1 s0.1 (.slice X.a X.ps.length X.c)
              have ST := hide (grow_grow s0.2 s1.2)
              have EM := hide (moved_grown (unhide D7).m (unhide ST) hc (Nat.le_refl _) hs)
              have EO := hide (World.ownsRow.kept (unhide D7).ow (unhide ST) (.inr (row_ne (unhide D7).rb (unhide D7).ow (by decide) rfl)))
              have SM := hide (unhide D7).sm
              clear s0 s1
              go_wp2
              refine bodyPost_ret (v := .agg #[.int .i64 X.room, .slice X.a X.ps.length X.c]) (by simp [results, Try.results20, go_sem, r0, r1]) rfl ⟨X, unhide SM, rfl, unhide EO, unhide EM⟩
            · unfold oQ6
              go_simp
              refine hK.out _ _ trivial (fun hHeld => ?_)
              clear hK K
              try simp only [oQ6, Act.put, List.setIfInBounds_toArray, List.set_cons_zero, List.set_cons_succ]
              refine wpAnyH_ready (rs := [1]) (by kernel_rfl) (by simp) ?_
              refine AllReadyH.cons (o := oQ1) rfl (fun K hK => ?_) AllReadyH.nil
              unfold oQ1
              go_simp
              refine hK.out _ _ trivial (fun hHeld => ?_)
              clear hK K
              try simp only [oQ1, Act.put, List.setIfInBounds_toArray, List.set_cons_zero, List.set_cons_succ]
              refine wpAnyH_ready (rs := [7]) (by kernel_rfl) (by simp) ?_
              refine AllReadyH.cons (o := oQ7) rfl (fun K hK => ?_) AllReadyH.nil
              refine step_app (u.alloc (.cells #[.int .i64 nm, .string ⟨#[]⟩, .string ⟨#[]⟩] 32)) (by rfl) _ _ 24 32 (by rfl) (.agg #[.int .i64 0, .string ByteArray.empty, .string ByteArray.empty]) 3 40 Try.underlying24 HelpF14.info2 rfl (by decide) (by decide) w.heap.size (.slice y.a y.ps.length y.c) y.ps.length (flatF y.ps) u.heap.size [.int .i64 nm, .string ⟨#[]⟩, .string ⟨#[]⟩] (by rfl) (by rfl) (row_step (W := u) (unhide DU).ow (one_more u (.cells #[.int .i64 nm, .string ⟨#[]⟩, .string ⟨#[]⟩] 32))) rfl (litm u _ _ _ (by rfl)) (by simp [Value.oneCell']) (by omega) (Nat.le_trans (Nat.le_of_lt (unhide DU).rb.lt.2) (by simp)) ?_
              intro g9 c9 u9 o9 gr9
              have DB := hide ((unhide DU).below (one_more u (.cells #[.int .i64 nm, .string ⟨#[]⟩, .string ⟨#[]⟩] 32)))
              have NB : (.slice y.a y.ps.length y.c : Value).ownBlock ≠ some bd := row_ne (unhide DB).bx (unhide DB).ow (by decide) rfl
              have NR : (.slice y.a y.ps.length y.c : Value).ownBlock ≠ some w.heap.size := row_ne (unhide DB).rb (unhide DB).ow (by decide) rfl
              have LB : ∀ g, (.slice y.a y.ps.length y.c : Value).ownBlock = some g → w.heap.size ≤ g := fun g e => (World.ownsRow.lt (unhide DB).ow g e).1
              have M9 := hide (moved_row (unhide DB).m gr9 hc LB hs)
              have B9 := hide ((unhide DB).bx.kept gr9 (Ne.symm NB))
              have R9 := hide ((unhide DB).rb.kept gr9 (Ne.symm NR))
              have O9 := hide o9
              have bc9 := (unhide B9).c1
              have fr9 := (unhide B9).free 1
              clear o9 NB NR LB
              refine hK.out _ _ trivial (fun hHeld => ?_)
              clear hK K
              try simp only [oQ7, Act.put, List.setIfInBounds_toArray, List.set_cons_zero, List.set_cons_succ]
              refine wpAnyH_take (i := 8) (oi := oQ8) (v := .pointer (some ⟨bd, 1, none⟩)) rfl (by kernel_rfl) (by kernel_rfl) (by kernel_rfl) (fun _ _ _ h => h) (Or.inl ⟨by rfl, fun w hSw => ?_⟩) hHeld ?_
              · (try dsimp only at hSw)
                unfold oQ8
                go_simp
              try simp only [oQ8, Act.put, List.setIfInBounds_toArray, List.set_cons_zero, List.set_cons_succ]
              refine wpAnyH_ready (rs := [9]) (by kernel_rfl) (by simp) ?_
              refine AllReadyH.cons (o := oQ9) rfl (fun K hK => ?_) AllReadyH.nil
              unfold oQ9
              go_simp
              refine hK.out _ _ trivial (fun hHeld => ?_)
              clear hK K
              try simp only [oQ9, Act.put, List.setIfInBounds_toArray, List.set_cons_zero, List.set_cons_succ]
              refine wpAnyH_done (by kernel_rfl) ?_ _
              have s1 := bc_set1 (unhide B9) (.slice (some ⟨g9, 0, none⟩) (y.ps.length + 1) c9)
              have y4 : (y.ps ++ [(nm, (⟨#[]⟩ : ByteArray), (⟨#[]⟩ : ByteArray))]).length = y.ps.length + 1 := by simp
              have NB9 : (Value.slice (some ⟨g9, 0, none⟩) (y.ps.length + 1) c9).ownBlock ≠ some bd := row_ne (unhide B9) (unhide O9) (by decide) rfl
              have D9 := hide (show Dv w0 w (u9.setCell ⟨bd, 1, none⟩ (.slice (some ⟨g9, 0, none⟩) (y.ps.length + 1) c9)) c bd a len cap ⟨y.room, some ⟨g9, 0, none⟩, c9, y.ps ++ [(nm, ⟨#[]⟩, ⟨#[]⟩)]⟩ from
                ⟨moved_grown (unhide M9) s1.2 hc (unhide B9).lt.1 hs, by show Bc _ _ _ _ (.slice _ (y.ps ++ _).length _); rw [y4]; exact s1.1, by
                  have o := World.ownsRow.kept (unhide O9) s1.2 (.inr NB9)
                  unfold OwD
                  simp only [y4]
                  rw [flat_1]
                  exact o, ⟨by show (y.ps ++ _).length ≤ 23; rw [y4]; omega, by show sumZ (y.ps ++ _) ≤ 60000; rw [DiskH14.sumZ_append]; exact sm.2⟩, (unhide R9).kept s1.2 (by have := nb; simpa using this.symm), nb⟩)
              clear s1 NB9 bc9 fr9 bcU bcB bcD bcA b0 b1 f0 f1
              obtain ⟨X, hX⟩ : ∃ X : Dx, X = ⟨y.room, some ⟨g9, 0, none⟩, c9, y.ps ++ [(nm, ⟨#[]⟩, ⟨#[]⟩)]⟩ := ⟨_, rfl⟩
              rw [← hX] at D9
              clear hX
              generalize u9.setCell ⟨bd, 1, none⟩ (.slice (some ⟨g9, 0, none⟩) (y.ps.length + 1) c9) = vv at *
              have D7 := D9
              have b0 := (unhide D7).bx.c0
              have b1 := (unhide D7).bx.c1
              have r0 := (unhide D7).rb.c0
              have r1 := (unhide D7).rb.c1
              have f0 := (unhide D7).rb.free 0
              have f1 := (unhide D7).rb.free 1
              have s0 := (unhide D7).rb.set0 (.int .i64 X.room)
              have s1 := bc_set1 s0.1 (.slice X.a X.ps.length X.c)
              have ST := hide (grow_grow s0.2 s1.2)
              have EM := hide (moved_grown (unhide D7).m (unhide ST) hc (Nat.le_refl _) hs)
              have EO := hide (World.ownsRow.kept (unhide D7).ow (unhide ST) (.inr (row_ne (unhide D7).rb (unhide D7).ow (by decide) rfl)))
              have SM := hide (unhide D7).sm
              clear s0 s1
              go_wp2
              refine bodyPost_ret (v := .agg #[.int .i64 X.room, .slice X.a X.ps.length X.c]) (by simp [results, Try.results20, go_sem, r0, r1]) rfl ⟨X, unhide SM, rfl, unhide EO, unhide EM⟩
      · have qc : (sw == 1) = false := by simpa using q1
        clear q1
        have D7 := D2
        clear b0 b1 f0 f1
        have b0 := (unhide D7).bx.c0
        have b1 := (unhide D7).bx.c1
        have r0 := (unhide D7).rb.c0
        have r1 := (unhide D7).rb.c1
        have f0 := (unhide D7).rb.free 0
        have f1 := (unhide D7).rb.free 1
        have s0 := (unhide D7).rb.set0 (.int .i64 y.room)
        have s1 := bc_set1 s0.1 (.slice y.a y.ps.length y.c)
        have ST := hide (grow_grow s0.2 s1.2)
        have EM := hide (moved_grown (unhide D7).m (unhide ST) hc (Nat.le_refl _) hs)
        have EO := hide (World.ownsRow.kept (unhide D7).ow (unhide ST) (.inr (row_ne (unhide D7).rb (unhide D7).ow (by decide) rfl)))
        have SM := hide (unhide D7).sm
        clear s0 s1
        go_wp2
        refine bodyPost_ret (v := .agg #[.int .i64 y.room, .slice y.a y.ps.length y.c]) (by simp [results, Try.results20, go_sem, r0, r1]) rfl ⟨y, unhide SM, rfl, unhide EO, unhide EM⟩

end Go.Proofs.Ytejbbhjhinkcdaa.DrawD14
