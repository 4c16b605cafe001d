/- Disks: what DrawDiskAppend draws. -/
import Derived.Test.YtejbbhjhinkcdaaDrawC14
import Derived.Laws.MakeOwn
import Derived.Deep.OwnRows
namespace Go.Proofs.Ytejbbhjhinkcdaa.DrawA14
open Go.ChangeShapes Go.WideShapes Go.ChangeAt Go.RowKit Draw Draw11 DrawS11 DrawT14 DrawR14 DrawD14
open DiskH14 (sumZ one_more)
open DkH14 (Dx RdD OwD Bc row_step)
open App14 (row_base row_kept kcell grow_grow)
open SLess14 (bc_set1)
open SOk14 (OkD okN)
open DrawC14 (row_off)
set_option linter.unusedVariables false
set_option linter.unusedSimpArgs false
abbrev oR0 : Oper := { dst := some 23, op := Go.Op.fieldAddr 26 (Go.Operand.tmp 6) 0, type := 0, pos := "l14_disk.go:231", after := #[], guard := none }
abbrev oR1 : Oper := { dst := some 24, op := Go.Op.load 3 (Go.Operand.tmp 23), type := 3, pos := "l14_disk.go:231", after := #[{ on := 0, ground := Go.Ground.data }], guard := none }
abbrev oR2 : Oper := { dst := some 25, op := Go.Op.load 26 (Go.Operand.tmp 6), type := 26, pos := "l14_disk.go:231", after := #[], guard := none }
abbrev oR3 : Oper := { dst := some 26, op := Go.Op.call { callee := Go.Callee.value (Go.Operand.func 24), args := #[Go.Operand.tmp 25], argTypes := #[26] }, type := 3, pos := "l14_disk.go:231", after := #[{ on := 2, ground := Go.Ground.data }], guard := none }
abbrev oR4 : Oper := { dst := some 27, op := Go.Op.binOp Go.BinOp.sub 3 (Go.Operand.tmp 24) (Go.Operand.tmp 26) 3, type := 3, pos := "l14_disk.go:231", after := #[{ on := 1, ground := Go.Ground.data }, { on := 3, ground := Go.Ground.data }], guard := none }
abbrev oR5 : Oper := { dst := some 28, op := Go.Op.move (Go.Operand.tmp 5), type := 40, pos := "l14_disk.go:231", after := #[], guard := none }
abbrev oR6 : Oper := { dst := some 29, op := Go.Op.call { callee := Go.Callee.value (Go.Operand.func 21), args := #[Go.Operand.tmp 28, Go.Operand.const (Go.Value.int Go.IntKind.i64 2)], argTypes := #[40, 3] }, type := 3, pos := "l14_disk.go:231", after := #[{ on := 5, ground := Go.Ground.data }, { on := 3, ground := Go.Ground.chain }], guard := none }
abbrev oR7 : Oper := { dst := some 30, op := Go.Op.binOp Go.BinOp.add 3 (Go.Operand.tmp 27) (Go.Operand.tmp 29) 3, type := 3, pos := "l14_disk.go:231", after := #[{ on := 4, ground := Go.Ground.data }, { on := 6, ground := Go.Ground.data }], guard := none }
abbrev oR8 : Oper := { dst := some 31, op := Go.Op.makeSlice 22 (Go.Operand.tmp 30) (Go.Operand.tmp 30), type := 22, pos := "l14_disk.go:231", after := #[{ on := 7, ground := Go.Ground.data }, { on := 7, ground := Go.Ground.data }], guard := none }
abbrev oR9 : Oper := { dst := some 32, op := Go.Op.convert 22 9 (Go.Operand.tmp 31), type := 9, pos := "l14_disk.go:231", after := #[{ on := 8, ground := Go.Ground.data }], guard := none }
abbrev oR10 : Oper := { dst := some 8, op := Go.Op.assign (Go.Operand.tmp 32), type := 9, pos := "l14_disk.go:231", after := #[{ on := 9, ground := Go.Ground.data }, { on := 6, ground := Go.Ground.chain }, { on := 0, ground := Go.Ground.phase }, { on := 1, ground := Go.Ground.phase }, { on := 2, ground := Go.Ground.phase }, { on := 3, ground := Go.Ground.phase }, { on := 4, ground := Go.Ground.phase }, { on := 5, ground := Go.Ground.phase }, { on := 6, ground := Go.Ground.phase }, { on := 7, ground := Go.Ground.phase }, { on := 8, ground := Go.Ground.phase }, { on := 9, ground := Go.Ground.phase }], guard := none }
/-- A world in which the disk is drawn and kept in its box. -/
structure Av (w w1 u1 W : World) (c bd : Nat) (a : Option Addr) (len cap : Nat) (y : Dx) : Prop where
  cu : Cur w1 W c a len cap
  bx : Bc W w.heap.size bd (.int .i64 y.room) (.slice y.a y.ps.length y.c)
  rb : Bc W w.heap.size w.heap.size (.int .i64 0) (.slice none 0 0)
  ow : OwD W u1.heap.size y
  nb : bd ≠ c
  nr : w.heap.size ≠ c
  ne : bd ≠ w.heap.size
  hi : c < u1.heap.size
section
variable {w w1 u1 W W' : World} {c bd : Nat} {a : Option Addr} {len cap : Nat} {y : Dx}
theorem Av.moved (h : Av w w1 u1 W c bd a len cap y) (k : Moved w1 W W' c a len cap) : Av w w1 u1 W' c bd a len cap y :=
  ⟨k.1, row_off h.bx k.2 (by have := h.nb; simpa [Value.ownBlock] using this), row_off h.rb k.2 (by have := h.nr; simpa [Value.ownBlock] using this), row_only h.ow k.2 h.hi, h.nb, h.nr, h.ne, h.hi⟩
theorem Av.below (h : Av w w1 u1 W c bd a len cap y) (k : Below W.heap.size W W') : Av w w1 u1 W' c bd a len cap y :=
  ⟨cur_below h.cu k, h.bx.below k h.bx.lt.2, h.rb.below k h.rb.lt.2, row_step h.ow k, h.nb, h.nr, h.ne, h.hi⟩
theorem Av.drew (h : Av w w1 u1 W c bd a len cap y) : Av w w1 u1 W.drew c bd a len cap y := h.below (Below.refl _ _).drew
end
set_option maxRecDepth 100000 in
set_option maxHeartbeats 4000000 in
theorem drawAppend (w : World) (a : Option Addr) (len cap : Nat) (hl : len ≤ 1048576) (hcode : CodeAt w a len) :
    Calls Try.prog 12 #[.slice a len cap] w fun e w' => ∃ (y : Dx) (nm : Int) (s : ByteArray), Sm y ∧ (-1 ≤ nm ∧ nm ≤ 22) ∧ s.size ≤ 60001 ∧ e = .returned (.tuple #[.agg #[.int .i64 y.room, .slice y.a y.ps.length y.c], .int .i64 nm, .string s]) ∧ OwD w' w.heap.size y ∧ Below w.heap.size w w' := by
  obtain ⟨w1, hw1⟩ : ∃ w1, Hid (w1 = w.alloc (.cells #[.int .i64 0, .slice none 0 0] 26)) := ⟨_, rfl⟩
  have b1 := hide (show Below w.heap.size w w1 by rw [unhide hw1]; exact one_more _ _)
  have R1 := hide (show Bc w1 w.heap.size w.heap.size (.int .i64 0) (.slice none 0 0) by rw [unhide hw1]; exact Bc.made _ _ (Nat.le_refl _) rfl)
  have HC := hide (show CodeAt w1 a len from hcode.below (unhide b1))
  have s1 : w1.heap.size = w.heap.size + 1 := by rw [unhide hw1]; simp
  clear hcode
  go_enter Try.func12, Try.ntmps12
  go_wp2_with fail
  rw [← unhide hw1]
  clear hw1
  refine (new w1 a len cap hl (unhide HC)).mono ?_
  rintro e u1 ⟨c, rfl, cur⟩
  have CU := hide cur
  have chi := cur.hi
  have clo := cur.lo
  clear cur
  go_wp2_with fail
  refine (drawDisk w1 u1 c a len cap hl (unhide HC) (unhide CU)).mono ?_
  rintro e u2 ⟨y, sm, rfl, oy, mv⟩
  have CV0 := hide mv.1
  have u12 := mv.2.1
  have RV0 := hide (show Bc u2 w.heap.size w.heap.size (.int .i64 0) (.slice none 0 0) from row_off (show Bc u1 w.heap.size w.heap.size (.int .i64 0) (.slice none 0 0) from (unhide R1).below (unhide CU).bel (by omega)) mv.2 (by simp [Value.ownBlock]; omega))
  obtain ⟨v, hv⟩ : ∃ v, Hid (v = u2.alloc (.cells #[.int .i64 y.room, .slice y.a y.ps.length y.c] 26)) := ⟨_, rfl⟩
  have bv := hide (show Below u2.heap.size u2 v by rw [unhide hv]; exact one_more _ _)
  have A1 := hide (show Av w w1 u1 v c u2.heap.size a len cap y from ⟨cur_below (unhide CV0) (unhide bv), by rw [unhide hv]; exact Bc.made _ _ (by omega) rfl, Bc.below (unhide RV0) (unhide bv) (unhide RV0).lt.2, row_step oy (unhide bv), by omega, by omega, by omega, chi⟩)
  clear mv oy CV0 RV0 R1 CU bv
  go_wp2_with fail
  rw [← unhide hv]
  clear hv
  generalize u2.heap.size = bd at *
  refine (drawName w1 v c a len cap hl (unhide HC) (unhide A1).cu).mono ?_
  rintro e v1 ⟨⟨nm, n0, n1, rfl⟩, mv⟩
  have A2 := hide ((unhide A1).moved mv)
  clear A1 mv
  go_wp2_with fail
  refine (drawText w1 v1 c a len cap 9 hl (by omega) (unhide HC) (unhide A2).cu).mono ?_
  rintro e v2 ⟨⟨s, sz, rfl⟩, mv⟩
  have A3 := hide ((unhide A2).moved mv)
  clear A2 mv
  go_wp2_with fail
  refine (once w1 v2 c a len cap 5 hl (unhide HC) (unhide A3).cu (by omega)).mono ?_
  rintro e v3 ⟨⟨t, rfl⟩, mv⟩
  have A4 := hide ((unhide A3).moved mv)
  clear A3 mv
  cases t with
  | false =>
    have sz9 : s.size ≤ 60001 := by omega
    have A9 := A4
    have p0 := (unhide A9).bx.c0
    have p1 := (unhide A9).bx.c1
    have q0 := (unhide A9).rb.c0
    have q1 := (unhide A9).rb.c1
    have f0 := (unhide A9).rb.free 0
    have f1 := (unhide A9).rb.free 1
    have t0 := (unhide A9).rb.set0 (.int .i64 y.room)
    have t1 := bc_set1 t0.1 (.slice y.a y.ps.length y.c)
    have ST := hide (grow_grow t0.2 t1.2)
    have wl := (unhide A9).rb.lt.2
    have EO := hide (row_base (row_kept (unhide A9).ow (unhide ST) (by omega)) (show w.heap.size ≤ u1.heap.size by omega))
    have EB := hide (((unhide b1).trans ((unhide A9).cu.bel.mono (by omega))).grown (unhide ST) (Nat.le_of_lt wl) (fun j hj => by injection hj with hj; omega))
    clear t0 t1
    go_wp2
    refine bodyPost_ret (v := .tuple #[.agg #[.int .i64 y.room, .slice y.a y.ps.length y.c], .int .i64 nm, .string s]) (by simp [results, Try.results12, go_sem, q0, q1]) rfl ⟨y, nm, s, sm, ⟨n0, n1⟩, sz9, rfl, unhide EO, unhide EB⟩
  | true =>
    have c0 := (unhide A4).bx.c0
    have c1 := (unhide A4).bx.c1
    go_wp2_with fail
    refine (SOk14.sDiskOk v3 y ((unhide A4).ow.rd (by have := sm.1; omega)) (by have := sm.2; omega)).mono ?_
    rintro e v4 ⟨rfl, k⟩
    have A5 := hide ((unhide A4).below k)
    clear A4 k c0 c1
    by_cases ok : OkD y.room y.ps
    · have dk : decide (OkD y.room y.ps) = true := by simpa using ok
      rw [dk]
      have rz : 0 ≤ y.room - sumZ y.ps ∧ y.room ≤ 60000 ∧ 0 ≤ y.room := ⟨by have := ok.2.2.1; omega, ok.1.2, ok.1.1⟩
      clear dk ok
      obtain ⟨i0, hi, hz0, hz1, hz2⟩ := info_parts ByteH.info8
      have K0 : v4.cell? ⟨bd, 0, none⟩ = some (.int .i64 y.room) ∧ v4.cell? ⟨bd, 1, none⟩ = some (.slice y.a y.ps.length y.c) := ⟨(unhide A5).bx.c0, (unhide A5).bx.c1⟩
      go_wp2_with fail
      refine wp_region_held_drew (S := (fun w' => w'.cell? ⟨bd, 0, none⟩ = some (.int .i64 y.room) ∧ w'.cell? ⟨bd, 1, none⟩ = some (.slice y.a y.ps.length y.c))) (by kernel_rfl) K0 (fun hHeld => ?_)
      refine wpAnyH_take (i := 0) (oi := oR0) (v := .pointer (some ⟨bd, 0, none⟩)) rfl (by kernel_rfl) (by kernel_rfl) (by kernel_rfl) (fun _ _ _ h => h) (Or.inl ⟨by rfl, fun w hSw => ?_⟩) hHeld ?_
      · (try dsimp only at hSw)
        unfold oR0
        go_simp
      try simp only [oR0, Act.put, List.setIfInBounds_toArray, List.set_cons_zero, List.set_cons_succ]
      refine wpAnyH_take (i := 1) (oi := oR1) (v := .int .i64 y.room) rfl (by kernel_rfl) (by kernel_rfl) (by kernel_rfl) (fun _ _ _ h => h) (Or.inl ⟨by rfl, fun w hSw => ?_⟩) hHeld ?_
      · (try dsimp only at hSw)
        unfold oR1
        go_simp
      try simp only [oR1, Act.put, List.setIfInBounds_toArray, List.set_cons_zero, List.set_cons_succ]
      refine wpAnyH_take (i := 2) (oi := oR2) (v := .agg #[.int .i64 y.room, .slice y.a y.ps.length y.c]) rfl (by kernel_rfl) (by kernel_rfl) (by kernel_rfl) (fun _ _ _ h => h) (Or.inl ⟨by rfl, fun w hSw => ?_⟩) hHeld ?_
      · (try dsimp only at hSw)
        unfold oR2
        go_simp
      try simp only [oR2, Act.put, List.setIfInBounds_toArray, List.set_cons_zero, List.set_cons_succ]
      refine wpAnyH_take (i := 5) (oi := oR5) (v := .pointer (some ⟨c, 0, none⟩)) rfl (by kernel_rfl) (by kernel_rfl) (by kernel_rfl) (fun _ _ _ h => h) (Or.inl ⟨by rfl, fun w hSw => ?_⟩) hHeld ?_
      · (try dsimp only at hSw)
        unfold oR5
        go_simp
      try simp only [oR5, Act.put, List.setIfInBounds_toArray, List.set_cons_zero, List.set_cons_succ]
      refine wpAnyH_ready (rs := [3]) (by kernel_rfl) (by simp) ?_
      refine AllReadyH.cons (o := oR3) rfl (fun K hK => ?_) AllReadyH.nil
      unfold oR3
      go_simp
      go_wp2_with fail
      refine (SDk14.sSize v4.drew y (show RdD v4.drew y from (unhide A5).drew.ow.rd (by have := sm.1; omega)) (by have := sm.2; omega)).mono ?_
      rintro e v5 ⟨rfl, k⟩
      have A6 := hide ((unhide A5).drew.below k)
      have K1 : v5.cell? ⟨bd, 0, none⟩ = some (.int .i64 y.room) ∧ v5.cell? ⟨bd, 1, none⟩ = some (.slice y.a y.ps.length y.c) := ⟨(unhide A6).bx.c0, (unhide A6).bx.c1⟩
      have wr1 : IntKind.i64.wrap (y.room - (sumZ y.ps : Int)) = y.room - (sumZ y.ps : Int) := by rw [IntKind.wrap_i64]; omega
      have wr1' : wrap64 (y.room - (sumZ y.ps : Int)) = y.room - (sumZ y.ps : Int) := by rw [wrap64]; omega
      clear k
      go_wp2_with fail
      refine hK.out _ _ K1 (fun hHeld => ?_)
      clear hK K
      try simp only [oR3, Act.put, List.setIfInBounds_toArray, List.set_cons_zero, List.set_cons_succ]
      refine wpAnyH_take (i := 4) (oi := oR4) (v := .int .i64 (y.room - sumZ y.ps)) rfl (by kernel_rfl) (by kernel_rfl) (by kernel_rfl) (fun _ _ _ h => h) (Or.inl ⟨by rfl, fun w hSw => ?_⟩) hHeld ?_
      · (try dsimp only at hSw)
        unfold oR4
        go_simp
      try simp only [oR4, Act.put, List.setIfInBounds_toArray, List.set_cons_zero, List.set_cons_succ]
      refine wpAnyH_ready (rs := [6]) (by kernel_rfl) (by simp) ?_
      refine AllReadyH.cons (o := oR6) rfl (fun K hK => ?_) AllReadyH.nil
      unfold oR6
      go_simp
      go_wp2_with fail
      refine (below w1 v5 c a len cap 2 hl (unhide HC) (unhide A6).cu (by omega)).mono ?_
      rintro e v6 ⟨⟨r, r0, r1, rfl⟩, mv⟩
      have A7 := hide ((unhide A6).moved mv)
      have K2 : v6.cell? ⟨bd, 0, none⟩ = some (.int .i64 y.room) ∧ v6.cell? ⟨bd, 1, none⟩ = some (.slice y.a y.ps.length y.c) := ⟨(unhide A7).bx.c0, (unhide A7).bx.c1⟩
      obtain ⟨m, hm⟩ : ∃ m : Nat, (m : Int) = y.room - (sumZ y.ps : Int) + r := ⟨(y.room - (sumZ y.ps : Int) + r).toNat, by omega⟩
      have wr2 : IntKind.i64.wrap (y.room - (sumZ y.ps : Int) + r) = (m : Int) := by rw [IntKind.wrap_i64]; omega
      have wr2' : wrap64 (y.room - (sumZ y.ps : Int) + r) = (m : Int) := by rw [wrap64]; omega
      have mb : m ≤ 60001 := by omega
      clear mv hm
      go_wp2_with fail
      refine hK.out _ _ K2 (fun hHeld => ?_)
      clear hK K
      try simp only [oR6, Act.put, List.setIfInBounds_toArray, List.set_cons_zero, List.set_cons_succ]
      refine wpAnyH_take (i := 7) (oi := oR7) (v := .int .i64 (m : Int)) rfl (by kernel_rfl) (by kernel_rfl) (by kernel_rfl) (fun _ _ _ h => h) (Or.inl ⟨by rfl, fun w hSw => ?_⟩) hHeld ?_
      · (try dsimp only at hSw)
        unfold oR7
        go_simp
      try simp only [oR7, Act.put, List.setIfInBounds_toArray, List.set_cons_zero, List.set_cons_succ]
      refine wpAnyH_ready (rs := [8]) (by kernel_rfl) (by simp) ?_
      refine AllReadyH.cons (o := oR8) rfl (fun K hK => ?_) AllReadyH.nil
      have mkr := run_make_row (P := Try.prog) 22 5 i0 (.int .u8 0) Try.underlying22 hi hz0 hz1 rfl .i64 .i64 m (by rw [hz2]; omega) (by omega) v6
      have A8 := hide ((unhide A7).below (one_more v6 (.cells (madeCells #[.int .u8 0] m) 5)))
      have K3 : (v6.alloc (.cells (madeCells #[.int .u8 0] m) 5)).cell? ⟨bd, 0, none⟩ = some (.int .i64 y.room) ∧ (v6.alloc (.cells (madeCells #[.int .u8 0] m) 5)).cell? ⟨bd, 1, none⟩ = some (.slice y.a y.ps.length y.c) := ⟨(unhide A8).bx.c0, (unhide A8).bx.c1⟩
      have cv := run_convert_bytes_arg (P := Try.prog) (v6.alloc (.cells (madeCells #[.int .u8 0] m) 5)) 22 5 Try.underlying22 Try.underlying5 v6.heap.size 0 m m (List.replicate m 0) (by simp) (fun i hi => by rw [Nat.zero_add, World.cell?_alloc_at _ _ _ _ rfl]; simp [madeCells, hi, Nat.mod_one, List.getD]) 9 Try.underlying9
      have SZ := hide (show (strOfNums (List.replicate m 0)).size ≤ 60001 by rw [strOfNums_size, List.length_replicate]; omega)
      generalize strOfNums (List.replicate m 0) = z at *
      unfold oR8
      go_simp
      go_wp2_with fail
      refine hK.out _ _ K3 (fun hHeld => ?_)
      clear hK K
      try simp only [oR8, Act.put, List.setIfInBounds_toArray, List.set_cons_zero, List.set_cons_succ]
      refine wpAnyH_ready (rs := [9]) (by kernel_rfl) (by simp) ?_
      refine AllReadyH.cons (o := oR9) rfl (fun K hK => ?_) AllReadyH.nil
      unfold oR9
      go_simp
      refine hK.out _ _ K3 (fun hHeld => ?_)
      clear hK K
      try simp only [oR9, Act.put, List.setIfInBounds_toArray, List.set_cons_zero, List.set_cons_succ]
      refine wpAnyH_take (i := 10) (oi := oR10) (v := .string z) rfl (by kernel_rfl) (by kernel_rfl) (by kernel_rfl) (fun _ _ _ h => h) (Or.inl ⟨by rfl, fun w hSw => ?_⟩) hHeld ?_
      · (try dsimp only at hSw)
        unfold oR10
        go_simp
      try simp only [oR10, Act.put, List.setIfInBounds_toArray, List.set_cons_zero, List.set_cons_succ]
      refine wpAnyH_done (by kernel_rfl) ?_ _
      have A9 := A8
      have sz9 := unhide SZ
      generalize v6.alloc (.cells (madeCells #[.int .u8 0] m) 5) = v8 at *
      clear K0 K1 K2 K3
      have p0 := (unhide A9).bx.c0
      have p1 := (unhide A9).bx.c1
      have q0 := (unhide A9).rb.c0
      have q1 := (unhide A9).rb.c1
      have f0 := (unhide A9).rb.free 0
      have f1 := (unhide A9).rb.free 1
      have t0 := (unhide A9).rb.set0 (.int .i64 y.room)
      have t1 := bc_set1 t0.1 (.slice y.a y.ps.length y.c)
      have ST := hide (grow_grow t0.2 t1.2)
      have wl := (unhide A9).rb.lt.2
      have EO := hide (row_base (row_kept (unhide A9).ow (unhide ST) (by omega)) (show w.heap.size ≤ u1.heap.size by omega))
      have EB := hide (((unhide b1).trans ((unhide A9).cu.bel.mono (by omega))).grown (unhide ST) (Nat.le_of_lt wl) (fun j hj => by injection hj with hj; omega))
      clear t0 t1
      go_wp2
      refine bodyPost_ret (v := .tuple #[.agg #[.int .i64 y.room, .slice y.a y.ps.length y.c], .int .i64 nm, .string z]) (by simp [results, Try.results12, go_sem, q0, q1]) rfl ⟨y, nm, z, sm, ⟨n0, n1⟩, sz9, rfl, unhide EO, unhide EB⟩
    · have dk : decide (OkD y.room y.ps) = false := by simpa using ok
      rw [dk]
      have sz9 : s.size ≤ 60001 := by omega
      have A9 := A5
      have p0 := (unhide A9).bx.c0
      have p1 := (unhide A9).bx.c1
      have q0 := (unhide A9).rb.c0
      have q1 := (unhide A9).rb.c1
      have f0 := (unhide A9).rb.free 0
      have f1 := (unhide A9).rb.free 1
      have t0 := (unhide A9).rb.set0 (.int .i64 y.room)
      have t1 := bc_set1 t0.1 (.slice y.a y.ps.length y.c)
      have ST := hide (grow_grow t0.2 t1.2)
      have wl := (unhide A9).rb.lt.2
      have EO := hide (row_base (row_kept (unhide A9).ow (unhide ST) (by omega)) (show w.heap.size ≤ u1.heap.size by omega))
      have EB := hide (((unhide b1).trans ((unhide A9).cu.bel.mono (by omega))).grown (unhide ST) (Nat.le_of_lt wl) (fun j hj => by injection hj with hj; omega))
      clear t0 t1
      go_wp2
      refine bodyPost_ret (v := .tuple #[.agg #[.int .i64 y.room, .slice y.a y.ps.length y.c], .int .i64 nm, .string s]) (by simp [results, Try.results12, go_sem, q0, q1]) rfl ⟨y, nm, s, sm, ⟨n0, n1⟩, sz9, rfl, unhide EO, unhide EB⟩
end Go.Proofs.Ytejbbhjhinkcdaa.DrawA14
