/- Disks: what DrawDiskCrash draws. -/
import Derived.Test.YtejbbhjhinkcdaaDrawD14
namespace Go.Proofs.Ytejbbhjhinkcdaa.DrawC14
open Go.ChangeShapes Go.WideShapes Go.ChangeAt Go.RowKit Draw Draw11 DrawS11 DrawT14 DrawR14 DrawD14
open DiskH14 (sumZ one_more)
open DkH14 (Dx RdD OwD Bc row_step)
open App14 (row_base row_kept kcell grow_grow)
open SLess14 (bc_set1)
set_option linter.unusedVariables false
set_option linter.unusedSimpArgs false

abbrev oP0 : Oper := { dst := some 10, op := Go.Op.load 26 (Go.Operand.tmp 5), type := 26, pos := "l14_disk.go:263", after := #[], guard := none }
abbrev oP1 : Oper := { dst := some 11, op := Go.Op.move (Go.Operand.tmp 4), type := 40, pos := "l14_disk.go:263", after := #[], guard := none }
abbrev oP2 : Oper := { dst := some 12, op := Go.Op.call { callee := Go.Callee.value (Go.Operand.func 21), args := #[Go.Operand.tmp 11, Go.Operand.const (Go.Value.int Go.IntKind.i64 14)], argTypes := #[40, 3] }, type := 3, pos := "l14_disk.go:263", after := #[{ on := 1, ground := Go.Ground.data }], guard := none }
abbrev oP3 : Oper := { dst := some 13, op := Go.Op.binOp Go.BinOp.sub 3 (Go.Operand.tmp 12) (Go.Operand.const (Go.Value.int Go.IntKind.i64 1)) 3, type := 3, pos := "l14_disk.go:263", after := #[{ on := 2, ground := Go.Ground.data }, { on := 4, ground := Go.Ground.gcOnly Go.Departure.lateStores }], guard := none }
abbrev oP4 : Oper := { dst := none, op := Go.Op.store 26 (Go.Operand.tmp 2) (Go.Operand.tmp 10), type := 0, pos := "l14_disk.go:263", after := #[{ on := 0, ground := Go.Ground.data }, { on := 2, ground := Go.Ground.chain }, { on := 0, ground := Go.Ground.phase }, { on := 1, ground := Go.Ground.textOnly Go.Departure.lateStores }, { on := 2, ground := Go.Ground.textOnly Go.Departure.lateStoresUnsure }, { on := 3, ground := Go.Ground.textOnly Go.Departure.lateStores }], guard := none }
abbrev oP5 : Oper := { dst := some 3, op := Go.Op.assign (Go.Operand.tmp 13), type := 3, pos := "l14_disk.go:263", after := #[{ on := 3, ground := Go.Ground.data }, { on := 4, ground := Go.Ground.chain }, { on := 0, ground := Go.Ground.phase }, { on := 1, ground := Go.Ground.phase }, { on := 2, ground := Go.Ground.phase }, { on := 3, ground := Go.Ground.phase }, { on := 4, ground := Go.Ground.phase }], guard := none }

/-- What a row keeps where only the cursor's block has turned. -/
theorem row_off {W W' : World} {base c : Nat} {e : TypeId} {m : Nat} {v : Value} {n : Nat} {vs : List Value} (h : W.ownsRow base e m v n vs) (o : Only c W W') (hc : v.ownBlock ≠ some c) : W'.ownsRow base e m v n vs := by
  refine ⟨h.1, ?_⟩
  rcases h.2 with h1 | ⟨g, k, cur, h1, h2, h3, h4⟩
  · exact .inl h1
  · exact .inr ⟨g, k, cur, h1, h2, (o.2 g (World.ownsRow.lt h g (by rw [h1]; rfl)).2 (fun e => hc (by rw [h1, e]; rfl))).trans h3, h4⟩

set_option maxRecDepth 100000 in
set_option maxHeartbeats 4000000 in
theorem drawCrash (w : World) (a : Option Addr) (len cap : Nat) (hl : len ≤ 1048576) (hcode : CodeAt w a len) :
    Calls Try.prog 6 #[.slice a len cap] w fun e w' => ∃ (y : Dx) (keep : Int), Sm y ∧ (-1 ≤ keep ∧ keep ≤ 12) ∧ e = .returned (.tuple #[.agg #[.int .i64 y.room, .slice y.a y.ps.length y.c], .int .i64 keep]) ∧ OwD w' w.heap.size y ∧ Below w.heap.size w w' := by
  obtain ⟨w1, hw1⟩ : ∃ w1, Hid (w1 = w.alloc (.cells #[.int .i64 0, .slice none 0 0] 26)) := ⟨_, rfl⟩
  have b1 := hide (show Below w.heap.size w w1 by rw [unhide hw1]; exact one_more _ _)
  have R1 := hide (show Bc w1 w.heap.size w.heap.size (.int .i64 0) (.slice none 0 0) by rw [unhide hw1]; exact Bc.made _ _ (Nat.le_refl _) rfl)
  have HC := hide (show CodeAt w1 a len from hcode.below (unhide b1))
  have s1 : w1.heap.size = w.heap.size + 1 := by rw [unhide hw1]; simp
  clear hcode
  go_enter Try.func6, Try.ntmps6
  go_wp2_with fail
  rw [← unhide hw1]
  clear hw1
  refine (new w1 a len cap hl (unhide HC)).mono ?_
  rintro e u1 ⟨c, rfl, cur⟩
  have CU := hide cur
  have chi := cur.hi
  have clo := cur.lo
  clear cur
  go_wp2_with fail
  refine (drawDisk w1 u1 c a len cap hl (unhide HC) (unhide CU)).mono ?_
  rintro e u2 ⟨y, sm, rfl, oy, mv⟩
  have CV0 := hide mv.1
  have u12 := mv.2.1
  have RV0 := hide (show Bc u2 w.heap.size w.heap.size (.int .i64 0) (.slice none 0 0) from row_off (show Bc u1 w.heap.size w.heap.size (.int .i64 0) (.slice none 0 0) from (unhide R1).below (unhide CU).bel (by omega)) mv.2 (by simp [Value.ownBlock]; omega))
  obtain ⟨v, hv⟩ : ∃ v, Hid (v = u2.alloc (.cells #[.int .i64 y.room, .slice y.a y.ps.length y.c] 26)) := ⟨_, rfl⟩
  have bv := hide (show Below u2.heap.size u2 v by rw [unhide hv]; exact one_more _ _)
  have CV := hide (cur_below (unhide CV0) (unhide bv))
  have BV := hide (show Bc v w.heap.size u2.heap.size (.int .i64 y.room) (.slice y.a y.ps.length y.c) by rw [unhide hv]; exact Bc.made _ _ (by omega) rfl)
  have RV := hide (Bc.below (unhide RV0) (unhide bv) (unhide RV0).lt.2)
  have OV := hide (show OwD v u1.heap.size y from row_step oy (unhide bv))
  clear mv oy CV0 RV0 R1 CU bv
  have K0 : v.cell? ⟨u2.heap.size, 0, none⟩ = some (.int .i64 y.room) ∧ v.cell? ⟨u2.heap.size, 1, none⟩ = some (.slice y.a y.ps.length y.c) := ⟨(unhide BV).c0, (unhide BV).c1⟩
  go_wp2_with fail
  rw [← unhide hv]
  clear hv
  generalize u2.heap.size = bd at *
  refine wp_region_held_drew (S := (fun w' => w'.cell? ⟨bd, 0, none⟩ = some (.int .i64 y.room) ∧ w'.cell? ⟨bd, 1, none⟩ = some (.slice y.a y.ps.length y.c))) (by kernel_rfl) K0 (fun hHeld => ?_)
  refine wpAnyH_take (i := 0) (oi := oP0) (v := .agg #[.int .i64 y.room, .slice y.a y.ps.length y.c]) rfl (by kernel_rfl) (by kernel_rfl) (by kernel_rfl) (fun _ _ _ h => h) (Or.inl ⟨by rfl, fun w hSw => ?_⟩) hHeld ?_
  · (try dsimp only at hSw)
    unfold oP0
    go_simp
  try simp only [oP0, Act.put, List.setIfInBounds_toArray, List.set_cons_zero, List.set_cons_succ]
  refine wpAnyH_take (i := 1) (oi := oP1) (v := .pointer (some ⟨c, 0, none⟩)) rfl (by kernel_rfl) (by kernel_rfl) (by kernel_rfl) (fun _ _ _ h => h) (Or.inl ⟨by rfl, fun w hSw => ?_⟩) hHeld ?_
  · (try dsimp only at hSw)
    unfold oP1
    go_simp
  try simp only [oP1, Act.put, List.setIfInBounds_toArray, List.set_cons_zero, List.set_cons_succ]
  refine wpAnyH_ready (rs := [2]) (by kernel_rfl) (by simp) ?_
  refine AllReadyH.cons (o := oP2) rfl (fun K hK => ?_) AllReadyH.nil
  unfold oP2
  go_simp
  go_wp2_with fail
  refine (below w1 v.drew c a len cap 14 hl (unhide HC) (show Cur w1 v.drew c a len cap from (unhide CV).drew) (by omega)).mono ?_
  rintro e u ⟨⟨r, r0, r1, rfl⟩, mv⟩
  have ou := mv.2
  have CU2 := hide mv.1
  have BU := hide (show Bc u w.heap.size bd (.int .i64 y.room) (.slice y.a y.ps.length y.c) from row_off (W := v.drew) (unhide BV) ou (by simp [Value.ownBlock]; omega))
  have RU := hide (show Bc u w.heap.size w.heap.size (.int .i64 0) (.slice none 0 0) from row_off (W := v.drew) (unhide RV) ou (by simp [Value.ownBlock]; omega))
  have OU := hide (show OwD u u1.heap.size y from row_only (W := v.drew) (unhide OV) ou chi)
  have K1 : u.cell? ⟨bd, 0, none⟩ = some (.int .i64 y.room) ∧ u.cell? ⟨bd, 1, none⟩ = some (.slice y.a y.ps.length y.c) := ⟨(unhide BU).c0, (unhide BU).c1⟩
  have wr1 : wrap64 (r - 1) = r - 1 := by rw [wrap64]; omega
  have wr2 : IntKind.i64.wrap (r - 1) = r - 1 := by rw [IntKind.wrap_i64]; omega
  have q0 := (unhide RU).c0
  have q1 := (unhide RU).c1
  have f0 := (unhide RU).free 0
  have f1 := (unhide RU).free 1
  have t0 := (unhide RU).set0 (.int .i64 y.room)
  have t1 := bc_set1 t0.1 (.slice y.a y.ps.length y.c)
  have ST := hide (grow_grow t0.2 t1.2)
  have bl := (unhide BU).lt.2
  have K2 : ((u.setCell ⟨w.heap.size, 0, none⟩ (.int .i64 y.room)).setCell ⟨w.heap.size, 1, none⟩ (.slice y.a y.ps.length y.c)).cell? ⟨bd, 0, none⟩ = some (.int .i64 y.room) ∧ ((u.setCell ⟨w.heap.size, 0, none⟩ (.int .i64 y.room)).setCell ⟨w.heap.size, 1, none⟩ (.slice y.a y.ps.length y.c)).cell? ⟨bd, 1, none⟩ = some (.slice y.a y.ps.length y.c) := ⟨(kcell (unhide ST) 0 bl (by omega)).trans K1.1, (kcell (unhide ST) 1 bl (by omega)).trans K1.2⟩
  have EO := hide (row_base (row_kept (unhide OU) (unhide ST) (by omega)) (show w.heap.size ≤ u1.heap.size by omega))
  have EB := hide (((unhide b1).trans ((unhide CU2).bel.mono (by omega))).grown (unhide ST) (by have := (unhide RU).lt.2; omega) (fun j hj => by injection hj with hj; omega))
  clear mv ou t0 t1
  go_wp2_with fail
  refine hK.out _ _ K1 (fun hHeld => ?_)
  clear hK K
  try simp only [oP2, Act.put, List.setIfInBounds_toArray, List.set_cons_zero, List.set_cons_succ]
  refine wpAnyH_take (i := 3) (oi := oP3) (v := .int .i64 (r - 1)) rfl (by kernel_rfl) (by kernel_rfl) (by kernel_rfl) (fun _ _ _ h => h) (Or.inl ⟨by rfl, fun w hSw => ?_⟩) hHeld ?_
  · (try dsimp only at hSw)
    unfold oP3
    go_simp
  try simp only [oP3, Act.put, List.setIfInBounds_toArray, List.set_cons_zero, List.set_cons_succ]
  refine wpAnyH_ready (rs := [4]) (by kernel_rfl) (by simp) ?_
  refine AllReadyH.cons (o := oP4) rfl (fun K hK => ?_) AllReadyH.nil
  unfold oP4
  go_simp
  refine hK.out _ _ K2 (fun hHeld => ?_)
  clear hK K
  try simp only [oP4, Act.put, List.setIfInBounds_toArray, List.set_cons_zero, List.set_cons_succ]
  refine wpAnyH_take (i := 5) (oi := oP5) (v := .int .i64 (r - 1)) rfl (by kernel_rfl) (by kernel_rfl) (by kernel_rfl) (fun _ _ _ h => h) (Or.inl ⟨by rfl, fun w hSw => ?_⟩) hHeld ?_
  · (try dsimp only at hSw)
    unfold oP5
    go_simp
  try simp only [oP5, Act.put, List.setIfInBounds_toArray, List.set_cons_zero, List.set_cons_succ]
  refine wpAnyH_done (by kernel_rfl) ?_ _
  clear K0 K1 K2
  go_wp2
  refine bodyPost_ret (v := .tuple #[.agg #[.int .i64 y.room, .slice y.a y.ps.length y.c], .int .i64 (r - 1)]) (by simp [results, Try.results6, go_sem, q0, q1]) rfl ⟨y, r - 1, sm, ⟨by omega, by omega⟩, rfl, unhide EO, unhide EB⟩

end Go.Proofs.Ytejbbhjhinkcdaa.DrawC14
