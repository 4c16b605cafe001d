/- Texts of one proof, one behind the other: DrawJ15, PureD14, RT11, RTS11, RTG15, PureS15, PureT15, IFile14, ISg15, IPuts11, IPut11, ICheck11, ISum11, ConB11, ISeal11, IOk14, ICp14. -/
import Derived.Test.YtcajdiopgaoicaaRows
import Derived.Test.YtcajdiopgaoicaaSG1
import Derived.Test.YtcajdiopgaoicaaSG2
import Derived.Test.YtcajdiopgaoicaaSG3
import Derived.Test.YtcajdiopgaoicaaSG4
import Derived.Test.YtcajdiopgaoicaaSG5
import Derived.Test.YtcajdiopgaoicaaSG6
import Derived.Test.YtcajdiopgaoicaaSG7
import Derived.Test.YtcajdiopgaoicaaSG8
import Derived.Handy
import Derived.Lib.AppendZerosOnto
import Derived.Lib.AppendZeros
import Derived.Deep.RegionHeld3
import Derived.Laws.CopyRow
set_option linter.unusedVariables false
set_option linter.unusedSimpArgs false
namespace Go.Proofs.Ytcajdiopgaoicaa.DrawJ15
open Go.ChangeShapes Go.WideShapes Go.ChangeAt Go.RowKit Draw Draw11 DrawS11 DrawT14 DrawR14 DrawD14
open DiskH14 (sumZ one_more)
open DkH14 (Dx RdD OwD Bc row_step)
open App14 (row_base row_kept kcell grow_grow)
open SLess14 (bc_set1)
open DrawC14 (row_off)
open DrawA14 (Av)
open DrawG15 (drawSegs)
open DrawK15 (drawSeg)
abbrev oJ0 : Oper := { dst := some 22, op := Go.Op.load 26 (Go.Operand.tmp 6), type := 26, pos := "l15_segment.go:123", after := #[], guard := none }
abbrev oJ1 : Oper := { dst := some 23, op := Go.Op.move (Go.Operand.tmp 5), type := 55, pos := "l15_segment.go:123", after := #[], guard := none }
abbrev oJ2 : Oper := { dst := some 24, op := Go.Op.call { callee := Go.Callee.value (Go.Operand.func 39), args := #[Go.Operand.tmp 23], argTypes := #[55] }, type := 3, pos := "l15_segment.go:123", after := #[{ on := 1, ground := Go.Ground.data }], guard := none }
abbrev oJ3 : Oper := { dst := some 25, op := Go.Op.move (Go.Operand.tmp 7), type := 9, pos := "l15_segment.go:123", after := #[{ on := 5, ground := Go.Ground.gcOnly Go.Departure.lateStores }], guard := none }
abbrev oJ4 : Oper := { dst := none, op := Go.Op.store 26 (Go.Operand.tmp 2) (Go.Operand.tmp 22), type := 0, pos := "l15_segment.go:123", after := #[{ on := 0, ground := Go.Ground.data }, { on := 2, ground := Go.Ground.chain }, { on := 0, ground := Go.Ground.phase }, { on := 1, ground := Go.Ground.textOnly Go.Departure.lateStores }, { on := 2, ground := Go.Ground.textOnly Go.Departure.lateStoresUnsure }, { on := 3, ground := Go.Ground.textOnly Go.Departure.lateStores }], guard := none }
abbrev oJ5 : Oper := { dst := some 3, op := Go.Op.assign (Go.Operand.tmp 24), type := 3, pos := "l15_segment.go:123", after := #[{ on := 2, ground := Go.Ground.data }, { on := 4, ground := Go.Ground.chain }, { on := 0, ground := Go.Ground.phase }, { on := 1, ground := Go.Ground.phase }, { on := 2, ground := Go.Ground.phase }, { on := 3, ground := Go.Ground.textOnly Go.Departure.lateStores }, { on := 4, ground := Go.Ground.phase }], guard := none }
abbrev oJ6 : Oper := { dst := some 4, op := Go.Op.assign (Go.Operand.tmp 25), type := 9, pos := "l15_segment.go:123", after := #[{ on := 3, ground := Go.Ground.data }, { on := 5, ground := Go.Ground.chain }, { on := 0, ground := Go.Ground.phase }, { on := 1, ground := Go.Ground.phase }, { on := 2, ground := Go.Ground.phase }, { on := 3, ground := Go.Ground.phase }, { on := 4, ground := Go.Ground.phase }, { on := 5, ground := Go.Ground.phase }], guard := none }
set_option maxRecDepth 100000 in
set_option maxHeartbeats 4000000 in
theorem drawAdd0 (w : World) (a : Option Addr) (len cap : Nat) (hl : len ≤ 1048576) (hcode : CodeAt w a len) :
    Calls Try.prog 23 #[.slice a len cap] w fun e w' => ∃ (y : Dx) (seg : Int) (s : ByteArray), Sm y ∧ (-1 ≤ seg ∧ seg ≤ 20) ∧ s.size ≤ 9001 ∧ e = .returned (.tuple #[.agg #[.int .i64 y.room, .slice y.a y.ps.length y.c], .int .i64 seg, .string s]) ∧ OwD w' w.heap.size y ∧ Below w.heap.size w w' := by
  obtain ⟨w1, hw1⟩ : ∃ w1, Hid (w1 = w.alloc (.cells #[.int .i64 0, .slice none 0 0] 26)) := ⟨_, rfl⟩
  have b1 := hide (show Below w.heap.size w w1 by rw [unhide hw1]; exact one_more _ _)
  have R1 := hide (show Bc w1 w.heap.size w.heap.size (.int .i64 0) (.slice none 0 0) by rw [unhide hw1]; exact Bc.made _ _ (Nat.le_refl _) rfl)
  have HC := hide (show CodeAt w1 a len from hcode.below (unhide b1))
  have s1 : w1.heap.size = w.heap.size + 1 := by rw [unhide hw1]; simp
  obtain ⟨i0, hi, hz0, hz1, hz2⟩ := info_parts ByteH.info8
  clear hcode
  go_enter Try.func23, Try.ntmps23
  go_wp2_with fail
  rw [← unhide hw1]
  clear hw1
  refine (new w1 a len cap hl (unhide HC)).mono ?_
  rintro e u1 ⟨c, rfl, cur⟩
  have CU := hide cur
  have chi := cur.hi
  have clo := cur.lo
  clear cur
  go_wp2_with fail
  refine (drawSegs w1 u1 c a len cap hl (unhide HC) (unhide CU)).mono ?_
  rintro e u2 ⟨y, sm, rfl, oy, mv⟩
  have CV0 := hide mv.1
  have u12 := mv.2.1
  have RV0 := hide (show Bc u2 w.heap.size w.heap.size (.int .i64 0) (.slice none 0 0) from row_off (show Bc u1 w.heap.size w.heap.size (.int .i64 0) (.slice none 0 0) from (unhide R1).below (unhide CU).bel (by omega)) mv.2 (by simp [Value.ownBlock]; omega))
  obtain ⟨v, hv⟩ : ∃ v, Hid (v = u2.alloc (.cells #[.int .i64 y.room, .slice y.a y.ps.length y.c] 26)) := ⟨_, rfl⟩
  have bv := hide (show Below u2.heap.size u2 v by rw [unhide hv]; exact one_more _ _)
  have A1 := hide (show Av w w1 u1 v c u2.heap.size a len cap y from ⟨cur_below (unhide CV0) (unhide bv), by rw [unhide hv]; exact Bc.made _ _ (by omega) rfl, Bc.below (unhide RV0) (unhide bv) (unhide RV0).lt.2, row_step oy (unhide bv), by omega, by omega, by omega, chi⟩)
  clear mv oy CV0 RV0 R1 CU bv
  go_wp2_with fail
  rw [← unhide hv]
  clear hv
  generalize u2.heap.size = bd at *
  refine (drawText w1 v c a len cap 8 hl (by omega) (unhide HC) (unhide A1).cu).mono ?_
  rintro e v2 ⟨⟨s, sz, rfl⟩, mv⟩
  have A3 := hide ((unhide A1).moved mv)
  clear A1 mv
  go_wp2_with fail
  refine (once w1 v2 c a len cap 40 hl (unhide HC) (unhide A3).cu (by omega)).mono ?_
  rintro e v9 ⟨⟨t, rfl⟩, mv⟩
  have A4 := hide ((unhide A3).moved mv)
  clear A3 mv
  cases t with
  | false =>
    have K0 : v9.cell? ⟨bd, 0, none⟩ = some (.int .i64 y.room) ∧ v9.cell? ⟨bd, 1, none⟩ = some (.slice y.a y.ps.length y.c) := ⟨(unhide A4).bx.c0, (unhide A4).bx.c1⟩
    go_wp2_with fail
    refine wp_region_held_drew (S := (fun w' => w'.cell? ⟨bd, 0, none⟩ = some (.int .i64 y.room) ∧ w'.cell? ⟨bd, 1, none⟩ = some (.slice y.a y.ps.length y.c))) (by kernel_rfl) K0 (fun hHeld => ?_)
    refine wpAnyH_take (i := 0) (oi := oJ0) (v := .agg #[.int .i64 y.room, .slice y.a y.ps.length y.c]) rfl (by kernel_rfl) (by kernel_rfl) (by kernel_rfl) (fun _ _ _ h => h) (Or.inl ⟨by rfl, fun w hSw => ?_⟩) hHeld ?_
    · (try dsimp only at hSw)
      unfold oJ0
      go_simp
    try simp only [oJ0, Act.put, List.setIfInBounds_toArray, List.set_cons_zero, List.set_cons_succ]
    refine wpAnyH_take (i := 1) (oi := oJ1) (v := .pointer (some ⟨c, 0, none⟩)) rfl (by kernel_rfl) (by kernel_rfl) (by kernel_rfl) (fun _ _ _ h => h) (Or.inl ⟨by rfl, fun w hSw => ?_⟩) hHeld ?_
    · (try dsimp only at hSw)
      unfold oJ1
      go_simp
    try simp only [oJ1, Act.put, List.setIfInBounds_toArray, List.set_cons_zero, List.set_cons_succ]
    refine wpAnyH_take (i := 3) (oi := oJ3) (v := .string s) rfl (by kernel_rfl) (by kernel_rfl) (by kernel_rfl) (fun _ _ _ h => h) (Or.inl ⟨by rfl, fun w hSw => ?_⟩) hHeld ?_
    · (try dsimp only at hSw)
      unfold oJ3
      go_simp
    try simp only [oJ3, Act.put, List.setIfInBounds_toArray, List.set_cons_zero, List.set_cons_succ]
    refine wpAnyH_ready (rs := [2]) (by kernel_rfl) (by simp) ?_
    refine AllReadyH.cons (o := oJ2) rfl (fun K hK => ?_) AllReadyH.nil
    unfold oJ2
    go_simp
    go_wp2_with fail
    refine (drawSeg w1 v9.drew c a len cap hl (unhide HC) (unhide A4).drew.cu).mono ?_
    rintro e u ⟨⟨sg, sg0, sg1, rfl⟩, mv⟩
    have AU := hide ((unhide A4).drew.moved mv)
    have K1 : u.cell? ⟨bd, 0, none⟩ = some (.int .i64 y.room) ∧ u.cell? ⟨bd, 1, none⟩ = some (.slice y.a y.ps.length y.c) := ⟨(unhide AU).bx.c0, (unhide AU).bx.c1⟩
    have q0 := (unhide AU).rb.c0
    have q1 := (unhide AU).rb.c1
    have f0 := (unhide AU).rb.free 0
    have f1 := (unhide AU).rb.free 1
    have t0 := (unhide AU).rb.set0 (.int .i64 y.room)
    have t1 := bc_set1 t0.1 (.slice y.a y.ps.length y.c)
    have ST := hide (grow_grow t0.2 t1.2)
    have bl := (unhide AU).bx.lt.2
    have wl := (unhide AU).rb.lt.2
    have bne := (unhide AU).ne
    have K2 : ((u.setCell ⟨w.heap.size, 0, none⟩ (.int .i64 y.room)).setCell ⟨w.heap.size, 1, none⟩ (.slice y.a y.ps.length y.c)).cell? ⟨bd, 0, none⟩ = some (.int .i64 y.room) ∧ ((u.setCell ⟨w.heap.size, 0, none⟩ (.int .i64 y.room)).setCell ⟨w.heap.size, 1, none⟩ (.slice y.a y.ps.length y.c)).cell? ⟨bd, 1, none⟩ = some (.slice y.a y.ps.length y.c) := ⟨(kcell (unhide ST) 0 bl (by omega)).trans K1.1, (kcell (unhide ST) 1 bl (by omega)).trans K1.2⟩
    have EO := hide (row_base (row_kept (unhide AU).ow (unhide ST) (by omega)) (show w.heap.size ≤ u1.heap.size by omega))
    have EB := hide (((unhide b1).trans ((unhide AU).cu.bel.mono (by omega))).grown (unhide ST) (Nat.le_of_lt wl) (fun j hj => by injection hj with hj; omega))
    clear mv t0 t1
    go_wp2_with fail
    refine hK.out _ _ K1 (fun hHeld => ?_)
    clear hK K
    try simp only [oJ2, Act.put, List.setIfInBounds_toArray, List.set_cons_zero, List.set_cons_succ]
    refine wpAnyH_ready (rs := [4]) (by kernel_rfl) (by simp) ?_
    refine AllReadyH.cons (o := oJ4) rfl (fun K hK => ?_) AllReadyH.nil
    unfold oJ4
    go_simp
    refine hK.out _ _ K2 (fun hHeld => ?_)
    clear hK K
    try simp only [oJ4, Act.put, List.setIfInBounds_toArray, List.set_cons_zero, List.set_cons_succ]
    refine wpAnyH_take (i := 5) (oi := oJ5) (v := .int .i64 sg) rfl (by kernel_rfl) (by kernel_rfl) (by kernel_rfl) (fun _ _ _ h => h) (Or.inl ⟨by rfl, fun w hSw => ?_⟩) hHeld ?_
    · (try dsimp only at hSw)
      unfold oJ5
      go_simp
    try simp only [oJ5, Act.put, List.setIfInBounds_toArray, List.set_cons_zero, List.set_cons_succ]
    refine wpAnyH_take (i := 6) (oi := oJ6) (v := .string s) rfl (by kernel_rfl) (by kernel_rfl) (by kernel_rfl) (fun _ _ _ h => h) (Or.inl ⟨by rfl, fun w hSw => ?_⟩) hHeld ?_
    · (try dsimp only at hSw)
      unfold oJ6
      go_simp
    try simp only [oJ6, Act.put, List.setIfInBounds_toArray, List.set_cons_zero, List.set_cons_succ]
    refine wpAnyH_done (by kernel_rfl) ?_ _
    clear K0 K1 K2
    go_wp2
    refine bodyPost_ret (v := .tuple #[.agg #[.int .i64 y.room, .slice y.a y.ps.length y.c], .int .i64 sg, .string s]) (by simp [results, Try.results23, go_sem, q0, q1]) rfl ⟨y, sg, s, ⟨sm.1, sm.2⟩, ⟨sg0, sg1⟩, by omega, rfl, unhide EO, unhide EB⟩
  | true =>
    go_wp2_with fail
    refine (below w1 v9 c a len cap 2 hl (unhide HC) (unhide A4).cu (by omega)).mono ?_
    rintro e v4 ⟨⟨m, m0, m1, rfl⟩, mv⟩
    have A5 := hide ((unhide A4).moved mv)
    clear mv A4
    obtain ⟨kn, hkn⟩ : ∃ kn : Nat, 9000 + m = kn := ⟨(9000 + m).toNat, by omega⟩
    have wr1 : wrap64 (9000 + m) = (kn : Int) := by rw [wrap64]; omega
    have k21 : kn ≤ 9001 := by omega
    have ub := (unhide A5).bx.lt.2
    clear hkn m0 m1
    go_wp2_with (first | (at_make; refine wpList_make_full _ rfl _ _ 22 rfl w.heap.size 5 i0 (.int .u8 0) 1 Try.underlying22 hi hz0 hz1 .i64 .i64 _ _ kn rfl rfl (by first | rfl | exact wr1) (by first | rfl | exact wr1) (by rw [hz2]; omega) (by unfold maxLen; omega) (by have := (unhide A5).rb.lt; omega) ?_; intro v5 hown hgrow; have A6 := hide ((unhide A5).below (Ints.grownBy_below hgrow)); have BO := hide (show ByteH.Own v5 w.heap.size v4.heap.size kn kn (List.replicate kn 0) by rw [ByteH.made_zeros] at hown; exact hown); have CB := Conv15.of_bytes v5 v4.heap.size kn (List.replicate kn 0) (unhide BO).at; rw [List.length_replicate] at CB; have p0 := (unhide A6).bx.c0; have p1 := (unhide A6).bx.free 0; have st := (unhide A6).bx.set0 (.int .i64 60000); have A7 := hide (show Av w w1 u1 (v5.setCell ⟨bd, 0, none⟩ (.int .i64 60000)) c bd a len cap ⟨60000, y.a, y.c, y.ps⟩ from ⟨Draw.cur_grown (unhide A6).cu st.2 (by have := (unhide A6).bx.lt.1; have := (unhide A6).ne; omega) (by have := (unhide A6).nb; exact this), st.1, (unhide A6).rb.kept st.2 (by have := (unhide A6).ne; simpa using this.symm), World.ownsRow.kept (unhide A6).ow st.2 (.inr (row_ne (unhide A6).bx (unhide A6).ow (by decide) rfl)), (unhide A6).nb, (unhide A6).nr, (unhide A6).ne, (unhide A6).hi⟩); clear hown hgrow A5 st) | fail)
    have SS := hide (show (strOfNums (List.replicate kn 0)).size ≤ 9001 by rw [strOfNums_size, List.length_replicate]; exact k21)
    clear CB p0 p1 A6 BO
    generalize strOfNums (List.replicate kn 0) = st at *
    generalize v5.setCell ⟨bd, 0, none⟩ (.int .i64 60000) = v7 at *
    have K0 : v7.cell? ⟨bd, 0, none⟩ = some (.int .i64 60000) ∧ v7.cell? ⟨bd, 1, none⟩ = some (.slice y.a y.ps.length y.c) := ⟨(unhide A7).bx.c0, (unhide A7).bx.c1⟩
    refine wp_region_held_drew (S := (fun w' => w'.cell? ⟨bd, 0, none⟩ = some (.int .i64 60000) ∧ w'.cell? ⟨bd, 1, none⟩ = some (.slice y.a y.ps.length y.c))) (by kernel_rfl) K0 (fun hHeld => ?_)
    refine wpAnyH_take (i := 0) (oi := oJ0) (v := .agg #[.int .i64 60000, .slice y.a y.ps.length y.c]) rfl (by kernel_rfl) (by kernel_rfl) (by kernel_rfl) (fun _ _ _ h => h) (Or.inl ⟨by rfl, fun w hSw => ?_⟩) hHeld ?_
    · (try dsimp only at hSw)
      unfold oJ0
      go_simp
    try simp only [oJ0, Act.put, List.setIfInBounds_toArray, List.set_cons_zero, List.set_cons_succ]
    refine wpAnyH_take (i := 1) (oi := oJ1) (v := .pointer (some ⟨c, 0, none⟩)) rfl (by kernel_rfl) (by kernel_rfl) (by kernel_rfl) (fun _ _ _ h => h) (Or.inl ⟨by rfl, fun w hSw => ?_⟩) hHeld ?_
    · (try dsimp only at hSw)
      unfold oJ1
      go_simp
    try simp only [oJ1, Act.put, List.setIfInBounds_toArray, List.set_cons_zero, List.set_cons_succ]
    refine wpAnyH_take (i := 3) (oi := oJ3) (v := .string st) rfl (by kernel_rfl) (by kernel_rfl) (by kernel_rfl) (fun _ _ _ h => h) (Or.inl ⟨by rfl, fun w hSw => ?_⟩) hHeld ?_
    · (try dsimp only at hSw)
      unfold oJ3
      go_simp
    try simp only [oJ3, Act.put, List.setIfInBounds_toArray, List.set_cons_zero, List.set_cons_succ]
    refine wpAnyH_ready (rs := [2]) (by kernel_rfl) (by simp) ?_
    refine AllReadyH.cons (o := oJ2) rfl (fun K hK => ?_) AllReadyH.nil
    unfold oJ2
    go_simp
    go_wp2_with fail
    refine (drawSeg w1 v7.drew c a len cap hl (unhide HC) (unhide A7).drew.cu).mono ?_
    rintro e u ⟨⟨sg, sg0, sg1, rfl⟩, mv⟩
    have AU := hide ((unhide A7).drew.moved mv)
    have K1 : u.cell? ⟨bd, 0, none⟩ = some (.int .i64 60000) ∧ u.cell? ⟨bd, 1, none⟩ = some (.slice y.a y.ps.length y.c) := ⟨(unhide AU).bx.c0, (unhide AU).bx.c1⟩
    have q0 := (unhide AU).rb.c0
    have q1 := (unhide AU).rb.c1
    have f0 := (unhide AU).rb.free 0
    have f1 := (unhide AU).rb.free 1
    have t0 := (unhide AU).rb.set0 (.int .i64 60000)
    have t1 := bc_set1 t0.1 (.slice y.a y.ps.length y.c)
    have ST := hide (grow_grow t0.2 t1.2)
    have bl := (unhide AU).bx.lt.2
    have wl := (unhide AU).rb.lt.2
    have bne := (unhide AU).ne
    have K2 : ((u.setCell ⟨w.heap.size, 0, none⟩ (.int .i64 60000)).setCell ⟨w.heap.size, 1, none⟩ (.slice y.a y.ps.length y.c)).cell? ⟨bd, 0, none⟩ = some (.int .i64 60000) ∧ ((u.setCell ⟨w.heap.size, 0, none⟩ (.int .i64 60000)).setCell ⟨w.heap.size, 1, none⟩ (.slice y.a y.ps.length y.c)).cell? ⟨bd, 1, none⟩ = some (.slice y.a y.ps.length y.c) := ⟨(kcell (unhide ST) 0 bl (by omega)).trans K1.1, (kcell (unhide ST) 1 bl (by omega)).trans K1.2⟩
    have EO := hide (row_base (row_kept (unhide AU).ow (unhide ST) (by omega)) (show w.heap.size ≤ u1.heap.size by omega))
    have EB := hide (((unhide b1).trans ((unhide AU).cu.bel.mono (by omega))).grown (unhide ST) (Nat.le_of_lt wl) (fun j hj => by injection hj with hj; omega))
    clear mv t0 t1
    go_wp2_with fail
    refine hK.out _ _ K1 (fun hHeld => ?_)
    clear hK K
    try simp only [oJ2, Act.put, List.setIfInBounds_toArray, List.set_cons_zero, List.set_cons_succ]
    refine wpAnyH_ready (rs := [4]) (by kernel_rfl) (by simp) ?_
    refine AllReadyH.cons (o := oJ4) rfl (fun K hK => ?_) AllReadyH.nil
    unfold oJ4
    go_simp
    refine hK.out _ _ K2 (fun hHeld => ?_)
    clear hK K
    try simp only [oJ4, Act.put, List.setIfInBounds_toArray, List.set_cons_zero, List.set_cons_succ]
    refine wpAnyH_take (i := 5) (oi := oJ5) (v := .int .i64 sg) rfl (by kernel_rfl) (by kernel_rfl) (by kernel_rfl) (fun _ _ _ h => h) (Or.inl ⟨by rfl, fun w hSw => ?_⟩) hHeld ?_
    · (try dsimp only at hSw)
      unfold oJ5
      go_simp
    try simp only [oJ5, Act.put, List.setIfInBounds_toArray, List.set_cons_zero, List.set_cons_succ]
    refine wpAnyH_take (i := 6) (oi := oJ6) (v := .string st) rfl (by kernel_rfl) (by kernel_rfl) (by kernel_rfl) (fun _ _ _ h => h) (Or.inl ⟨by rfl, fun w hSw => ?_⟩) hHeld ?_
    · (try dsimp only at hSw)
      unfold oJ6
      go_simp
    try simp only [oJ6, Act.put, List.setIfInBounds_toArray, List.set_cons_zero, List.set_cons_succ]
    refine wpAnyH_done (by kernel_rfl) ?_ _
    clear K0 K1 K2
    go_wp2
    refine bodyPost_ret (v := .tuple #[.agg #[.int .i64 60000, .slice y.a y.ps.length y.c], .int .i64 sg, .string st]) (by simp [results, Try.results23, go_sem, q0, q1]) rfl ⟨⟨60000, y.a, y.c, y.ps⟩, sg, st, ⟨sm.1, sm.2⟩, ⟨sg0, sg1⟩, unhide SS, rfl, unhide EO, unhide EB⟩
set_option maxRecDepth 100000 in
set_option maxHeartbeats 4000000 in
theorem drawAdd (w : World) (a : Option Addr) (len cap : Nat) (hl : len ≤ 1048576) (hcode : CodeAt w a len) :
    Calls Try.prog 6 #[.slice a len cap] w fun e w' => ∃ (y : Dx) (seg : Int) (s : ByteArray), Sm y ∧ (-1 ≤ seg ∧ seg ≤ 20) ∧ s.size ≤ 9001 ∧ e = .returned (.tuple #[.agg #[.int .i64 y.room, .slice y.a y.ps.length y.c], .int .i64 seg, .string s]) ∧ OwD w' w.heap.size y ∧ Below w.heap.size w w' := by
  obtain ⟨w1, hw1⟩ : ∃ w1, Hid (w1 = w.alloc (.cells #[.int .i64 0, .slice none 0 0] 26)) := ⟨_, rfl⟩
  have b1 := hide (show Below w.heap.size w w1 by rw [unhide hw1]; exact one_more _ _)
  have R1 := hide (show Bc w1 w.heap.size w.heap.size (.int .i64 0) (.slice none 0 0) by rw [unhide hw1]; exact Bc.made _ _ (Nat.le_refl _) rfl)
  have s1 : w1.heap.size = w.heap.size + 1 := by rw [unhide hw1]; simp
  have DA := hide (drawAdd0 w1 a len cap hl (hcode.below (unhide b1)))
  clear hcode
  go_enter Try.func6, Try.ntmps6
  go_wp2_with fail
  rw [← unhide hw1]
  clear hw1
  refine (unhide DA).mono ?_
  rintro e u ⟨y, seg, s, sm, sg, ss, rfl, oy, b2⟩
  have SM := hide (And.intro sm (And.intro sg ss))
  have bA := one_more u (.cells #[.int .i64 y.room, .slice y.a y.ps.length y.c] 26)
  have RU := hide (((unhide R1).below b2 (by omega)).below bA (by have := b2.size; omega))
  have OU := hide (oy.step bA)
  have BU := hide (((unhide b1).trans (b2.mono (by omega))).trans (bA.mono (by have := b2.size; omega)))
  have EN := hide (let s0 := (unhide RU).set0 (.int .i64 y.room); let s1 := bc_set1 s0.1 (.slice y.a y.ps.length y.c); grow_grow s0.2 s1.2)
  have q0 := (unhide RU).c0
  have q1 := (unhide RU).c1
  have f0 := (unhide RU).free 0
  have f1 := (unhide RU).free 1
  have wl := (unhide RU).lt.2
  have EO := hide (row_base (row_kept (unhide OU) (unhide EN) (by omega)) (show w.heap.size ≤ w1.heap.size by omega))
  have EB := hide ((unhide BU).grown (unhide EN) (Nat.le_of_lt wl) (fun j hj => by injection hj with hj; omega))
  clear oy b2 bA sm sg ss DA
  go_wp2
  refine bodyPost_ret (v := .tuple #[.agg #[.int .i64 y.room, .slice y.a y.ps.length y.c], .int .i64 seg, .string s]) (by simp [results, Try.results6, go_sem, q0, q1]) rfl ⟨y, seg, s, (unhide SM).1, (unhide SM).2.1, (unhide SM).2.2, rfl, unhide EO, unhide EB⟩
end Go.Proofs.Ytcajdiopgaoicaa.DrawJ15
namespace Go.Proofs.Ytcajdiopgaoicaa.PureD14
open Fil14 (TF elF flatF)
open DiskH14 (sumZ)
open SOk14 (OkD okN)
open SDk14 (findF)
open SRd14 (readD atD bytesAt)
open SPut14 (putF)
open SLess14 (lessN)
open SCrash14 (crashF crashD)
open SSync14 (syncD)
open SAppend14 (appF appendD)
open SCut14 (cutD)
open SMove14 (moveD)
open SDrop14 (dropD)
open Pure14 Ok14
theorem read_is {room : Int} {ps : List TF} (h : OkD room ps) {f : TF} (hf : f ∈ ps) : readD room ps f.1 = (f.2.1 ++ f.2.2, true) := by
  obtain ⟨k, e, l, hk⟩ := find_yes (asc_of h).1 hf
  unfold readD
  rw [if_pos ⟨h, by rw [e]; omega⟩, e, Int.toNat_natCast]
  unfold bytesAt
  rw [hk]
theorem at_yes {room : Int} {ps : List TF} (h : OkD room ps) {f : TF} (hf : f ∈ ps) : ∃ k : Nat, atD room ps f.1 = ((k : Int), 0) ∧ k < ps.length ∧ elF ps k = f := by
  obtain ⟨k, e, l, hk⟩ := find_yes (asc_of h).1 hf
  refine ⟨k, ?_, l, hk⟩
  unfold atD
  rw [if_pos ⟨h, ok_named.2 ((asc_of h).2 f hf)⟩, e, if_neg (by omega)]
theorem crash_read {room : Int} {ps : List TF} (keep : Int) (h : OkD room ps) {f : TF} (hf : f ∈ ps) : ∃ j, j ≤ f.2.2.size ∧ readD room (ps.map (crashF keep)) f.1 = (f.2.1 ++ f.2.2.extract 0 j, true) := by
  refine ⟨(min (max keep 0) f.2.2.size).toNat, by omega, ?_⟩
  have := read_is (ok_crash keep h) (List.mem_map_of_mem (f := crashF keep) hf)
  rw [crash_name] at this
  rw [this]
  simp [crashF]
/-- What was there of a name, its text appended. -/
theorem append_read {room : Int} {ps : List TF} {nm : Int} {s : ByteArray} (h : OkD room ps) (hn : okN nm = true) (hs : (s.size : Int) ≤ room - sumZ ps) : readD room (putF ps (appF ps nm s)) nm = ((readD room ps nm).1 ++ s, true) ∧ appF ps nm s ∈ putF ps (appF ps nm s) := by
  have ok := ok_append h hn hs
  have hm : appF ps nm s ∈ putF ps (appF ps nm s) := (put_mem (asc_of h).1).2 (.inl rfl)
  have := read_is ok hm
  rw [app_name] at this
  refine ⟨?_, hm⟩
  rw [this]
  unfold readD appF
  by_cases q : 0 ≤ findF ps nm
  · rw [if_pos q, if_pos ⟨h, q⟩]
    unfold bytesAt
    rw [ByteArray.append_assoc]
  · rw [if_neg q, if_neg (fun z => q z.2)]
    rfl
end Go.Proofs.Ytcajdiopgaoicaa.PureD14
namespace Go.Proofs.Ytcajdiopgaoicaa.RT11
open Go.ChangeShapes Go.WideShapes Go.ChangeAt Go.RowKit SBytes SPut11 SPuts11
theorem getD_mid (l : List Int) (y : Int) (r : List Int) (q : Nat) (h : l.length = q) : (l ++ y :: r).getD q 0 = y := by
  subst h
  simp [List.getD]
theorem numF_ne (x : Nat) : numF x ≠ [] := by
  by_cases t : 127 < x
  · rw [numF_more t]; simp
  · rw [numF_last t]; simp
theorem getF_num (xs : List Int) (q : Nat) : ∀ (f x k : Nat) (l ys : List Int), xs = l ++ (numF x ++ ys) → l.length = q + k → (numF x).length ≤ f → (x = 0 → k = 0) →
    getF xs q f k = (val xs q k + (x : Int) * 128 ^ k, ((q + k + (numF x).length : Nat) : Int), true) := by
  intro f
  induction f with
  | zero =>
    intro x k l ys _ _ h _
    exact absurd (List.eq_nil_of_length_eq_zero (Nat.le_zero.1 h)) (numF_ne x)
  | succ f ih =>
    intro x k l ys hx hl hf h0
    by_cases t : 127 < x
    · rw [numF_more t] at hx hf
      have hb : xs.getD (q + k) 0 = ((x % 128 + 128 : Nat) : Int) := by rw [hx]; exact getD_mid l _ _ _ hl
      have hlen : q + k < xs.length := by rw [hx]; simp; omega
      simp only [getF]
      rw [if_pos hlen, if_neg (by rw [hb]; omega)]
      rw [ih (x / 128) (k + 1) (l ++ [((x % 128 + 128 : Nat) : Int)]) ys (by rw [hx]; simp) (by simp; omega) (by simpa using hf) (by omega)]
      have e1 : (numF x).length = (numF (x / 128)).length + 1 := by rw [numF_more t]; simp
      have e2 : val xs q (k + 1) = val xs q k + ((x % 128 : Nat) : Int) * 128 ^ k := by
        simp only [val]
        rw [hb, show (((x % 128 + 128 : Nat) : Int)) % 128 = ((x % 128 : Nat) : Int) by omega]
      have e3 : ((x : Nat) : Int) = ((x % 128 : Nat) : Int) + ((x / 128 : Nat) : Int) * 128 := by omega
      rw [e1, e2, pow_more]
      refine Prod.ext ?_ (Prod.ext ?_ rfl)
      · simp only
        rw [e3, Int.add_mul, Int.mul_assoc, Int.mul_comm (128 : Int) (128 ^ k), Int.add_assoc]
      · simp only
        omega
    · rw [numF_last t] at hx hf ⊢
      have hb : xs.getD (q + k) 0 = (x : Int) := by rw [hx]; exact getD_mid l _ _ _ hl
      have hlen : q + k < xs.length := by rw [hx]; simp; omega
      simp only [getF]
      rw [if_pos hlen, if_pos (by rw [hb]; omega), if_neg (by rw [hb]; intro h; have := h0 (by omega); omega)]
      refine Prod.ext ?_ (Prod.ext ?_ rfl)
      · simp only [val]
        rw [hb, show (x : Int) % 128 = x by omega]
      · simp
/-- A form is read as its number, behind other bytes too, whatever stands behind it. -/
theorem getN_num (l ys : List Int) (x : Nat) (hx : x ≤ 9223372036854775807) : getN (l ++ (numF x ++ ys)) l.length = ((x : Int), ((l.length + (numF x).length : Nat) : Int), true) := by
  have hp : (numF x).length ≠ 0 := fun h => numF_ne x (List.eq_nil_of_length_eq_zero h)
  unfold getN
  rw [if_neg (by simp; omega)]
  have := getF_num (l ++ (numF x ++ ys)) l.length 9 x 0 l ys rfl rfl (numF_nine hx) (fun _ => rfl)
  rw [show ((l.length : Int)).toNat = l.length by omega, this]
  simp [val]
end Go.Proofs.Ytcajdiopgaoicaa.RT11
namespace Go.Proofs.Ytcajdiopgaoicaa.RTS11
open Go.ChangeShapes Go.WideShapes Go.ChangeAt Go.RowKit SBytes SPut11 SPuts11 SSeal11 SUnseal11 RT11
theorem getD_app_r (l r : List Int) (i : Nat) : (l ++ r).getD (l.length + i) 0 = r.getD i 0 := by
  unfold List.getD
  rw [List.getElem?_append_right (by omega)]
  simp
theorem piece_mid (l m r : List Int) : piece (l ++ (m ++ r)) l.length m.length = m := by simp [piece]
theorem fourN_app (l r : List Int) : fourN (l ++ r) l.length = r.getD 0 0 + r.getD 1 0 * 256 + r.getD 2 0 * 65536 + r.getD 3 0 * 16777216 := by
  unfold fourN
  rw [getD_app_r l r 1, getD_app_r l r 2, getD_app_r l r 3, ← getD_app_r l r 0, Nat.add_zero]
/-- Bytes whose head is a length's form, then as many bytes, then four: what Unseal makes of them. -/
theorem unseal_at (l d c ys : List Int) (hd : d.length ≤ 9000) (hc : c.length = 4) (zs : List Int) (hz : zs = l ++ (numF d.length ++ (d ++ (c ++ ys)))) :
    unsealN zs l.length = if chkB d = c.getD 0 0 + c.getD 1 0 * 256 + c.getD 2 0 * 65536 + c.getD 3 0 * 16777216 then (d, ((l.length + (numF d.length).length + d.length + 4 : Nat) : Int), 0) else ([], 0, 3) := by
  have g := getN_num l (d ++ (c ++ ys)) d.length (by omega)
  rw [← hz] at g
  unfold unsealN
  rw [g]
  simp only
  have hlen : zs.length = l.length + (numF d.length).length + d.length + 4 + ys.length := by rw [hz]; simp; omega
  rw [if_neg (by simp; omega), if_neg (by omega), Int.toNat_natCast, Int.toNat_natCast]
  have e1 : piece zs (l.length + (numF d.length).length) d.length = d := by
    have := piece_mid (l ++ numF d.length) d (c ++ ys)
    rw [List.length_append] at this
    rw [hz, ← List.append_assoc]
    exact this
  have e2 : fourN zs (l.length + (numF d.length).length + d.length) = c.getD 0 0 + c.getD 1 0 * 256 + c.getD 2 0 * 65536 + c.getD 3 0 * 16777216 := by
    have := fourN_app (l ++ numF d.length ++ d) (c ++ ys)
    rw [List.length_append, List.length_append] at this
    rw [hz, ← List.append_assoc, ← List.append_assoc, this]
    match c, hc with
    | [c0, c1, c2, c3], _ => simp [List.getD]
  rw [e1, e2]
  split
  · refine Prod.ext rfl (Prod.ext ?_ rfl)
    simp only
    omega
  · rfl
theorem four_back (n : Int) (h0 : 0 ≤ n) (h1 : n ≤ 4294967295) : n = (four n).getD 0 0 + (four n).getD 1 0 * 256 + (four n).getD 2 0 * 65536 + (four n).getD 3 0 * 16777216 := by
  simp only [four, List.getD, List.getElem?_cons_zero, List.getElem?_cons_succ, Option.getD_some]
  omega
/-- What is sealed is read as itself. -/
theorem unseal_seal (l d ys : List Int) (hd : d.length ≤ 9000) : unsealN (l ++ (sealB d ++ ys)) l.length = (d, ((l.length + (sealB d).length : Nat) : Int), 0) := by
  have e : sealB d = numF d.length ++ (d ++ four (chkB d)) := by
    unfold sealB
    rw [if_pos hd, numB_pos (by omega), List.append_assoc, Int.toNat_natCast]
  have := unseal_at l d (four (chkB d)) ys hd rfl (l ++ (sealB d ++ ys)) (by rw [e]; simp)
  rw [this, if_pos (four_back _ (chkB_in d).1 (chkB_in d).2), e]
  refine Prod.ext rfl (Prod.ext ?_ rfl)
  simp [four]
  omega
end Go.Proofs.Ytcajdiopgaoicaa.RTS11
namespace Go.Proofs.Ytcajdiopgaoicaa.RTG15
open SUnseal11 Conv15 SegP15
open SBytes (getN getF val val_in chkB)
open SSeal11 (sealB)
/-- Two lists begin alike. -/
def Agr (m : Nat) (xs ys : List Int) : Prop := m ≤ xs.length ∧ m ≤ ys.length ∧ ∀ i, i < m → xs.getD i 0 = ys.getD i 0
theorem agr_pre (l r : List Int) : Agr l.length l (l ++ r) := ⟨Nat.le_refl _, by simp, fun i hi => by rw [List.getD, List.getD, List.getElem?_append_left hi]⟩
theorem Agr.symm {m : Nat} {xs ys : List Int} (h : Agr m xs ys) : Agr m ys xs := ⟨h.2.1, h.1, fun i hi => (h.2.2 i hi).symm⟩
theorem Agr.mono {m n : Nat} {xs ys : List Int} (h : Agr m xs ys) (hn : n ≤ m) : Agr n xs ys := ⟨Nat.le_trans hn h.1, Nat.le_trans hn h.2.1, fun i hi => h.2.2 i (by omega)⟩
theorem val_agr {m : Nat} {xs ys : List Int} (h : Agr m xs ys) (q : Nat) : ∀ k, q + k ≤ m → val xs q k = val ys q k
  | 0 => fun _ => rfl
  | k + 1 => fun hk => by
    simp only [val]
    rw [val_agr h q k (by omega), h.2.2 (q + k) (by omega)]
theorem getF_low (xs : List Int) (q : Nat) : ∀ f k, (getF xs q f k).2.2 = true → ((q + k + 1 : Nat) : Int) ≤ (getF xs q f k).2.1
  | 0, k => by simp [getF]
  | f + 1, k => by
    intro h
    simp only [getF] at h ⊢
    by_cases a : q + k < xs.length
    · rw [if_pos a] at h ⊢
      by_cases b : xs.getD (q + k) 0 < 128
      · rw [if_pos b] at h ⊢
        by_cases c : xs.getD (q + k) 0 = 0 ∧ 0 < k
        · rw [if_pos c] at h; simp at h
        · rw [if_neg c]; exact Int.le_refl _
      · rw [if_neg b] at h ⊢
        have := getF_low xs q f (k + 1) h
        omega
    · rw [if_neg a] at h; simp at h
theorem getF_agr {m : Nat} {xs ys : List Int} (g : Agr m xs ys) (q : Nat) : ∀ f k, (getF xs q f k).2.2 = true → (getF xs q f k).2.1 ≤ m → getF ys q f k = getF xs q f k
  | 0, k => by simp [getF]
  | f + 1, k => by
    intro h hm
    have lo := getF_low xs q (f + 1) k h
    have km : q + k < m := by omega
    have a : q + k < xs.length := Nat.lt_of_lt_of_le km g.1
    have a' : q + k < ys.length := Nat.lt_of_lt_of_le km g.2.1
    simp only [getF] at h hm ⊢
    rw [if_pos a] at h hm ⊢
    rw [if_pos a', ← g.2.2 (q + k) km]
    by_cases b : xs.getD (q + k) 0 < 128
    · rw [if_pos b] at h hm ⊢
      rw [if_pos b]
      by_cases c : xs.getD (q + k) 0 = 0 ∧ 0 < k
      · rw [if_pos c, if_pos c]
      · rw [if_neg c, if_neg c, val_agr g q (k + 1) (by omega)]
    · rw [if_neg b] at h hm ⊢
      rw [if_neg b]
      exact getF_agr g q f (k + 1) h hm
theorem getN_low {xs : List Int} {p : Int} (h : (getN xs p).2.2 = true) : 0 ≤ p ∧ p < (getN xs p).2.1 := by
  unfold getN at h ⊢
  by_cases a : p < 0 ∨ (xs.length : Int) ≤ p
  · rw [if_pos a] at h; simp at h
  · rw [if_neg a] at h ⊢
    have := getF_low xs p.toNat 9 0 h
    omega
theorem getN_agr {m : Nat} {xs ys : List Int} (g : Agr m xs ys) {p : Int} (h : (getN xs p).2.2 = true) (hm : (getN xs p).2.1 ≤ m) : getN ys p = getN xs p := by
  have lo := getN_low h
  have a1 : ¬ (p < 0 ∨ (xs.length : Int) ≤ p) := by have := g.1; omega
  have a2 : ¬ (p < 0 ∨ (ys.length : Int) ≤ p) := by have := g.2.1; omega
  unfold getN at h hm ⊢
  rw [if_neg a1] at h hm ⊢
  rw [if_neg a2]
  exact getF_agr g _ 9 0 h hm
theorem piece_agr {m : Nat} {xs ys : List Int} (g : Agr m xs ys) {f n : Nat} (h : f + n ≤ m) : piece ys f n = piece xs f n := by
  apply List.ext_getElem?
  intro i
  have lx : (piece xs f n).length = n := piece_len (by have := g.1; omega)
  have ly : (piece ys f n).length = n := piece_len (by have := g.2.1; omega)
  by_cases hi : i < n
  · have ex := piece_get (xs := xs) (f := f) hi
    have ey := piece_get (xs := ys) (f := f) hi
    rw [← g.2.2 (f + i) (by omega), ← ex] at ey
    rw [List.getElem?_eq_getElem (by omega), List.getElem?_eq_getElem (by omega)]
    simp only [List.getD, List.getElem?_eq_getElem (show i < (piece ys f n).length by omega), List.getElem?_eq_getElem (show i < (piece xs f n).length by omega), Option.getD_some] at ey
    rw [ey]
  · rw [List.getElem?_eq_none (by omega), List.getElem?_eq_none (by omega)]
/-- What a seal that is read well tells of its place. -/
theorem unseal_parts {xs : List Int} {p : Int} (h : (unsealN xs p).2.2 = 0) : (getN xs p).2.2 = true ∧ (getN xs p).1 ≤ 9000 ∧ (unsealN xs p).2.1 = (getN xs p).2.1 + (getN xs p).1 + 4 ∧ (unsealN xs p).2.1 ≤ xs.length ∧ (unsealN xs p).1 = piece xs (getN xs p).2.1.toNat (getN xs p).1.toNat ∧ chkB (piece xs (getN xs p).2.1.toNat (getN xs p).1.toNat) = fourN xs ((getN xs p).2.1.toNat + (getN xs p).1.toNat) := by
  unfold unsealN at h ⊢
  by_cases a : (getN xs p).2.2 = false ∨ 9000 < (getN xs p).1
  · rw [if_pos a] at h; simp at h
  · rw [if_neg a] at h ⊢
    have a1 : (getN xs p).2.2 = true := by
      cases e : (getN xs p).2.2 with
      | true => rfl
      | false => exact absurd (.inl e) a
    by_cases b : (xs.length : Int) - (getN xs p).2.1 < (getN xs p).1 + 4
    · rw [if_pos b] at h; simp at h
    · rw [if_neg b] at h ⊢
      by_cases c : chkB (piece xs (getN xs p).2.1.toNat (getN xs p).1.toNat) = fourN xs ((getN xs p).2.1.toNat + (getN xs p).1.toNat)
      · rw [if_pos c]
        exact ⟨a1, Int.not_lt.1 (fun q => a (.inr q)), rfl, by simp only; omega, rfl, c⟩
      · rw [if_neg c] at h; simp at h
theorem unseal_low {xs : List Int} {p : Int} (h : (unsealN xs p).2.2 = 0) : 0 ≤ p ∧ p < (unsealN xs p).2.1 ∧ (unsealN xs p).2.1 ≤ xs.length := by
  obtain ⟨a, _, e, l, _⟩ := unseal_parts h
  have := getN_low a
  have := (getN_in xs p a).1
  omega
/-- A seal that ends where two lists still agree is read of both. -/
theorem unseal_agr {m : Nat} {xs ys : List Int} (g : Agr m xs ys) {p : Int} (h : (unsealN xs p).2.2 = 0) (hm : (unsealN xs p).2.1 ≤ m) : unsealN ys p = unsealN xs p := by
  obtain ⟨a, n9, e, l, ed, ec⟩ := unseal_parts h
  obtain ⟨i1, i2, i3⟩ := getN_in xs p a
  have gy := getN_agr g a (by omega)
  have py : piece ys (getN xs p).2.1.toNat (getN xs p).1.toNat = piece xs (getN xs p).2.1.toNat (getN xs p).1.toNat := piece_agr g (by omega)
  have fy : fourN ys ((getN xs p).2.1.toNat + (getN xs p).1.toNat) = fourN xs ((getN xs p).2.1.toNat + (getN xs p).1.toNat) := by
    unfold fourN
    rw [g.2.2 _ (by omega), g.2.2 _ (by omega), g.2.2 _ (by omega), g.2.2 _ (by omega)]
  have hx : unsealN xs p = (piece xs (getN xs p).2.1.toNat (getN xs p).1.toNat, (getN xs p).2.1 + (getN xs p).1 + 4, 0) := by
    rw [← ed, ← e, ← h]
  rw [hx]
  unfold unsealN
  rw [gy, py, fy, if_neg (by rw [a]; simp; omega), if_neg (by have := g.2.1; omega), if_pos ec]
theorem segS_in {xs : List Int} : ∀ {j : Nat} {l : List ByteArray} {p : Int}, segS xs j = (l, p, true) → 0 ≤ p ∧ p ≤ xs.length
  | 0, l, p => fun h => by simp [segS] at h; omega
  | j + 1, l, p => fun h => by
    rw [segS] at h
    split at h
    · rename_i q
      have := unseal_low q.2.2
      simp at h
      omega
    · simp at h
/-- Records that end where two lists still agree are read of both. -/
theorem segS_agr {m : Nat} {xs ys : List Int} (g : Agr m xs ys) : ∀ {j : Nat} {l : List ByteArray} {p : Int}, segS xs j = (l, p, true) → p ≤ m → segS ys j = (l, p, true)
  | 0, l, p => fun h _ => h
  | j + 1, l, p => fun h hm => by
    rw [segS] at h
    split at h
    · rename_i q
      obtain ⟨l0, p0, b0⟩ : ∃ l0 p0, segS xs j = (l0, p0, true) := ⟨(segS xs j).1, (segS xs j).2.1, by rw [← q.1]⟩
      rw [b0] at h q
      have lo := unseal_low q.2.2
      have e1 : l0 ++ [strOfNums (unsealN xs p0).1] = l := (Prod.ext_iff.1 h).1
      have e2 : (unsealN xs p0).2.1 = p := (Prod.ext_iff.1 (Prod.ext_iff.1 h).2).1
      have ag := unseal_agr g q.2.2 (by rw [e2]; exact hm)
      have ih := segS_agr g b0 (by simp only at lo; omega)
      have hy : p0 < (ys.length : Int) := by have := g.2.1; simp only at lo; omega
      have := segS_go ih hy (by rw [ag]; exact q.2.2)
      rw [this, ag, e1, e2]
    · simp at h
/-- Where reading comes to its end. -/
theorem segS_last (xs : List Int) : ∀ n, ∃ j, j ≤ n ∧ segS xs j = ((segS xs n).1, (segS xs n).2.1, true)
  | 0 => ⟨0, Nat.le_refl _, rfl⟩
  | n + 1 => by
    obtain ⟨j, hj, e⟩ := segS_last xs n
    by_cases q : (segS xs n).2.2 = true ∧ (segS xs n).2.1 < xs.length ∧ (unsealN xs (segS xs n).2.1).2.2 = 0
    · exact ⟨n + 1, Nat.le_refl _, by rw [segS, if_pos q]⟩
    · exact ⟨j, by omega, by rw [e, segS, if_neg q]⟩
/-- A list that ends where its records do. -/
structure Whole (xs : List Int) (l : List ByteArray) : Prop where
  e : segS xs l.length = (l, (xs.length : Int), true)
theorem whole_read {xs : List Int} {l : List ByteArray} (h : Whole xs l) (h6 : l.length ≤ 6) : (segS xs 6).1 = l ∧ (segS xs 6).2.1 = xs.length := by
  by_cases q : l.length = 6
  · have := h.e
    rw [q] at this
    rw [this]
    exact ⟨rfl, rfl⟩
  · rw [segS_end (by omega) h.e (fun z => by have := z.1; omega)]
    exact ⟨rfl, rfl⟩
/-- What is left of a list that is cut behind its last whole record. -/
theorem whole_cut (xs : List Int) : Whole (xs.take (segS xs 6).2.1.toNat) (segS xs 6).1 ∧ (segS xs 6).1.length ≤ 6 ∧ 0 ≤ (segS xs 6).2.1 ∧ (segS xs 6).2.1 ≤ xs.length := by
  obtain ⟨j, hj, e⟩ := segS_last xs 6
  have i := segS_in e
  have hl := segS_all e
  refine ⟨⟨?_⟩, by omega, i.1, i.2⟩
  have lt : (xs.take (segS xs 6).2.1.toNat).length = (segS xs 6).2.1.toNat := by rw [List.length_take]; omega
  have g : Agr (segS xs 6).2.1.toNat xs (xs.take (segS xs 6).2.1.toNat) := ⟨by omega, by omega, fun k hk => by simp [List.getD, hk]⟩
  rw [hl, lt, Int.toNat_of_nonneg i.1]
  exact segS_agr g e (by omega)
/-- One record more. -/
theorem whole_more {xs : List Int} {l : List ByteArray} (h : Whole xs l) {s : ByteArray} (hs : s.size ≤ 9000) : Whole (xs ++ sealB (nums s)) (l ++ [s]) := by
  have u := RTS11.unseal_seal xs (nums s) [] (by rw [nums_len]; exact hs)
  rw [List.append_nil] at u
  have a := segS_agr (agr_pre xs (sealB (nums s))) h.e (Int.le_refl _)
  refine ⟨?_⟩
  have lt : (xs.length : Int) < ((xs ++ sealB (nums s)).length : Int) := by
    have := (unseal_low (xs := xs ++ sealB (nums s)) (p := xs.length) (by rw [u])).2
    rw [u] at this
    simp only at this
    omega
  have := segS_go a lt (by rw [u])
  rw [List.length_append, List.length_singleton, this, u]
  simp only [back, List.length_append]
/-- A record behind it that is torn is not read. -/
theorem whole_torn {xs : List Int} {l : List ByteArray} (h : Whole xs l) (h6 : l.length ≤ 6) {d : List Int} (hd : d.length ≤ 9000) {k : Nat} (hk : k < (sealB d).length) : (segS (xs ++ (sealB d).take k) 6).1 = l := by
  have a := segS_agr (agr_pre xs ((sealB d).take k)) h.e (Int.le_refl _)
  by_cases q : l.length = 6
  · rw [← q, a]
  · rw [segS_end (by omega) a (fun z => ?_)]
    have lo := unseal_low z.2
    have g : Agr (xs.length + k) (xs ++ (sealB d).take k) (xs ++ sealB d) := by
      have hl : ((sealB d).take k).length = k := by rw [List.length_take]; omega
      have := agr_pre (xs ++ (sealB d).take k) ((sealB d).drop k)
      rw [List.append_assoc, List.take_append_drop, List.length_append, hl] at this
      exact this
    have ll : (xs ++ (sealB d).take k).length = xs.length + k := by rw [List.length_append, List.length_take]; omega
    have e := unseal_agr g z.2 (by omega)
    have u := RTS11.unseal_seal xs d [] hd
    rw [List.append_nil] at u
    rw [u] at e
    have := congrArg (fun t => t.2.1) e
    simp only at this
    omega
end Go.Proofs.Ytcajdiopgaoicaa.RTG15
namespace Go.Proofs.Ytcajdiopgaoicaa.PureS15
open Fil14 DiskH14 SDk14 SOk14 SRd14 SRef14 SPut14 SAppend14 SSync14 SCut14 SCrash14 Pure14 PureD14 Conv15 SegP15 SLate15 SAdd15 SMend15 RTG15
open SSeal11 (sealB four)
theorem nums_append (s t : ByteArray) : nums (s ++ t) = nums s ++ nums t := by
  unfold nums
  rw [ByteArray.data_append, Array.toList_append, List.map_append]
theorem seal_in (d : List Int) (hd : ∀ x ∈ d, 0 ≤ x ∧ x ≤ 255) : ∀ x ∈ sealB d, 0 ≤ x ∧ x ≤ 255 := by
  intro x hx
  unfold sealB at hx
  split at hx
  · rename_i q
    rw [List.mem_append, List.mem_append] at hx
    rcases hx with (hx | hx) | hx
    · unfold SPut11.numB at hx
      rw [if_neg (by omega)] at hx
      exact SPut11.numF_in 8 _ (by omega) x hx
    · exact hd x hx
    · unfold four at hx
      simp at hx
      omega
  · simp at hx
theorem nums_seal (s : ByteArray) : nums (sealT s) = sealB (nums s) := forth (seal_in _ (fun x hx => nums_mem hx))
theorem nums_extract (s : ByteArray) (j : Nat) : nums (s.extract 0 j) = (nums s).take j := by
  unfold nums
  rw [ByteArray.data_extract, Array.toList_extract]
  simp [List.map_take]
theorem okS_N {seg : Int} (h : okS seg = true) : okN seg = true := by
  have := of_decide_eq_true h
  exact decide_eq_true (by omega)
theorem segD_of {room : Int} {ps : List TF} {seg : Int} {X : ByteArray} (r : readD room ps seg = (X, true)) (q : okS seg = true) : segD room ps seg = ((segS (nums X) 6).1, (segS (nums X) 6).2.1) := by
  unfold segD
  rw [r, if_pos ⟨rfl, q⟩]
/-- What SegMend tells when it is not done. -/
theorem mend_not {room : Int} {ps : List TF} {seg : Int} (h : (mendD room ps seg).2 ≠ 0) : ((mendD room ps seg).2 = 1 ∧ (mendD room ps seg).1.2 = []) ∨ ((mendD room ps seg).2 ≠ 1 ∧ (mendD room ps seg).1.2 = ps) := by
  unfold mendD at h ⊢
  split
  · rename_i q
    rw [if_pos q] at h
    unfold cutD at h ⊢
    by_cases a : (atD room ps seg).2 = 0
    · rw [if_pos a] at h ⊢
      split
      · rename_i b
        rw [if_pos b] at h
        exact absurd rfl h
      · exact .inr ⟨by show (2 : Int) ≠ 1; decide, rfl⟩
    · rw [if_neg a]
      unfold refD
      by_cases c : (atD room ps seg).2 = 1
      · rw [if_pos c]
        exact .inl ⟨c, rfl⟩
      · rw [if_neg c]
        exact .inr ⟨c, rfl⟩
  · exact .inl ⟨rfl, rfl⟩
/-- What SegMend tells when it is done. -/
theorem mend_done {room : Int} {ps : List TF} {seg : Int} (h : (mendD room ps seg).2 = 0) : (mendD room ps seg).1.1 = room ∧ OkD room (mendD room ps seg).1.2 ∧ okS seg = true ∧ ∃ X l, readD room (mendD room ps seg).1.2 seg = (X, true) ∧ Whole (nums X) l ∧ l.length ≤ 6 ∧ (segD room (mendD room ps seg).1.2 seg).1 = l := by
  unfold mendD at h ⊢
  by_cases q : okS seg = true
  · rw [if_pos q] at h ⊢
    unfold cutD at h ⊢
    by_cases a : (atD room ps seg).2 = 0
    · rw [if_pos a] at h ⊢
      split
      · rename_i b
        obtain ⟨ok, _, k, e, kl, en⟩ := SCom14.at_in a
        have oc := Ok14.ok_cut (n := (segD room ps seg).2) a
        have mem := elF_mem kl
        have rd : readD room ps seg = (bytesAt ps k, true) := by
          have := read_is ok mem
          rw [en] at this
          exact this
        have sg : (segD room ps seg).2 = (segS (nums (bytesAt ps k)) 6).2.1 := by
          unfold segD
          rw [rd, if_pos ⟨rfl, q⟩]
        obtain ⟨wc, wl, w0, w1⟩ := whole_cut (nums (bytesAt ps k))
        have pm : (seg, (bytesAt ps (atD room ps seg).1.toNat).extract 0 (segD room ps seg).2.toNat, ByteArray.empty) ∈ putF ps (seg, (bytesAt ps (atD room ps seg).1.toNat).extract 0 (segD room ps seg).2.toNat, ByteArray.empty) := (put_mem (asc_of ok).1).2 (.inl rfl)
        have r2 := read_is oc pm
        simp only [ByteArray.append_empty] at r2
        have nX : nums ((bytesAt ps (atD room ps seg).1.toNat).extract 0 (segD room ps seg).2.toNat) = (nums (bytesAt ps k)).take (segS (nums (bytesAt ps k)) 6).2.1.toNat := by
          rw [nums_extract, e, Int.toNat_natCast, sg]
        refine ⟨rfl, oc, q, _, (segS (nums (bytesAt ps k)) 6).1, r2, by rw [nX]; exact wc, wl, ?_⟩
        show (segD room (putF ps _) seg).1 = _
        rw [segD_of r2 q, nX]
        exact (whole_read wc wl).1
      · rename_i b
        rw [if_neg b] at h
        exact absurd h (by show ¬ (2 : Int) = 0; decide)
    · rw [if_neg a] at h
      exact absurd h a
  · rw [if_neg q] at h
    exact absurd h (by decide)
/-- What SegLate tells when it is done. -/
theorem late_done {room : Int} {ps : List TF} {seg : Int} {s : ByteArray} (ok : OkD room ps) (h : (lateD room ps seg s).2 = 0) : s.size ≤ 9000 ∧ okS seg = true ∧ lateD room ps seg s = ((room, putF ps (appF ps seg (sealT s))), 0) ∧ OkD room (putF ps (appF ps seg (sealT s))) ∧ appF ps seg (sealT s) ∈ putF ps (appF ps seg (sealT s)) ∧ readD room (putF ps (appF ps seg (sealT s))) seg = ((readD room ps seg).1 ++ sealT s, true) := by
  unfold lateD at h ⊢
  by_cases q : s.size ≤ 9000 ∧ okS seg = true
  · rw [if_pos q] at h ⊢
    have kn := okS_N q.2
    unfold appendD at h ⊢
    rw [if_pos ⟨ok, kn⟩] at h ⊢
    by_cases f : room - sumZ ps < (sealT s).size
    · rw [if_pos f] at h
      exact absurd h (by show ¬ (3 : Int) = 0; decide)
    · rw [if_neg f]
      obtain ⟨r, m⟩ := append_read ok kn (s := sealT s) (by omega)
      exact ⟨q.1, q.2, rfl, Ok14.ok_append ok kn (by omega), m, r⟩
  · rw [if_neg q] at h
    exact absurd h (by decide)
theorem late_not {room : Int} {ps : List TF} {seg : Int} {s : ByteArray} (h : (lateD room ps seg s).2 ≠ 0) : (lateD room ps seg s).2 = 1 ∨ (lateD room ps seg s).1.2 = ps := by
  unfold lateD at h ⊢
  split
  · rename_i q
    rw [if_pos q] at h
    unfold appendD at h ⊢
    by_cases o : OkD room ps ∧ okN seg = true
    · rw [if_pos o] at h ⊢
      split
      · exact .inr rfl
      · rename_i f
        rw [if_neg f] at h
        exact absurd rfl h
    · rw [if_neg o]
      exact .inl rfl
  · exact .inl rfl
/-- What SegAdd tells when it is done: the record is behind what was there, and all of it is safe. -/
theorem add_done {room : Int} {ps : List TF} {seg : Int} {s : ByteArray} (ok : OkD room ps) (h : (lateD room ps seg s).2 = 0) : ∃ qs, addD room ps seg s = ((room, qs), 0) ∧ OkD room qs ∧ (seg, (readD room ps seg).1 ++ sealT s, ByteArray.empty) ∈ qs := by
  obtain ⟨_, ks, e, ok1, m, r⟩ := late_done ok h
  have kn := okS_N ks
  have nm : (appF ps seg (sealT s)).1 = seg := by
    unfold appF
    split
    · rename_i q
      obtain ⟨k, e1, _, e2⟩ := findF_in q
      rw [e1]
      exact e2
    · rfl
  obtain ⟨k, ea, kl, ek⟩ := PureD14.at_yes ok1 m
  rw [nm] at ea
  have os := Ok14.ok_sync (room := room) (ps := putF ps (appF ps seg (sealT s))) (nm := seg) (by rw [ea])
  have bt : bytesAt (putF ps (appF ps seg (sealT s))) k = (readD room ps seg).1 ++ sealT s := by
    have rr := read_is ok1 m
    rw [nm, r] at rr
    unfold bytesAt
    rw [ek]
    exact (Prod.ext_iff.1 rr).1.symm
  unfold addD
  rw [e, if_pos rfl]
  unfold syncD
  simp only
  rw [ea] at os ⊢
  simp only [Int.toNat_natCast] at os ⊢
  rw [if_pos trivial]
  refine ⟨_, rfl, os, ?_⟩
  rw [← bt]
  exact (put_mem (asc_of ok1).1).2 (.inl rfl)
theorem add_not {room : Int} {ps : List TF} {seg : Int} {s : ByteArray} (ok : OkD room ps) (h : (addD room ps seg s).2 ≠ 0) : (addD room ps seg s).2 = 1 ∨ (addD room ps seg s).1.2 = ps := by
  by_cases q : (lateD room ps seg s).2 = 0
  · obtain ⟨qs, e, _⟩ := add_done ok q
    rw [e] at h
    exact absurd rfl h
  · have e : addD room ps seg s = lateD room ps seg s := by unfold addD; rw [if_neg q]
    rw [e]
    exact late_not q
/-- What is read behind a crash of a segment whose records are whole, with a late record behind them or none. -/
theorem crash_seg {room : Int} {rs : List TF} {seg : Int} {Y t : ByteArray} {l : List ByteArray} (keep : Int) (ok : OkD room rs) (ks : okS seg = true) (ht : t.size ≤ 9000) (m : (seg, Y, ByteArray.empty) ∈ rs ∨ (seg, Y, sealT t) ∈ rs) (hw : Whole (nums Y) l) (hl : l.length ≤ 5) : (segD (crashD room rs keep).1 (crashD room rs keep).2 seg).1 = l ∨ (segD (crashD room rs keep).1 (crashD room rs keep).2 seg).1 = l ++ [t] := by
  have ce : crashD room rs keep = (room, rs.map (crashF keep)) := if_pos ok
  rw [ce]
  obtain ⟨j, hj, rd⟩ : ∃ j, j ≤ (sealT t).size ∧ readD room (rs.map (crashF keep)) seg = (Y ++ (sealT t).extract 0 j, true) := by
    rcases m with m | m
    · obtain ⟨j, hj, rd⟩ := crash_read keep ok m
      refine ⟨0, Nat.zero_le _, ?_⟩
      simp only at rd hj
      have z : j = 0 := by simpa using hj
      subst z
      rw [rd]
      congr 1
      apply ByteArray.ext
      simp
    · exact crash_read keep ok m
  have e : (segD room (rs.map (crashF keep)) seg).1 = (segS (nums Y ++ (sealB (nums t)).take j) 6).1 := by
    unfold segD
    rw [rd, if_pos ⟨rfl, ks⟩, nums_append, nums_extract, nums_seal]
  show (segD room (rs.map (crashF keep)) seg).1 = l ∨ (segD room (rs.map (crashF keep)) seg).1 = l ++ [t]
  rw [e]
  have tl : (nums t).length ≤ 9000 := by rw [nums_len]; exact ht
  have sz : (sealT t).size = (sealB (nums t)).length := by unfold sealT; rw [strOfNums_size]
  by_cases q : j < (sealB (nums t)).length
  · exact .inl (whole_torn hw (by omega) tl q)
  · rw [List.take_of_length_le (by omega)]
    exact .inr (whole_read (whole_more hw ht) (by simp; omega)).1
end Go.Proofs.Ytcajdiopgaoicaa.PureS15
namespace Go.Proofs.Ytcajdiopgaoicaa.PureT15
open Go.ChangeShapes Go.WideShapes Go.ChangeAt Go.RowKit
theorem all_eq {al l : List ByteArray} {s t : ByteArray} {n6 no : Nat} (hno : l.length = no) (h : (al = l ++ [s] ∧ n6 = no + 1) ∨ (al = l ++ [s] ++ [t] ∧ n6 = no + 2)) :
    (∀ i, i < no → al.getD i ByteArray.empty = l.getD i ByteArray.empty) ∧ al.getD no ByteArray.empty = s ∧ (n6 = no + 2 → al.getD (no + 1) ByteArray.empty = t) ∧ al.length = n6 ∧ no < n6 ∧ n6 ≤ no + 2 := by
  subst hno
  rcases h with ⟨rfl, rfl⟩ | ⟨rfl, rfl⟩
  · refine ⟨fun i hi => by rw [List.getD, List.getD, List.getElem?_append_left hi], ?_, fun q => by omega, by simp, by omega, by omega⟩
    rw [List.getD, List.getElem?_append_right (Nat.le_refl _)]
    simp
  · refine ⟨fun i hi => by rw [List.append_assoc, List.getD, List.getD, List.getElem?_append_left hi], ?_, fun _ => ?_, by simp, by omega, by omega⟩
    · rw [List.append_assoc, List.getD, List.getElem?_append_right (Nat.le_refl _)]
      simp
    · rw [List.getD, List.getElem?_append_right (by simp)]
      simp
theorem ixS (a : Option Addr) (g n c i : Nat) (e : a = some ⟨g, 0, none⟩) (h : i < n) (v : Int) (hv : v = (i : Int)) (W : World) : (Instr.indexAt 31 (.slice a n c) (.int .i64 v)).run Try.prog W = .ok (.pointer (some ⟨g, i, none⟩)) W := by
  subst e hv
  have h1 : (i : Int) < (n : Int) := by omega
  simp [go_sem, h1]
theorem wr (no : Nat) (h : no < 5) : wrap64 ((no : Int) + 1) = no + 1 ∧ wrap64 ((no : Int) + 2) = no + 2 := ⟨by rw [wrap64]; omega, by rw [wrap64]; omega⟩
/-- What the law of segments asks of the records that are read at its end; the lengths as numbers of their own. -/
structure T15 (v : World) (g6 n6 c6 no : Nat) (l : List ByteArray) (s t : ByteArray) (nI mI : Int) : Prop where
  w1 : wrap64 (nI + 1) = nI + 1
  w2 : wrap64 (nI + 2) = nI + 2
  q5 : decide (mI < nI + 1) = false
  q6 : decide (mI > nI + 2) = false
  cs : v.cell? ⟨g6, no, none⟩ = some (.string s)
  gl : g6 < v.heap.size
  ix : ∀ W, (Instr.indexAt 31 (.slice (some ⟨g6, 0, none⟩) n6 c6) (.int .i64 nI)).run Try.prog W = .ok (.pointer (some ⟨g6, no, none⟩)) W
  eq : ∀ i, i < no → v.cell? ⟨g6, i, none⟩ = some (.string (l.getD i ByteArray.empty))
  ixi : ∀ i : Nat, i < no → ∀ W, (Instr.indexAt 31 (.slice (some ⟨g6, 0, none⟩) n6 c6) (.int .i64 (i : Int))).run Try.prog W = .ok (.pointer (some ⟨g6, i, none⟩)) W
  two : (mI == nI + 2) = false ∨ ((mI == nI + 2) = true ∧ v.cell? ⟨g6, no + 1, none⟩ = some (.string t) ∧ ∀ W, (Instr.indexAt 31 (.slice (some ⟨g6, 0, none⟩) n6 c6) (.int .i64 (nI + 1))).run Try.prog W = .ok (.pointer (some ⟨g6, no + 1, none⟩)) W)
theorem t15 {v : World} {B g6 n6 c6 no : Nat} {al l : List ByteArray} {s t : ByteArray} (h : StrO15.Own v B g6 n6 c6 al) (hno : l.length = no) (n5 : no < 5) (hc : (al = l ++ [s] ∧ n6 = no + 1) ∨ (al = l ++ [s] ++ [t] ∧ n6 = no + 2)) : ∃ nI mI : Int, (no : Int) = nI ∧ (n6 : Int) = mI ∧ T15 v g6 n6 c6 no l s t nI mI := by
  have AA := h.at
  obtain ⟨a1, a2, a3, a4, a5, a6⟩ := all_eq hno hc
  refine ⟨no, n6, rfl, rfl, (wr no n5).1, (wr no n5).2, decide_eq_false (by omega), decide_eq_false (by omega), ?_, h.lt.2, ixS _ g6 n6 c6 no rfl a5 _ rfl, ?_, ?_, ?_⟩
  · have := AA no (by omega)
    rwa [a2] at this
  · intro i hi
    have := AA i (by omega)
    rwa [a1 i hi] at this
  · intro i hi
    exact ixS _ g6 n6 c6 i rfl (by omega) _ rfl
  · by_cases q : n6 = no + 2
    · refine .inr ⟨by simp; omega, ?_, ixS _ g6 n6 c6 (no + 1) rfl (by omega) _ (by omega)⟩
      have := AA (no + 1) (by omega)
      rwa [a3 q] at this
    · exact .inl (by simp; omega)
end Go.Proofs.Ytcajdiopgaoicaa.PureT15
namespace Go.Proofs.Ytcajdiopgaoicaa.IFile14
open Go.ChangeShapes Go.WideShapes Go.ChangeAt Go.RowKit Fil14 DiskH14 DkH14 SDk14 SOk14
set_option maxRecDepth 100000 in
theorem iName (w : World) (n : Int) : Calls Try.prog 51 #[.int .i64 n] w fun e w' => e = .returned (.bool (okN n)) ∧ w' = w := by
  unfold okN
  by_cases h0 : 0 ≤ n
  · by_cases h1 : n ≤ 21
    · rw [decide_eq_true ⟨h0, h1⟩]
      have a : n ≥ 0 := h0
      have b : n < 22 := by omega
      clear h1
      go_enter Try.func51, Try.ntmps51
      go_wp2
      go_ret
      exact ⟨rfl, rfl⟩
    · rw [decide_eq_false (fun q => h1 q.2)]
      have a : n ≥ 0 := h0
      have b : ¬ n < 22 := by omega
      clear h1
      go_enter Try.func51, Try.ntmps51
      go_wp2
      go_ret
      exact ⟨rfl, rfl⟩
  · rw [decide_eq_false (fun q => h0 q.1)]
    have a : ¬ n ≥ 0 := h0
    go_enter Try.func51, Try.ntmps51
    go_wp2
    go_ret
    exact ⟨rfl, rfl⟩
theorem iNameB (w : World) (n : Int) (b : Bool) (h : okN n = b) : Calls Try.prog 51 #[.int .i64 n] w fun e w' => e = .returned (.bool b) ∧ w' = w := by
  rw [← h]
  exact iName w n
set_option maxRecDepth 100000 in
/-- How many bytes a file has. -/
theorem iSizeF (w : World) (p0 : Int) (p1 p2 : ByteArray) (h : p1.size + p2.size ≤ 1048576) : Calls Try.prog 50 #[.agg #[.int .i64 p0, .string p1, .string p2]] w fun e w' => e = .returned (.int .i64 ((p1.size : Int) + p2.size)) ∧ Below w.heap.size w w' := by
  have B := hide (one_more w (.cells #[.int .i64 p0, .string p1, .string p2] 54))
  have a1 : wrap64 ((p1.size : Int) + p2.size) = p1.size + p2.size := by rw [wrap64]; omega
  go_enter Try.func50, Try.ntmps50
  go_wp2
  go_ret
  exact ⟨rfl, unhide B⟩
set_option maxRecDepth 100000 in
/-- The bytes of a file. -/
theorem iText (w : World) (p0 : Int) (p1 p2 : ByteArray) (h : p1.size + p2.size ≤ 1048576) : Calls Try.prog 48 #[.agg #[.int .i64 p0, .string p1, .string p2]] w fun e w' => e = .returned (.string (p1 ++ p2)) ∧ Below w.heap.size w w' := by
  have B := hide (one_more w (.cells #[.int .i64 p0, .string p1, .string p2] 54))
  go_enter Try.func48, Try.ntmps48
  go_wp2
  go_ret
  exact ⟨rfl, unhide B⟩
end Go.Proofs.Ytcajdiopgaoicaa.IFile14
namespace Go.Proofs.Ytcajdiopgaoicaa.ISg15
open Go.ChangeShapes Go.WideShapes Go.ChangeAt Go.RowKit Fil14 DiskH14 DkH14 SDk14 SOk14 SegP15
set_option maxRecDepth 100000 in
theorem iSeg (w : World) (n : Int) : Calls Try.prog 24 #[.int .i64 n] w fun e w' => e = .returned (.bool (okS n)) ∧ w' = w := by
  unfold okS
  by_cases h0 : 0 ≤ n
  · by_cases h1 : n ≤ 19
    · rw [decide_eq_true ⟨h0, h1⟩]
      have a : n ≥ 0 := h0
      have b : n < 20 := by omega
      clear h1
      go_enter Try.func24, Try.ntmps24
      go_wp2
      go_ret
      exact ⟨rfl, rfl⟩
    · rw [decide_eq_false (fun q => h1 q.2)]
      have a : n ≥ 0 := h0
      have b : ¬ n < 20 := by omega
      clear h1
      go_enter Try.func24, Try.ntmps24
      go_wp2
      go_ret
      exact ⟨rfl, rfl⟩
  · rw [decide_eq_false (fun q => h0 q.1)]
    have a : ¬ n ≥ 0 := h0
    go_enter Try.func24, Try.ntmps24
    go_wp2
    go_ret
    exact ⟨rfl, rfl⟩
theorem iSegOk (w : World) (n : Int) (b : Bool) (h : okS n = b) : Calls Try.prog 24 #[.int .i64 n] w fun e w' => e = .returned (.bool b) ∧ w' = w := by
  rw [← h]
  exact iSeg w n
end Go.Proofs.Ytcajdiopgaoicaa.ISg15
namespace Go.Proofs.Ytcajdiopgaoicaa.IPuts11
open Go.ChangeShapes Go.WideShapes Go.ChangeAt Go.RowKit SBytes SPut11 SPuts11
open ByteH (Own At)
set_option maxRecDepth 100000 in
set_option maxHeartbeats 4000000 in
theorem iForm (w : World) (base g0 c0 n0 : Nat) (p0 : List Int) (x0 : Int) (h0 : 0 ≤ x0) (hx : x0 ≤ 9223372036854775807) (hn : n0 ≤ 100000000) (hb : base ≤ w.heap.size) (ho : Own w base g0 n0 c0 p0) :
    Calls Try.prog 82 #[.slice (some ⟨g0, 0, none⟩) n0 c0, .int .i64 x0] w fun e w' => ∃ g c, e = .returned (.slice (some ⟨g, 0, none⟩) (n0 + (numF x0.toNat).length) c) ∧ Own w' base g (n0 + (numF x0.toNat).length) c (p0 ++ numF x0.toNat) ∧ Below base w w' := by
  have O0 := hide (show Own w base g0 (n0 + ([] : List Int).length) c0 (p0 ++ []) from by simpa using ho)
  have B0 := hide (Below.refl base w)
  have L := hide (numF_nine (x := x0.toNat) (by omega))
  obtain ⟨r, hr⟩ : ∃ r, Hid (numF x0.toNat = r) := ⟨_, rfl⟩
  rw [unhide hr] at L ⊢
  have S0 := hide (show ([] : List Int) ++ numF x0.toNat = r from unhide hr)
  clear hr ho
  go_enter Try.func82, Try.ntmps82
  go_wp2
  go_loopw [0, 1] (fun l a wr => ∃ (x : Int) (p : List Int) (g c n : Nat), a = .int .i64 x ∧ l = .slice (some ⟨g, 0, none⟩) n c ∧ n = n0 + p.length ∧ 0 ≤ x ∧ x ≤ 9223372036854775807 ∧ Hid (p ++ numF x.toNat = r) ∧ Hid (Own wr base g n c (p0 ++ p)) ∧ Hid (Below base w wr)) (fun _ a _ => (intOf a).toNat)
  case atStart => exact ⟨x0, [], g0, c0, n0, rfl, rfl, by simp, h0, hx, S0, O0, B0⟩
  case round =>
    clear O0 B0 S0 hx h0
    obtain ⟨x, p, g, c, n, rfl, rfl, hnp, x1, x2, HR, HO, HB⟩ := hrel
    have bs := (unhide HB).size
    have pl : p.length ≤ 9 := by have a := unhide L; rw [← unhide HR] at a; simp at a; omega
    have nl : n ≤ 100000009 := by omega
    have HN := hide hnp
    have og := (unhide HO).lt
    have HX := hide (And.intro x1 x2)
    clear hnp
    by_cases t : 127 < x
    · have N := hide (show (p ++ [x % 128 + 128]) ++ numF (x / 128).toNat = r from by
        rw [← unhide HR, numF_more (x := x.toNat) (by omega), List.append_assoc]
        have e1 : ((x.toNat % 128 + 128 : Nat) : Int) = x % 128 + 128 := by omega
        have e2 : x.toNat / 128 = (x / 128).toNat := by omega
        rw [e1, e2]; rfl)
      clear HR x1 x2
      go_wp2_with (first | (at_builtin; refine wp_catB _ rfl _ _ rfl base g n c 1 (p0 ++ p) [x % 128 + 128] wr.heap.size 0 1 rfl rfl (own_alloc (unhide HO) _) rfl (lit_one _ _) (by omega) (by simp; omega) ?_) | go_in)
      intro g5 c5 w5 o5 gr5 loc5
      have O5 := hide o5
      have B5 := hide (((unhide HB).alloc (by omega) (.cells #[.int .u8 (x % 128 + 128)] 5)).grown gr5 (by simp; omega) (fun j hj => by cases hj; exact og.1))
      clear o5 gr5 loc5
      go_wp2
      go_roundw
      case rel =>
        have xx := unhide HX
        exact ⟨x / 128, p ++ [x % 128 + 128], g5, c5, n + 1, by simp, rfl, by have := unhide HN; simp; omega, by omega, by omega, N, O5, B5⟩
      case measure =>
        have xx := unhide HX
        simp [intOf]
        omega
    · have N := hide (show p ++ [x] = r from by
        rw [← unhide HR, numF_last (x := x.toNat) (by omega)]
        have e1 : ((x.toNat : Nat) : Int) = x := by omega
        rw [e1])
      clear HR
      go_wp2_with (first | (at_builtin; refine wp_catB _ rfl _ _ rfl base g n c 1 (p0 ++ p) [x] wr.heap.size 0 1 rfl rfl (own_alloc (unhide HO) _) rfl (lit_one _ _) (by omega) (by simp; omega) ?_) | go_in)
      intro g5 c5 w5 o5 gr5 loc5
      have O5 := hide o5
      have B5 := hide (((unhide HB).alloc (by omega) (.cells #[.int .u8 x] 5)).grown gr5 (by simp; omega) (fun j hj => by cases hj; exact og.1))
      clear o5 gr5 loc5
      go_wp2
      go_ret
      have e := unhide N
      have e1 : n0 + r.length = n + 1 := by rw [← e, unhide HN]; simp; omega
      exact ⟨g5, c5, by rw [e1]; rfl, by rw [e1, ← e]; exact unhide O5, unhide B5⟩
set_option maxRecDepth 100000 in
set_option maxHeartbeats 4000000 in
theorem iPutNums (w : World) (gl cl : Nat) (xs : List Int) (h20 : xs.length ≤ 1048576) (hg : gl < w.heap.size) (hr : Ints.At w gl xs) (hi : ∀ i, i < xs.length → xs.getD i 0 ≤ 9223372036854775807) :
    Calls Try.prog 78 #[.slice (some ⟨gl, 0, none⟩) xs.length cl] w fun e w' => ∃ a c, e = .returned (.slice a (numsB xs).length c) ∧ VOB.Ob w' w.heap.size a (numsB xs).length c (numsB xs) ∧ Below w.heap.size w w' := by
  have O0 := hide (lit0 w w.heap.size (Nat.le_refl _) rfl)
  have B0 := hide (one_more w (.cells #[] 5))
  have R := hide hr
  have HI := hide hi
  have HG := hide hg
  obtain ⟨r, hq⟩ : ∃ r, Hid (numsB xs = r) := ⟨_, rfl⟩
  rw [unhide hq]
  clear hr hi hg
  go_enter Try.func78, Try.ntmps78
  go_wp2
  go_loopw [3, 5, 9] (fun l _ a wr => ∃ (k g c n : Nat), a = .int .i64 k ∧ k ≤ xs.length ∧ l = .slice (some ⟨g, 0, none⟩) n c ∧ n ≤ 9 * k ∧ Hid (n = ((xs.take k).flatMap numB).length) ∧ Hid (∀ i, i < k → 0 ≤ xs.getD i 0) ∧ Hid (Own wr w.heap.size g n c ((xs.take k).flatMap numB)) ∧ Hid (Below w.heap.size w wr)) (fun _ _ a _ => xs.length - (intOf a).toNat)
  case atStart => exact ⟨0, w.heap.size, 0, 0, rfl, by omega, rfl, by omega, hide (by simp), hide (fun i h => absurd h (by omega)), hide (by simpa using unhide O0), B0⟩
  case round =>
    clear O0 B0
    obtain ⟨k, g, c, n, rfl, hk, rfl, nk, HN, HP, HO, HB⟩ := hrel
    have bs := (unhide HB).size
    by_cases t : k < xs.length
    · have d := (((unhide R).below (unhide HB) (unhide HG)) k t)
      have NX := hide (flat_next t)
      have HX := hide ((unhide HI) k t)
      have SG := hide (show 0 ≤ xs.getD k 0 → ∀ i, i < k + 1 → 0 ≤ xs.getD i 0 from fun h i hi => by
        by_cases e : i = k
        · subst e; exact h
        · exact (unhide HP) i (by omega))
      have BAD := hide (show xs.getD k 0 < 0 → r = [] from fun h => by rw [← unhide hq]; exact if_neg (fun a => by have := a k t; omega))
      clear HP
      generalize xs.getD k 0 = y at *
      have kx : (k : Int) < xs.length := by omega
      by_cases y0 : y < 0
      · have e := (unhide BAD) y0
        subst e
        have O5 := hide (lit0 wr w.heap.size bs rfl)
        have B5 := hide ((unhide HB).alloc bs (.cells #[] 5))
        clear BAD SG NX HX hq HI R
        go_wp2
        go_ret
        exact ⟨_, 0, rfl, .of (unhide O5), unhide B5⟩
      · have S1 := hide ((unhide SG) (by omega))
        have NB := hide (numB_pos (x := y) (by omega))
        have nine := numB_nine (unhide HX)
        rw [unhide NB] at nine
        have y1 : 0 ≤ y := by omega
        have FM := hide (iForm wr w.heap.size g c n _ y y1 (unhide HX) (by omega) bs (unhide HO))
        clear BAD SG
        go_wp2_with fail
        refine (unhide FM).mono ?_
        rintro e u ⟨g5, c5, rfl, o5, b5⟩
        have O5 := hide o5
        have B5 := hide ((unhide HB).trans b5)
        clear o5 b5 FM HO
        go_wp2
        go_roundw
        case rel => exact ⟨k + 1, g5, c5, n + (numF y.toNat).length, by go_num, by omega, rfl, by omega, hide (by rw [unhide NX, List.length_append, ← unhide HN, unhide NB]), S1, hide (by rw [unhide NX, unhide NB]; exact unhide O5), B5⟩
        case measure => simp [intOf]; omega
    · have e : k = xs.length := by omega
      subst e
      have E := hide (show xs.flatMap numB = r from by rw [← unhide hq]; exact (if_pos (unhide HP)).symm)
      have N := unhide HN
      have O := unhide HO
      rw [List.take_length] at N O
      rw [unhide E] at N O
      have O5 := hide O
      have N5 := hide N
      clear N O HN HO HP
      go_wp2
      go_ret
      have e := unhide N5
      subst e
      exact ⟨_, c, rfl, .of (unhide O5), unhide HB⟩
end Go.Proofs.Ytcajdiopgaoicaa.IPuts11
namespace Go.Proofs.Ytcajdiopgaoicaa.IPut11
open Go.ChangeShapes Go.WideShapes Go.ChangeAt Go.RowKit SBytes SPut11 SPuts11
theorem nums_one (x : Int) : numsB [x] = numB x := by
  unfold numsB
  by_cases h : x < 0
  · rw [if_neg (fun a => by have := a 0 (by simp); simp at this; omega)]
    exact (if_pos h).symm
  · rw [if_pos (fun i hi => by
      have : i = 0 := by simpa using hi
      subst this
      simp
      omega)]
    simp
set_option maxRecDepth 100000 in
theorem iPutNum (w : World) (x : Int) (hx : x ≤ 9223372036854775807) :
    Calls Try.prog 63 #[.int .i64 x] w fun e w' => ∃ a c, e = .returned (.slice a (numB x).length c) ∧ VOB.Ob w' w.heap.size a (numB x).length c (numB x) ∧ Below w.heap.size w w' := by
  have B0 := hide (one_more w (.cells #[.int .i64 x] 3))
  have M := hide (IPuts11.iPutNums (w.alloc (.cells #[.int .i64 x] 3)) w.heap.size 1 [x] (by simp) (by simp) (fun i hi => by
    have : i = 0 := by simpa using hi
    subst this
    simp) (fun i hi => by
    have : i = 0 := by simpa using hi
    subst this
    simpa using hx))
  rw [nums_one] at M
  generalize numB x = ws at *
  generalize hn : ws.length = nw at *
  have NW := hide hn
  clear hn
  go_enter Try.func63, Try.ntmps63
  go_wp2_with fail
  refine (unhide M).mono ?_
  rintro e u ⟨a, c, rfl, o, b⟩
  have O := hide o
  have B := hide ((unhide B0).trans (b.mono (by simp)))
  clear o b M B0
  go_wp2
  go_ret
  exact ⟨a, c, rfl, (unhide O).mono (by simp), unhide B⟩
end Go.Proofs.Ytcajdiopgaoicaa.IPut11
namespace Go.Proofs.Ytcajdiopgaoicaa.ICheck11
open Go.ChangeShapes Go.WideShapes Go.ChangeAt Go.RowKit SBytes
/-- Bytes that lie from a place on. -/
def AtBO (w : World) (g o : Nat) (xs : List Int) : Prop := ∀ i, i < xs.length → w.cell? ⟨g, o + i, none⟩ = some (.int .u8 (xs.getD i 0)) ∧ 0 ≤ xs.getD i 0 ∧ xs.getD i 0 ≤ 255
theorem AtBO.of {w : World} {g : Nat} {xs : List Int} (h : AtB w g xs) : AtBO w g 0 xs := fun i hi => by rw [Nat.zero_add]; exact h i hi
theorem AtBO.below {w w' : World} {g o B : Nat} {xs : List Int} (h : AtBO w g o xs) (k : Below B w w') (hg : g < B) : AtBO w' g o xs := fun i hi => ⟨(k.cell (p := ⟨g, o + i, none⟩) hg).trans (h i hi).1, (h i hi).2⟩
set_option maxRecDepth 100000 in
set_option maxHeartbeats 4000000 in
theorem iCheckO (w : World) (g o cap : Nat) (xs : List Int) (h20 : xs.length ≤ 1048576) (hr : AtBO w g o xs) :
    Calls Try.prog 75 #[.slice (some ⟨g, o, none⟩) xs.length cap] w fun e w' => e = .returned (.int .i64 (65536 * (chk xs xs.length).2 + (chk xs xs.length).1)) ∧ w' = w := by
  have R := hide hr
  clear hr
  go_enter Try.func75, Try.ntmps75
  go_wp2
  go_loopw [3, 4, 6, 9] (fun a b _ i wr => ∃ (k : Nat) (x y : Int), k ≤ xs.length ∧ i = .int .i64 k ∧ a = .int .i64 x ∧ b = .int .i64 y ∧ Hid ((x, y) = chk xs k) ∧ wr = w) (fun _ _ _ i _ => xs.length - (intOf i).toNat)
  case atStart => exact ⟨0, 0, 0, by omega, rfl, rfl, rfl, rfl, rfl⟩
  case round =>
    obtain ⟨k, x, y, hk, rfl, rfl, rfl, HC, rfl⟩ := hrel
    have q := chk_in xs k
    rw [← unhide HC] at q
    obtain ⟨q0, q1, q2, q3⟩ := q
    simp only at q0 q1 q2 q3
    by_cases t : k < xs.length
    · obtain ⟨d, d0, d1⟩ := (unhide R) k t
      have N := hide (show ((x + xs.getD k 0 + 1) % 65535, (y + (x + xs.getD k 0 + 1) % 65535) % 65535) = chk xs (k + 1) from by simp only [chk]; rw [← unhide HC]; rfl)
      clear HC
      generalize xs.getD k 0 = v at *
      have a1 : wrap64 (x + v) = x + v := by rw [wrap64]; omega
      have a2 : wrap64 (x + v + 1) = x + v + 1 := by rw [wrap64]; omega
      have a3 : (x + v + 1).tmod 65535 = (x + v + 1) % 65535 := tmod_pos _ (by omega)
      have m1 : 0 ≤ (x + v + 1) % 65535 ∧ (x + v + 1) % 65535 < 65535 := by omega
      generalize (x + v + 1) % 65535 = m at *
      have a4 : wrap64 m = m := by rw [wrap64]; omega
      have a5 : wrap64 (y + m) = y + m := by rw [wrap64]; omega
      have a6 : (y + m).tmod 65535 = (y + m) % 65535 := tmod_pos _ (by omega)
      have m2 : 0 ≤ (y + m) % 65535 ∧ (y + m) % 65535 < 65535 := by omega
      generalize (y + m) % 65535 = n at *
      have a7 : wrap64 n = n := by rw [wrap64]; omega
      have a8 : wrap64 v = v := by rw [wrap64]; omega
      go_wp2
      go_roundw
      case rel => exact ⟨k + 1, m, n, by omega, by go_num, by simp [a1, a2, a3, a4], by simp [a1, a2, a3, a4, a5, a6, a7], N, trivial⟩
      case measure => simp [intOf]; omega
    · have e : k = xs.length := by omega
      subst e
      have a1 : wrap64 (65536 * y) = 65536 * y := by rw [wrap64]; omega
      have a2 : wrap64 (65536 * y + x) = 65536 * y + x := by rw [wrap64]; omega
      have c1 : x = (chk xs xs.length).1 := congrArg Prod.fst (unhide HC)
      have c2 : y = (chk xs xs.length).2 := congrArg Prod.snd (unhide HC)
      have C1 := hide c1
      have C2 := hide c2
      clear c1 c2
      go_wp2
      go_ret
      exact ⟨by rw [← unhide C1, ← unhide C2]; simp [a1, a2], rfl⟩
end Go.Proofs.Ytcajdiopgaoicaa.ICheck11
namespace Go.Proofs.Ytcajdiopgaoicaa.ISum11
open Go.ChangeShapes Go.WideShapes Go.ChangeAt Go.RowKit SBytes SPut11
theorem chkB_in (xs : List Int) : 0 ≤ chkB xs ∧ chkB xs ≤ 4294967295 := by
  have := chk_in xs xs.length
  unfold chkB
  omega
/-- The four bytes of a sum, the first k of them laid. -/
def laid (n : Int) (k : Nat) : Array Value := #[.int .u8 (if 0 < k then n % 256 else 0), .int .u8 (if 1 < k then n / 256 % 256 else 0), .int .u8 (if 2 < k then n / 65536 % 256 else 0), .int .u8 (if 3 < k then n / 16777216 % 256 else 0)]
set_option maxRecDepth 100000 in
set_option maxHeartbeats 4000000 in
theorem iSum (w : World) (gl o cl : Nat) (xs : List Int) (h20 : xs.length ≤ 1048576) (hg : gl < w.heap.size) (hr : ICheck11.AtBO w gl o xs) :
    Calls Try.prog 59 #[.slice (some ⟨gl, o, none⟩) xs.length cl] w fun e w' => e = .returned (.agg #[.int .u8 (chkB xs % 256), .int .u8 (chkB xs / 256 % 256), .int .u8 (chkB xs / 65536 % 256), .int .u8 (chkB xs / 16777216 % 256)]) ∧ Below w.heap.size w w' := by
  have CK := hide (fun u h => ICheck11.iCheckO u gl o cl xs h20 h)
  have R := hide hr
  have CI := hide (show 0 ≤ 65536 * (chk xs xs.length).2 + (chk xs xs.length).1 ∧ 65536 * (chk xs xs.length).2 + (chk xs xs.length).1 ≤ 4294967295 from chkB_in xs)
  have E := hide (show chkB xs = 65536 * (chk xs xs.length).2 + (chk xs xs.length).1 from rfl)
  rw [unhide E]
  clear hr E
  generalize 65536 * (chk xs xs.length).2 + (chk xs xs.length).1 = n at *
  obtain ⟨n0, n1⟩ := unhide CI
  go_enter Try.func59, Try.ntmps59
  go_wp2_with fail
  refine ((unhide CK) _ ((unhide R).below (one_more _ _) hg)).mono ?_
  rintro e u ⟨rfl, rfl⟩
  go_wp2
  go_loopw [5, 9] (fun _ i wr => ∃ k : Nat, k ≤ 4 ∧ i = .int .i64 k ∧ wr = (w.alloc (.cells #[.int .u8 0, .int .u8 0, .int .u8 0, .int .u8 0] 83)).alloc (.cells (laid n k) 83)) (fun _ i _ => 4 - (intOf i).toNat)
  case atStart => exact ⟨0, by omega, rfl, rfl⟩
  case round =>
    obtain ⟨k, hk, rfl, rfl⟩ := hrel
    have : k = 0 ∨ k = 1 ∨ k = 2 ∨ k = 3 ∨ k = 4 := by omega
    rcases this with rfl | rfl | rfl | rfl | rfl
    · simp only [laid]
      go_wp2
      go_roundw
      case rel => exact ⟨1, by omega, rfl, by first | rfl | simp⟩
      case measure => simp [intOf]
    · simp only [laid]
      go_wp2
      go_roundw
      case rel => exact ⟨2, by omega, rfl, by first | rfl | simp⟩
      case measure => simp [intOf]
    · simp only [laid]
      go_wp2
      go_roundw
      case rel => exact ⟨3, by omega, rfl, by first | rfl | simp⟩
      case measure => simp [intOf]
    · simp only [laid]
      go_wp2
      go_roundw
      case rel => exact ⟨4, by omega, rfl, by
        have e : n / 16777216 % 256 = n / 16777216 := by omega
        simp [e]⟩
      case measure => simp [intOf]
    · simp only [laid]
      go_wp2
      go_returns
      exact ⟨rfl, (one_more _ _).trans ((Below.refl _ _).alloc (by simp) _)⟩
end Go.Proofs.Ytcajdiopgaoicaa.ISum11
namespace Go.Proofs.Ytcajdiopgaoicaa.ConB11
open Go.ChangeShapes Go.WideShapes Go.ChangeAt Go.RowKit SBytes SPut11
open ByteH (Own At info8)
/-- A list of the call's own, or nothing at all. -/
def OwnV (w : World) (base : Nat) (v : Value) (xs : List Int) : Prop := w.ownsRow base 5 1 v xs.length (xs.map (Value.int .u8))
theorem OwnV.nil (w : World) (base : Nat) : OwnV w base (.slice none 0 0) [] := ⟨rfl, .inl ⟨rfl, rfl⟩⟩
theorem OwnV.lt {w : World} {base : Nat} {v : Value} {xs : List Int} (h : OwnV w base v xs) : ∀ g, v.ownBlock = some g → base ≤ g ∧ g < w.heap.size := fun g hg => World.ownsRow.lt h g hg
theorem OwnV.ob {w : World} {base : Nat} {v : Value} {xs : List Int} (h : OwnV w base v xs) : ∃ a c, v = .slice a xs.length c ∧ VOB.Ob w base a xs.length c xs := by
  have h' := h
  rcases h.2 with ⟨rfl, h2⟩ | ⟨g, c, cur, rfl, _⟩
  · obtain rfl : xs = [] := List.eq_nil_of_length_eq_zero h2
    exact ⟨none, 0, rfl, h'⟩
  · exact ⟨_, c, rfl, h'⟩
theorem AtO.below {w w' : World} {g o B : Nat} {xs : List Int} (h : AtO w g o xs) (k : Below B w w') (hg : g < B) : AtO w' g o xs := fun i hi => (k.cell (p := ⟨g, o + i, none⟩) hg).trans (h i hi)
/-- A list appended to another one, which may be nothing. -/
theorem wp_catV (u : World) {ops : Array Oper} {rest : List Oper} {o : Oper} {a : Act} {Q : Exit → Act → World → Prop} (hgd : o.guard = none) (s x : Operand)
    (ho : o.op = .call { callee := .builtin .append, args := #[s, x], argTypes := #[22, 22] }) (base m : Nat) (v : Value) (ps qs : List Int) (vb off c : Nat)
    (hs : a.eval s = v) (hx : a.eval x = .slice (some ⟨vb, off, none⟩) m c) (hown : OwnV u base v ps) (hl : qs.length = m) (hv : AtO u vb off qs) (hn : ps.length + m ≤ 1048576) (hb : base ≤ u.heap.size)
    (h : ∀ v' w', OwnV w' base v' (ps ++ qs) → u.grownBy w' v.ownBlock → (v'.ownBlock = v.ownBlock ∨ v'.ownBlock = some u.heap.size) → wpList Try.prog ops Q rest (a.put o.dst v') w') : wpList Try.prog ops Q (o :: rest) a u := by
  obtain ⟨i0, hi, hz0, hz1, hz2⟩ := info_parts info8
  refine wpList_append_own_at u hgd s x 22 ho base 5 i0 (.int .u8 0) 1 1 Try.underlying22 hi hz0 hz1 hz2 rfl (by decide) v ps.length _ hs hown ⟨vb, off, none⟩ m c (qs.map (Value.int .u8)) hx (by simp [hl]) (fun j v hj => by
    have hj' : j < qs.length := by
      have := (List.getElem?_eq_some_iff.1 hj).1
      simpa using this
    have := hv j hj'
    rw [Addr.add_lit, this]
    rw [← hj]
    simp [List.getD, hj']) (by intro u hu; obtain ⟨y, _, rfl⟩ := List.mem_map.1 hu; simp [Value.oneCell']) (by unfold maxLen; omega) (by omega) hb ?_
  intro v' w' own' gr' nil' loc'
  refine h v' w' ?_ gr' loc'
  unfold OwnV
  rw [List.map_append, List.length_append, hl]
  exact own'
set_option maxRecDepth 100000 in
theorem grow_none (w : World) : Calls Try.prog 77 #[.slice none 0 0, .int .i64 0] w fun e w' => e = .returned (.slice none 0 0) ∧ Below w.heap.size w w' := by
  go_enter Try.func77, Try.ntmps77
  go_wp2
  go_ret
  exact ⟨rfl, Below.refl _ _⟩
set_option maxRecDepth 100000 in
theorem grow_some (w : World) (k : Nat) (h0 : 0 < k) (h20 : k ≤ 1048576) : Calls Try.prog 77 #[.slice none 0 0, .int .i64 k] w fun e w' => ∃ v, e = .returned v ∧ OwnV w' w.heap.size v [] ∧ Below w.heap.size w w' := by
  obtain ⟨i0, hi, hz0, hz1, hz2⟩ := info_parts info8
  have kp : (0 : Int) < (k : Int) := by omega
  have hold : (Builtin.firstCells i0.size 0 (.slice none 0 0)).run Try.prog w.drew = .ok ([] : List Value).toArray w.drew := run_firstCells_none _ _ _ _ _
  obtain ⟨G, hG⟩ : ∃ G, G = grownCap w k 0 5 := ⟨_, rfl⟩
  have hG1 : k ≤ G := by rw [hG]; exact grownCap_ge w _ _ _
  have hG2 : G ≤ maxLen := by rw [hG]; exact grownCap_le_maxLen w _ _ _ (by unfold maxLen; omega)
  obtain ⟨ROW, hROW⟩ : ∃ ROW : Array Value, ROW = ([] : List Value).toArray ++ Builtin.zeroCells (Value.int .u8 0).cells k ++ Builtin.zeroCells (Value.int .u8 0).cells (G - k) := ⟨_, rfl⟩
  have hrz : ∀ ty, (Builtin.append_ #[22, 3] ty #[.slice none 0 0, .int .i64 (k : Int)]).run Try.prog w = .ok (.slice (some ⟨w.heap.size, 0, none⟩) k G) (w.drew.alloc (.cells ROW 5)) := fun ty => by
    have h := Lib.run_append_grow_zeros w 22 3 ty 5 i0 _ .i64 .i64 Try.underlying22 Try.underlying3 hi hz0 none 0 0 [] hold k h0 (by rw [hz1]; decide) (by omega) (by omega) (by rw [hz2]; omega) (by rw [hz2]; exact growslice_fits (by omega) (by omega))
    rw [Nat.zero_add, ← hG, ← hROW] at h
    exact h
  have hRs : ROW.size = G * 1 := by
    rw [hROW]
    simp [Builtin.zeroCells, Value.cells]
    try omega
  have OV := hide (show OwnV (w.drew.alloc (.cells ROW 5)) w.heap.size (.slice (some ⟨w.heap.size, 0, none⟩) 0 G) [] from ⟨rfl, .inr ⟨w.heap.size, G, ROW, rfl, Nat.le_refl _, heap_alloc_new w.drew _, Nat.zero_le _, hG2, hRs, by simp⟩⟩)
  have BB := hide (show Below w.heap.size w (w.drew.alloc (.cells ROW 5)) from (Below.refl _ _).drew.alloc (Nat.le_refl _) _)
  have G63 : (G : Int) ≤ 9223372036854775807 := by unfold maxLen at hG2; omega
  clear hold hROW hRs hG hi hz0 hz1 hz2
  go_enter Try.func77, Try.ntmps77
  go_wp2_with (first | (at_builtin; refine Lib.wpList_append_run _ rfl _ _ _ _ rfl _ _ rfl rfl _ _ (hrz _) ?_) | go_in)
  go_ret
  exact ⟨_, rfl, unhide OV, unhide BB⟩
set_option maxRecDepth 100000 in
set_option maxHeartbeats 4000000 in
theorem iConcat (w : World) (b g1 o1 n1 c1 g2 o2 n2 c2 g3 o3 n3 c3 : Nat) (p1 p2 p3 : List Int) (l1 : p1.length = n1) (l2 : p2.length = n2) (l3 : p3.length = n3) (h20 : n1 + n2 + n3 ≤ 1048576)
    (hb : b < w.heap.size) (q1 : g1 < w.heap.size) (q2 : g2 < w.heap.size) (q3 : g3 < w.heap.size) (a1 : AtO w g1 o1 p1) (a2 : AtO w g2 o2 p2) (a3 : AtO w g3 o3 p3)
    (s1 : w.cell? ⟨b, 0, none⟩ = some (.slice (some ⟨g1, o1, none⟩) n1 c1)) (s2 : w.cell? ⟨b, 1, none⟩ = some (.slice (some ⟨g2, o2, none⟩) n2 c2)) (s3 : w.cell? ⟨b, 2, none⟩ = some (.slice (some ⟨g3, o3, none⟩) n3 c3)) :
    Calls Try.prog 62 #[.slice (some ⟨b, 0, none⟩) 3 3] w fun e w' => ∃ v, e = .returned v ∧ OwnV w' w.heap.size v (p1 ++ (p2 ++ p3)) ∧ Below w.heap.size w w' := by
  have A1 := hide a1
  have A2 := hide a2
  have A3 := hide a3
  clear a1 a2 a3
  go_enter Try.func62, Try.ntmps62
  go_wp2
  go_loop [3, 5, 11] (fun q _ j => ∃ (k : Nat) (z : Int), j = .int .i64 k ∧ q = .int .i64 z ∧ ((k = 0 ∧ z = 0) ∨ (k = 1 ∧ z = (n1 : Int)) ∨ (k = 2 ∧ z = (n1 : Int) + (n2 : Int)) ∨ (k = 3 ∧ z = (n1 : Int) + (n2 : Int) + (n3 : Int)))) (fun _ _ j => 3 - (intOf j).toNat)
  case atStart => exact ⟨0, 0, rfl, rfl, .inl ⟨rfl, rfl⟩⟩
  case round =>
    obtain ⟨k, z, rfl, rfl, hk⟩ := hrel
    rcases hk with ⟨rfl, rfl⟩ | ⟨rfl, rfl⟩ | ⟨rfl, rfl⟩ | ⟨rfl, rfl⟩
    · go_wp2
      go_round
      case rel => exact ⟨1, (n1 : Int), by go_num, by go_num, .inr (.inl ⟨rfl, rfl⟩)⟩
      case measure => simp [intOf]
    · go_wp2
      go_round
      case rel => exact ⟨2, (n1 : Int) + (n2 : Int), by go_num, by go_num, .inr (.inr (.inl ⟨rfl, rfl⟩))⟩
      case measure => simp [intOf]
    · go_wp2
      go_round
      case rel => exact ⟨3, (n1 : Int) + (n2 : Int) + (n3 : Int), by go_num, by go_num, .inr (.inr (.inr ⟨rfl, rfl⟩))⟩
      case measure => simp [intOf]
    · have GR := hide (show Calls Try.prog 77 #[.slice none 0 0, .int .i64 ((n1 : Int) + (n2 : Int) + (n3 : Int))] w fun e w' => ∃ v, e = .returned v ∧ OwnV w' w.heap.size v [] ∧ Below w.heap.size w w' from by
        by_cases z : n1 + n2 + n3 = 0
        · rw [show (n1 : Int) + (n2 : Int) + (n3 : Int) = 0 by omega]
          exact (grow_none w).mono fun _ _ ⟨he, hb⟩ => ⟨_, he, OwnV.nil _ _, hb⟩
        · have := grow_some w (n1 + n2 + n3) (by omega) h20
          rw [show ((n1 + n2 + n3 : Nat) : Int) = (n1 : Int) + (n2 : Int) + (n3 : Int) by omega] at this
          exact this)
      go_wp2_with fail
      refine (unhide GR).mono ?_
      rintro e w1 ⟨v, rfl, ov, b1⟩
      have OV := hide ov
      have B1 := hide b1
      clear ov b1 GR
      go_wp2
      go_loopw [6, 8, 27] (fun x _ j wr => ∃ (k : Nat) (v : Value) (out : List Int), j = .int .i64 k ∧ v = x ∧ Hid (OwnV wr w.heap.size v out) ∧ Hid (Below w.heap.size w wr) ∧ ((k = 0 ∧ out = []) ∨ (k = 1 ∧ p1 = out) ∨ (k = 2 ∧ out = p1 ++ p2) ∨ (k = 3 ∧ out = p1 ++ (p2 ++ p3)))) (fun _ _ j _ => 3 - (intOf j).toNat)
      case atStart => exact ⟨0, v, [], rfl, rfl, OV, B1, .inl ⟨rfl, rfl⟩⟩
      case round =>
      clear OV B1
      obtain ⟨k, v, out, rfl, rfl, OV, HB, hk⟩ := hrel
      rcases hk with ⟨rfl, rfl⟩ | ⟨rfl, rfl⟩ | ⟨rfl, rfl⟩ | ⟨rfl, rfl⟩
      · have s : wr.cell? ⟨b, 0, none⟩ = some (.slice (some ⟨g1, o1, none⟩) n1 c1) := ((unhide HB).cell (p := ⟨b, 0, none⟩) hb).trans s1
        have A := hide (AtO.below (unhide A1) (unhide HB) q1)
        have bs := (unhide HB).size
        have LN := hide (show ([] : List Int).length + n1 ≤ 1048576 from by (try simp); omega)
        go_wp2_with (first | (at_builtin; refine wp_catV _ rfl _ _ rfl w.heap.size n1 v ([] : List Int) p1 g1 o1 c1 rfl rfl (unhide OV) l1 (unhide A) (unhide LN) bs ?_) | go_in)
        intro v5 w5 ov5 gr5 loc5
        have O5 := hide (show OwnV w5 w.heap.size v5 (p1) from by have := ov5; exact this)
        have B5 := hide ((unhide HB).grown gr5 bs (fun j hj => ((unhide OV).lt j hj).1))
        clear ov5 gr5 loc5 A s
        go_wp2
        go_roundw
        case rel => exact ⟨1, v5, p1, by go_num, rfl, O5, B5, .inr (.inl ⟨rfl, rfl⟩)⟩
        case measure => simp [intOf]
      · have s : wr.cell? ⟨b, 1, none⟩ = some (.slice (some ⟨g2, o2, none⟩) n2 c2) := ((unhide HB).cell (p := ⟨b, 1, none⟩) hb).trans s2
        have A := hide (AtO.below (unhide A2) (unhide HB) q2)
        have bs := (unhide HB).size
        have LN := hide (show (p1).length + n2 ≤ 1048576 from by (try simp); omega)
        go_wp2_with (first | (at_builtin; refine wp_catV _ rfl _ _ rfl w.heap.size n2 v (p1) p2 g2 o2 c2 rfl rfl (unhide OV) l2 (unhide A) (unhide LN) bs ?_) | go_in)
        intro v5 w5 ov5 gr5 loc5
        have O5 := hide (show OwnV w5 w.heap.size v5 (p1 ++ p2) from by have := ov5; exact this)
        have B5 := hide ((unhide HB).grown gr5 bs (fun j hj => ((unhide OV).lt j hj).1))
        clear ov5 gr5 loc5 A s
        go_wp2
        go_roundw
        case rel => exact ⟨2, v5, p1 ++ p2, by go_num, rfl, O5, B5, .inr (.inr (.inl ⟨rfl, rfl⟩))⟩
        case measure => simp [intOf]
      · have s : wr.cell? ⟨b, 2, none⟩ = some (.slice (some ⟨g3, o3, none⟩) n3 c3) := ((unhide HB).cell (p := ⟨b, 2, none⟩) hb).trans s3
        have A := hide (AtO.below (unhide A3) (unhide HB) q3)
        have bs := (unhide HB).size
        have LN := hide (show (p1 ++ p2).length + n3 ≤ 1048576 from by (try simp); omega)
        go_wp2_with (first | (at_builtin; refine wp_catV _ rfl _ _ rfl w.heap.size n3 v (p1 ++ p2) p3 g3 o3 c3 rfl rfl (unhide OV) l3 (unhide A) (unhide LN) bs ?_) | go_in)
        intro v5 w5 ov5 gr5 loc5
        have O5 := hide (show OwnV w5 w.heap.size v5 (p1 ++ (p2 ++ p3)) from by first | exact ov5 | (have := ov5; rw [List.append_assoc] at this; exact this))
        have B5 := hide ((unhide HB).grown gr5 bs (fun j hj => ((unhide OV).lt j hj).1))
        clear ov5 gr5 loc5 A s
        go_wp2
        go_roundw
        case rel => exact ⟨3, v5, p1 ++ (p2 ++ p3), by go_num, rfl, O5, B5, .inr (.inr (.inr ⟨rfl, rfl⟩))⟩
        case measure => simp [intOf]
      · go_wp2
        go_ret
        exact ⟨_, rfl, unhide OV, unhide HB⟩
end Go.Proofs.Ytcajdiopgaoicaa.ConB11
namespace Go.Proofs.Ytcajdiopgaoicaa.ISeal11
open Go.ChangeShapes Go.WideShapes Go.ChangeAt Go.RowKit SBytes SPut11 SPuts11 SSeal11
open ByteH (Own At)
theorem lit_four (w : World) (a b c d : Int) : AtO (w.alloc (.cells #[.int .u8 a, .int .u8 b, .int .u8 c, .int .u8 d] 83)) w.heap.size 0 [a, b, c, d] := by
  intro i hi
  have : i = 0 ∨ i = 1 ∨ i = 2 ∨ i = 3 := by simp at hi; omega
  rcases this with rfl | rfl | rfl | rfl <;> simp
theorem numB_some (n : Nat) : (numB n).length ≠ 0 := by
  unfold numB
  rw [if_neg (by omega)]
  by_cases h : 127 < ((n : Int)).toNat
  · rw [numF_more h]; simp
  · rw [numF_last h]; simp
abbrev oS0 : Oper := { dst := some 11, op := Go.Op.move (Go.Operand.tmp 0), type := 22, pos := "l11_bytes.go:78", after := #[], guard := none }
abbrev oS1 : Oper := { dst := some 12, op := Go.Op.call { callee := Go.Callee.builtin Go.Builtin.len, args := #[Go.Operand.tmp 11], argTypes := #[22] }, type := 3, pos := "l11_bytes.go:78", after := #[{ on := 0, ground := Go.Ground.data }], guard := none }
abbrev oS2 : Oper := { dst := some 13, op := Go.Op.call { callee := Go.Callee.value (Go.Operand.func 63), args := #[Go.Operand.tmp 12], argTypes := #[3] }, type := 22, pos := "l11_bytes.go:78", after := #[{ on := 1, ground := Go.Ground.data }], guard := none }
abbrev oS3 : Oper := { dst := some 14, op := Go.Op.move (Go.Operand.tmp 0), type := 22, pos := "l11_bytes.go:78", after := #[], guard := none }
abbrev oS4 : Oper := { dst := some 15, op := Go.Op.slice 83 (Go.Operand.tmp 4) none none none, type := 22, pos := "l11_bytes.go:78", after := #[], guard := none }
abbrev oS5 : Oper := { dst := some 16, op := Go.Op.buildSlice 97 3 #[(0, Go.Operand.tmp 13), (1, Go.Operand.tmp 14), (2, Go.Operand.tmp 15)], type := 97, pos := "l11_bytes.go:78", after := #[{ on := 2, ground := Go.Ground.data }, { on := 3, ground := Go.Ground.data }, { on := 4, ground := Go.Ground.data }], guard := none }
abbrev oS6 : Oper := { dst := some 17, op := Go.Op.call { callee := Go.Callee.value (Go.Operand.func 62), args := #[Go.Operand.tmp 16], argTypes := #[97] }, type := 22, pos := "l11_bytes.go:78", after := #[{ on := 5, ground := Go.Ground.data }, { on := 2, ground := Go.Ground.chain }], guard := none }
abbrev oS7 : Oper := { dst := some 2, op := Go.Op.assign (Go.Operand.tmp 17), type := 22, pos := "l11_bytes.go:78", after := #[{ on := 6, ground := Go.Ground.data }, { on := 6, ground := Go.Ground.chain }, { on := 0, ground := Go.Ground.phase }, { on := 1, ground := Go.Ground.phase }, { on := 2, ground := Go.Ground.phase }, { on := 3, ground := Go.Ground.phase }, { on := 4, ground := Go.Ground.phase }, { on := 5, ground := Go.Ground.phase }, { on := 6, ground := Go.Ground.phase }], guard := none }
abbrev oS8 : Oper := { dst := some 3, op := Go.Op.assign (Go.Operand.const (Go.Value.bool true)), type := 4, pos := "l11_bytes.go:78", after := #[{ on := 7, ground := Go.Ground.chain }, { on := 0, ground := Go.Ground.phase }, { on := 1, ground := Go.Ground.phase }, { on := 2, ground := Go.Ground.phase }, { on := 3, ground := Go.Ground.phase }, { on := 4, ground := Go.Ground.phase }, { on := 5, ground := Go.Ground.phase }, { on := 6, ground := Go.Ground.phase }, { on := 7, ground := Go.Ground.phase }], guard := none }
set_option maxRecDepth 100000 in
set_option maxHeartbeats 4000000 in
theorem iSeal (w : World) (gl cl : Nat) (xs : List Int) (h20 : xs.length ≤ 1048576) (hg : gl < w.heap.size) (hr : AtB w gl xs) :
    Calls Try.prog 33 #[.slice (some ⟨gl, 0, none⟩) xs.length cl] w fun e w' => ∃ a c, e = .returned (.tuple #[.slice a (sealB xs).length c, .bool (decide (xs.length ≤ 9000))]) ∧ VOB.Ob w' w.heap.size a (sealB xs).length c (sealB xs) ∧ Below w.heap.size w w' := by
  by_cases h0 : xs.length ≤ 9000
  case neg =>
    have e : sealB xs = [] := if_neg h0
    rw [e]
    have O0 := hide (lit0 w w.heap.size (Nat.le_refl _) rfl)
    have B0 := hide (one_more w (.cells #[] 5))
    have h1 : (9000 : Int) < xs.length := by omega
    have D := hide (show decide (xs.length ≤ 9000) = false from by simp; omega)
    rw [unhide D]
    clear e h0 hr
    go_enter Try.func33, Try.ntmps33
    go_wp2
    go_ret2
    exact ⟨_, 0, rfl, .of (unhide O0), unhide B0⟩
  have S := hide (show numB xs.length ++ xs ++ four (chkB xs) = sealB xs from (if_pos h0).symm)
  have D := hide (show decide (xs.length ≤ 9000) = true from by simp; omega)
  rw [unhide D]
  have SM := hide (ISum11.iSum w gl 0 cl xs h20 hg (.of hr))
  have R := hide hr
  have HG := hide hg
  have NE := hide (numB_some xs.length)
  have nine := numB_nine (x := xs.length) (by omega)
  have h1 : ¬ (9000 : Int) < xs.length := by omega
  clear hr D
  go_enter Try.func33, Try.ntmps33
  go_wp2_with fail
  refine (unhide SM).mono ?_
  rintro e u ⟨rfl, b1⟩
  have S1 := hide (show numB xs.length ++ xs ++ [chkB xs % 256, chkB xs / 256 % 256, chkB xs / 65536 % 256, chkB xs / 16777216 % 256] = sealB xs from unhide S)
  have us := b1.size
  have B0 := hide b1
  clear S SM b1
  generalize chkB xs % 256 = y0 at *
  generalize chkB xs / 256 % 256 = y1 at *
  generalize chkB xs / 65536 % 256 = y2 at *
  generalize chkB xs / 16777216 % 256 = y3 at *
  have R2 := hide (((unhide R).below (unhide B0) (unhide HG)).below (one_more u (.cells #[.int .u8 y0, .int .u8 y1, .int .u8 y2, .int .u8 y3] 83)) (by omega))
  clear h1
  go_wp2
  refine wp_region_held_drew (S := (fun _ => True)) (by kernel_rfl) trivial (fun hHeld => ?_)
  refine wpAnyH_take (i := 0) (oi := oS0) (v := .slice (some ⟨gl, 0, none⟩) xs.length cl) rfl (by kernel_rfl) (by kernel_rfl) (by kernel_rfl) (fun _ _ _ h => h) (Or.inl ⟨by rfl, fun w hSw => ?_⟩) hHeld ?_
  · (try dsimp only at hSw)
    unfold oS0
    go_simp
  try simp only [oS0, Act.put, List.setIfInBounds_toArray, List.set_cons_zero, List.set_cons_succ]
  refine wpAnyH_take (i := 1) (oi := oS1) (v := .int .i64 xs.length) rfl (by kernel_rfl) (by kernel_rfl) (by kernel_rfl) (fun _ _ _ h => h) (Or.inl ⟨by rfl, fun w hSw => ?_⟩) hHeld ?_
  · (try dsimp only at hSw)
    unfold oS1
    go_simp
  try simp only [oS1, Act.put, List.setIfInBounds_toArray, List.set_cons_zero, List.set_cons_succ]
  refine wpAnyH_take (i := 3) (oi := oS3) (v := .slice (some ⟨gl, 0, none⟩) xs.length cl) rfl (by kernel_rfl) (by kernel_rfl) (by kernel_rfl) (fun _ _ _ h => h) (Or.inl ⟨by rfl, fun w hSw => ?_⟩) hHeld ?_
  · (try dsimp only at hSw)
    unfold oS3
    go_simp
  try simp only [oS3, Act.put, List.setIfInBounds_toArray, List.set_cons_zero, List.set_cons_succ]
  refine wpAnyH_take (i := 4) (oi := oS4) (v := .slice (some ⟨u.heap.size, 0, none⟩) 4 4) rfl (by kernel_rfl) (by kernel_rfl) (by kernel_rfl) (fun _ _ _ h => h) (Or.inl ⟨by rfl, fun w hSw => ?_⟩) hHeld ?_
  · (try dsimp only at hSw)
    unfold oS4
    go_simp
  try simp only [oS4, Act.put, List.setIfInBounds_toArray, List.set_cons_zero, List.set_cons_succ]
  refine wpAnyH_ready (rs := [2]) (by kernel_rfl) (by simp) ?_
  refine AllReadyH.cons (o := oS2) rfl (fun K hK => ?_) AllReadyH.nil
  unfold oS2
  go_simp
  go_wp2_with fail
  refine (IPut11.iPutNum _ xs.length (by omega)).mono ?_
  rintro e u1 ⟨a1, c1, rfl, o1, bb⟩
  obtain ⟨g1, rfl, q1⟩ : ∃ g, a1 = some ⟨g, 0, none⟩ ∧ Own u1 u.heap.size g (numB xs.length).length c1 (numB xs.length) := by
    rcases o1.either with ⟨_, h, _⟩ | ⟨g, h, o⟩
    · exact absurd h (unhide NE)
    · exact ⟨g, h, o.mono (by simp [World.drew])⟩
  have B1 := hide (show Below (u.heap.size + 1) (u.alloc (.cells #[.int .u8 y0, .int .u8 y1, .int .u8 y2, .int .u8 y3] 83)) u1 from by
    have h := bb.mono (B' := u.heap.size + 1) (by simp [World.drew])
    exact ⟨h.os, h.tape, h.output, h.size, h.block⟩)
  have O1 := hide q1
  have us1 := bb.size
  rw [show (u.alloc (.cells #[.int .u8 y0, .int .u8 y1, .int .u8 y2, .int .u8 y3] 83)).drew.heap.size = u.heap.size + 1 by simp [World.drew]] at us1
  clear bb o1 q1
  go_wp2_with fail
  refine hK.out _ _ trivial (fun hHeld => ?_)
  clear hK K
  try simp only [oS2, Act.put, List.setIfInBounds_toArray, List.set_cons_zero, List.set_cons_succ]
  refine wpAnyH_ready (rs := [5]) (by kernel_rfl) (by simp) ?_
  refine AllReadyH.cons (o := oS5) rfl (fun K hK => ?_) AllReadyH.nil
  unfold oS5
  go_simp
  refine hK.out _ _ trivial (fun hHeld => ?_)
  clear hK K
  try simp only [oS5, Act.put, List.setIfInBounds_toArray, List.set_cons_zero, List.set_cons_succ]
  refine wpAnyH_ready (rs := [6]) (by kernel_rfl) (by simp) ?_
  refine AllReadyH.cons (o := oS6) rfl (fun K hK => ?_) AllReadyH.nil
  unfold oS6
  go_simp
  have A1 := hide (own_alloc (unhide O1) (.cells #[.slice (some ⟨g1, 0, none⟩) (numB xs.length).length c1, .slice (some ⟨gl, 0, none⟩) xs.length cl, .slice (some ⟨u.heap.size, 0, none⟩) 4 4] 22))
  have CB := hide (ConB11.iConcat (u1.alloc (.cells #[.slice (some ⟨g1, 0, none⟩) (numB xs.length).length c1, .slice (some ⟨gl, 0, none⟩) xs.length cl, .slice (some ⟨u.heap.size, 0, none⟩) 4 4] 22)) u1.heap.size g1 0 (numB xs.length).length c1 gl 0 xs.length cl u.heap.size 0 4 4 (numB xs.length) xs [y0, y1, y2, y3] rfl rfl rfl (by omega) (by simp) (Nat.lt_of_lt_of_le (unhide O1).lt.2 (by simp)) (by simp; omega) (by simp; omega) (AtO.of (unhide A1).at) (AtO.of (fun i hi => (((unhide R2).below (unhide B1) (by omega)).below (one_more u1 _) (by omega) i hi).1)) (ConB11.AtO.below (ConB11.AtO.below (lit_four u y0 y1 y2 y3) (unhide B1) (by omega)) (one_more u1 _) (by omega)) (by simp) (by simp) (by simp))
  go_wp2_with fail
  refine (unhide CB).mono ?_
  rintro e u2 ⟨v2, rfl, o2, b2⟩
  obtain ⟨a2, c2, rfl, q2⟩ := o2.ob
  have O2 := hide q2
  have B2 := hide b2
  clear o2 q2 b2 CB
  go_wp2_with fail
  refine hK.out _ _ trivial (fun hHeld => ?_)
  clear hK K
  try simp only [oS6, Act.put, List.setIfInBounds_toArray, List.set_cons_zero, List.set_cons_succ]
  refine wpAnyH_take (i := 7) (oi := oS7) (v := .slice a2 (numB xs.length ++ (xs ++ [y0, y1, y2, y3])).length c2) rfl (by kernel_rfl) (by kernel_rfl) (by kernel_rfl) (fun _ _ _ h => h) (Or.inl ⟨by rfl, fun w hSw => ?_⟩) hHeld ?_
  · (try dsimp only at hSw)
    unfold oS7
    go_simp
  try simp only [oS7, Act.put, List.setIfInBounds_toArray, List.set_cons_zero, List.set_cons_succ]
  refine wpAnyH_take (i := 8) (oi := oS8) (v := .bool true) rfl (by kernel_rfl) (by kernel_rfl) (by kernel_rfl) (fun _ _ _ h => h) (Or.inl ⟨by rfl, fun w hSw => ?_⟩) hHeld ?_
  · (try dsimp only at hSw)
    unfold oS8
    go_simp
  try simp only [oS8, Act.put, List.setIfInBounds_toArray, List.set_cons_zero, List.set_cons_succ]
  refine wpAnyH_done (by kernel_rfl) ?_ _
  have B9 := hide (show Below w.heap.size w u2 from (((unhide B0).alloc (unhide B0).size (.cells #[.int .u8 y0, .int .u8 y1, .int .u8 y2, .int .u8 y3] 83)).trans ((unhide B1).mono (by have := (unhide B0).size; omega))).trans (((one_more u1 _).mono (by have := (unhide B0).size; omega)).trans ((unhide B2).mono (by have := (unhide B0).size; simp; omega))))
  go_wp2
  go_ret2
  have e := unhide S1
  rw [List.append_assoc] at e
  refine ⟨a2, c2, ?_, ?_, unhide B9⟩
  · rw [← e]; rfl
  · rw [← e]; exact (unhide O2).mono (by have := (unhide B0).size; simp; omega)
end Go.Proofs.Ytcajdiopgaoicaa.ISeal11
namespace Go.Proofs.Ytcajdiopgaoicaa.IOk14
open Go.ChangeShapes Go.WideShapes Go.ChangeAt Go.RowKit Fil14 DiskH14 DkH14 SDk14 SOk14 IFile14
/-- Where the program's walk along the files stands. -/
def Okk (ps : List TF) (room : Int) (k : Nat) (lf y : Int) : Prop := lf = room - sumZ (ps.take k) ∧ (k = 0 → y = -1) ∧ (0 < k → y = (elF ps (k - 1)).1) ∧ ∀ i, i < k → okAt ps i
theorem okk_0 (ps : List TF) (room : Int) : Okk ps room 0 room (-1) := ⟨by simp [sumZ], fun _ => rfl, fun h => absurd h (by omega), fun i h => absurd h (by omega)⟩
theorem okk_next {ps : List TF} {room : Int} {k : Nat} {lf y : Int} (h : Okk ps room k lf y) (hk : k < ps.length) (a : okN (elF ps k).1 = true) (b : ¬ (elF ps k).1 ≤ y) : Okk ps room (k + 1) (lf - ((elF ps k).2.1.size + (elF ps k).2.2.size)) (elF ps k).1 := by
  obtain ⟨h1, h2, h3, h4⟩ := h
  have n := sumZ_next hk
  refine ⟨by omega, fun e => absurd e (by omega), fun _ => by simp, fun i hi => ?_⟩
  by_cases e : i = k
  · subst e
    refine ⟨a, fun p => ?_⟩
    have := h3 p
    omega
  · exact h4 i (by omega)
theorem okk_bad1 {ps : List TF} {room : Int} {k : Nat} (hk : k < ps.length) (a : okN (elF ps k).1 = false) : ¬ OkD room ps := fun h => by
  have := (h.2.2.2 k hk).1
  rw [a] at this
  cases this
theorem okk_bad2 {ps : List TF} {room : Int} {k : Nat} {lf y : Int} (g : Okk ps room k lf y) (hk : k < ps.length) (a : okN (elF ps k).1 = true) (b : (elF ps k).1 ≤ y) : ¬ OkD room ps := fun h => by
  have n := (h.2.2.2 k hk).2
  have l : 0 ≤ (elF ps k).1 := (of_decide_eq_true a).1
  by_cases e : k = 0
  · have := g.2.1 e
    omega
  · have := g.2.2.1 (by omega)
    have := n (by omega)
    omega
theorem okk_bad3 {ps : List TF} {room : Int} {k : Nat} {lf y : Int} (g : Okk ps room k lf y) (hk : k < ps.length) (b : lf - ((elF ps k).2.1.size + (elF ps k).2.2.size) < 0) : ¬ OkD room ps := fun h => by
  have n := sumZ_next hk
  have l := sumZ_le ps (k + 1)
  have := h.2.2.1
  have := g.1
  omega
theorem names_up {ps : List TF} (h : ∀ i, i < ps.length → okAt ps i) : ∀ i : Nat, i < ps.length → (i : Int) ≤ (elF ps i).1
  | 0 => fun q => by
    have := (h 0 q).1
    exact (of_decide_eq_true this).1
  | i + 1 => fun q => by
    have := names_up h i (by omega)
    have := (h (i + 1) q).2 (by omega)
    simp only [Nat.add_sub_cancel] at this
    omega
theorem okk_all {ps : List TF} {room : Int} {lf y : Int} (g : Okk ps room ps.length lf y) (h0 : 0 ≤ room ∧ room ≤ 60000) (hl : 0 ≤ lf) : OkD room ps := by
  obtain ⟨h1, _, _, h4⟩ := g
  rw [List.take_length] at h1
  refine ⟨h0, ?_, by omega, h4⟩
  by_cases e : ps.length = 0
  · omega
  · have a := names_up h4 (ps.length - 1) (by omega)
    have b := (h4 (ps.length - 1) (by omega)).1
    have b := (of_decide_eq_true b).2
    omega
set_option maxRecDepth 100000 in
set_option maxHeartbeats 4000000 in
theorem iDiskOk (w : World) (x : Dx) (hr : RdD w x) (hz : sumZ x.ps ≤ 1048576) :
    Calls Try.prog 22 #[.agg #[.int .i64 x.room, .slice x.a x.ps.length x.c]] w fun e w' => e = .returned (.bool (decide (OkD x.room x.ps))) ∧ Below w.heap.size w w' := by
  have W0 := hide (Wd.made hr 26)
  have h20 := hr.n
  clear hr
  generalize hR : decide (OkD x.room x.ps) = R
  have HR := hide hR
  clear hR
  by_cases q0 : x.room < 0
  · obtain rfl : R = false := by rw [← unhide HR]; exact decide_eq_false (fun h => by have := h.1; omega)
    clear HR
    go_enter Try.func22, Try.ntmps22
    go_wp2
    go_ret
    exact ⟨rfl, (unhide W0).b⟩
  have d0 : decide (x.room < 0) = false := decide_eq_false q0
  by_cases q1 : x.room > 60000
  · obtain rfl : R = false := by rw [← unhide HR]; exact decide_eq_false (fun h => by have := h.1; omega)
    clear HR q0
    go_enter Try.func22, Try.ntmps22
    go_wp2
    go_ret
    exact ⟨rfl, (unhide W0).b⟩
  have d1 : decide (x.room > 60000) = false := decide_eq_false q1
  have RM := hide (show 0 ≤ x.room ∧ x.room ≤ 60000 by omega)
  have OK0 := hide (okk_0 x.ps x.room)
  clear q0 q1
  go_enter Try.func22, Try.ntmps22
  go_wp2
  go_loopw [3, 4, 20] (fun l b i wr => ∃ (k : Nat) (lf y : Int), k ≤ x.ps.length ∧ i = .int .i64 k ∧ l = .int .i64 lf ∧ b = .int .i64 y ∧ 0 ≤ lf ∧ lf ≤ 60000 ∧ Hid (Okk x.ps x.room k lf y) ∧ Hid (Wd w wr x)) (fun _ _ i _ => x.ps.length - (intOf i).toNat)
  case atStart => exact ⟨0, x.room, -1, by omega, rfl, rfl, rfl, (unhide RM).1, (unhide RM).2, OK0, W0⟩
  case round =>
    clear W0 OK0 d0 d1
    obtain ⟨k, lf, y, hk, rfl, rfl, rfl, y0, y1, HY, HW⟩ := hrel
    by_cases t : k < x.ps.length
    · have kt : (k : Int) < x.ps.length := by omega
      have NX := sumZ_next t
      have LE := sumZ_le x.ps (k + 1)
      have BAD1 := hide (fun a => okk_bad1 (room := x.room) t a)
      have BAD2 := hide (fun a b => okk_bad2 (unhide HY) t a b)
      have BAD3 := hide (fun a => okk_bad3 (unhide HY) t a)
      have GO := hide (fun a b => okk_next (unhide HY) t a b)
      obtain ⟨g, ea, lg, e0, e1, e2⟩ := cells_of (unhide HW).r t
      have c1 := (unhide HW).c1
      have lt := (unhide HW).lt
      generalize (elF x.ps k).1 = z0 at *
      generalize (elF x.ps k).2.1 = z1 at *
      generalize (elF x.ps k).2.2 = z2 at *
      have b1 : z1.size + z2.size ≤ 1048576 := by omega
      obtain ⟨lg2, hl⟩ : ∃ q, q = lf - ((z1.size : Int) + z2.size) := ⟨_, rfl⟩
      have a2 : wrap64 (lf - ((z1.size : Int) + z2.size)) = lg2 := by rw [wrap64]; omega
      have S3 := hide (fun h : ¬ lg2 < 0 => show 0 ≤ lg2 ∧ lg2 ≤ 60000 by omega)
      have BAD4 := hide (fun h : lg2 < 0 => (unhide BAD3) (by rw [← hl]; exact h))
      rw [← hl] at GO
      clear hl BAD3
      clear NX LE HY
      have IX := SCom14.ixF x.c ea t
      clear ea c1
      have OB := hide (one_more wr (.cells #[.int .i64 z0, .string z1, .string z2] 54))
      have F0 : (wr.alloc (.cells #[.int .i64 z0, .string z1, .string z2] 54)).cell? ⟨wr.heap.size, 0, none⟩ = some (.int .i64 z0) := by simp [go_sem]
      have FS : wr.heap.size < (wr.alloc (.cells #[.int .i64 z0, .string z1, .string z2] 54)).heap.size := by simp
      have F := hide (And.intro F0 FS)
      clear F0 FS
      go_wp2_with fail
      refine (iSizeF _ z0 z1 z2 b1).mono ?_
      rintro e w2 ⟨rfl, bb⟩
      have f0 := (bb.cell (p := ⟨wr.heap.size, 0, none⟩) (unhide F).2).trans (unhide F).1
      have HW2 := hide (((unhide HW).step (unhide OB)).step bb)
      clear bb OB F HW e0 e1 e2 IX
      have D := hide (fun u b h => iNameB u z0 b h)
      clear b1
      by_cases n1 : okN z0 = true
      · have N1 := hide n1
        clear n1
        by_cases n2 : z0 ≤ y
        · obtain rfl : R = false := by rw [← unhide HR]; exact decide_eq_false ((unhide BAD2) (unhide N1) n2)
          clear BAD1 BAD2 BAD4 GO HR
          go_wp2_with fail
          refine (unhide D _ true (unhide N1)).mono ?_
          rintro e u ⟨rfl, rfl⟩
          go_wp2
          go_ret
          exact ⟨rfl, (unhide HW2).b⟩
        · have n2' : decide (z0 ≤ y) = false := decide_eq_false n2
          have GO' := hide ((unhide GO) (unhide N1) (by omega))
          clear n2 GO BAD1 BAD2
          by_cases n3 : lg2 < 0
          · obtain rfl : R = false := by rw [← unhide HR]; exact decide_eq_false ((unhide BAD4) n3)
            clear BAD4 GO' HR
            go_wp2_with fail
            refine (unhide D _ true (unhide N1)).mono ?_
            rintro e u ⟨rfl, rfl⟩
            go_wp2
            go_ret
            exact ⟨rfl, (unhide HW2).b⟩
          · have n3' : decide (lg2 < 0) = false := decide_eq_false n3
            have S := hide ((unhide S3) (by omega))
            clear n3 BAD4
            go_wp2_with fail
            refine (unhide D _ true (unhide N1)).mono ?_
            rintro e u ⟨rfl, rfl⟩
            go_wp2
            go_roundw
            case rel => exact ⟨k + 1, lg2, z0, by omega, by go_num, rfl, rfl, (unhide S).1, (unhide S).2, GO', HW2⟩
            case measure => simp [intOf]; omega
      · have n1' : okN z0 = false := by simpa using n1
        obtain rfl : R = false := by rw [← unhide HR]; exact decide_eq_false ((unhide BAD1) n1')
        have N1 := hide n1'
        clear BAD1 BAD2 BAD4 GO HR n1 n1'
        go_wp2_with fail
        refine (unhide D _ false (unhide N1)).mono ?_
        rintro e u ⟨rfl, rfl⟩
        go_wp2
        go_ret
        exact ⟨rfl, (unhide HW2).b⟩
    · have e : k = x.ps.length := by omega
      have kt : ¬ (k : Int) < x.ps.length := by omega
      obtain rfl : R = true := by rw [← unhide HR]; exact decide_eq_true (okk_all (by rw [← e]; exact unhide HY) (unhide RM) y0)
      clear HY HR
      subst e
      go_wp2
      go_ret
      exact ⟨rfl, (unhide HW).b⟩
end Go.Proofs.Ytcajdiopgaoicaa.IOk14
namespace Go.Proofs.Ytcajdiopgaoicaa.ICp14
open Go.ChangeShapes Go.WideShapes Go.ChangeAt Go.RowKit Fil14 DiskH14 DkH14 SDk14 SOk14 SRd14 App14 SLess14 SCopy14 SRef14 SCom14
/-- What copy does to a row of files. -/
theorem run_copyF (w : World) (g dCap : Nat) (sp : Option Addr) (sCap : Nat) (ps : List TF) (cur : Array Value) (t ty : TypeId) (hg : w.heap[g]? = some (.cells cur t (0, 0))) (hc : cur.size = ps.length * 3) (hs : ps.length = 0 ∨ ∃ vb, sp = some ⟨vb, 0, none⟩ ∧ AtF w vb ps) :
    (Builtin.copy_ #[24, 24] ty #[.slice (some ⟨g, 0, none⟩) ps.length dCap, .slice sp ps.length sCap]).run Try.prog w = .ok (.int .i64 ps.length) (w.setRow g (flatF ps).toArray) := by
  obtain ⟨i0, hi, hz0, hz1, hz2⟩ := info_parts HelpF14.info2
  rcases hs with h0 | ⟨vb, rfl, ha⟩
  · have e : ps = [] := List.length_eq_zero_iff.1 h0
    subst e
    have ec : cur = #[] := Array.eq_empty_of_size_eq_zero (by simpa using hc)
    subst ec
    rw [show (flatF []).toArray = #[] from rfl, setRow_self w g #[] t (0, 0) hg]
    cases sp <;> simp [Builtin.copy_, run_underlying Try.underlying24, Builtin.lenOf, Builtin.firstCells, sizeOf, typeInfo, hi, hz1, storeCells, loadCells, loadCellsFrom, goInt]
  · have hl := run_loadCells_list (P := Try.prog) w ⟨vb, 0, none⟩ (flatF ps) ha.cells
    have hst := run_storeCells_at Try.prog g 0 t (flatF ps) 0 cur w hg (by rw [flatF_len, hc]; omega) (fun u hu => flatF_one u ps hu)
    rw [flatF_len] at hl
    have hd : cur.toList.drop (ps.length * 3) = [] := by rw [List.drop_eq_nil_iff]; simp [hc]
    simp only [flatF_len, Nat.zero_add, Nat.add_zero, List.take_zero, List.nil_append, hd, List.append_nil] at hst
    simp [Builtin.copy_, run_underlying Try.underlying24, Builtin.lenOf, Builtin.firstCells, sizeOf, typeInfo, hi, hz1, hl, hst, goInt]
/-- Files copied into a list of the call's own. -/
theorem wp_copyF (w : World) {ops : Array Oper} {rest : List Oper} {o : Oper} {a : Act} {Q : Exit → Act → World → Prop} (hgd : o.guard = none) (d s : Operand)
    (ho : o.op = .call { callee := .builtin .copy, args := #[d, s], argTypes := #[24, 24] }) (base g : Nat) (ps : List TF) (old : List Value) (sp : Option Addr) (sCap : Nat) (hd : a.eval d = .slice (some ⟨g, 0, none⟩) ps.length ps.length) (hs : a.eval s = .slice sp ps.length sCap)
    (hown : w.ownsRow base 54 3 (.slice (some ⟨g, 0, none⟩) ps.length ps.length) ps.length old) (hq : ps.length = 0 ∨ ∃ vb, sp = some ⟨vb, 0, none⟩ ∧ AtF w vb ps)
    (h : ∀ w', w'.ownsRow base 54 3 (.slice (some ⟨g, 0, none⟩) ps.length ps.length) ps.length (flatF ps) → w.grownBy w' (some g) → wpList Try.prog ops Q rest (a.put o.dst (.int .i64 ps.length)) w') : wpList Try.prog ops Q (o :: rest) a w := by
  rcases hown.2 with ⟨h1, _⟩ | ⟨g', c, cur, h1, h2, h3, h4, h5, h6, h7⟩
  · simp at h1
  obtain ⟨rfl, rfl⟩ : g = g' ∧ ps.length = c := by simpa using h1
  refine wpList_plain hgd fun K hK => ?_
  have hrun := run_copyF w g ps.length sp sCap ps cur 54 o.type h3 h6 hq
  unfold Oper.wp
  simp [execOp, ho, resolve, invoke, builtin, hd, hs, hrun, Result.andThen]
  refine hK _ _ (h _ ⟨flatF_len ps, .inr ⟨g, ps.length, (flatF ps).toArray, rfl, h2, setRow_heap w g cur _ _ _ h3, Nat.le_refl _, h5, by simp [flatF_len], ?_⟩⟩ ⟨rfl, rfl, rfl, by simp [World.setRow], fun k hk hne => setRow_other w g k _ (fun e => hne (by rw [e]))⟩)
  simp [← flatF_len]
/-- The worlds behind the two boxes and the list that is made. -/
theorem mid {w w1 : World} {x : Dx} {vs : List Value} (h : Wd w ((w.alloc (.cells #[.int .i64 x.room, .slice x.a x.ps.length x.c] 26)).alloc (.cells #[.int .i64 0, .slice none 0 0] 26)) x ∧ Bc ((w.alloc (.cells #[.int .i64 x.room, .slice x.a x.ps.length x.c] 26)).alloc (.cells #[.int .i64 0, .slice none 0 0] 26)) w.heap.size (w.heap.size + 1) (.int .i64 0) (.slice none 0 0))
    (ho : w1.ownsRow (w.heap.size + 2) 54 3 (.slice (some ⟨((w.alloc (.cells #[.int .i64 x.room, .slice x.a x.ps.length x.c] 26)).alloc (.cells #[.int .i64 0, .slice none 0 0] 26)).heap.size, 0, none⟩) x.ps.length x.ps.length) x.ps.length vs) (hg : ((w.alloc (.cells #[.int .i64 x.room, .slice x.a x.ps.length x.c] 26)).alloc (.cells #[.int .i64 0, .slice none 0 0] 26)).grownBy w1 none) :
    Wd w w1 x ∧ Bc w1 w.heap.size (w.heap.size + 1) (.int .i64 0) (.slice none 0 0) ∧ w1.ownsRow (w.heap.size + 2) 54 3 (.slice (some ⟨w.heap.size + 2, 0, none⟩) x.ps.length x.ps.length) x.ps.length vs ∧ (x.ps.length = 0 ∨ ∃ vb, x.a = some ⟨vb, 0, none⟩ ∧ AtF w1 vb x.ps) := by
  have d := h.1.step (grownBy_below hg)
  refine ⟨d, h.2.kept hg (by simp), ?_, ?_⟩
  · have e : ((w.alloc (.cells #[.int .i64 x.room, .slice x.a x.ps.length x.c] 26)).alloc (.cells #[.int .i64 0, .slice none 0 0] 26)).heap.size = w.heap.size + 2 := by simp
    rw [e] at ho
    exact ho
  · by_cases q : x.ps.length = 0
    · exact .inl q
    · obtain ⟨g, e⟩ := d.r.e q
      exact .inr ⟨g, e, (d.r.r g e).2⟩
set_option maxRecDepth 100000 in
set_option maxHeartbeats 4000000 in
theorem iCopied (w : World) (x : Dx) (hr : RdD w x) :
    Calls Try.prog 35 #[.agg #[.int .i64 x.room, .slice x.a x.ps.length x.c]] w fun e w' => ∃ y : Dx, y.room = x.room ∧ y.ps = x.ps ∧ e = .returned (.agg #[.int .i64 y.room, .slice y.a y.ps.length y.c]) ∧ OwD w' w.heap.size y ∧ Below w.heap.size w w' := by
  obtain ⟨i0, hi, hz0, hz1, hz2⟩ := info_parts HelpF14.info2
  have G0 := hide (begunD hr)
  have h20 := hr.n
  clear hr
  have SZ := hide (show w.heap.size + 2 ≤ ((w.alloc (.cells #[.int .i64 x.room, .slice x.a x.ps.length x.c] 26)).alloc (.cells #[.int .i64 0, .slice none 0 0] 26)).heap.size by simp)
  go_enter Try.func35, Try.ntmps35
  go_wp2_with (first | (at_make; refine wpList_make_full _ rfl _ _ 24 rfl (w.heap.size + 2) 54 i0 (.agg #[.int .i64 0, .string ByteArray.empty, .string ByteArray.empty]) 3 Try.underlying24 hi hz0 hz1 .i64 .i64 _ _ x.ps.length rfl rfl rfl rfl (by rw [hz2]; omega) (by unfold maxLen; omega) (unhide SZ) ?_; intro w1 hown hgrow; have HM := hide (mid (unhide G0) hown hgrow); have c0 := (unhide HM).1.c0; have c1 := (unhide HM).1.c1; clear hown hgrow G0 SZ) | (refine wp_copyF _ rfl _ _ rfl (w.heap.size + 2) (w.heap.size + 2) x.ps _ x.a x.c rfl rfl (unhide HM).2.2.1 (unhide HM).2.2.2 ?_; intro w2 o2 g2; have O2 := hide o2; have K0 := (kcell g2 0 (unhide HM).1.lt (by omega)).trans c0; have R2 := hide ((unhide HM).2.1.kept g2 (by simp)); have B2 := hide (grow_low (unhide HM).1.b g2 ⟨by omega, (unhide HM).1.b.size⟩); have r0 := (unhide R2).c0; have r1 := (unhide R2).c1; have f0 := (unhide R2).free 0; have f1 := (unhide R2).free 1; clear o2 g2 c0 c1 HM) | go_in)
  have E := endedD (y := ⟨x.room, some ⟨w.heap.size + 2, 0, none⟩, x.ps.length, x.ps⟩) (unhide B2) (unhide R2) (unhide O2) (by omega)
  refine bodyPost_ret (v := .agg #[.int .i64 x.room, .slice (some ⟨w.heap.size + 2, 0, none⟩) x.ps.length x.ps.length]) (by simp [results, Try.results35, go_sem, r0, r1]) rfl ⟨⟨x.room, some ⟨w.heap.size + 2, 0, none⟩, x.ps.length, x.ps⟩, rfl, rfl, rfl, E.1, E.2⟩
end Go.Proofs.Ytcajdiopgaoicaa.ICp14
