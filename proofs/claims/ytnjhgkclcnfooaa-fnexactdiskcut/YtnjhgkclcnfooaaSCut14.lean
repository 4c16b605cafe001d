/- Disks: the specification's DiskCut. -/
import Derived.Test.YtnjhgkclcnfooaaSCom14
import Derived.Test.YtnjhgkclcnfooaaSPut14
import Derived.Deep.RegionHeld3
namespace Go.Proofs.Ytnjhgkclcnfooaa.SCut14
open Go.ChangeShapes Go.WideShapes Go.ChangeAt Go.RowKit Fil14 OpensF14 DiskH14 DkH14 SDk14 SOk14 SRd14 App14 SLess14 SCopy14 SRef14 SCom14 SPut14
open DkH14 (row_step)
set_option linter.unusedVariables false
set_option linter.unusedSimpArgs false

/-- What DiskCut answers. -/
def cutD (room : Int) (ps : List TF) (nm n : Int) : (Int × List TF) × Int := if (atD room ps nm).2 = 0 then (if 0 ≤ n ∧ n ≤ (bytesAt ps (atD room ps nm).1.toNat).size then ((room, putF ps (nm, (bytesAt ps (atD room ps nm).1.toNat).extract 0 n.toNat, ByteArray.empty)), 0) else (refD 2 room ps, 2)) else (refD (atD room ps nm).2 room ps, (atD room ps nm).2)

abbrev oE0 : Oper := { dst := some 17, op := Go.Op.move (Go.Operand.tmp 9), type := 3, pos := "l14_disk.go:124", after := #[], guard := none }
abbrev oE1 : Oper := { dst := some 18, op := Go.Op.binOp Go.BinOp.eql 3 (Go.Operand.tmp 17) (Go.Operand.const (Go.Value.int Go.IntKind.i64 0)) 3, type := 4, pos := "l14_disk.go:124", after := #[{ on := 0, ground := Go.Ground.data }], guard := none }
abbrev oE2 : Oper := { dst := some 19, op := Go.Op.move (Go.Operand.tmp 18), type := 4, pos := "l14_disk.go:124", after := #[{ on := 1, ground := Go.Ground.data }], guard := none }
abbrev oE3 : Oper := { dst := some 20, op := Go.Op.move (Go.Operand.tmp 2), type := 3, pos := "l14_disk.go:124", after := #[{ on := 2, ground := Go.Ground.guard }], guard := some (2, true) }
abbrev oE4 : Oper := { dst := some 21, op := Go.Op.fieldAddr 29 (Go.Operand.tmp 3) 1, type := 0, pos := "l14_disk.go:124", after := #[{ on := 2, ground := Go.Ground.guard }], guard := some (2, true) }
abbrev oE5 : Oper := { dst := some 22, op := Go.Op.load 27 (Go.Operand.tmp 21), type := 27, pos := "l14_disk.go:124", after := #[{ on := 4, ground := Go.Ground.data }, { on := 2, ground := Go.Ground.guard }], guard := some (2, true) }
abbrev oE6 : Oper := { dst := some 23, op := Go.Op.move (Go.Operand.tmp 8), type := 3, pos := "l14_disk.go:124", after := #[{ on := 2, ground := Go.Ground.guard }], guard := some (2, true) }
abbrev oE7 : Oper := { dst := some 24, op := Go.Op.indexAddr 27 (Go.Operand.tmp 22) (Go.Operand.tmp 23), type := 0, pos := "l14_disk.go:124", after := #[{ on := 5, ground := Go.Ground.data }, { on := 6, ground := Go.Ground.data }, { on := 2, ground := Go.Ground.guard }], guard := some (2, true) }
abbrev oE8 : Oper := { dst := some 25, op := Go.Op.fieldAddr 48 (Go.Operand.tmp 24) 1, type := 0, pos := "l14_disk.go:124", after := #[{ on := 7, ground := Go.Ground.data }, { on := 2, ground := Go.Ground.guard }], guard := some (2, true) }
abbrev oE9 : Oper := { dst := some 26, op := Go.Op.load 9 (Go.Operand.tmp 25), type := 9, pos := "l14_disk.go:124", after := #[{ on := 8, ground := Go.Ground.data }, { on := 2, ground := Go.Ground.guard }], guard := some (2, true) }
abbrev oE10 : Oper := { dst := some 27, op := Go.Op.call { callee := Go.Callee.builtin Go.Builtin.len, args := #[Go.Operand.tmp 26], argTypes := #[9] }, type := 3, pos := "l14_disk.go:124", after := #[{ on := 9, ground := Go.Ground.data }, { on := 2, ground := Go.Ground.guard }], guard := some (2, true) }
abbrev oE11 : Oper := { dst := some 28, op := Go.Op.fieldAddr 29 (Go.Operand.tmp 3) 1, type := 0, pos := "l14_disk.go:124", after := #[{ on := 2, ground := Go.Ground.guard }], guard := some (2, true) }
abbrev oE12 : Oper := { dst := some 29, op := Go.Op.load 27 (Go.Operand.tmp 28), type := 27, pos := "l14_disk.go:124", after := #[{ on := 11, ground := Go.Ground.data }, { on := 2, ground := Go.Ground.guard }], guard := some (2, true) }
abbrev oE13 : Oper := { dst := some 30, op := Go.Op.move (Go.Operand.tmp 8), type := 3, pos := "l14_disk.go:124", after := #[{ on := 2, ground := Go.Ground.guard }], guard := some (2, true) }
abbrev oE14 : Oper := { dst := some 31, op := Go.Op.indexAddr 27 (Go.Operand.tmp 29) (Go.Operand.tmp 30), type := 0, pos := "l14_disk.go:124", after := #[{ on := 12, ground := Go.Ground.data }, { on := 13, ground := Go.Ground.data }, { on := 2, ground := Go.Ground.guard }], guard := some (2, true) }
abbrev oE15 : Oper := { dst := some 32, op := Go.Op.fieldAddr 48 (Go.Operand.tmp 31) 2, type := 0, pos := "l14_disk.go:124", after := #[{ on := 14, ground := Go.Ground.data }, { on := 2, ground := Go.Ground.guard }], guard := some (2, true) }
abbrev oE16 : Oper := { dst := some 33, op := Go.Op.load 9 (Go.Operand.tmp 32), type := 9, pos := "l14_disk.go:124", after := #[{ on := 15, ground := Go.Ground.data }, { on := 2, ground := Go.Ground.guard }], guard := some (2, true) }
abbrev oE17 : Oper := { dst := some 34, op := Go.Op.call { callee := Go.Callee.builtin Go.Builtin.len, args := #[Go.Operand.tmp 33], argTypes := #[9] }, type := 3, pos := "l14_disk.go:124", after := #[{ on := 16, ground := Go.Ground.data }, { on := 2, ground := Go.Ground.guard }], guard := some (2, true) }
abbrev oE18 : Oper := { dst := some 35, op := Go.Op.binOp Go.BinOp.add 3 (Go.Operand.tmp 27) (Go.Operand.tmp 34) 3, type := 3, pos := "l14_disk.go:124", after := #[{ on := 10, ground := Go.Ground.data }, { on := 17, ground := Go.Ground.data }, { on := 2, ground := Go.Ground.guard }], guard := some (2, true) }
abbrev oE19 : Oper := { dst := some 36, op := Go.Op.call { callee := Go.Callee.value (Go.Operand.func 27), args := #[Go.Operand.tmp 20, Go.Operand.const (Go.Value.int Go.IntKind.i64 0), Go.Operand.tmp 35], argTypes := #[3, 3, 3] }, type := 4, pos := "l14_disk.go:124", after := #[{ on := 3, ground := Go.Ground.data }, { on := 18, ground := Go.Ground.data }, { on := 2, ground := Go.Ground.chain }, { on := 2, ground := Go.Ground.guard }], guard := some (2, true) }
abbrev oE20 : Oper := { dst := some 37, op := Go.Op.unOp Go.UnOp.not 4 (Go.Operand.tmp 36), type := 4, pos := "l14_disk.go:124", after := #[{ on := 19, ground := Go.Ground.data }, { on := 2, ground := Go.Ground.guard }], guard := some (2, true) }
abbrev oE21 : Oper := { dst := some 38, op := Go.Op.pick (Go.Operand.tmp 19) (Go.Operand.tmp 37) (Go.Operand.const (Go.Value.bool false)), type := 4, pos := "l14_disk.go:124", after := #[{ on := 2, ground := Go.Ground.data }, { on := 20, ground := Go.Ground.data }], guard := none }
abbrev oF0 : Oper := { dst := some 50, op := Go.Op.load 29 (Go.Operand.tmp 3), type := 29, pos := "l14_disk.go:131", after := #[], guard := none }
abbrev oF1 : Oper := { dst := some 51, op := Go.Op.move (Go.Operand.tmp 1), type := 3, pos := "l14_disk.go:131", after := #[], guard := none }
abbrev oF2 : Oper := { dst := some 52, op := Go.Op.fieldAddr 48 (Go.Operand.tmp 10) 1, type := 0, pos := "l14_disk.go:131", after := #[], guard := none }
abbrev oF3 : Oper := { dst := some 53, op := Go.Op.load 9 (Go.Operand.tmp 52), type := 9, pos := "l14_disk.go:131", after := #[{ on := 2, ground := Go.Ground.data }], guard := none }
abbrev oF4 : Oper := { dst := some 54, op := Go.Op.fieldAddr 48 (Go.Operand.tmp 10) 2, type := 0, pos := "l14_disk.go:131", after := #[], guard := none }
abbrev oF5 : Oper := { dst := some 55, op := Go.Op.load 9 (Go.Operand.tmp 54), type := 9, pos := "l14_disk.go:131", after := #[{ on := 4, ground := Go.Ground.data }], guard := none }
abbrev oF6 : Oper := { dst := some 56, op := Go.Op.binOp Go.BinOp.add 9 (Go.Operand.tmp 53) (Go.Operand.tmp 55) 9, type := 9, pos := "l14_disk.go:131", after := #[{ on := 3, ground := Go.Ground.data }, { on := 5, ground := Go.Ground.data }], guard := none }
abbrev oF7 : Oper := { dst := some 57, op := Go.Op.move (Go.Operand.tmp 2), type := 3, pos := "l14_disk.go:131", after := #[], guard := none }
abbrev oF8 : Oper := { dst := some 58, op := Go.Op.slice 9 (Go.Operand.tmp 56) none (some (Go.Operand.tmp 57)) none, type := 9, pos := "l14_disk.go:131", after := #[{ on := 6, ground := Go.Ground.data }, { on := 7, ground := Go.Ground.data }], guard := none }
abbrev oF9 : Oper := { dst := some 59, op := Go.Op.build 48 #[(0, Go.Operand.tmp 51), (1, Go.Operand.tmp 58)], type := 48, pos := "l14_disk.go:131", after := #[{ on := 1, ground := Go.Ground.data }, { on := 8, ground := Go.Ground.data }], guard := none }
abbrev oF10 : Oper := { dst := some 60, op := Go.Op.call { callee := Go.Callee.value (Go.Operand.func 38), args := #[Go.Operand.tmp 50, Go.Operand.tmp 59], argTypes := #[29, 48] }, type := 29, pos := "l14_disk.go:131", after := #[{ on := 0, ground := Go.Ground.data }, { on := 9, ground := Go.Ground.data }], guard := none }
abbrev oF11 : Oper := { dst := none, op := Go.Op.store 29 (Go.Operand.tmp 6) (Go.Operand.tmp 60), type := 0, pos := "l14_disk.go:131", after := #[{ on := 10, ground := Go.Ground.data }, { on := 10, ground := Go.Ground.chain }, { on := 0, ground := Go.Ground.phase }, { on := 1, ground := Go.Ground.phase }, { on := 2, ground := Go.Ground.phase }, { on := 3, ground := Go.Ground.phase }, { on := 4, ground := Go.Ground.phase }, { on := 5, ground := Go.Ground.phase }, { on := 6, ground := Go.Ground.phase }, { on := 7, ground := Go.Ground.phase }, { on := 8, ground := Go.Ground.phase }, { on := 9, ground := Go.Ground.phase }, { on := 10, ground := Go.Ground.phase }], guard := none }
abbrev oF12 : Oper := { dst := some 7, op := Go.Op.assign (Go.Operand.const (Go.Value.int Go.IntKind.i64 0)), type := 3, pos := "l14_disk.go:131", after := #[{ on := 11, ground := Go.Ground.chain }, { on := 0, ground := Go.Ground.phase }, { on := 1, ground := Go.Ground.phase }, { on := 2, ground := Go.Ground.phase }, { on := 3, ground := Go.Ground.phase }, { on := 4, ground := Go.Ground.phase }, { on := 5, ground := Go.Ground.phase }, { on := 6, ground := Go.Ground.phase }, { on := 7, ground := Go.Ground.phase }, { on := 8, ground := Go.Ground.phase }, { on := 9, ground := Go.Ground.phase }, { on := 10, ground := Go.Ground.phase }, { on := 11, ground := Go.Ground.phase }], guard := none }

set_option maxRecDepth 100000 in
set_option maxHeartbeats 4000000 in
theorem sDiskCut (w : World) (x : Dx) (nm n : Int) (hr : RdD w x) (hz : sumZ x.ps ≤ 1048576) :
    Calls Try.prog 22 #[.agg #[.int .i64 x.room, .slice x.a x.ps.length x.c], .int .i64 nm, .int .i64 n] w (ToldD (cutD x.room x.ps nm n) w) := by
  have G0 := hide (begunD hr)
  have s2 : ((w.alloc (.cells #[.int .i64 x.room, .slice x.a x.ps.length x.c] 29)).alloc (.cells #[.int .i64 0, .slice none 0 0] 29)).heap.size = w.heap.size + 2 := by simp
  have AT := hide (sAt _ x nm (unhide G0).1.r hz)
  have AI := hide (at_in (room := x.room) (ps := x.ps) (nm := nm))
  have RE := hide (show cutD x.room x.ps nm n = if (atD x.room x.ps nm).2 = 0 then (if 0 ≤ n ∧ n ≤ (bytesAt x.ps (atD x.room x.ps nm).1.toNat).size then ((x.room, putF x.ps (nm, (bytesAt x.ps (atD x.room x.ps nm).1.toNat).extract 0 n.toNat, ByteArray.empty)), 0) else (refD 2 x.room x.ps, 2)) else (refD (atD x.room x.ps nm).2 x.room x.ps, (atD x.room x.ps nm).2) from rfl)
  generalize cutD x.room x.ps nm n = rr at *
  generalize atD x.room x.ps nm = at' at *
  obtain ⟨k0, c⟩ := at'
  clear hr
  go_enter Try.func22, Try.ntmps22
  go_wp2_with fail
  generalize (w.alloc (.cells #[.int .i64 x.room, .slice x.a x.ps.length x.c] 29)).alloc (.cells #[.int .i64 0, .slice none 0 0] 29) = W at *
  refine (unhide AT).mono ?_
  rintro e u ⟨rfl, b1⟩
  have W1 := hide ((unhide G0).1.step b1)
  have R1 := hide ((unhide G0).2.below b1 (by omega))
  have us := b1.size
  clear b1 AT G0
  have c0 := (unhide W1).c0
  have c1 := (unhide W1).c1
  have lt := (unhide W1).lt
  by_cases q : c = 0
  case neg =>
    have E := hide (show rr = (refD c x.room x.ps, c) by rw [unhide RE, if_neg q])
    have qb : (c != 0) = true := by simpa using q
    have qe : (c == 0) = false := by simpa using q
    clear RE AI q
    go_wp2_with fail
    refine wp_region_held_drew (S := (fun _ => True)) (by kernel_rfl) trivial (fun hHeld => ?_)
    refine wpAnyH_take (i := 0) (oi := oE0) (v := .int .i64 c) rfl (by kernel_rfl) (by kernel_rfl) (by kernel_rfl) (fun _ _ _ h => h) (Or.inl ⟨by rfl, fun w hSw => ?_⟩) hHeld ?_
    · (try dsimp only at hSw)
      unfold oE0
      go_simp
    try simp only [oE0, Act.put, List.setIfInBounds_toArray, List.set_cons_zero, List.set_cons_succ]
    refine wpAnyH_take (i := 1) (oi := oE1) (v := .bool false) rfl (by kernel_rfl) (by kernel_rfl) (by kernel_rfl) (fun _ _ _ h => h) (Or.inl ⟨by rfl, fun w hSw => ?_⟩) hHeld ?_
    · (try dsimp only at hSw)
      unfold oE1
      go_simp
    try simp only [oE1, Act.put, List.setIfInBounds_toArray, List.set_cons_zero, List.set_cons_succ]
    refine wpAnyH_take (i := 2) (oi := oE2) (v := .bool false) rfl (by kernel_rfl) (by kernel_rfl) (by kernel_rfl) (fun _ _ _ h => h) (Or.inl ⟨by rfl, fun w hSw => ?_⟩) hHeld ?_
    · (try dsimp only at hSw)
      unfold oE2
      go_simp
    try simp only [oE2, Act.put, List.setIfInBounds_toArray, List.set_cons_zero, List.set_cons_succ]
    refine wpAnyH_take (i := 3) (oi := oE3) (v := undef) rfl (by kernel_rfl) (by kernel_rfl) (by kernel_rfl) (fun _ _ _ h => h) (Or.inr ⟨by rfl, rfl⟩) hHeld ?_
    try simp only [oE3, Act.put, List.setIfInBounds_toArray, List.set_cons_zero, List.set_cons_succ]
    refine wpAnyH_take (i := 4) (oi := oE4) (v := undef) rfl (by kernel_rfl) (by kernel_rfl) (by kernel_rfl) (fun _ _ _ h => h) (Or.inr ⟨by rfl, rfl⟩) hHeld ?_
    try simp only [oE4, Act.put, List.setIfInBounds_toArray, List.set_cons_zero, List.set_cons_succ]
    refine wpAnyH_take (i := 5) (oi := oE5) (v := undef) rfl (by kernel_rfl) (by kernel_rfl) (by kernel_rfl) (fun _ _ _ h => h) (Or.inr ⟨by rfl, rfl⟩) hHeld ?_
    try simp only [oE5, Act.put, List.setIfInBounds_toArray, List.set_cons_zero, List.set_cons_succ]
    refine wpAnyH_take (i := 6) (oi := oE6) (v := undef) rfl (by kernel_rfl) (by kernel_rfl) (by kernel_rfl) (fun _ _ _ h => h) (Or.inr ⟨by rfl, rfl⟩) hHeld ?_
    try simp only [oE6, Act.put, List.setIfInBounds_toArray, List.set_cons_zero, List.set_cons_succ]
    refine wpAnyH_take (i := 7) (oi := oE7) (v := undef) rfl (by kernel_rfl) (by kernel_rfl) (by kernel_rfl) (fun _ _ _ h => h) (Or.inr ⟨by rfl, rfl⟩) hHeld ?_
    try simp only [oE7, Act.put, List.setIfInBounds_toArray, List.set_cons_zero, List.set_cons_succ]
    refine wpAnyH_take (i := 8) (oi := oE8) (v := undef) rfl (by kernel_rfl) (by kernel_rfl) (by kernel_rfl) (fun _ _ _ h => h) (Or.inr ⟨by rfl, rfl⟩) hHeld ?_
    try simp only [oE8, Act.put, List.setIfInBounds_toArray, List.set_cons_zero, List.set_cons_succ]
    refine wpAnyH_take (i := 9) (oi := oE9) (v := undef) rfl (by kernel_rfl) (by kernel_rfl) (by kernel_rfl) (fun _ _ _ h => h) (Or.inr ⟨by rfl, rfl⟩) hHeld ?_
    try simp only [oE9, Act.put, List.setIfInBounds_toArray, List.set_cons_zero, List.set_cons_succ]
    refine wpAnyH_take (i := 10) (oi := oE10) (v := undef) rfl (by kernel_rfl) (by kernel_rfl) (by kernel_rfl) (fun _ _ _ h => h) (Or.inr ⟨by rfl, rfl⟩) hHeld ?_
    try simp only [oE10, Act.put, List.setIfInBounds_toArray, List.set_cons_zero, List.set_cons_succ]
    refine wpAnyH_take (i := 11) (oi := oE11) (v := undef) rfl (by kernel_rfl) (by kernel_rfl) (by kernel_rfl) (fun _ _ _ h => h) (Or.inr ⟨by rfl, rfl⟩) hHeld ?_
    try simp only [oE11, Act.put, List.setIfInBounds_toArray, List.set_cons_zero, List.set_cons_succ]
    refine wpAnyH_take (i := 12) (oi := oE12) (v := undef) rfl (by kernel_rfl) (by kernel_rfl) (by kernel_rfl) (fun _ _ _ h => h) (Or.inr ⟨by rfl, rfl⟩) hHeld ?_
    try simp only [oE12, Act.put, List.setIfInBounds_toArray, List.set_cons_zero, List.set_cons_succ]
    refine wpAnyH_take (i := 13) (oi := oE13) (v := undef) rfl (by kernel_rfl) (by kernel_rfl) (by kernel_rfl) (fun _ _ _ h => h) (Or.inr ⟨by rfl, rfl⟩) hHeld ?_
    try simp only [oE13, Act.put, List.setIfInBounds_toArray, List.set_cons_zero, List.set_cons_succ]
    refine wpAnyH_take (i := 14) (oi := oE14) (v := undef) rfl (by kernel_rfl) (by kernel_rfl) (by kernel_rfl) (fun _ _ _ h => h) (Or.inr ⟨by rfl, rfl⟩) hHeld ?_
    try simp only [oE14, Act.put, List.setIfInBounds_toArray, List.set_cons_zero, List.set_cons_succ]
    refine wpAnyH_take (i := 15) (oi := oE15) (v := undef) rfl (by kernel_rfl) (by kernel_rfl) (by kernel_rfl) (fun _ _ _ h => h) (Or.inr ⟨by rfl, rfl⟩) hHeld ?_
    try simp only [oE15, Act.put, List.setIfInBounds_toArray, List.set_cons_zero, List.set_cons_succ]
    refine wpAnyH_take (i := 16) (oi := oE16) (v := undef) rfl (by kernel_rfl) (by kernel_rfl) (by kernel_rfl) (fun _ _ _ h => h) (Or.inr ⟨by rfl, rfl⟩) hHeld ?_
    try simp only [oE16, Act.put, List.setIfInBounds_toArray, List.set_cons_zero, List.set_cons_succ]
    refine wpAnyH_take (i := 17) (oi := oE17) (v := undef) rfl (by kernel_rfl) (by kernel_rfl) (by kernel_rfl) (fun _ _ _ h => h) (Or.inr ⟨by rfl, rfl⟩) hHeld ?_
    try simp only [oE17, Act.put, List.setIfInBounds_toArray, List.set_cons_zero, List.set_cons_succ]
    refine wpAnyH_take (i := 18) (oi := oE18) (v := undef) rfl (by kernel_rfl) (by kernel_rfl) (by kernel_rfl) (fun _ _ _ h => h) (Or.inr ⟨by rfl, rfl⟩) hHeld ?_
    try simp only [oE18, Act.put, List.setIfInBounds_toArray, List.set_cons_zero, List.set_cons_succ]
    refine wpAnyH_take (i := 19) (oi := oE19) (v := undef) rfl (by kernel_rfl) (by kernel_rfl) (by kernel_rfl) (fun _ _ _ h => h) (Or.inr ⟨by rfl, rfl⟩) hHeld ?_
    try simp only [oE19, Act.put, List.setIfInBounds_toArray, List.set_cons_zero, List.set_cons_succ]
    refine wpAnyH_take (i := 20) (oi := oE20) (v := undef) rfl (by kernel_rfl) (by kernel_rfl) (by kernel_rfl) (fun _ _ _ h => h) (Or.inr ⟨by rfl, rfl⟩) hHeld ?_
    try simp only [oE20, Act.put, List.setIfInBounds_toArray, List.set_cons_zero, List.set_cons_succ]
    refine wpAnyH_take (i := 21) (oi := oE21) (v := .bool false) rfl (by kernel_rfl) (by kernel_rfl) (by kernel_rfl) (fun _ _ _ h => h) (Or.inl ⟨by rfl, fun w hSw => ?_⟩) hHeld ?_
    · (try dsimp only at hSw)
      unfold oE21
      go_simp
    try simp only [oE21, Act.put, List.setIfInBounds_toArray, List.set_cons_zero, List.set_cons_succ]
    refine wpAnyH_done (by kernel_rfl) ?_ _
    have W1 := hide ((unhide W1).drew)
    have R1 := hide (show Bc u.drew w.heap.size (w.heap.size + 1) (.int .i64 0) (.slice none 0 0) from unhide R1)
    have c0 := (unhide W1).c0
    have c1 := (unhide W1).c1
    have lt := (unhide W1).lt
    go_wp2_with fail
    refine (sRefused _ x (c) (unhide W1).r).mono ?_
    rintro e u2 ⟨y, hy, rfl, oy, b2⟩
    have R2 := hide ((unhide R1).below b2 (unhide R1).lt.2)
    have EN := hide (endedD ((unhide W1).b.trans (b2.mono (unhide W1).b.size)) (unhide R2) oy (unhide R1).lt.2)
    have HY := hide hy
    have f0 := (unhide R2).free 0
    have f1 := (unhide R2).free 1
    have r0 := (unhide R2).c0
    have r1 := (unhide R2).c1
    clear b2 oy hy c0 c1 lt W1 R1
    go_wp2
    refine bodyPost_ret (v := .tuple #[.agg #[.int .i64 y.room, .slice y.a y.ps.length y.c], .int .i64 (c)]) (by simp [results, Try.results22, go_sem, r0, r1]) rfl ?_
    rw [unhide E]
    exact ⟨y, unhide HY, rfl, (unhide EN).1, (unhide EN).2⟩
  subst q
  obtain ⟨ok, okn, k, rfl, kl, en⟩ := (unhide AI) rfl
  have RE2 := hide (show rr = if 0 ≤ n ∧ n ≤ (bytesAt x.ps k).size then ((x.room, putF x.ps (nm, (bytesAt x.ps k).extract 0 n.toNat, ByteArray.empty)), 0) else (refD 2 x.room x.ps, 2) by rw [unhide RE, if_pos rfl]; rfl)
  have h22 := ok.2.1
  have kt : (k : Int) < x.ps.length := by omega
  obtain ⟨g, ea, lg, d0, d1, d2⟩ := cells_of (unhide W1).r kl
  have ix := ixF x.c ea kl
  have ES := hide (show bytesAt x.ps k = (elF x.ps k).2.1 ++ (elF x.ps k).2.2 from rfl)
  have NX := sumZ_next kl
  have LE := sumZ_le x.ps (k + 1)
  have s1 : (elF x.ps k).2.1.size + (elF x.ps k).2.2.size ≤ 1048576 := by omega
  clear RE AI ok okn en ea NX LE
  generalize bytesAt x.ps k = bt at *
  generalize (elF x.ps k).1 = z0 at *
  generalize (elF x.ps k).2.1 = z1 at *
  generalize (elF x.ps k).2.2 = z2 at *
  have bz : bt.size = z1.size + z2.size := by rw [unhide ES]; simp
  have RE3 := hide (show rr = if 0 ≤ n ∧ n ≤ ((z1.size : Int) + z2.size) then ((x.room, putF x.ps (nm, (z1 ++ z2).extract 0 n.toNat, ByteArray.empty)), 0) else (refD 2 x.room x.ps, 2) by rw [unhide RE2, bz, unhide ES]; simp)
  clear RE2 bz ES bt
  have wr1 : wrap64 ((z1.size : Int) + z2.size) = (z1.size : Int) + z2.size := by rw [wrap64]; omega
  have wr2 : IntKind.i64.wrap ((z1.size : Int) + z2.size) = (z1.size : Int) + z2.size := by rw [IntKind.wrap_i64]; omega
  obtain ⟨bb, hbb⟩ : ∃ bb, decide (0 ≤ n ∧ n ≤ ((z1.size : Int) + z2.size)) = bb := ⟨_, rfl⟩
  have HBB := hide hbb
  clear hbb
  have K0 : u.cell? ⟨w.heap.size, 1, none⟩ = some (.slice x.a x.ps.length x.c) ∧ u.cell? ⟨g, k * 3 + 1, none⟩ = some (.string z1) ∧ u.cell? ⟨g, k * 3 + 2, none⟩ = some (.string z2) := ⟨c1, d1, d2⟩
  go_wp2_with fail
  refine wp_region_held_drew (S := (fun w' => w'.cell? ⟨w.heap.size, 1, none⟩ = some (.slice x.a x.ps.length x.c) ∧ w'.cell? ⟨g, k * 3 + 1, none⟩ = some (.string z1) ∧ w'.cell? ⟨g, k * 3 + 2, none⟩ = some (.string z2))) (by kernel_rfl) K0 (fun hHeld => ?_)
  refine wpAnyH_take (i := 0) (oi := oE0) (v := .int .i64 0) rfl (by kernel_rfl) (by kernel_rfl) (by kernel_rfl) (fun _ _ _ h => h) (Or.inl ⟨by rfl, fun w hSw => ?_⟩) hHeld ?_
  · (try dsimp only at hSw)
    unfold oE0
    go_simp
  try simp only [oE0, Act.put, List.setIfInBounds_toArray, List.set_cons_zero, List.set_cons_succ]
  refine wpAnyH_take (i := 1) (oi := oE1) (v := .bool true) rfl (by kernel_rfl) (by kernel_rfl) (by kernel_rfl) (fun _ _ _ h => h) (Or.inl ⟨by rfl, fun w hSw => ?_⟩) hHeld ?_
  · (try dsimp only at hSw)
    unfold oE1
    go_simp
  try simp only [oE1, Act.put, List.setIfInBounds_toArray, List.set_cons_zero, List.set_cons_succ]
  refine wpAnyH_take (i := 2) (oi := oE2) (v := .bool true) rfl (by kernel_rfl) (by kernel_rfl) (by kernel_rfl) (fun _ _ _ h => h) (Or.inl ⟨by rfl, fun w hSw => ?_⟩) hHeld ?_
  · (try dsimp only at hSw)
    unfold oE2
    go_simp
  try simp only [oE2, Act.put, List.setIfInBounds_toArray, List.set_cons_zero, List.set_cons_succ]
  refine wpAnyH_take (i := 3) (oi := oE3) (v := .int .i64 n) rfl (by kernel_rfl) (by kernel_rfl) (by kernel_rfl) (fun _ _ _ h => h) (Or.inl ⟨by rfl, fun w hSw => ?_⟩) hHeld ?_
  · (try dsimp only at hSw)
    unfold oE3
    go_simp
  try simp only [oE3, Act.put, List.setIfInBounds_toArray, List.set_cons_zero, List.set_cons_succ]
  refine wpAnyH_take (i := 4) (oi := oE4) (v := .pointer (some ⟨w.heap.size, 1, none⟩)) rfl (by kernel_rfl) (by kernel_rfl) (by kernel_rfl) (fun _ _ _ h => h) (Or.inl ⟨by rfl, fun w hSw => ?_⟩) hHeld ?_
  · (try dsimp only at hSw)
    unfold oE4
    go_simp
  try simp only [oE4, Act.put, List.setIfInBounds_toArray, List.set_cons_zero, List.set_cons_succ]
  refine wpAnyH_take (i := 5) (oi := oE5) (v := .slice x.a x.ps.length x.c) rfl (by kernel_rfl) (by kernel_rfl) (by kernel_rfl) (fun _ _ _ h => h) (Or.inl ⟨by rfl, fun w hSw => ?_⟩) hHeld ?_
  · (try dsimp only at hSw)
    unfold oE5
    go_simp
  try simp only [oE5, Act.put, List.setIfInBounds_toArray, List.set_cons_zero, List.set_cons_succ]
  refine wpAnyH_take (i := 6) (oi := oE6) (v := .int .i64 k) rfl (by kernel_rfl) (by kernel_rfl) (by kernel_rfl) (fun _ _ _ h => h) (Or.inl ⟨by rfl, fun w hSw => ?_⟩) hHeld ?_
  · (try dsimp only at hSw)
    unfold oE6
    go_simp
  try simp only [oE6, Act.put, List.setIfInBounds_toArray, List.set_cons_zero, List.set_cons_succ]
  refine wpAnyH_take (i := 7) (oi := oE7) (v := .pointer (some ⟨g, k * 3, none⟩)) rfl (by kernel_rfl) (by kernel_rfl) (by kernel_rfl) (fun _ _ _ h => h) (Or.inl ⟨by rfl, fun w hSw => ?_⟩) hHeld ?_
  · (try dsimp only at hSw)
    unfold oE7
    go_simp
  try simp only [oE7, Act.put, List.setIfInBounds_toArray, List.set_cons_zero, List.set_cons_succ]
  refine wpAnyH_take (i := 8) (oi := oE8) (v := .pointer (some ⟨g, k * 3 + 1, none⟩)) rfl (by kernel_rfl) (by kernel_rfl) (by kernel_rfl) (fun _ _ _ h => h) (Or.inl ⟨by rfl, fun w hSw => ?_⟩) hHeld ?_
  · (try dsimp only at hSw)
    unfold oE8
    go_simp
  try simp only [oE8, Act.put, List.setIfInBounds_toArray, List.set_cons_zero, List.set_cons_succ]
  refine wpAnyH_take (i := 9) (oi := oE9) (v := .string z1) rfl (by kernel_rfl) (by kernel_rfl) (by kernel_rfl) (fun _ _ _ h => h) (Or.inl ⟨by rfl, fun w hSw => ?_⟩) hHeld ?_
  · (try dsimp only at hSw)
    unfold oE9
    go_simp
  try simp only [oE9, Act.put, List.setIfInBounds_toArray, List.set_cons_zero, List.set_cons_succ]
  refine wpAnyH_take (i := 10) (oi := oE10) (v := .int .i64 z1.size) rfl (by kernel_rfl) (by kernel_rfl) (by kernel_rfl) (fun _ _ _ h => h) (Or.inl ⟨by rfl, fun w hSw => ?_⟩) hHeld ?_
  · (try dsimp only at hSw)
    unfold oE10
    go_simp
  try simp only [oE10, Act.put, List.setIfInBounds_toArray, List.set_cons_zero, List.set_cons_succ]
  refine wpAnyH_take (i := 11) (oi := oE11) (v := .pointer (some ⟨w.heap.size, 1, none⟩)) rfl (by kernel_rfl) (by kernel_rfl) (by kernel_rfl) (fun _ _ _ h => h) (Or.inl ⟨by rfl, fun w hSw => ?_⟩) hHeld ?_
  · (try dsimp only at hSw)
    unfold oE11
    go_simp
  try simp only [oE11, Act.put, List.setIfInBounds_toArray, List.set_cons_zero, List.set_cons_succ]
  refine wpAnyH_take (i := 12) (oi := oE12) (v := .slice x.a x.ps.length x.c) rfl (by kernel_rfl) (by kernel_rfl) (by kernel_rfl) (fun _ _ _ h => h) (Or.inl ⟨by rfl, fun w hSw => ?_⟩) hHeld ?_
  · (try dsimp only at hSw)
    unfold oE12
    go_simp
  try simp only [oE12, Act.put, List.setIfInBounds_toArray, List.set_cons_zero, List.set_cons_succ]
  refine wpAnyH_take (i := 13) (oi := oE13) (v := .int .i64 k) rfl (by kernel_rfl) (by kernel_rfl) (by kernel_rfl) (fun _ _ _ h => h) (Or.inl ⟨by rfl, fun w hSw => ?_⟩) hHeld ?_
  · (try dsimp only at hSw)
    unfold oE13
    go_simp
  try simp only [oE13, Act.put, List.setIfInBounds_toArray, List.set_cons_zero, List.set_cons_succ]
  refine wpAnyH_take (i := 14) (oi := oE14) (v := .pointer (some ⟨g, k * 3, none⟩)) rfl (by kernel_rfl) (by kernel_rfl) (by kernel_rfl) (fun _ _ _ h => h) (Or.inl ⟨by rfl, fun w hSw => ?_⟩) hHeld ?_
  · (try dsimp only at hSw)
    unfold oE14
    go_simp
  try simp only [oE14, Act.put, List.setIfInBounds_toArray, List.set_cons_zero, List.set_cons_succ]
  refine wpAnyH_take (i := 15) (oi := oE15) (v := .pointer (some ⟨g, k * 3 + 2, none⟩)) rfl (by kernel_rfl) (by kernel_rfl) (by kernel_rfl) (fun _ _ _ h => h) (Or.inl ⟨by rfl, fun w hSw => ?_⟩) hHeld ?_
  · (try dsimp only at hSw)
    unfold oE15
    go_simp
  try simp only [oE15, Act.put, List.setIfInBounds_toArray, List.set_cons_zero, List.set_cons_succ]
  refine wpAnyH_take (i := 16) (oi := oE16) (v := .string z2) rfl (by kernel_rfl) (by kernel_rfl) (by kernel_rfl) (fun _ _ _ h => h) (Or.inl ⟨by rfl, fun w hSw => ?_⟩) hHeld ?_
  · (try dsimp only at hSw)
    unfold oE16
    go_simp
  try simp only [oE16, Act.put, List.setIfInBounds_toArray, List.set_cons_zero, List.set_cons_succ]
  refine wpAnyH_take (i := 17) (oi := oE17) (v := .int .i64 z2.size) rfl (by kernel_rfl) (by kernel_rfl) (by kernel_rfl) (fun _ _ _ h => h) (Or.inl ⟨by rfl, fun w hSw => ?_⟩) hHeld ?_
  · (try dsimp only at hSw)
    unfold oE17
    go_simp
  try simp only [oE17, Act.put, List.setIfInBounds_toArray, List.set_cons_zero, List.set_cons_succ]
  refine wpAnyH_take (i := 18) (oi := oE18) (v := .int .i64 ((z1.size : Int) + z2.size)) rfl (by kernel_rfl) (by kernel_rfl) (by kernel_rfl) (fun _ _ _ h => h) (Or.inl ⟨by rfl, fun w hSw => ?_⟩) hHeld ?_
  · (try dsimp only at hSw)
    unfold oE18
    go_simp
  try simp only [oE18, Act.put, List.setIfInBounds_toArray, List.set_cons_zero, List.set_cons_succ]
  refine wpAnyH_ready (rs := [19]) (by kernel_rfl) (by simp) ?_
  refine AllReadyH.cons (o := oE19) rfl (fun K hK => ?_) AllReadyH.nil
  unfold oE19
  go_simp
  go_wp2_with fail
  refine (sInB _ n 0 ((z1.size : Int) + z2.size) bb (unhide HBB)).mono ?_
  rintro e v1 ⟨rfl, rfl⟩
  go_wp2_with fail
  refine hK.out _ _ K0 (fun hHeld => ?_)
  clear hK K
  try simp only [oE19, Act.put, List.setIfInBounds_toArray, List.set_cons_zero, List.set_cons_succ]
  refine wpAnyH_take (i := 20) (oi := oE20) (v := .bool (!bb)) rfl (by kernel_rfl) (by kernel_rfl) (by kernel_rfl) (fun _ _ _ h => h) (Or.inl ⟨by rfl, fun w hSw => ?_⟩) hHeld ?_
  · (try dsimp only at hSw)
    unfold oE20
    go_simp
  try simp only [oE20, Act.put, List.setIfInBounds_toArray, List.set_cons_zero, List.set_cons_succ]
  refine wpAnyH_take (i := 21) (oi := oE21) (v := .bool (!bb)) rfl (by kernel_rfl) (by kernel_rfl) (by kernel_rfl) (fun _ _ _ h => h) (Or.inl ⟨by rfl, fun w hSw => ?_⟩) hHeld ?_
  · (try dsimp only at hSw)
    unfold oE21
    go_simp
  try simp only [oE21, Act.put, List.setIfInBounds_toArray, List.set_cons_zero, List.set_cons_succ]
  refine wpAnyH_done (by kernel_rfl) ?_ _
  have W4 := hide ((unhide W1).drew)
  have R4 := hide (show Bc u.drew w.heap.size (w.heap.size + 1) (.int .i64 0) (.slice none 0 0) from unhide R1)
  have d0' : u.drew.cell? ⟨g, k * 3, none⟩ = some (.int .i64 z0) := d0
  have d1' : u.drew.cell? ⟨g, k * 3 + 1, none⟩ = some (.string z1) := d1
  have d2' : u.drew.cell? ⟨g, k * 3 + 2, none⟩ = some (.string z2) := d2
  clear K0 c0 c1 lt d0 d1 d2 wr1 wr2
  have us2 : u.heap.size = u.drew.heap.size := rfl
  generalize u.drew = v at *
  have W1 := W4
  have R1 := R4
  have c0 := (unhide W1).c0
  have c1 := (unhide W1).c1
  have lt := (unhide W1).lt
  clear W4 R4 us2
  cases bb with
  | false =>
    have E := hide (show rr = (refD 2 x.room x.ps, 2) by rw [unhide RE3, if_neg (by have := unhide HBB; simpa using this)])
    go_wp2_with fail
    refine (sRefused _ x (2) (unhide W1).r).mono ?_
    rintro e u2 ⟨y, hy, rfl, oy, b2⟩
    have R2 := hide ((unhide R1).below b2 (unhide R1).lt.2)
    have EN := hide (endedD ((unhide W1).b.trans (b2.mono (unhide W1).b.size)) (unhide R2) oy (unhide R1).lt.2)
    have HY := hide hy
    have f0 := (unhide R2).free 0
    have f1 := (unhide R2).free 1
    have r0 := (unhide R2).c0
    have r1 := (unhide R2).c1
    clear b2 oy hy c0 c1 lt W1 R1
    go_wp2
    refine bodyPost_ret (v := .tuple #[.agg #[.int .i64 y.room, .slice y.a y.ps.length y.c], .int .i64 (2)]) (by simp [results, Try.results22, go_sem, r0, r1]) rfl ?_
    rw [unhide E]
    exact ⟨y, unhide HY, rfl, (unhide EN).1, (unhide EN).2⟩
  | true =>
    have hn : 0 ≤ n ∧ n ≤ ((z1.size : Int) + z2.size) := by have := unhide HBB; simpa using this
    have E := hide (show rr = ((x.room, putF x.ps (nm, (z1 ++ z2).extract 0 n.toNat, ByteArray.empty)), 0) by rw [unhide RE3, if_pos hn])
    obtain ⟨n0, n1⟩ := hn
    have nz : n ≤ ((z1 ++ z2).size : Int) := by simp; omega
    have s3 : z1.size + z2.size ≤ 9223372036854775807 := by omega
    obtain ⟨V, hV⟩ : ∃ V, Hid (V = v.alloc (.cells #[.int .i64 z0, .string z1, .string z2] 48)) := ⟨_, rfl⟩
    have W3 := hide (show Wd w V x by rw [unhide hV]; exact (unhide W1).step (one_more _ _))
    have R3 := hide (show Bc V w.heap.size (w.heap.size + 1) (.int .i64 0) (.slice none 0 0) by rw [unhide hV]; exact (unhide R1).below (one_more _ _) (unhide R1).lt.2)
    have fb : V.cell? ⟨v.heap.size, 1, none⟩ = some (.string z1) ∧ V.cell? ⟨v.heap.size, 2, none⟩ = some (.string z2) := by rw [unhide hV]; simp
    have vs : v.heap.size < V.heap.size := by rw [unhide hV]; simp
    go_wp2_with fail
    rw [← unhide hV]
    clear hV c0 c1
    obtain ⟨b1, b2⟩ := fb
    have c0 := (unhide W3).c0
    have c1 := (unhide W3).c1
    have v1 := (unhide R1).lt
    have K0 : V.cell? ⟨w.heap.size, 0, none⟩ = some (.int .i64 x.room) ∧ V.cell? ⟨w.heap.size, 1, none⟩ = some (.slice x.a x.ps.length x.c) ∧ V.cell? ⟨v.heap.size, 1, none⟩ = some (.string z1) ∧ V.cell? ⟨v.heap.size, 2, none⟩ = some (.string z2) := ⟨c0, c1, b1, b2⟩
    refine wp_region_held_drew (S := (fun w' => w'.cell? ⟨w.heap.size, 0, none⟩ = some (.int .i64 x.room) ∧ w'.cell? ⟨w.heap.size, 1, none⟩ = some (.slice x.a x.ps.length x.c) ∧ w'.cell? ⟨v.heap.size, 1, none⟩ = some (.string z1) ∧ w'.cell? ⟨v.heap.size, 2, none⟩ = some (.string z2))) (by kernel_rfl) K0 (fun hHeld => ?_)
    refine wpAnyH_take (i := 0) (oi := oF0) (v := .agg #[.int .i64 x.room, .slice x.a x.ps.length x.c]) rfl (by kernel_rfl) (by kernel_rfl) (by kernel_rfl) (fun _ _ _ h => h) (Or.inl ⟨by rfl, fun w hSw => ?_⟩) hHeld ?_
    · (try dsimp only at hSw)
      unfold oF0
      go_simp
    try simp only [oF0, Act.put, List.setIfInBounds_toArray, List.set_cons_zero, List.set_cons_succ]
    refine wpAnyH_take (i := 1) (oi := oF1) (v := .int .i64 nm) rfl (by kernel_rfl) (by kernel_rfl) (by kernel_rfl) (fun _ _ _ h => h) (Or.inl ⟨by rfl, fun w hSw => ?_⟩) hHeld ?_
    · (try dsimp only at hSw)
      unfold oF1
      go_simp
    try simp only [oF1, Act.put, List.setIfInBounds_toArray, List.set_cons_zero, List.set_cons_succ]
    refine wpAnyH_take (i := 2) (oi := oF2) (v := .pointer (some ⟨v.heap.size, 1, none⟩)) rfl (by kernel_rfl) (by kernel_rfl) (by kernel_rfl) (fun _ _ _ h => h) (Or.inl ⟨by rfl, fun w hSw => ?_⟩) hHeld ?_
    · (try dsimp only at hSw)
      unfold oF2
      go_simp
    try simp only [oF2, Act.put, List.setIfInBounds_toArray, List.set_cons_zero, List.set_cons_succ]
    refine wpAnyH_take (i := 3) (oi := oF3) (v := .string z1) rfl (by kernel_rfl) (by kernel_rfl) (by kernel_rfl) (fun _ _ _ h => h) (Or.inl ⟨by rfl, fun w hSw => ?_⟩) hHeld ?_
    · (try dsimp only at hSw)
      unfold oF3
      go_simp
    try simp only [oF3, Act.put, List.setIfInBounds_toArray, List.set_cons_zero, List.set_cons_succ]
    refine wpAnyH_take (i := 4) (oi := oF4) (v := .pointer (some ⟨v.heap.size, 2, none⟩)) rfl (by kernel_rfl) (by kernel_rfl) (by kernel_rfl) (fun _ _ _ h => h) (Or.inl ⟨by rfl, fun w hSw => ?_⟩) hHeld ?_
    · (try dsimp only at hSw)
      unfold oF4
      go_simp
    try simp only [oF4, Act.put, List.setIfInBounds_toArray, List.set_cons_zero, List.set_cons_succ]
    refine wpAnyH_take (i := 5) (oi := oF5) (v := .string z2) rfl (by kernel_rfl) (by kernel_rfl) (by kernel_rfl) (fun _ _ _ h => h) (Or.inl ⟨by rfl, fun w hSw => ?_⟩) hHeld ?_
    · (try dsimp only at hSw)
      unfold oF5
      go_simp
    try simp only [oF5, Act.put, List.setIfInBounds_toArray, List.set_cons_zero, List.set_cons_succ]
    refine wpAnyH_take (i := 6) (oi := oF6) (v := .string (z1 ++ z2)) rfl (by kernel_rfl) (by kernel_rfl) (by kernel_rfl) (fun _ _ _ h => h) (Or.inl ⟨by rfl, fun w hSw => ?_⟩) hHeld ?_
    · (try dsimp only at hSw)
      unfold oF6
      go_simp
    try simp only [oF6, Act.put, List.setIfInBounds_toArray, List.set_cons_zero, List.set_cons_succ]
    refine wpAnyH_take (i := 7) (oi := oF7) (v := .int .i64 n) rfl (by kernel_rfl) (by kernel_rfl) (by kernel_rfl) (fun _ _ _ h => h) (Or.inl ⟨by rfl, fun w hSw => ?_⟩) hHeld ?_
    · (try dsimp only at hSw)
      unfold oF7
      go_simp
    try simp only [oF7, Act.put, List.setIfInBounds_toArray, List.set_cons_zero, List.set_cons_succ]
    refine wpAnyH_take (i := 8) (oi := oF8) (v := .string ((z1 ++ z2).extract 0 n.toNat)) rfl (by kernel_rfl) (by kernel_rfl) (by kernel_rfl) (fun _ _ _ h => h) (Or.inl ⟨by rfl, fun w hSw => ?_⟩) hHeld ?_
    · (try dsimp only at hSw)
      unfold oF8
      go_simp
    try simp only [oF8, Act.put, List.setIfInBounds_toArray, List.set_cons_zero, List.set_cons_succ]
    refine wpAnyH_take (i := 9) (oi := oF9) (v := .agg #[.int .i64 nm, .string ((z1 ++ z2).extract 0 n.toNat), .string ⟨#[]⟩]) rfl (by kernel_rfl) (by kernel_rfl) (by kernel_rfl) (fun _ _ _ h => h) (Or.inl ⟨by rfl, fun w hSw => ?_⟩) hHeld ?_
    · (try dsimp only at hSw)
      unfold oF9
      go_simp
    try simp only [oF9, Act.put, List.setIfInBounds_toArray, List.set_cons_zero, List.set_cons_succ]
    refine wpAnyH_ready (rs := [10]) (by kernel_rfl) (by simp) ?_
    refine AllReadyH.cons (o := oF10) rfl (fun K hK => ?_) AllReadyH.nil
    unfold oF10
    go_simp
    go_wp2_with fail
    refine (sPut V.drew x nm ((z1 ++ z2).extract 0 n.toNat) ⟨#[]⟩ (unhide W3).drew.r h22).mono ?_
    rintro e v2 ⟨y2, yr2, yp2, rfl, oy2, bbb⟩
    have bb2 : Below V.heap.size V v2 := ⟨bbb.os, bbb.tape, bbb.output, bbb.size, bbb.block⟩
    have W5 := hide ((unhide W3).step bb2)
    have R5 := hide ((unhide R3).below bb2 (unhide R3).lt.2)
    have vs2 := bb2.size
    have K2 : v2.cell? ⟨w.heap.size, 0, none⟩ = some (.int .i64 x.room) ∧ v2.cell? ⟨w.heap.size, 1, none⟩ = some (.slice x.a x.ps.length x.c) ∧ v2.cell? ⟨v.heap.size, 1, none⟩ = some (.string z1) ∧ v2.cell? ⟨v.heap.size, 2, none⟩ = some (.string z2) := ⟨(unhide W5).c0, (unhide W5).c1, (bb2.cell (p := ⟨v.heap.size, 1, none⟩) vs).trans b1, (bb2.cell (p := ⟨v.heap.size, 2, none⟩) vs).trans b2⟩
    have EN := hide (endedD (unhide W5).b (unhide R5) oy2 (show w.heap.size + 1 < V.drew.heap.size from (unhide R3).lt.2))
    have HY2 := hide (show (y2.room, y2.ps) = (x.room, putF x.ps (nm, (z1 ++ z2).extract 0 n.toNat, ByteArray.empty)) by rw [yr2, yp2]; rfl)
    have f0 := (unhide R5).free 0
    have f1 := (unhide R5).free 1
    have r0 := (unhide R5).c0
    have r1 := (unhide R5).c1
    have wl := (unhide W5).lt
    have st := grow_grow ((unhide R5).set0 (.int .i64 y2.room)).2 (bc_set1 ((unhide R5).set0 (.int .i64 y2.room)).1 (.slice y2.a y2.ps.length y2.c)).2
    have K3 : ((v2.setCell ⟨w.heap.size + 1, 0, none⟩ (.int .i64 y2.room)).setCell ⟨w.heap.size + 1, 1, none⟩ (.slice y2.a y2.ps.length y2.c)).cell? ⟨w.heap.size, 0, none⟩ = some (.int .i64 x.room) ∧ ((v2.setCell ⟨w.heap.size + 1, 0, none⟩ (.int .i64 y2.room)).setCell ⟨w.heap.size + 1, 1, none⟩ (.slice y2.a y2.ps.length y2.c)).cell? ⟨w.heap.size, 1, none⟩ = some (.slice x.a x.ps.length x.c) ∧ ((v2.setCell ⟨w.heap.size + 1, 0, none⟩ (.int .i64 y2.room)).setCell ⟨w.heap.size + 1, 1, none⟩ (.slice y2.a y2.ps.length y2.c)).cell? ⟨v.heap.size, 1, none⟩ = some (.string z1) ∧ ((v2.setCell ⟨w.heap.size + 1, 0, none⟩ (.int .i64 y2.room)).setCell ⟨w.heap.size + 1, 1, none⟩ (.slice y2.a y2.ps.length y2.c)).cell? ⟨v.heap.size, 2, none⟩ = some (.string z2) := ⟨(kcell st 0 wl (by omega)).trans K2.1, (kcell st 1 wl (by omega)).trans K2.2.1, (kcell st 1 (g := v.heap.size) (by omega) (by omega)).trans K2.2.2.1, (kcell st 2 (g := v.heap.size) (by omega) (by omega)).trans K2.2.2.2⟩
    clear bb2 bbb oy2 yr2 yp2
    go_wp2_with fail
    refine hK.out _ _ K2 (fun hHeld => ?_)
    clear hK K
    try simp only [oF10, Act.put, List.setIfInBounds_toArray, List.set_cons_zero, List.set_cons_succ]
    refine wpAnyH_ready (rs := [11]) (by kernel_rfl) (by simp) ?_
    refine AllReadyH.cons (o := oF11) rfl (fun K hK => ?_) AllReadyH.nil
    unfold oF11
    go_simp
    refine hK.out _ _ K3 (fun hHeld => ?_)
    clear hK K
    try simp only [oF11, Act.put, List.setIfInBounds_toArray, List.set_cons_zero, List.set_cons_succ]
    refine wpAnyH_take (i := 12) (oi := oF12) (v := .int .i64 0) rfl (by kernel_rfl) (by kernel_rfl) (by kernel_rfl) (fun _ _ _ h => h) (Or.inl ⟨by rfl, fun w hSw => ?_⟩) hHeld ?_
    · (try dsimp only at hSw)
      unfold oF12
      go_simp
    try simp only [oF12, Act.put, List.setIfInBounds_toArray, List.set_cons_zero, List.set_cons_succ]
    refine wpAnyH_done (by kernel_rfl) ?_ _
    clear K0 K2 K3 st
    go_wp2
    refine bodyPost_ret (v := .tuple #[.agg #[.int .i64 y2.room, .slice y2.a y2.ps.length y2.c], .int .i64 0]) (by simp [results, Try.results22, go_sem, r0, r1]) rfl ?_
    rw [unhide E]
    exact ⟨y2, unhide HY2, rfl, (unhide EN).1, (unhide EN).2⟩

end Go.Proofs.Ytnjhgkclcnfooaa.SCut14
